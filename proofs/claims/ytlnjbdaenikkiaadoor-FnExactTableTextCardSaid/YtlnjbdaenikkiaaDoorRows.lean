/-
  NARROWER THAN 'FOR EVERY INPUT', by the rows' own cells (each row's printed sentence says how): FnExactEmptyScene: laid · FnExactIsScene: laid · FnExactTableText: laid · FnExactParseTable: laid · FnExactStatesReached: laid.
  DERIVED. THE GIVEN ROWS OF THIS SEAT. 5 by the template 'for every input the law returns true; each argument reads behind the call as it read before'; 0 by the template 'total and deterministic' (their statements: YtlnjbdaenikkiaaDoorTotals.lean).
  GIVEN WITH THE SEED: the statements are not yours to turn. If you find one false, say at which input.
  Laid BY PROGRAM, IN A SANDBOX (cutbox-rows.mjs): the forced cells as the released guide's own fill.sh prints them over the translation 2aec317da730054f… (all of the seat's roots in one cut). By AI agents, Wed Nov 11 2026. No macro, syntax, notation, axiom, sorry.
-/
import Derived.Test.YtlnjbdaenikkiaaDoorChecked
import GoSem.Claim
import GoSem.ClaimJoined
import GoSem.ClaimMapViews
import Derived.JoinedTies
import Derived.KernelRfl
namespace Go.Proofs.YtlnjbdaenikkiaaDoor
/- THE CELL 'sum', in the pinned program and in every row, IS THE sha256 OF THE DUMP (.gsa) THAT YtlnjbdaenikkiaaDoorProg.lean LOADS. Nothing in Lean hashes anything: it is a label: what it is worth is what the hold of that sum in a sandbox is worth. -/
noncomputable def Tryd.pinned : Pinned := { name := "ytlnjbdaenikkiaadoor", sum := "2aec317da730054f2356887cbd54f405f227d1916c06e9672335a07c8e2397a2", checked := Tryd.checked }
namespace Rows
def none {H : Type} : Left H := { results := [], args := [] }

/- WHAT THE LISTED PACKAGE-LEVEL VARIABLES READ AS WHEN THE CALL BEGINS. Each datum BY PROGRAM (the guide's laid-datum.mjs) off the statement by which the dump's own 'gosem.cut.vars' lays the variable. In a bare row this is a premise. The card (YtlnjbdaenikkiaaDoorCards.lean) ties it to the program's text. -/
def laid_loop_example_g01276_impl_turnSigns {H : Type} : DataW H := .agg [.lit (.string [78]), .lit (.string [82]), .lit (.string [85]), .lit (.string [76])]
def laid_math_bits_deBruijn32tab {H : Type} : DataW H := .agg [.lit (.int .u8 0), .lit (.int .u8 1), .lit (.int .u8 28), .lit (.int .u8 2), .lit (.int .u8 29), .lit (.int .u8 14), .lit (.int .u8 24), .lit (.int .u8 3), .lit (.int .u8 30), .lit (.int .u8 22), .lit (.int .u8 20), .lit (.int .u8 15), .lit (.int .u8 25), .lit (.int .u8 17), .lit (.int .u8 4), .lit (.int .u8 8), .lit (.int .u8 31), .lit (.int .u8 27), .lit (.int .u8 13), .lit (.int .u8 23), .lit (.int .u8 21), .lit (.int .u8 19), .lit (.int .u8 16), .lit (.int .u8 7), .lit (.int .u8 26), .lit (.int .u8 12), .lit (.int .u8 18), .lit (.int .u8 6), .lit (.int .u8 11), .lit (.int .u8 5), .lit (.int .u8 10), .lit (.int .u8 9)]
def laid_math_bits_deBruijn64tab {H : Type} : DataW H := .agg [.lit (.int .u8 0), .lit (.int .u8 1), .lit (.int .u8 56), .lit (.int .u8 2), .lit (.int .u8 57), .lit (.int .u8 49), .lit (.int .u8 28), .lit (.int .u8 3), .lit (.int .u8 61), .lit (.int .u8 58), .lit (.int .u8 42), .lit (.int .u8 50), .lit (.int .u8 38), .lit (.int .u8 29), .lit (.int .u8 17), .lit (.int .u8 4), .lit (.int .u8 62), .lit (.int .u8 47), .lit (.int .u8 59), .lit (.int .u8 36), .lit (.int .u8 45), .lit (.int .u8 43), .lit (.int .u8 51), .lit (.int .u8 22), .lit (.int .u8 53), .lit (.int .u8 39), .lit (.int .u8 33), .lit (.int .u8 30), .lit (.int .u8 24), .lit (.int .u8 18), .lit (.int .u8 12), .lit (.int .u8 5), .lit (.int .u8 63), .lit (.int .u8 55), .lit (.int .u8 48), .lit (.int .u8 27), .lit (.int .u8 60), .lit (.int .u8 41), .lit (.int .u8 37), .lit (.int .u8 16), .lit (.int .u8 46), .lit (.int .u8 35), .lit (.int .u8 44), .lit (.int .u8 21), .lit (.int .u8 52), .lit (.int .u8 32), .lit (.int .u8 23), .lit (.int .u8 11), .lit (.int .u8 54), .lit (.int .u8 26), .lit (.int .u8 40), .lit (.int .u8 15), .lit (.int .u8 34), .lit (.int .u8 20), .lit (.int .u8 31), .lit (.int .u8 10), .lit (.int .u8 25), .lit (.int .u8 14), .lit (.int .u8 19), .lit (.int .u8 9), .lit (.int .u8 13), .lit (.int .u8 8), .lit (.int .u8 7), .lit (.int .u8 6)]
def laid_internal_strconv_uint64pow10 {H : Type} : DataW H := .agg [.lit (.int .u64 1), .lit (.int .u64 10), .lit (.int .u64 100), .lit (.int .u64 1000), .lit (.int .u64 10000), .lit (.int .u64 100000), .lit (.int .u64 1000000), .lit (.int .u64 10000000), .lit (.int .u64 100000000), .lit (.int .u64 1000000000), .lit (.int .u64 10000000000), .lit (.int .u64 100000000000), .lit (.int .u64 1000000000000), .lit (.int .u64 10000000000000), .lit (.int .u64 100000000000000), .lit (.int .u64 1000000000000000), .lit (.int .u64 10000000000000000), .lit (.int .u64 100000000000000000), .lit (.int .u64 1000000000000000000), .lit (.int .u64 10000000000000000000)]

/-- 'laws.FnExactEmptyScene': WHATEVER THE INPUT: true; the input reads as it did. -/
def fnExactEmptySceneSpec : ChangeSpec := { name := "fnExactEmptyScene", vars := ["loop.example/g01276/impl.turnSigns"], fn := fun _ => fun
  | [d1, d2, d3, g1] => { results := [.lit (.bool true)], args := [d1, d2, d3], vars := [g1] }
  | _ => none }
def fnExactEmptySceneRow : OpenClaim := { program := "ytlnjbdaenikkiaadoor", sum := "2aec317da730054f2356887cbd54f405f227d1916c06e9672335a07c8e2397a2", func := "loop.example/g01276/laws.FnExactEmptyScene", spec := "fnExactEmptyScene", inPlace := ["internal/abi.NoEscape", "internal/bytealg.MakeNoZero"], named := ["loop.example/g01276/impl.turnSigns"], apart := false, laid := [("loop.example/g01276/impl.turnSigns", laid_loop_example_g01276_impl_turnSigns)] }
def FnExactEmptySceneSaid : Prop := fnExactEmptySceneRow.holds Tryd.pinned (OpenSpec.ofChange fnExactEmptySceneSpec)

/-- ITS FALSE NEIGHBOUR: 'it returns false'. Refute it at one input. -/
def fnExactEmptySceneWrong : ChangeSpec := { name := "fnExactEmptyScene", vars := ["loop.example/g01276/impl.turnSigns"], fn := fun _ => fun
  | [d1, d2, d3, g1] => { results := [.lit (.bool false)], args := [d1, d2, d3], vars := [g1] }
  | _ => none }
def FnExactEmptySceneWrongFalsely : Prop := fnExactEmptySceneRow.holds Tryd.pinned (OpenSpec.ofChange fnExactEmptySceneWrong)

/-- 'laws.FnExactIsScene': WHATEVER THE INPUT: true; the input reads as it did. -/
def fnExactIsSceneSpec : ChangeSpec := { name := "fnExactIsScene", vars := ["loop.example/g01276/impl.turnSigns"], fn := fun _ => fun
  | [d, g1] => { results := [.lit (.bool true)], args := [d], vars := [g1] }
  | _ => none }
def fnExactIsSceneRow : OpenClaim := { program := "ytlnjbdaenikkiaadoor", sum := "2aec317da730054f2356887cbd54f405f227d1916c06e9672335a07c8e2397a2", func := "loop.example/g01276/laws.FnExactIsScene", spec := "fnExactIsScene", named := ["loop.example/g01276/impl.turnSigns"], apart := false, laid := [("loop.example/g01276/impl.turnSigns", laid_loop_example_g01276_impl_turnSigns)] }
def FnExactIsSceneSaid : Prop := fnExactIsSceneRow.holds Tryd.pinned (OpenSpec.ofChange fnExactIsSceneSpec)

/-- ITS FALSE NEIGHBOUR: 'it returns false'. Refute it at one input. -/
def fnExactIsSceneWrong : ChangeSpec := { name := "fnExactIsScene", vars := ["loop.example/g01276/impl.turnSigns"], fn := fun _ => fun
  | [d, g1] => { results := [.lit (.bool false)], args := [d], vars := [g1] }
  | _ => none }
def FnExactIsSceneWrongFalsely : Prop := fnExactIsSceneRow.holds Tryd.pinned (OpenSpec.ofChange fnExactIsSceneWrong)

/-- 'laws.FnExactTableText': WHATEVER THE INPUT: true; the input reads as it did. -/
def fnExactTableTextSpec : ChangeSpec := { name := "fnExactTableText", vars := ["loop.example/g01276/impl.turnSigns"], fn := fun _ => fun
  | [d, g1] => { results := [.lit (.bool true)], args := [d], vars := [g1] }
  | _ => none }
def fnExactTableTextRow : OpenClaim := { program := "ytlnjbdaenikkiaadoor", sum := "2aec317da730054f2356887cbd54f405f227d1916c06e9672335a07c8e2397a2", func := "loop.example/g01276/laws.FnExactTableText", spec := "fnExactTableText", recurses := true, named := ["loop.example/g01276/impl.turnSigns", "internal/strconv.uint64pow10", "math/bits.deBruijn32tab", "math/bits.deBruijn64tab"], apart := false, laid := [("math/bits.deBruijn32tab", laid_math_bits_deBruijn32tab), ("math/bits.deBruijn64tab", laid_math_bits_deBruijn64tab), ("internal/strconv.uint64pow10", laid_internal_strconv_uint64pow10), ("loop.example/g01276/impl.turnSigns", laid_loop_example_g01276_impl_turnSigns)] }
def FnExactTableTextSaid : Prop := fnExactTableTextRow.holds Tryd.pinned (OpenSpec.ofChange fnExactTableTextSpec)

/-- ITS FALSE NEIGHBOUR: 'it returns false'. Refute it at one input. -/
def fnExactTableTextWrong : ChangeSpec := { name := "fnExactTableText", vars := ["loop.example/g01276/impl.turnSigns"], fn := fun _ => fun
  | [d, g1] => { results := [.lit (.bool false)], args := [d], vars := [g1] }
  | _ => none }
def FnExactTableTextWrongFalsely : Prop := fnExactTableTextRow.holds Tryd.pinned (OpenSpec.ofChange fnExactTableTextWrong)

/-- 'laws.FnExactParseTable': WHATEVER THE INPUT: true; the input reads as it did. -/
def fnExactParseTableSpec : ChangeSpec := { name := "fnExactParseTable", vars := ["loop.example/g01276/impl.turnSigns"], fn := fun _ => fun
  | [d, g1] => { results := [.lit (.bool true)], args := [d], vars := [g1] }
  | _ => none }
def fnExactParseTableRow : OpenClaim := { program := "ytlnjbdaenikkiaadoor", sum := "2aec317da730054f2356887cbd54f405f227d1916c06e9672335a07c8e2397a2", func := "loop.example/g01276/laws.FnExactParseTable", spec := "fnExactParseTable", recurses := true, named := ["loop.example/g01276/impl.turnSigns", "internal/strconv.uint64pow10", "math/bits.deBruijn32tab", "math/bits.deBruijn64tab"], apart := false, laid := [("math/bits.deBruijn32tab", laid_math_bits_deBruijn32tab), ("math/bits.deBruijn64tab", laid_math_bits_deBruijn64tab), ("internal/strconv.uint64pow10", laid_internal_strconv_uint64pow10), ("loop.example/g01276/impl.turnSigns", laid_loop_example_g01276_impl_turnSigns)] }
def FnExactParseTableSaid : Prop := fnExactParseTableRow.holds Tryd.pinned (OpenSpec.ofChange fnExactParseTableSpec)

/-- ITS FALSE NEIGHBOUR: 'it returns false'. Refute it at one input. -/
def fnExactParseTableWrong : ChangeSpec := { name := "fnExactParseTable", vars := ["loop.example/g01276/impl.turnSigns"], fn := fun _ => fun
  | [d, g1] => { results := [.lit (.bool false)], args := [d], vars := [g1] }
  | _ => none }
def FnExactParseTableWrongFalsely : Prop := fnExactParseTableRow.holds Tryd.pinned (OpenSpec.ofChange fnExactParseTableWrong)

/-- 'laws.FnExactStatesReached': WHATEVER THE INPUT: true; the input reads as it did. -/
def fnExactStatesReachedSpec : ChangeSpec := { name := "fnExactStatesReached", vars := ["loop.example/g01276/impl.turnSigns"], fn := fun _ => fun
  | [d, g1] => { results := [.lit (.bool true)], args := [d], vars := [g1] }
  | _ => none }
def fnExactStatesReachedRow : OpenClaim := { program := "ytlnjbdaenikkiaadoor", sum := "2aec317da730054f2356887cbd54f405f227d1916c06e9672335a07c8e2397a2", func := "loop.example/g01276/laws.FnExactStatesReached", spec := "fnExactStatesReached", recurses := true, named := ["loop.example/g01276/impl.turnSigns"], apart := false, laid := [("loop.example/g01276/impl.turnSigns", laid_loop_example_g01276_impl_turnSigns)] }
def FnExactStatesReachedSaid : Prop := fnExactStatesReachedRow.holds Tryd.pinned (OpenSpec.ofChange fnExactStatesReachedSpec)

/-- ITS FALSE NEIGHBOUR: 'it returns false'. Refute it at one input. -/
def fnExactStatesReachedWrong : ChangeSpec := { name := "fnExactStatesReached", vars := ["loop.example/g01276/impl.turnSigns"], fn := fun _ => fun
  | [d, g1] => { results := [.lit (.bool false)], args := [d], vars := [g1] }
  | _ => none }
def FnExactStatesReachedWrongFalsely : Prop := fnExactStatesReachedRow.holds Tryd.pinned (OpenSpec.ofChange fnExactStatesReachedWrong)

/- THE SECOND FORM. 'bulk': how many values and letters a reading holds, each counted each time it is reached (what is shared counts as often as it is met; a slice's spare places count too). A statement '..UptoSaid' is the law's where the arguments, and the package variables that the reading takes, are together of bulk at most 1048576: NARROWER than '..Said'. Prove '..Said' where nothing that the law and all that it calls make is longer than what came in: it says more and counts as full. Else prove '..UptoSaid'. A law counts once. -/
mutual
def uptoBulk {H : Type} : DataW H → Nat
  | .lit (.string bytes) => bytes.length + 1
  | .lit _ => 1
  | .nil => 1
  | .ptr d => uptoBulk d + 1
  | .slice elems spare => uptoBulkAll elems + uptoBulkAll spare + 1
  | .agg parts => uptoBulkAll parts + 1
  | .iface _ d => uptoBulk d + 1
  | .map entries => uptoBulkEntries entries + 1
  | .held _ => 1
def uptoBulkAll {H : Type} : List (DataW H) → Nat
  | [] => 0
  | d :: r => uptoBulk d + uptoBulkAll r
def uptoBulkEntries {H : Type} : List (Lit × DataW H) → Nat
  | [] => 0
  | x :: r => uptoBulkEntry x + uptoBulkEntries r
def uptoBulkEntry {H : Type} : Lit × DataW H → Nat
  | (.string bytes, d) => bytes.length + uptoBulk d + 1
  | (_, d) => uptoBulk d + 1
 end
def uptoSmall : (H : Type) → List (DataW H) → Bool := fun _ ds => decide (uptoBulkAll ds ≤ 1048576)
def OpenSpec.upto (s : _root_.Go.ChangeSpec) : _root_.Go.OpenSpec := { _root_.Go.OpenSpec.ofChange s with cond := some uptoSmall }

/-- 'laws.FnExactEmptyScene', WHERE WHAT IT READS IS OF BULK AT MOST 1048576: true; the input reads as it did. -/
def fnExactEmptySceneUptoRow : OpenClaim := { program := "ytlnjbdaenikkiaadoor", sum := "2aec317da730054f2356887cbd54f405f227d1916c06e9672335a07c8e2397a2", func := "loop.example/g01276/laws.FnExactEmptyScene", spec := "fnExactEmptyScene", inPlace := ["internal/abi.NoEscape", "internal/bytealg.MakeNoZero"], named := ["loop.example/g01276/impl.turnSigns"], apart := false, laid := [("loop.example/g01276/impl.turnSigns", laid_loop_example_g01276_impl_turnSigns)], narrowed := true }
def FnExactEmptySceneUptoSaid : Prop := fnExactEmptySceneUptoRow.holds Tryd.pinned (OpenSpec.upto fnExactEmptySceneSpec)

/-- 'laws.FnExactIsScene', WHERE WHAT IT READS IS OF BULK AT MOST 1048576: true; the input reads as it did. -/
def fnExactIsSceneUptoRow : OpenClaim := { program := "ytlnjbdaenikkiaadoor", sum := "2aec317da730054f2356887cbd54f405f227d1916c06e9672335a07c8e2397a2", func := "loop.example/g01276/laws.FnExactIsScene", spec := "fnExactIsScene", named := ["loop.example/g01276/impl.turnSigns"], apart := false, laid := [("loop.example/g01276/impl.turnSigns", laid_loop_example_g01276_impl_turnSigns)], narrowed := true }
def FnExactIsSceneUptoSaid : Prop := fnExactIsSceneUptoRow.holds Tryd.pinned (OpenSpec.upto fnExactIsSceneSpec)

/-- 'laws.FnExactTableText', WHERE WHAT IT READS IS OF BULK AT MOST 1048576: true; the input reads as it did. -/
def fnExactTableTextUptoRow : OpenClaim := { program := "ytlnjbdaenikkiaadoor", sum := "2aec317da730054f2356887cbd54f405f227d1916c06e9672335a07c8e2397a2", func := "loop.example/g01276/laws.FnExactTableText", spec := "fnExactTableText", recurses := true, named := ["loop.example/g01276/impl.turnSigns", "internal/strconv.uint64pow10", "math/bits.deBruijn32tab", "math/bits.deBruijn64tab"], apart := false, laid := [("math/bits.deBruijn32tab", laid_math_bits_deBruijn32tab), ("math/bits.deBruijn64tab", laid_math_bits_deBruijn64tab), ("internal/strconv.uint64pow10", laid_internal_strconv_uint64pow10), ("loop.example/g01276/impl.turnSigns", laid_loop_example_g01276_impl_turnSigns)], narrowed := true }
def FnExactTableTextUptoSaid : Prop := fnExactTableTextUptoRow.holds Tryd.pinned (OpenSpec.upto fnExactTableTextSpec)

/-- 'laws.FnExactParseTable', WHERE WHAT IT READS IS OF BULK AT MOST 1048576: true; the input reads as it did. -/
def fnExactParseTableUptoRow : OpenClaim := { program := "ytlnjbdaenikkiaadoor", sum := "2aec317da730054f2356887cbd54f405f227d1916c06e9672335a07c8e2397a2", func := "loop.example/g01276/laws.FnExactParseTable", spec := "fnExactParseTable", recurses := true, named := ["loop.example/g01276/impl.turnSigns", "internal/strconv.uint64pow10", "math/bits.deBruijn32tab", "math/bits.deBruijn64tab"], apart := false, laid := [("math/bits.deBruijn32tab", laid_math_bits_deBruijn32tab), ("math/bits.deBruijn64tab", laid_math_bits_deBruijn64tab), ("internal/strconv.uint64pow10", laid_internal_strconv_uint64pow10), ("loop.example/g01276/impl.turnSigns", laid_loop_example_g01276_impl_turnSigns)], narrowed := true }
def FnExactParseTableUptoSaid : Prop := fnExactParseTableUptoRow.holds Tryd.pinned (OpenSpec.upto fnExactParseTableSpec)

/-- 'laws.FnExactStatesReached', WHERE WHAT IT READS IS OF BULK AT MOST 1048576: true; the input reads as it did. -/
def fnExactStatesReachedUptoRow : OpenClaim := { program := "ytlnjbdaenikkiaadoor", sum := "2aec317da730054f2356887cbd54f405f227d1916c06e9672335a07c8e2397a2", func := "loop.example/g01276/laws.FnExactStatesReached", spec := "fnExactStatesReached", recurses := true, named := ["loop.example/g01276/impl.turnSigns"], apart := false, laid := [("loop.example/g01276/impl.turnSigns", laid_loop_example_g01276_impl_turnSigns)], narrowed := true }
def FnExactStatesReachedUptoSaid : Prop := fnExactStatesReachedUptoRow.holds Tryd.pinned (OpenSpec.upto fnExactStatesReachedSpec)

end Rows
end Go.Proofs.YtlnjbdaenikkiaaDoor
