/-
  NARROWER THAN 'FOR EVERY INPUT', by the rows' own cells (each row's printed sentence says how): FnExactIsScene: laid · FnExactStepScene: laid · FnExactSceneAfter: laid · FnExactUndoScene: laid · FnExactLoopOfScene: laid · FnExactPaintedAfter: laid · FnExactStatesReached: laid · FnExactParseTable: laid · FnExactPuzzleText: laid · FnExactParsePuzzle: laid.
  DERIVED. THE GIVEN ROWS OF THIS SEAT. 10 by the template 'for every input the law returns true; each argument reads behind the call as it read before'; 0 by the template 'total and deterministic' (their statements: YtpkokghbkamelaaDoorTotals.lean).
  GIVEN WITH THE SEED: the statements are not yours to turn. If you find one false, say at which input.
  Laid BY PROGRAM, IN A SANDBOX (cutbox-rows.mjs): the forced cells as the released guide's own fill.sh prints them over the translation b9b14aa9cd842b17… (all of the seat's roots in one cut). By AI agents, Wed Nov 11 2026. No macro, syntax, notation, axiom, sorry.
-/
import Derived.Test.YtpkokghbkamelaaDoorChecked
import GoSem.PinnedTables
import GoSem.Claim
import GoSem.ClaimJoined
import GoSem.ClaimMapViews
import Derived.JoinedTies
import Derived.KernelRfl
namespace Go.Proofs.YtpkokghbkamelaaDoor
/- THE CELL 'sum', in the pinned program and in every row, IS THE sha256 OF THE DUMP (.gsa) THAT YtpkokghbkamelaaDoorProg.lean LOADS. Nothing in Lean hashes anything: it is a label: what it is worth is what the hold of that sum in a sandbox is worth. -/
noncomputable def Tryd.pinned : Pinned := { name := "ytpkokghbkamelaadoor", sum := "b9b14aa9cd842b172ce019839e98da673af9486fa285b80a767fa6b2daa1f4cc", checked := Tryd.checked }
namespace Rows
def none {H : Type} : Left H := { results := [], args := [] }

/- WHAT THE LISTED PACKAGE-LEVEL VARIABLES READ AS WHEN THE CALL BEGINS. Each datum BY PROGRAM (the guide's laid-datum.mjs) off the statement by which the dump's own 'gosem.cut.vars' lays the variable. In a bare row this is a premise. The card (YtpkokghbkamelaaDoorCards.lean) ties it to the program's text. -/
def laid_loop_example_g01276_impl_turnSigns {H : Type} : DataW H := .agg [.lit (.string [78]), .lit (.string [82]), .lit (.string [85]), .lit (.string [76])]
def laid_math_bits_deBruijn32tab {H : Type} : DataW H := .agg [.lit (.int .u8 0), .lit (.int .u8 1), .lit (.int .u8 28), .lit (.int .u8 2), .lit (.int .u8 29), .lit (.int .u8 14), .lit (.int .u8 24), .lit (.int .u8 3), .lit (.int .u8 30), .lit (.int .u8 22), .lit (.int .u8 20), .lit (.int .u8 15), .lit (.int .u8 25), .lit (.int .u8 17), .lit (.int .u8 4), .lit (.int .u8 8), .lit (.int .u8 31), .lit (.int .u8 27), .lit (.int .u8 13), .lit (.int .u8 23), .lit (.int .u8 21), .lit (.int .u8 19), .lit (.int .u8 16), .lit (.int .u8 7), .lit (.int .u8 26), .lit (.int .u8 12), .lit (.int .u8 18), .lit (.int .u8 6), .lit (.int .u8 11), .lit (.int .u8 5), .lit (.int .u8 10), .lit (.int .u8 9)]
def laid_math_bits_deBruijn64tab {H : Type} : DataW H := .agg [.lit (.int .u8 0), .lit (.int .u8 1), .lit (.int .u8 56), .lit (.int .u8 2), .lit (.int .u8 57), .lit (.int .u8 49), .lit (.int .u8 28), .lit (.int .u8 3), .lit (.int .u8 61), .lit (.int .u8 58), .lit (.int .u8 42), .lit (.int .u8 50), .lit (.int .u8 38), .lit (.int .u8 29), .lit (.int .u8 17), .lit (.int .u8 4), .lit (.int .u8 62), .lit (.int .u8 47), .lit (.int .u8 59), .lit (.int .u8 36), .lit (.int .u8 45), .lit (.int .u8 43), .lit (.int .u8 51), .lit (.int .u8 22), .lit (.int .u8 53), .lit (.int .u8 39), .lit (.int .u8 33), .lit (.int .u8 30), .lit (.int .u8 24), .lit (.int .u8 18), .lit (.int .u8 12), .lit (.int .u8 5), .lit (.int .u8 63), .lit (.int .u8 55), .lit (.int .u8 48), .lit (.int .u8 27), .lit (.int .u8 60), .lit (.int .u8 41), .lit (.int .u8 37), .lit (.int .u8 16), .lit (.int .u8 46), .lit (.int .u8 35), .lit (.int .u8 44), .lit (.int .u8 21), .lit (.int .u8 52), .lit (.int .u8 32), .lit (.int .u8 23), .lit (.int .u8 11), .lit (.int .u8 54), .lit (.int .u8 26), .lit (.int .u8 40), .lit (.int .u8 15), .lit (.int .u8 34), .lit (.int .u8 20), .lit (.int .u8 31), .lit (.int .u8 10), .lit (.int .u8 25), .lit (.int .u8 14), .lit (.int .u8 19), .lit (.int .u8 9), .lit (.int .u8 13), .lit (.int .u8 8), .lit (.int .u8 7), .lit (.int .u8 6)]
def laid_internal_strconv_uint64pow10 {H : Type} : DataW H := .agg [.lit (.int .u64 1), .lit (.int .u64 10), .lit (.int .u64 100), .lit (.int .u64 1000), .lit (.int .u64 10000), .lit (.int .u64 100000), .lit (.int .u64 1000000), .lit (.int .u64 10000000), .lit (.int .u64 100000000), .lit (.int .u64 1000000000), .lit (.int .u64 10000000000), .lit (.int .u64 100000000000), .lit (.int .u64 1000000000000), .lit (.int .u64 10000000000000), .lit (.int .u64 100000000000000), .lit (.int .u64 1000000000000000), .lit (.int .u64 10000000000000000), .lit (.int .u64 100000000000000000), .lit (.int .u64 1000000000000000000), .lit (.int .u64 10000000000000000000)]
def laid_unicode_utf8_acceptRanges {H : Type} : DataW H := .agg [.agg [.lit (.int .u8 128), .lit (.int .u8 191)], .agg [.lit (.int .u8 160), .lit (.int .u8 191)], .agg [.lit (.int .u8 128), .lit (.int .u8 159)], .agg [.lit (.int .u8 144), .lit (.int .u8 191)], .agg [.lit (.int .u8 128), .lit (.int .u8 143)], .agg [.lit (.int .u8 0), .lit (.int .u8 0)], .agg [.lit (.int .u8 0), .lit (.int .u8 0)], .agg [.lit (.int .u8 0), .lit (.int .u8 0)], .agg [.lit (.int .u8 0), .lit (.int .u8 0)], .agg [.lit (.int .u8 0), .lit (.int .u8 0)], .agg [.lit (.int .u8 0), .lit (.int .u8 0)], .agg [.lit (.int .u8 0), .lit (.int .u8 0)], .agg [.lit (.int .u8 0), .lit (.int .u8 0)], .agg [.lit (.int .u8 0), .lit (.int .u8 0)], .agg [.lit (.int .u8 0), .lit (.int .u8 0)], .agg [.lit (.int .u8 0), .lit (.int .u8 0)]]
def laid_strconv_ErrRange {H : Type} : DataW H := .iface "*errors.errorString" (.ptr (.agg [.lit (.string [118, 97, 108, 117, 101, 32, 111, 117, 116, 32, 111, 102, 32, 114, 97, 110, 103, 101])]))
def laid_strconv_ErrSyntax {H : Type} : DataW H := .iface "*errors.errorString" (.ptr (.agg [.lit (.string [105, 110, 118, 97, 108, 105, 100, 32, 115, 121, 110, 116, 97, 120])]))
/-- One of Go's own tables, pinned by name: the form's constant. -/
def laid_unicode_utf8_first : DataW Unit := Go.Pinned.utf8First

/-- 'laws.FnExactIsScene': WHATEVER THE INPUT: true; the input reads as it did. -/
def fnExactIsSceneSpec : ChangeSpec := { name := "fnExactIsScene", vars := ["loop.example/g01276/impl.turnSigns"], fn := fun _ => fun
  | [d, g1] => { results := [.lit (.bool true)], args := [d], vars := [g1] }
  | _ => none }
def fnExactIsSceneRow : OpenClaim := { program := "ytpkokghbkamelaadoor", sum := "b9b14aa9cd842b172ce019839e98da673af9486fa285b80a767fa6b2daa1f4cc", func := "loop.example/g01276/laws.FnExactIsScene", spec := "fnExactIsScene", named := ["loop.example/g01276/impl.turnSigns"], plainKeys := false, apart := false, laid := [("loop.example/g01276/impl.turnSigns", laid_loop_example_g01276_impl_turnSigns)] }
def FnExactIsSceneSaid : Prop := fnExactIsSceneRow.holds Tryd.pinned (OpenSpec.ofChange fnExactIsSceneSpec)

/-- ITS FALSE NEIGHBOUR: 'it returns false'. Refute it at one input. -/
def fnExactIsSceneWrong : ChangeSpec := { name := "fnExactIsScene", vars := ["loop.example/g01276/impl.turnSigns"], fn := fun _ => fun
  | [d, g1] => { results := [.lit (.bool false)], args := [d], vars := [g1] }
  | _ => none }
def FnExactIsSceneWrongFalsely : Prop := fnExactIsSceneRow.holds Tryd.pinned (OpenSpec.ofChange fnExactIsSceneWrong)

/-- 'laws.FnExactStepScene': WHATEVER THE INPUT: true; the input reads as it did. -/
def fnExactStepSceneSpec : ChangeSpec := { name := "fnExactStepScene", vars := ["loop.example/g01276/impl.turnSigns"], fn := fun _ => fun
  | [d, g1] => { results := [.lit (.bool true)], args := [d], vars := [g1] }
  | _ => none }
def fnExactStepSceneRow : OpenClaim := { program := "ytpkokghbkamelaadoor", sum := "b9b14aa9cd842b172ce019839e98da673af9486fa285b80a767fa6b2daa1f4cc", func := "loop.example/g01276/laws.FnExactStepScene", spec := "fnExactStepScene", unfollowed := true, recurses := true, named := ["loop.example/g01276/impl.turnSigns", "internal/strconv.uint64pow10", "math/bits.deBruijn32tab", "math/bits.deBruijn64tab"], plainKeys := false, apart := false, laid := [("math/bits.deBruijn32tab", laid_math_bits_deBruijn32tab), ("math/bits.deBruijn64tab", laid_math_bits_deBruijn64tab), ("internal/strconv.uint64pow10", laid_internal_strconv_uint64pow10), ("loop.example/g01276/impl.turnSigns", laid_loop_example_g01276_impl_turnSigns)] }
def FnExactStepSceneSaid : Prop := fnExactStepSceneRow.holds Tryd.pinned (OpenSpec.ofChange fnExactStepSceneSpec)

/-- ITS FALSE NEIGHBOUR: 'it returns false'. Refute it at one input. -/
def fnExactStepSceneWrong : ChangeSpec := { name := "fnExactStepScene", vars := ["loop.example/g01276/impl.turnSigns"], fn := fun _ => fun
  | [d, g1] => { results := [.lit (.bool false)], args := [d], vars := [g1] }
  | _ => none }
def FnExactStepSceneWrongFalsely : Prop := fnExactStepSceneRow.holds Tryd.pinned (OpenSpec.ofChange fnExactStepSceneWrong)

/-- 'laws.FnExactSceneAfter': WHATEVER THE INPUT: true; the input reads as it did. -/
def fnExactSceneAfterSpec : ChangeSpec := { name := "fnExactSceneAfter", vars := ["loop.example/g01276/impl.turnSigns"], fn := fun _ => fun
  | [d1, d2, g1] => { results := [.lit (.bool true)], args := [d1, d2], vars := [g1] }
  | _ => none }
def fnExactSceneAfterRow : OpenClaim := { program := "ytpkokghbkamelaadoor", sum := "b9b14aa9cd842b172ce019839e98da673af9486fa285b80a767fa6b2daa1f4cc", func := "loop.example/g01276/laws.FnExactSceneAfter", spec := "fnExactSceneAfter", unfollowed := true, recurses := true, named := ["loop.example/g01276/impl.turnSigns", "internal/strconv.uint64pow10", "math/bits.deBruijn32tab", "math/bits.deBruijn64tab"], plainKeys := false, apart := false, laid := [("math/bits.deBruijn32tab", laid_math_bits_deBruijn32tab), ("math/bits.deBruijn64tab", laid_math_bits_deBruijn64tab), ("internal/strconv.uint64pow10", laid_internal_strconv_uint64pow10), ("loop.example/g01276/impl.turnSigns", laid_loop_example_g01276_impl_turnSigns)] }
def FnExactSceneAfterSaid : Prop := fnExactSceneAfterRow.holds Tryd.pinned (OpenSpec.ofChange fnExactSceneAfterSpec)

/-- ITS FALSE NEIGHBOUR: 'it returns false'. Refute it at one input. -/
def fnExactSceneAfterWrong : ChangeSpec := { name := "fnExactSceneAfter", vars := ["loop.example/g01276/impl.turnSigns"], fn := fun _ => fun
  | [d1, d2, g1] => { results := [.lit (.bool false)], args := [d1, d2], vars := [g1] }
  | _ => none }
def FnExactSceneAfterWrongFalsely : Prop := fnExactSceneAfterRow.holds Tryd.pinned (OpenSpec.ofChange fnExactSceneAfterWrong)

/-- 'laws.FnExactUndoScene': WHATEVER THE INPUT: true; the input reads as it did. -/
def fnExactUndoSceneSpec : ChangeSpec := { name := "fnExactUndoScene", vars := ["loop.example/g01276/impl.turnSigns"], fn := fun _ => fun
  | [d, g1] => { results := [.lit (.bool true)], args := [d], vars := [g1] }
  | _ => none }
def fnExactUndoSceneRow : OpenClaim := { program := "ytpkokghbkamelaadoor", sum := "b9b14aa9cd842b172ce019839e98da673af9486fa285b80a767fa6b2daa1f4cc", func := "loop.example/g01276/laws.FnExactUndoScene", spec := "fnExactUndoScene", unfollowed := true, recurses := true, named := ["loop.example/g01276/impl.turnSigns", "internal/strconv.uint64pow10", "math/bits.deBruijn32tab", "math/bits.deBruijn64tab"], plainKeys := false, apart := false, laid := [("math/bits.deBruijn32tab", laid_math_bits_deBruijn32tab), ("math/bits.deBruijn64tab", laid_math_bits_deBruijn64tab), ("internal/strconv.uint64pow10", laid_internal_strconv_uint64pow10), ("loop.example/g01276/impl.turnSigns", laid_loop_example_g01276_impl_turnSigns)] }
def FnExactUndoSceneSaid : Prop := fnExactUndoSceneRow.holds Tryd.pinned (OpenSpec.ofChange fnExactUndoSceneSpec)

/-- ITS FALSE NEIGHBOUR: 'it returns false'. Refute it at one input. -/
def fnExactUndoSceneWrong : ChangeSpec := { name := "fnExactUndoScene", vars := ["loop.example/g01276/impl.turnSigns"], fn := fun _ => fun
  | [d, g1] => { results := [.lit (.bool false)], args := [d], vars := [g1] }
  | _ => none }
def FnExactUndoSceneWrongFalsely : Prop := fnExactUndoSceneRow.holds Tryd.pinned (OpenSpec.ofChange fnExactUndoSceneWrong)

/-- 'laws.FnExactLoopOfScene': WHATEVER THE INPUT: true; the input reads as it did. -/
def fnExactLoopOfSceneSpec : ChangeSpec := { name := "fnExactLoopOfScene", vars := ["loop.example/g01276/impl.turnSigns"], fn := fun _ => fun
  | [d, g1] => { results := [.lit (.bool true)], args := [d], vars := [g1] }
  | _ => none }
def fnExactLoopOfSceneRow : OpenClaim := { program := "ytpkokghbkamelaadoor", sum := "b9b14aa9cd842b172ce019839e98da673af9486fa285b80a767fa6b2daa1f4cc", func := "loop.example/g01276/laws.FnExactLoopOfScene", spec := "fnExactLoopOfScene", recurses := true, named := ["loop.example/g01276/impl.turnSigns", "internal/strconv.uint64pow10", "math/bits.deBruijn32tab", "math/bits.deBruijn64tab"], plainKeys := false, apart := false, laid := [("math/bits.deBruijn32tab", laid_math_bits_deBruijn32tab), ("math/bits.deBruijn64tab", laid_math_bits_deBruijn64tab), ("internal/strconv.uint64pow10", laid_internal_strconv_uint64pow10), ("loop.example/g01276/impl.turnSigns", laid_loop_example_g01276_impl_turnSigns)] }
def FnExactLoopOfSceneSaid : Prop := fnExactLoopOfSceneRow.holds Tryd.pinned (OpenSpec.ofChange fnExactLoopOfSceneSpec)

/-- ITS FALSE NEIGHBOUR: 'it returns false'. Refute it at one input. -/
def fnExactLoopOfSceneWrong : ChangeSpec := { name := "fnExactLoopOfScene", vars := ["loop.example/g01276/impl.turnSigns"], fn := fun _ => fun
  | [d, g1] => { results := [.lit (.bool false)], args := [d], vars := [g1] }
  | _ => none }
def FnExactLoopOfSceneWrongFalsely : Prop := fnExactLoopOfSceneRow.holds Tryd.pinned (OpenSpec.ofChange fnExactLoopOfSceneWrong)

/-- 'laws.FnExactPaintedAfter': WHATEVER THE INPUT: true; the input reads as it did. -/
def fnExactPaintedAfterSpec : ChangeSpec := { name := "fnExactPaintedAfter", vars := ["loop.example/g01276/impl.turnSigns"], fn := fun _ => fun
  | [d1, d2, g1] => { results := [.lit (.bool true)], args := [d1, d2], vars := [g1] }
  | _ => none }
def fnExactPaintedAfterRow : OpenClaim := { program := "ytpkokghbkamelaadoor", sum := "b9b14aa9cd842b172ce019839e98da673af9486fa285b80a767fa6b2daa1f4cc", func := "loop.example/g01276/laws.FnExactPaintedAfter", spec := "fnExactPaintedAfter", inPlace := ["internal/bytealg.CountString", "internal/bytealg.IndexByteString", "internal/bytealg.IndexString"], unfollowed := true, recurses := true, named := ["loop.example/g01276/impl.turnSigns", "internal/strconv.uint64pow10", "math/bits.deBruijn32tab", "math/bits.deBruijn64tab", "internal/bytealg.MaxLen"], plainKeys := false, apart := false, laid := [("math/bits.deBruijn32tab", laid_math_bits_deBruijn32tab), ("math/bits.deBruijn64tab", laid_math_bits_deBruijn64tab), ("internal/strconv.uint64pow10", laid_internal_strconv_uint64pow10), ("loop.example/g01276/impl.turnSigns", laid_loop_example_g01276_impl_turnSigns)] }
def FnExactPaintedAfterSaid : Prop := fnExactPaintedAfterRow.holds Tryd.pinned (OpenSpec.ofChange fnExactPaintedAfterSpec)

/-- ITS FALSE NEIGHBOUR: 'it returns false'. Refute it at one input. -/
def fnExactPaintedAfterWrong : ChangeSpec := { name := "fnExactPaintedAfter", vars := ["loop.example/g01276/impl.turnSigns"], fn := fun _ => fun
  | [d1, d2, g1] => { results := [.lit (.bool false)], args := [d1, d2], vars := [g1] }
  | _ => none }
def FnExactPaintedAfterWrongFalsely : Prop := fnExactPaintedAfterRow.holds Tryd.pinned (OpenSpec.ofChange fnExactPaintedAfterWrong)

/-- 'laws.FnExactStatesReached': WHATEVER THE INPUT: true; the input reads as it did. -/
def fnExactStatesReachedSpec : ChangeSpec := { name := "fnExactStatesReached", vars := ["loop.example/g01276/impl.turnSigns"], fn := fun _ => fun
  | [d, g1] => { results := [.lit (.bool true)], args := [d], vars := [g1] }
  | _ => none }
def fnExactStatesReachedRow : OpenClaim := { program := "ytpkokghbkamelaadoor", sum := "b9b14aa9cd842b172ce019839e98da673af9486fa285b80a767fa6b2daa1f4cc", func := "loop.example/g01276/laws.FnExactStatesReached", spec := "fnExactStatesReached", recurses := true, named := ["loop.example/g01276/impl.turnSigns"], plainKeys := false, apart := false, laid := [("loop.example/g01276/impl.turnSigns", laid_loop_example_g01276_impl_turnSigns)] }
def FnExactStatesReachedSaid : Prop := fnExactStatesReachedRow.holds Tryd.pinned (OpenSpec.ofChange fnExactStatesReachedSpec)

/-- ITS FALSE NEIGHBOUR: 'it returns false'. Refute it at one input. -/
def fnExactStatesReachedWrong : ChangeSpec := { name := "fnExactStatesReached", vars := ["loop.example/g01276/impl.turnSigns"], fn := fun _ => fun
  | [d, g1] => { results := [.lit (.bool false)], args := [d], vars := [g1] }
  | _ => none }
def FnExactStatesReachedWrongFalsely : Prop := fnExactStatesReachedRow.holds Tryd.pinned (OpenSpec.ofChange fnExactStatesReachedWrong)

/-- 'laws.FnExactParseTable': WHATEVER THE INPUT: true; the input reads as it did. -/
def fnExactParseTableSpec : ChangeSpec := { name := "fnExactParseTable", vars := ["loop.example/g01276/impl.turnSigns"], fn := fun _ => fun
  | [d, g1] => { results := [.lit (.bool true)], args := [d], vars := [g1] }
  | _ => none }
def fnExactParseTableRow : OpenClaim := { program := "ytpkokghbkamelaadoor", sum := "b9b14aa9cd842b172ce019839e98da673af9486fa285b80a767fa6b2daa1f4cc", func := "loop.example/g01276/laws.FnExactParseTable", spec := "fnExactParseTable", recurses := true, named := ["loop.example/g01276/impl.turnSigns", "internal/strconv.uint64pow10", "math/bits.deBruijn32tab", "math/bits.deBruijn64tab"], plainKeys := false, apart := false, laid := [("math/bits.deBruijn32tab", laid_math_bits_deBruijn32tab), ("math/bits.deBruijn64tab", laid_math_bits_deBruijn64tab), ("internal/strconv.uint64pow10", laid_internal_strconv_uint64pow10), ("loop.example/g01276/impl.turnSigns", laid_loop_example_g01276_impl_turnSigns)] }
def FnExactParseTableSaid : Prop := fnExactParseTableRow.holds Tryd.pinned (OpenSpec.ofChange fnExactParseTableSpec)

/-- ITS FALSE NEIGHBOUR: 'it returns false'. Refute it at one input. -/
def fnExactParseTableWrong : ChangeSpec := { name := "fnExactParseTable", vars := ["loop.example/g01276/impl.turnSigns"], fn := fun _ => fun
  | [d, g1] => { results := [.lit (.bool false)], args := [d], vars := [g1] }
  | _ => none }
def FnExactParseTableWrongFalsely : Prop := fnExactParseTableRow.holds Tryd.pinned (OpenSpec.ofChange fnExactParseTableWrong)

/-- 'laws.FnExactPuzzleText': WHATEVER THE INPUT: true; the input reads as it did. -/
def fnExactPuzzleTextSpec : ChangeSpec := { name := "fnExactPuzzleText", fn := fun _ => fun
  | [d] => { results := [.lit (.bool true)], args := [d] }
  | _ => none }
def fnExactPuzzleTextRow : OpenClaim := { program := "ytpkokghbkamelaadoor", sum := "b9b14aa9cd842b172ce019839e98da673af9486fa285b80a767fa6b2daa1f4cc", func := "loop.example/g01276/laws.FnExactPuzzleText", spec := "fnExactPuzzleText", inPlace := ["internal/abi.NoEscape", "internal/bytealg.MakeNoZero"], unfollowed := true, recurses := true, named := ["internal/strconv.uint64pow10", "math/bits.deBruijn32tab", "math/bits.deBruijn64tab"], plainKeys := false, apart := false, laid := [("math/bits.deBruijn32tab", laid_math_bits_deBruijn32tab), ("math/bits.deBruijn64tab", laid_math_bits_deBruijn64tab), ("internal/strconv.uint64pow10", laid_internal_strconv_uint64pow10)] }
def FnExactPuzzleTextSaid : Prop := fnExactPuzzleTextRow.holds Tryd.pinned (OpenSpec.ofChange fnExactPuzzleTextSpec)

/-- ITS FALSE NEIGHBOUR: 'it returns false'. Refute it at one input. -/
def fnExactPuzzleTextWrong : ChangeSpec := { name := "fnExactPuzzleText", fn := fun _ => fun
  | [d] => { results := [.lit (.bool false)], args := [d] }
  | _ => none }
def FnExactPuzzleTextWrongFalsely : Prop := fnExactPuzzleTextRow.holds Tryd.pinned (OpenSpec.ofChange fnExactPuzzleTextWrong)

/-- 'laws.FnExactParsePuzzle': WHATEVER THE INPUT: true; the input reads as it did. -/
def fnExactParsePuzzleSpec : ChangeSpec := { name := "fnExactParsePuzzle", fn := fun _ => fun
  | [d] => { results := [.lit (.bool true)], args := [d] }
  | _ => none }
def fnExactParsePuzzleRow : OpenClaim := { program := "ytpkokghbkamelaadoor", sum := "b9b14aa9cd842b172ce019839e98da673af9486fa285b80a767fa6b2daa1f4cc", func := "loop.example/g01276/laws.FnExactParsePuzzle", spec := "fnExactParsePuzzle", inPlace := ["internal/bytealg.CountString", "internal/bytealg.IndexByteString", "internal/bytealg.IndexString", "internal/abi.NoEscape", "internal/bytealg.MakeNoZero"], unfollowed := true, recurses := true, named := ["unicode/utf8.first", "unicode/utf8.acceptRanges", "internal/bytealg.MaxLen", "strconv.ErrSyntax", "strconv.ErrRange", "internal/strconv.uint64pow10", "math/bits.deBruijn32tab", "math/bits.deBruijn64tab"], plainKeys := false, apart := false, laid := [("math/bits.deBruijn32tab", laid_math_bits_deBruijn32tab), ("math/bits.deBruijn64tab", laid_math_bits_deBruijn64tab), ("internal/strconv.uint64pow10", laid_internal_strconv_uint64pow10), ("unicode/utf8.acceptRanges", laid_unicode_utf8_acceptRanges), ("strconv.ErrRange", laid_strconv_ErrRange), ("strconv.ErrSyntax", laid_strconv_ErrSyntax), ("unicode/utf8.first", laid_unicode_utf8_first)] }
def FnExactParsePuzzleSaid : Prop := fnExactParsePuzzleRow.holds Tryd.pinned (OpenSpec.ofChange fnExactParsePuzzleSpec)

/-- ITS FALSE NEIGHBOUR: 'it returns false'. Refute it at one input. -/
def fnExactParsePuzzleWrong : ChangeSpec := { name := "fnExactParsePuzzle", fn := fun _ => fun
  | [d] => { results := [.lit (.bool false)], args := [d] }
  | _ => none }
def FnExactParsePuzzleWrongFalsely : Prop := fnExactParsePuzzleRow.holds Tryd.pinned (OpenSpec.ofChange fnExactParsePuzzleWrong)

/- THE SECOND FORM. 'bulk': how many values and letters a reading holds, each counted each time it is reached (what is shared counts as often as it is met; a slice's spare places count too). A statement '..UptoSaid' is the law's where the arguments, and the package variables that the reading takes, are together of bulk at most 1048576: NARROWER than '..Said'. Prove '..Said' where nothing that the law and all that it calls make is longer than what came in: it says more and counts as full. Else prove '..UptoSaid'. A law counts once. -/
mutual
def uptoBulk {H : Type} : DataW H → Nat
  | .lit (.string bytes) => bytes.length + 1
  | .lit _ => 1
  | .nil => 1
  | .ptr d => uptoBulk d + 1
  | .slice elems spare => uptoBulkAll elems + uptoBulkAll spare + 1
  | .agg parts => uptoBulkAll parts + 1
  | .iface _ d => uptoBulk d + 1
  | .map entries => uptoBulkEntries entries + 1
  | .held _ => 1
def uptoBulkAll {H : Type} : List (DataW H) → Nat
  | [] => 0
  | d :: r => uptoBulk d + uptoBulkAll r
def uptoBulkEntries {H : Type} : List (Lit × DataW H) → Nat
  | [] => 0
  | x :: r => uptoBulkEntry x + uptoBulkEntries r
def uptoBulkEntry {H : Type} : Lit × DataW H → Nat
  | (.string bytes, d) => bytes.length + uptoBulk d + 1
  | (_, d) => uptoBulk d + 1
 end
def uptoSmall : (H : Type) → List (DataW H) → Bool := fun _ ds => decide (uptoBulkAll ds ≤ 1048576)
def OpenSpec.upto (s : _root_.Go.ChangeSpec) : _root_.Go.OpenSpec := { _root_.Go.OpenSpec.ofChange s with cond := some uptoSmall }

/-- 'laws.FnExactIsScene', WHERE WHAT IT READS IS OF BULK AT MOST 1048576: true; the input reads as it did. -/
def fnExactIsSceneUptoRow : OpenClaim := { program := "ytpkokghbkamelaadoor", sum := "b9b14aa9cd842b172ce019839e98da673af9486fa285b80a767fa6b2daa1f4cc", func := "loop.example/g01276/laws.FnExactIsScene", spec := "fnExactIsScene", named := ["loop.example/g01276/impl.turnSigns"], plainKeys := false, apart := false, laid := [("loop.example/g01276/impl.turnSigns", laid_loop_example_g01276_impl_turnSigns)], narrowed := true }
def FnExactIsSceneUptoSaid : Prop := fnExactIsSceneUptoRow.holds Tryd.pinned (OpenSpec.upto fnExactIsSceneSpec)

/-- 'laws.FnExactStepScene', WHERE WHAT IT READS IS OF BULK AT MOST 1048576: true; the input reads as it did. -/
def fnExactStepSceneUptoRow : OpenClaim := { program := "ytpkokghbkamelaadoor", sum := "b9b14aa9cd842b172ce019839e98da673af9486fa285b80a767fa6b2daa1f4cc", func := "loop.example/g01276/laws.FnExactStepScene", spec := "fnExactStepScene", unfollowed := true, recurses := true, named := ["loop.example/g01276/impl.turnSigns", "internal/strconv.uint64pow10", "math/bits.deBruijn32tab", "math/bits.deBruijn64tab"], plainKeys := false, apart := false, laid := [("math/bits.deBruijn32tab", laid_math_bits_deBruijn32tab), ("math/bits.deBruijn64tab", laid_math_bits_deBruijn64tab), ("internal/strconv.uint64pow10", laid_internal_strconv_uint64pow10), ("loop.example/g01276/impl.turnSigns", laid_loop_example_g01276_impl_turnSigns)], narrowed := true }
def FnExactStepSceneUptoSaid : Prop := fnExactStepSceneUptoRow.holds Tryd.pinned (OpenSpec.upto fnExactStepSceneSpec)

/-- 'laws.FnExactSceneAfter', WHERE WHAT IT READS IS OF BULK AT MOST 1048576: true; the input reads as it did. -/
def fnExactSceneAfterUptoRow : OpenClaim := { program := "ytpkokghbkamelaadoor", sum := "b9b14aa9cd842b172ce019839e98da673af9486fa285b80a767fa6b2daa1f4cc", func := "loop.example/g01276/laws.FnExactSceneAfter", spec := "fnExactSceneAfter", unfollowed := true, recurses := true, named := ["loop.example/g01276/impl.turnSigns", "internal/strconv.uint64pow10", "math/bits.deBruijn32tab", "math/bits.deBruijn64tab"], plainKeys := false, apart := false, laid := [("math/bits.deBruijn32tab", laid_math_bits_deBruijn32tab), ("math/bits.deBruijn64tab", laid_math_bits_deBruijn64tab), ("internal/strconv.uint64pow10", laid_internal_strconv_uint64pow10), ("loop.example/g01276/impl.turnSigns", laid_loop_example_g01276_impl_turnSigns)], narrowed := true }
def FnExactSceneAfterUptoSaid : Prop := fnExactSceneAfterUptoRow.holds Tryd.pinned (OpenSpec.upto fnExactSceneAfterSpec)

/-- 'laws.FnExactUndoScene', WHERE WHAT IT READS IS OF BULK AT MOST 1048576: true; the input reads as it did. -/
def fnExactUndoSceneUptoRow : OpenClaim := { program := "ytpkokghbkamelaadoor", sum := "b9b14aa9cd842b172ce019839e98da673af9486fa285b80a767fa6b2daa1f4cc", func := "loop.example/g01276/laws.FnExactUndoScene", spec := "fnExactUndoScene", unfollowed := true, recurses := true, named := ["loop.example/g01276/impl.turnSigns", "internal/strconv.uint64pow10", "math/bits.deBruijn32tab", "math/bits.deBruijn64tab"], plainKeys := false, apart := false, laid := [("math/bits.deBruijn32tab", laid_math_bits_deBruijn32tab), ("math/bits.deBruijn64tab", laid_math_bits_deBruijn64tab), ("internal/strconv.uint64pow10", laid_internal_strconv_uint64pow10), ("loop.example/g01276/impl.turnSigns", laid_loop_example_g01276_impl_turnSigns)], narrowed := true }
def FnExactUndoSceneUptoSaid : Prop := fnExactUndoSceneUptoRow.holds Tryd.pinned (OpenSpec.upto fnExactUndoSceneSpec)

/-- 'laws.FnExactLoopOfScene', WHERE WHAT IT READS IS OF BULK AT MOST 1048576: true; the input reads as it did. -/
def fnExactLoopOfSceneUptoRow : OpenClaim := { program := "ytpkokghbkamelaadoor", sum := "b9b14aa9cd842b172ce019839e98da673af9486fa285b80a767fa6b2daa1f4cc", func := "loop.example/g01276/laws.FnExactLoopOfScene", spec := "fnExactLoopOfScene", recurses := true, named := ["loop.example/g01276/impl.turnSigns", "internal/strconv.uint64pow10", "math/bits.deBruijn32tab", "math/bits.deBruijn64tab"], plainKeys := false, apart := false, laid := [("math/bits.deBruijn32tab", laid_math_bits_deBruijn32tab), ("math/bits.deBruijn64tab", laid_math_bits_deBruijn64tab), ("internal/strconv.uint64pow10", laid_internal_strconv_uint64pow10), ("loop.example/g01276/impl.turnSigns", laid_loop_example_g01276_impl_turnSigns)], narrowed := true }
def FnExactLoopOfSceneUptoSaid : Prop := fnExactLoopOfSceneUptoRow.holds Tryd.pinned (OpenSpec.upto fnExactLoopOfSceneSpec)

/-- 'laws.FnExactPaintedAfter', WHERE WHAT IT READS IS OF BULK AT MOST 1048576: true; the input reads as it did. -/
def fnExactPaintedAfterUptoRow : OpenClaim := { program := "ytpkokghbkamelaadoor", sum := "b9b14aa9cd842b172ce019839e98da673af9486fa285b80a767fa6b2daa1f4cc", func := "loop.example/g01276/laws.FnExactPaintedAfter", spec := "fnExactPaintedAfter", inPlace := ["internal/bytealg.CountString", "internal/bytealg.IndexByteString", "internal/bytealg.IndexString"], unfollowed := true, recurses := true, named := ["loop.example/g01276/impl.turnSigns", "internal/strconv.uint64pow10", "math/bits.deBruijn32tab", "math/bits.deBruijn64tab", "internal/bytealg.MaxLen"], plainKeys := false, apart := false, laid := [("math/bits.deBruijn32tab", laid_math_bits_deBruijn32tab), ("math/bits.deBruijn64tab", laid_math_bits_deBruijn64tab), ("internal/strconv.uint64pow10", laid_internal_strconv_uint64pow10), ("loop.example/g01276/impl.turnSigns", laid_loop_example_g01276_impl_turnSigns)], narrowed := true }
def FnExactPaintedAfterUptoSaid : Prop := fnExactPaintedAfterUptoRow.holds Tryd.pinned (OpenSpec.upto fnExactPaintedAfterSpec)

/-- 'laws.FnExactStatesReached', WHERE WHAT IT READS IS OF BULK AT MOST 1048576: true; the input reads as it did. -/
def fnExactStatesReachedUptoRow : OpenClaim := { program := "ytpkokghbkamelaadoor", sum := "b9b14aa9cd842b172ce019839e98da673af9486fa285b80a767fa6b2daa1f4cc", func := "loop.example/g01276/laws.FnExactStatesReached", spec := "fnExactStatesReached", recurses := true, named := ["loop.example/g01276/impl.turnSigns"], plainKeys := false, apart := false, laid := [("loop.example/g01276/impl.turnSigns", laid_loop_example_g01276_impl_turnSigns)], narrowed := true }
def FnExactStatesReachedUptoSaid : Prop := fnExactStatesReachedUptoRow.holds Tryd.pinned (OpenSpec.upto fnExactStatesReachedSpec)

/-- 'laws.FnExactParseTable', WHERE WHAT IT READS IS OF BULK AT MOST 1048576: true; the input reads as it did. -/
def fnExactParseTableUptoRow : OpenClaim := { program := "ytpkokghbkamelaadoor", sum := "b9b14aa9cd842b172ce019839e98da673af9486fa285b80a767fa6b2daa1f4cc", func := "loop.example/g01276/laws.FnExactParseTable", spec := "fnExactParseTable", recurses := true, named := ["loop.example/g01276/impl.turnSigns", "internal/strconv.uint64pow10", "math/bits.deBruijn32tab", "math/bits.deBruijn64tab"], plainKeys := false, apart := false, laid := [("math/bits.deBruijn32tab", laid_math_bits_deBruijn32tab), ("math/bits.deBruijn64tab", laid_math_bits_deBruijn64tab), ("internal/strconv.uint64pow10", laid_internal_strconv_uint64pow10), ("loop.example/g01276/impl.turnSigns", laid_loop_example_g01276_impl_turnSigns)], narrowed := true }
def FnExactParseTableUptoSaid : Prop := fnExactParseTableUptoRow.holds Tryd.pinned (OpenSpec.upto fnExactParseTableSpec)

/-- 'laws.FnExactPuzzleText', WHERE WHAT IT READS IS OF BULK AT MOST 1048576: true; the input reads as it did. -/
def fnExactPuzzleTextUptoRow : OpenClaim := { program := "ytpkokghbkamelaadoor", sum := "b9b14aa9cd842b172ce019839e98da673af9486fa285b80a767fa6b2daa1f4cc", func := "loop.example/g01276/laws.FnExactPuzzleText", spec := "fnExactPuzzleText", inPlace := ["internal/abi.NoEscape", "internal/bytealg.MakeNoZero"], unfollowed := true, recurses := true, named := ["internal/strconv.uint64pow10", "math/bits.deBruijn32tab", "math/bits.deBruijn64tab"], plainKeys := false, apart := false, laid := [("math/bits.deBruijn32tab", laid_math_bits_deBruijn32tab), ("math/bits.deBruijn64tab", laid_math_bits_deBruijn64tab), ("internal/strconv.uint64pow10", laid_internal_strconv_uint64pow10)], narrowed := true }
def FnExactPuzzleTextUptoSaid : Prop := fnExactPuzzleTextUptoRow.holds Tryd.pinned (OpenSpec.upto fnExactPuzzleTextSpec)

/-- 'laws.FnExactParsePuzzle', WHERE WHAT IT READS IS OF BULK AT MOST 1048576: true; the input reads as it did. -/
def fnExactParsePuzzleUptoRow : OpenClaim := { program := "ytpkokghbkamelaadoor", sum := "b9b14aa9cd842b172ce019839e98da673af9486fa285b80a767fa6b2daa1f4cc", func := "loop.example/g01276/laws.FnExactParsePuzzle", spec := "fnExactParsePuzzle", inPlace := ["internal/bytealg.CountString", "internal/bytealg.IndexByteString", "internal/bytealg.IndexString", "internal/abi.NoEscape", "internal/bytealg.MakeNoZero"], unfollowed := true, recurses := true, named := ["unicode/utf8.first", "unicode/utf8.acceptRanges", "internal/bytealg.MaxLen", "strconv.ErrSyntax", "strconv.ErrRange", "internal/strconv.uint64pow10", "math/bits.deBruijn32tab", "math/bits.deBruijn64tab"], plainKeys := false, apart := false, laid := [("math/bits.deBruijn32tab", laid_math_bits_deBruijn32tab), ("math/bits.deBruijn64tab", laid_math_bits_deBruijn64tab), ("internal/strconv.uint64pow10", laid_internal_strconv_uint64pow10), ("unicode/utf8.acceptRanges", laid_unicode_utf8_acceptRanges), ("strconv.ErrRange", laid_strconv_ErrRange), ("strconv.ErrSyntax", laid_strconv_ErrSyntax), ("unicode/utf8.first", laid_unicode_utf8_first)], narrowed := true }
def FnExactParsePuzzleUptoSaid : Prop := fnExactParsePuzzleUptoRow.holds Tryd.pinned (OpenSpec.upto fnExactParsePuzzleSpec)

end Rows
end Go.Proofs.YtpkokghbkamelaaDoor
