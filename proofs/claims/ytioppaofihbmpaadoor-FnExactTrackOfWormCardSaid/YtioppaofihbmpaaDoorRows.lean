/-
  NARROWER THAN 'FOR EVERY INPUT', by the rows' own cells (each row's printed sentence says how): FnExactIsWorm: laid · FnExactIsTaste: laid · FnExactLinesLeft: laid · FnExactLinesAt: laid · FnExactEatLine: laid · FnExactWormAfter: laid · FnExactLifeOf: laid · FnExactDeathOf: laid · FnExactTrackOfWorm: laid · FnExactMealsOfWorm: laid · FnExactGiveBack: laid.
  DERIVED. THE GIVEN ROWS OF THIS SEAT. 11 by the template 'for every input the law returns true; each argument reads behind the call as it read before'; 0 by the template 'total and deterministic' (their statements: YtioppaofihbmpaaDoorTotals.lean).
  GIVEN WITH THE SEED: the statements are not yours to turn. If you find one false, say at which input.
  Laid BY PROGRAM, IN A SANDBOX (cutbox-rows.mjs): the forced cells as the released guide's own fill.sh prints them over the translation da6c95ffe5917161… (all of the seat's roots in one cut). By AI agents, Wed Nov 11 2026. No macro, syntax, notation, axiom, sorry.
-/
import Derived.Test.YtioppaofihbmpaaDoorChecked
import GoSem.PinnedTables
import GoSem.Claim
import GoSem.ClaimJoined
import GoSem.ClaimMapViews
import Derived.JoinedTies
import Derived.KernelRfl
namespace Go.Proofs.YtioppaofihbmpaaDoor
/- THE CELL 'sum', in the pinned program and in every row, IS THE sha256 OF THE DUMP (.gsa) THAT YtioppaofihbmpaaDoorProg.lean LOADS. Nothing in Lean hashes anything: it is a label: what it is worth is what the hold of that sum in a sandbox is worth. -/
noncomputable def Tryd.pinned : Pinned := { name := "ytioppaofihbmpaadoor", sum := "da6c95ffe5917161e14eef1dcd44d536c355f9b262a413fc78ea66c816cdcdcb", checked := Tryd.checked }
namespace Rows
def none {H : Type} : Left H := { results := [], args := [] }

/- WHAT THE LISTED PACKAGE-LEVEL VARIABLES READ AS WHEN THE CALL BEGINS. Each datum BY PROGRAM (the guide's laid-datum.mjs) off the statement by which the dump's own 'gosem.cut.vars' lays the variable. In a bare row this is a premise. The card (YtioppaofihbmpaaDoorCards.lean) ties it to the program's text. -/
def laid_unicode_utf8_acceptRanges {H : Type} : DataW H := .agg [.agg [.lit (.int .u8 128), .lit (.int .u8 191)], .agg [.lit (.int .u8 160), .lit (.int .u8 191)], .agg [.lit (.int .u8 128), .lit (.int .u8 159)], .agg [.lit (.int .u8 144), .lit (.int .u8 191)], .agg [.lit (.int .u8 128), .lit (.int .u8 143)], .agg [.lit (.int .u8 0), .lit (.int .u8 0)], .agg [.lit (.int .u8 0), .lit (.int .u8 0)], .agg [.lit (.int .u8 0), .lit (.int .u8 0)], .agg [.lit (.int .u8 0), .lit (.int .u8 0)], .agg [.lit (.int .u8 0), .lit (.int .u8 0)], .agg [.lit (.int .u8 0), .lit (.int .u8 0)], .agg [.lit (.int .u8 0), .lit (.int .u8 0)], .agg [.lit (.int .u8 0), .lit (.int .u8 0)], .agg [.lit (.int .u8 0), .lit (.int .u8 0)], .agg [.lit (.int .u8 0), .lit (.int .u8 0)], .agg [.lit (.int .u8 0), .lit (.int .u8 0)]]
/-- One of Go's own tables, pinned by name: the form's constant. -/
def laid_unicode_utf8_first : DataW Unit := Go.Pinned.utf8First
def laid_loop_example_g01276_impl_tastes {H : Type} : DataW H := .agg [.lit (.string [76, 78, 82]), .lit (.string [76, 82, 78]), .lit (.string [78, 76, 82]), .lit (.string [78, 82, 76]), .lit (.string [82, 76, 78]), .lit (.string [82, 78, 76])]

/-- 'laws.FnExactIsWorm': WHATEVER THE INPUT: true; the input reads as it did. -/
def fnExactIsWormSpec : ChangeSpec := { name := "fnExactIsWorm", fn := fun _ => fun
  | [d] => { results := [.lit (.bool true)], args := [d] }
  | _ => none }
def fnExactIsWormRow : OpenClaim := { program := "ytioppaofihbmpaadoor", sum := "da6c95ffe5917161e14eef1dcd44d536c355f9b262a413fc78ea66c816cdcdcb", func := "loop.example/g01276/laws.FnExactIsWorm", spec := "fnExactIsWorm", inPlace := ["internal/bytealg.IndexByteString", "internal/bytealg.IndexString"], named := ["unicode/utf8.first", "unicode/utf8.acceptRanges", "internal/bytealg.MaxLen"], apart := false, laid := [("unicode/utf8.acceptRanges", laid_unicode_utf8_acceptRanges), ("unicode/utf8.first", laid_unicode_utf8_first)] }
def FnExactIsWormSaid : Prop := fnExactIsWormRow.holds Tryd.pinned (OpenSpec.ofChange fnExactIsWormSpec)

/-- ITS FALSE NEIGHBOUR: 'it returns false'. Refute it at one input. -/
def fnExactIsWormWrong : ChangeSpec := { name := "fnExactIsWorm", fn := fun _ => fun
  | [d] => { results := [.lit (.bool false)], args := [d] }
  | _ => none }
def FnExactIsWormWrongFalsely : Prop := fnExactIsWormRow.holds Tryd.pinned (OpenSpec.ofChange fnExactIsWormWrong)

/-- 'laws.FnExactIsTaste': WHATEVER THE INPUT: true; the input reads as it did. -/
def fnExactIsTasteSpec : ChangeSpec := { name := "fnExactIsTaste", vars := ["loop.example/g01276/impl.tastes"], fn := fun _ => fun
  | [d, g1] => { results := [.lit (.bool true)], args := [d], vars := [g1] }
  | _ => none }
def fnExactIsTasteRow : OpenClaim := { program := "ytioppaofihbmpaadoor", sum := "da6c95ffe5917161e14eef1dcd44d536c355f9b262a413fc78ea66c816cdcdcb", func := "loop.example/g01276/laws.FnExactIsTaste", spec := "fnExactIsTaste", named := ["loop.example/g01276/impl.tastes"], apart := false, laid := [("loop.example/g01276/impl.tastes", laid_loop_example_g01276_impl_tastes)] }
def FnExactIsTasteSaid : Prop := fnExactIsTasteRow.holds Tryd.pinned (OpenSpec.ofChange fnExactIsTasteSpec)

/-- ITS FALSE NEIGHBOUR: 'it returns false'. Refute it at one input. -/
def fnExactIsTasteWrong : ChangeSpec := { name := "fnExactIsTaste", vars := ["loop.example/g01276/impl.tastes"], fn := fun _ => fun
  | [d, g1] => { results := [.lit (.bool false)], args := [d], vars := [g1] }
  | _ => none }
def FnExactIsTasteWrongFalsely : Prop := fnExactIsTasteRow.holds Tryd.pinned (OpenSpec.ofChange fnExactIsTasteWrong)

/-- 'laws.FnExactLinesLeft': WHATEVER THE INPUT: true; the input reads as it did. -/
def fnExactLinesLeftSpec : ChangeSpec := { name := "fnExactLinesLeft", fn := fun _ => fun
  | [d] => { results := [.lit (.bool true)], args := [d] }
  | _ => none }
def fnExactLinesLeftRow : OpenClaim := { program := "ytioppaofihbmpaadoor", sum := "da6c95ffe5917161e14eef1dcd44d536c355f9b262a413fc78ea66c816cdcdcb", func := "loop.example/g01276/laws.FnExactLinesLeft", spec := "fnExactLinesLeft", inPlace := ["internal/bytealg.IndexByteString", "internal/bytealg.IndexString", "internal/bytealg.CountString"], named := ["unicode/utf8.first", "unicode/utf8.acceptRanges", "internal/bytealg.MaxLen"], apart := false, laid := [("unicode/utf8.acceptRanges", laid_unicode_utf8_acceptRanges), ("unicode/utf8.first", laid_unicode_utf8_first)] }
def FnExactLinesLeftSaid : Prop := fnExactLinesLeftRow.holds Tryd.pinned (OpenSpec.ofChange fnExactLinesLeftSpec)

/-- ITS FALSE NEIGHBOUR: 'it returns false'. Refute it at one input. -/
def fnExactLinesLeftWrong : ChangeSpec := { name := "fnExactLinesLeft", fn := fun _ => fun
  | [d] => { results := [.lit (.bool false)], args := [d] }
  | _ => none }
def FnExactLinesLeftWrongFalsely : Prop := fnExactLinesLeftRow.holds Tryd.pinned (OpenSpec.ofChange fnExactLinesLeftWrong)

/-- 'laws.FnExactLinesAt': WHATEVER THE INPUT: true; the input reads as it did. -/
def fnExactLinesAtSpec : ChangeSpec := { name := "fnExactLinesAt", fn := fun _ => fun
  | [d1, d2, d3] => { results := [.lit (.bool true)], args := [d1, d2, d3] }
  | _ => none }
def fnExactLinesAtRow : OpenClaim := { program := "ytioppaofihbmpaadoor", sum := "da6c95ffe5917161e14eef1dcd44d536c355f9b262a413fc78ea66c816cdcdcb", func := "loop.example/g01276/laws.FnExactLinesAt", spec := "fnExactLinesAt", inPlace := ["internal/bytealg.IndexByteString", "internal/bytealg.IndexString"], named := ["unicode/utf8.first", "unicode/utf8.acceptRanges", "internal/bytealg.MaxLen"], apart := false, laid := [("unicode/utf8.acceptRanges", laid_unicode_utf8_acceptRanges), ("unicode/utf8.first", laid_unicode_utf8_first)] }
def FnExactLinesAtSaid : Prop := fnExactLinesAtRow.holds Tryd.pinned (OpenSpec.ofChange fnExactLinesAtSpec)

/-- ITS FALSE NEIGHBOUR: 'it returns false'. Refute it at one input. -/
def fnExactLinesAtWrong : ChangeSpec := { name := "fnExactLinesAt", fn := fun _ => fun
  | [d1, d2, d3] => { results := [.lit (.bool false)], args := [d1, d2, d3] }
  | _ => none }
def FnExactLinesAtWrongFalsely : Prop := fnExactLinesAtRow.holds Tryd.pinned (OpenSpec.ofChange fnExactLinesAtWrong)

/-- 'laws.FnExactEatLine': WHATEVER THE INPUT: true; the input reads as it did. -/
def fnExactEatLineSpec : ChangeSpec := { name := "fnExactEatLine", vars := ["loop.example/g01276/impl.tastes"], fn := fun _ => fun
  | [d1, d2, g1] => { results := [.lit (.bool true)], args := [d1, d2], vars := [g1] }
  | _ => none }
def fnExactEatLineRow : OpenClaim := { program := "ytioppaofihbmpaadoor", sum := "da6c95ffe5917161e14eef1dcd44d536c355f9b262a413fc78ea66c816cdcdcb", func := "loop.example/g01276/laws.FnExactEatLine", spec := "fnExactEatLine", inPlace := ["internal/bytealg.IndexByteString", "internal/bytealg.IndexString"], named := ["unicode/utf8.first", "unicode/utf8.acceptRanges", "loop.example/g01276/impl.tastes", "internal/bytealg.MaxLen"], apart := false, laid := [("unicode/utf8.acceptRanges", laid_unicode_utf8_acceptRanges), ("loop.example/g01276/impl.tastes", laid_loop_example_g01276_impl_tastes), ("unicode/utf8.first", laid_unicode_utf8_first)] }
def FnExactEatLineSaid : Prop := fnExactEatLineRow.holds Tryd.pinned (OpenSpec.ofChange fnExactEatLineSpec)

/-- ITS FALSE NEIGHBOUR: 'it returns false'. Refute it at one input. -/
def fnExactEatLineWrong : ChangeSpec := { name := "fnExactEatLine", vars := ["loop.example/g01276/impl.tastes"], fn := fun _ => fun
  | [d1, d2, g1] => { results := [.lit (.bool false)], args := [d1, d2], vars := [g1] }
  | _ => none }
def FnExactEatLineWrongFalsely : Prop := fnExactEatLineRow.holds Tryd.pinned (OpenSpec.ofChange fnExactEatLineWrong)

/-- 'laws.FnExactWormAfter': WHATEVER THE INPUT: true; the input reads as it did. -/
def fnExactWormAfterSpec : ChangeSpec := { name := "fnExactWormAfter", vars := ["loop.example/g01276/impl.tastes"], fn := fun _ => fun
  | [d1, d2, d3, g1] => { results := [.lit (.bool true)], args := [d1, d2, d3], vars := [g1] }
  | _ => none }
def fnExactWormAfterRow : OpenClaim := { program := "ytioppaofihbmpaadoor", sum := "da6c95ffe5917161e14eef1dcd44d536c355f9b262a413fc78ea66c816cdcdcb", func := "loop.example/g01276/laws.FnExactWormAfter", spec := "fnExactWormAfter", inPlace := ["internal/bytealg.IndexByteString", "internal/bytealg.IndexString"], named := ["unicode/utf8.first", "unicode/utf8.acceptRanges", "loop.example/g01276/impl.tastes", "internal/bytealg.MaxLen"], apart := false, laid := [("unicode/utf8.acceptRanges", laid_unicode_utf8_acceptRanges), ("loop.example/g01276/impl.tastes", laid_loop_example_g01276_impl_tastes), ("unicode/utf8.first", laid_unicode_utf8_first)] }
def FnExactWormAfterSaid : Prop := fnExactWormAfterRow.holds Tryd.pinned (OpenSpec.ofChange fnExactWormAfterSpec)

/-- ITS FALSE NEIGHBOUR: 'it returns false'. Refute it at one input. -/
def fnExactWormAfterWrong : ChangeSpec := { name := "fnExactWormAfter", vars := ["loop.example/g01276/impl.tastes"], fn := fun _ => fun
  | [d1, d2, d3, g1] => { results := [.lit (.bool false)], args := [d1, d2, d3], vars := [g1] }
  | _ => none }
def FnExactWormAfterWrongFalsely : Prop := fnExactWormAfterRow.holds Tryd.pinned (OpenSpec.ofChange fnExactWormAfterWrong)

/-- 'laws.FnExactLifeOf': WHATEVER THE INPUT: true; the input reads as it did. -/
def fnExactLifeOfSpec : ChangeSpec := { name := "fnExactLifeOf", vars := ["loop.example/g01276/impl.tastes"], fn := fun _ => fun
  | [d1, d2, g1] => { results := [.lit (.bool true)], args := [d1, d2], vars := [g1] }
  | _ => none }
def fnExactLifeOfRow : OpenClaim := { program := "ytioppaofihbmpaadoor", sum := "da6c95ffe5917161e14eef1dcd44d536c355f9b262a413fc78ea66c816cdcdcb", func := "loop.example/g01276/laws.FnExactLifeOf", spec := "fnExactLifeOf", inPlace := ["internal/bytealg.IndexByteString", "internal/bytealg.IndexString"], named := ["unicode/utf8.first", "unicode/utf8.acceptRanges", "loop.example/g01276/impl.tastes", "internal/bytealg.MaxLen"], apart := false, laid := [("unicode/utf8.acceptRanges", laid_unicode_utf8_acceptRanges), ("loop.example/g01276/impl.tastes", laid_loop_example_g01276_impl_tastes), ("unicode/utf8.first", laid_unicode_utf8_first)] }
def FnExactLifeOfSaid : Prop := fnExactLifeOfRow.holds Tryd.pinned (OpenSpec.ofChange fnExactLifeOfSpec)

/-- ITS FALSE NEIGHBOUR: 'it returns false'. Refute it at one input. -/
def fnExactLifeOfWrong : ChangeSpec := { name := "fnExactLifeOf", vars := ["loop.example/g01276/impl.tastes"], fn := fun _ => fun
  | [d1, d2, g1] => { results := [.lit (.bool false)], args := [d1, d2], vars := [g1] }
  | _ => none }
def FnExactLifeOfWrongFalsely : Prop := fnExactLifeOfRow.holds Tryd.pinned (OpenSpec.ofChange fnExactLifeOfWrong)

/-- 'laws.FnExactDeathOf': WHATEVER THE INPUT: true; the input reads as it did. -/
def fnExactDeathOfSpec : ChangeSpec := { name := "fnExactDeathOf", vars := ["loop.example/g01276/impl.tastes"], fn := fun _ => fun
  | [d1, d2, g1] => { results := [.lit (.bool true)], args := [d1, d2], vars := [g1] }
  | _ => none }
def fnExactDeathOfRow : OpenClaim := { program := "ytioppaofihbmpaadoor", sum := "da6c95ffe5917161e14eef1dcd44d536c355f9b262a413fc78ea66c816cdcdcb", func := "loop.example/g01276/laws.FnExactDeathOf", spec := "fnExactDeathOf", inPlace := ["internal/bytealg.IndexByteString", "internal/bytealg.IndexString"], named := ["unicode/utf8.first", "unicode/utf8.acceptRanges", "loop.example/g01276/impl.tastes", "internal/bytealg.MaxLen"], apart := false, laid := [("unicode/utf8.acceptRanges", laid_unicode_utf8_acceptRanges), ("loop.example/g01276/impl.tastes", laid_loop_example_g01276_impl_tastes), ("unicode/utf8.first", laid_unicode_utf8_first)] }
def FnExactDeathOfSaid : Prop := fnExactDeathOfRow.holds Tryd.pinned (OpenSpec.ofChange fnExactDeathOfSpec)

/-- ITS FALSE NEIGHBOUR: 'it returns false'. Refute it at one input. -/
def fnExactDeathOfWrong : ChangeSpec := { name := "fnExactDeathOf", vars := ["loop.example/g01276/impl.tastes"], fn := fun _ => fun
  | [d1, d2, g1] => { results := [.lit (.bool false)], args := [d1, d2], vars := [g1] }
  | _ => none }
def FnExactDeathOfWrongFalsely : Prop := fnExactDeathOfRow.holds Tryd.pinned (OpenSpec.ofChange fnExactDeathOfWrong)

/-- 'laws.FnExactTrackOfWorm': WHATEVER THE INPUT: true; the input reads as it did. -/
def fnExactTrackOfWormSpec : ChangeSpec := { name := "fnExactTrackOfWorm", vars := ["loop.example/g01276/impl.tastes"], fn := fun _ => fun
  | [d1, d2, g1] => { results := [.lit (.bool true)], args := [d1, d2], vars := [g1] }
  | _ => none }
def fnExactTrackOfWormRow : OpenClaim := { program := "ytioppaofihbmpaadoor", sum := "da6c95ffe5917161e14eef1dcd44d536c355f9b262a413fc78ea66c816cdcdcb", func := "loop.example/g01276/laws.FnExactTrackOfWorm", spec := "fnExactTrackOfWorm", inPlace := ["internal/bytealg.IndexByteString", "internal/bytealg.IndexString"], named := ["unicode/utf8.first", "unicode/utf8.acceptRanges", "loop.example/g01276/impl.tastes", "internal/bytealg.MaxLen"], apart := false, laid := [("unicode/utf8.acceptRanges", laid_unicode_utf8_acceptRanges), ("loop.example/g01276/impl.tastes", laid_loop_example_g01276_impl_tastes), ("unicode/utf8.first", laid_unicode_utf8_first)] }
def FnExactTrackOfWormSaid : Prop := fnExactTrackOfWormRow.holds Tryd.pinned (OpenSpec.ofChange fnExactTrackOfWormSpec)

/-- ITS FALSE NEIGHBOUR: 'it returns false'. Refute it at one input. -/
def fnExactTrackOfWormWrong : ChangeSpec := { name := "fnExactTrackOfWorm", vars := ["loop.example/g01276/impl.tastes"], fn := fun _ => fun
  | [d1, d2, g1] => { results := [.lit (.bool false)], args := [d1, d2], vars := [g1] }
  | _ => none }
def FnExactTrackOfWormWrongFalsely : Prop := fnExactTrackOfWormRow.holds Tryd.pinned (OpenSpec.ofChange fnExactTrackOfWormWrong)

/-- 'laws.FnExactMealsOfWorm': WHATEVER THE INPUT: true; the input reads as it did. -/
def fnExactMealsOfWormSpec : ChangeSpec := { name := "fnExactMealsOfWorm", vars := ["loop.example/g01276/impl.tastes"], fn := fun _ => fun
  | [d1, d2, g1] => { results := [.lit (.bool true)], args := [d1, d2], vars := [g1] }
  | _ => none }
def fnExactMealsOfWormRow : OpenClaim := { program := "ytioppaofihbmpaadoor", sum := "da6c95ffe5917161e14eef1dcd44d536c355f9b262a413fc78ea66c816cdcdcb", func := "loop.example/g01276/laws.FnExactMealsOfWorm", spec := "fnExactMealsOfWorm", inPlace := ["internal/bytealg.IndexByteString", "internal/bytealg.IndexString"], named := ["unicode/utf8.first", "unicode/utf8.acceptRanges", "loop.example/g01276/impl.tastes", "internal/bytealg.MaxLen"], apart := false, laid := [("unicode/utf8.acceptRanges", laid_unicode_utf8_acceptRanges), ("loop.example/g01276/impl.tastes", laid_loop_example_g01276_impl_tastes), ("unicode/utf8.first", laid_unicode_utf8_first)] }
def FnExactMealsOfWormSaid : Prop := fnExactMealsOfWormRow.holds Tryd.pinned (OpenSpec.ofChange fnExactMealsOfWormSpec)

/-- ITS FALSE NEIGHBOUR: 'it returns false'. Refute it at one input. -/
def fnExactMealsOfWormWrong : ChangeSpec := { name := "fnExactMealsOfWorm", vars := ["loop.example/g01276/impl.tastes"], fn := fun _ => fun
  | [d1, d2, g1] => { results := [.lit (.bool false)], args := [d1, d2], vars := [g1] }
  | _ => none }
def FnExactMealsOfWormWrongFalsely : Prop := fnExactMealsOfWormRow.holds Tryd.pinned (OpenSpec.ofChange fnExactMealsOfWormWrong)

/-- 'laws.FnExactGiveBack': WHATEVER THE INPUT: true; the input reads as it did. -/
def fnExactGiveBackSpec : ChangeSpec := { name := "fnExactGiveBack", fn := fun _ => fun
  | [d1, d2] => { results := [.lit (.bool true)], args := [d1, d2] }
  | _ => none }
def fnExactGiveBackRow : OpenClaim := { program := "ytioppaofihbmpaadoor", sum := "da6c95ffe5917161e14eef1dcd44d536c355f9b262a413fc78ea66c816cdcdcb", func := "loop.example/g01276/laws.FnExactGiveBack", spec := "fnExactGiveBack", inPlace := ["internal/bytealg.IndexByteString", "internal/bytealg.IndexString"], named := ["unicode/utf8.first", "unicode/utf8.acceptRanges", "internal/bytealg.MaxLen"], apart := false, laid := [("unicode/utf8.acceptRanges", laid_unicode_utf8_acceptRanges), ("unicode/utf8.first", laid_unicode_utf8_first)] }
def FnExactGiveBackSaid : Prop := fnExactGiveBackRow.holds Tryd.pinned (OpenSpec.ofChange fnExactGiveBackSpec)

/-- ITS FALSE NEIGHBOUR: 'it returns false'. Refute it at one input. -/
def fnExactGiveBackWrong : ChangeSpec := { name := "fnExactGiveBack", fn := fun _ => fun
  | [d1, d2] => { results := [.lit (.bool false)], args := [d1, d2] }
  | _ => none }
def FnExactGiveBackWrongFalsely : Prop := fnExactGiveBackRow.holds Tryd.pinned (OpenSpec.ofChange fnExactGiveBackWrong)

/- THE SECOND FORM. 'bulk': how many values and letters a reading holds, each counted each time it is reached (what is shared counts as often as it is met; a slice's spare places count too). A statement '..UptoSaid' is the law's where the arguments, and the package variables that the reading takes, are together of bulk at most 1048576: NARROWER than '..Said'. Prove '..Said' where nothing that the law and all that it calls make is longer than what came in: it says more and counts as full. Else prove '..UptoSaid'. A law counts once. -/
mutual
def uptoBulk {H : Type} : DataW H → Nat
  | .lit (.string bytes) => bytes.length + 1
  | .lit _ => 1
  | .nil => 1
  | .ptr d => uptoBulk d + 1
  | .slice elems spare => uptoBulkAll elems + uptoBulkAll spare + 1
  | .agg parts => uptoBulkAll parts + 1
  | .iface _ d => uptoBulk d + 1
  | .map entries => uptoBulkEntries entries + 1
  | .held _ => 1
def uptoBulkAll {H : Type} : List (DataW H) → Nat
  | [] => 0
  | d :: r => uptoBulk d + uptoBulkAll r
def uptoBulkEntries {H : Type} : List (Lit × DataW H) → Nat
  | [] => 0
  | x :: r => uptoBulkEntry x + uptoBulkEntries r
def uptoBulkEntry {H : Type} : Lit × DataW H → Nat
  | (.string bytes, d) => bytes.length + uptoBulk d + 1
  | (_, d) => uptoBulk d + 1
 end
def uptoSmall : (H : Type) → List (DataW H) → Bool := fun _ ds => decide (uptoBulkAll ds ≤ 1048576)
def OpenSpec.upto (s : _root_.Go.ChangeSpec) : _root_.Go.OpenSpec := { _root_.Go.OpenSpec.ofChange s with cond := some uptoSmall }

/-- 'laws.FnExactIsWorm', WHERE WHAT IT READS IS OF BULK AT MOST 1048576: true; the input reads as it did. -/
def fnExactIsWormUptoRow : OpenClaim := { program := "ytioppaofihbmpaadoor", sum := "da6c95ffe5917161e14eef1dcd44d536c355f9b262a413fc78ea66c816cdcdcb", func := "loop.example/g01276/laws.FnExactIsWorm", spec := "fnExactIsWorm", inPlace := ["internal/bytealg.IndexByteString", "internal/bytealg.IndexString"], named := ["unicode/utf8.first", "unicode/utf8.acceptRanges", "internal/bytealg.MaxLen"], apart := false, laid := [("unicode/utf8.acceptRanges", laid_unicode_utf8_acceptRanges), ("unicode/utf8.first", laid_unicode_utf8_first)], narrowed := true }
def FnExactIsWormUptoSaid : Prop := fnExactIsWormUptoRow.holds Tryd.pinned (OpenSpec.upto fnExactIsWormSpec)

/-- 'laws.FnExactIsTaste', WHERE WHAT IT READS IS OF BULK AT MOST 1048576: true; the input reads as it did. -/
def fnExactIsTasteUptoRow : OpenClaim := { program := "ytioppaofihbmpaadoor", sum := "da6c95ffe5917161e14eef1dcd44d536c355f9b262a413fc78ea66c816cdcdcb", func := "loop.example/g01276/laws.FnExactIsTaste", spec := "fnExactIsTaste", named := ["loop.example/g01276/impl.tastes"], apart := false, laid := [("loop.example/g01276/impl.tastes", laid_loop_example_g01276_impl_tastes)], narrowed := true }
def FnExactIsTasteUptoSaid : Prop := fnExactIsTasteUptoRow.holds Tryd.pinned (OpenSpec.upto fnExactIsTasteSpec)

/-- 'laws.FnExactLinesLeft', WHERE WHAT IT READS IS OF BULK AT MOST 1048576: true; the input reads as it did. -/
def fnExactLinesLeftUptoRow : OpenClaim := { program := "ytioppaofihbmpaadoor", sum := "da6c95ffe5917161e14eef1dcd44d536c355f9b262a413fc78ea66c816cdcdcb", func := "loop.example/g01276/laws.FnExactLinesLeft", spec := "fnExactLinesLeft", inPlace := ["internal/bytealg.IndexByteString", "internal/bytealg.IndexString", "internal/bytealg.CountString"], named := ["unicode/utf8.first", "unicode/utf8.acceptRanges", "internal/bytealg.MaxLen"], apart := false, laid := [("unicode/utf8.acceptRanges", laid_unicode_utf8_acceptRanges), ("unicode/utf8.first", laid_unicode_utf8_first)], narrowed := true }
def FnExactLinesLeftUptoSaid : Prop := fnExactLinesLeftUptoRow.holds Tryd.pinned (OpenSpec.upto fnExactLinesLeftSpec)

/-- 'laws.FnExactLinesAt', WHERE WHAT IT READS IS OF BULK AT MOST 1048576: true; the input reads as it did. -/
def fnExactLinesAtUptoRow : OpenClaim := { program := "ytioppaofihbmpaadoor", sum := "da6c95ffe5917161e14eef1dcd44d536c355f9b262a413fc78ea66c816cdcdcb", func := "loop.example/g01276/laws.FnExactLinesAt", spec := "fnExactLinesAt", inPlace := ["internal/bytealg.IndexByteString", "internal/bytealg.IndexString"], named := ["unicode/utf8.first", "unicode/utf8.acceptRanges", "internal/bytealg.MaxLen"], apart := false, laid := [("unicode/utf8.acceptRanges", laid_unicode_utf8_acceptRanges), ("unicode/utf8.first", laid_unicode_utf8_first)], narrowed := true }
def FnExactLinesAtUptoSaid : Prop := fnExactLinesAtUptoRow.holds Tryd.pinned (OpenSpec.upto fnExactLinesAtSpec)

/-- 'laws.FnExactEatLine', WHERE WHAT IT READS IS OF BULK AT MOST 1048576: true; the input reads as it did. -/
def fnExactEatLineUptoRow : OpenClaim := { program := "ytioppaofihbmpaadoor", sum := "da6c95ffe5917161e14eef1dcd44d536c355f9b262a413fc78ea66c816cdcdcb", func := "loop.example/g01276/laws.FnExactEatLine", spec := "fnExactEatLine", inPlace := ["internal/bytealg.IndexByteString", "internal/bytealg.IndexString"], named := ["unicode/utf8.first", "unicode/utf8.acceptRanges", "loop.example/g01276/impl.tastes", "internal/bytealg.MaxLen"], apart := false, laid := [("unicode/utf8.acceptRanges", laid_unicode_utf8_acceptRanges), ("loop.example/g01276/impl.tastes", laid_loop_example_g01276_impl_tastes), ("unicode/utf8.first", laid_unicode_utf8_first)], narrowed := true }
def FnExactEatLineUptoSaid : Prop := fnExactEatLineUptoRow.holds Tryd.pinned (OpenSpec.upto fnExactEatLineSpec)

/-- 'laws.FnExactWormAfter', WHERE WHAT IT READS IS OF BULK AT MOST 1048576: true; the input reads as it did. -/
def fnExactWormAfterUptoRow : OpenClaim := { program := "ytioppaofihbmpaadoor", sum := "da6c95ffe5917161e14eef1dcd44d536c355f9b262a413fc78ea66c816cdcdcb", func := "loop.example/g01276/laws.FnExactWormAfter", spec := "fnExactWormAfter", inPlace := ["internal/bytealg.IndexByteString", "internal/bytealg.IndexString"], named := ["unicode/utf8.first", "unicode/utf8.acceptRanges", "loop.example/g01276/impl.tastes", "internal/bytealg.MaxLen"], apart := false, laid := [("unicode/utf8.acceptRanges", laid_unicode_utf8_acceptRanges), ("loop.example/g01276/impl.tastes", laid_loop_example_g01276_impl_tastes), ("unicode/utf8.first", laid_unicode_utf8_first)], narrowed := true }
def FnExactWormAfterUptoSaid : Prop := fnExactWormAfterUptoRow.holds Tryd.pinned (OpenSpec.upto fnExactWormAfterSpec)

/-- 'laws.FnExactLifeOf', WHERE WHAT IT READS IS OF BULK AT MOST 1048576: true; the input reads as it did. -/
def fnExactLifeOfUptoRow : OpenClaim := { program := "ytioppaofihbmpaadoor", sum := "da6c95ffe5917161e14eef1dcd44d536c355f9b262a413fc78ea66c816cdcdcb", func := "loop.example/g01276/laws.FnExactLifeOf", spec := "fnExactLifeOf", inPlace := ["internal/bytealg.IndexByteString", "internal/bytealg.IndexString"], named := ["unicode/utf8.first", "unicode/utf8.acceptRanges", "loop.example/g01276/impl.tastes", "internal/bytealg.MaxLen"], apart := false, laid := [("unicode/utf8.acceptRanges", laid_unicode_utf8_acceptRanges), ("loop.example/g01276/impl.tastes", laid_loop_example_g01276_impl_tastes), ("unicode/utf8.first", laid_unicode_utf8_first)], narrowed := true }
def FnExactLifeOfUptoSaid : Prop := fnExactLifeOfUptoRow.holds Tryd.pinned (OpenSpec.upto fnExactLifeOfSpec)

/-- 'laws.FnExactDeathOf', WHERE WHAT IT READS IS OF BULK AT MOST 1048576: true; the input reads as it did. -/
def fnExactDeathOfUptoRow : OpenClaim := { program := "ytioppaofihbmpaadoor", sum := "da6c95ffe5917161e14eef1dcd44d536c355f9b262a413fc78ea66c816cdcdcb", func := "loop.example/g01276/laws.FnExactDeathOf", spec := "fnExactDeathOf", inPlace := ["internal/bytealg.IndexByteString", "internal/bytealg.IndexString"], named := ["unicode/utf8.first", "unicode/utf8.acceptRanges", "loop.example/g01276/impl.tastes", "internal/bytealg.MaxLen"], apart := false, laid := [("unicode/utf8.acceptRanges", laid_unicode_utf8_acceptRanges), ("loop.example/g01276/impl.tastes", laid_loop_example_g01276_impl_tastes), ("unicode/utf8.first", laid_unicode_utf8_first)], narrowed := true }
def FnExactDeathOfUptoSaid : Prop := fnExactDeathOfUptoRow.holds Tryd.pinned (OpenSpec.upto fnExactDeathOfSpec)

/-- 'laws.FnExactTrackOfWorm', WHERE WHAT IT READS IS OF BULK AT MOST 1048576: true; the input reads as it did. -/
def fnExactTrackOfWormUptoRow : OpenClaim := { program := "ytioppaofihbmpaadoor", sum := "da6c95ffe5917161e14eef1dcd44d536c355f9b262a413fc78ea66c816cdcdcb", func := "loop.example/g01276/laws.FnExactTrackOfWorm", spec := "fnExactTrackOfWorm", inPlace := ["internal/bytealg.IndexByteString", "internal/bytealg.IndexString"], named := ["unicode/utf8.first", "unicode/utf8.acceptRanges", "loop.example/g01276/impl.tastes", "internal/bytealg.MaxLen"], apart := false, laid := [("unicode/utf8.acceptRanges", laid_unicode_utf8_acceptRanges), ("loop.example/g01276/impl.tastes", laid_loop_example_g01276_impl_tastes), ("unicode/utf8.first", laid_unicode_utf8_first)], narrowed := true }
def FnExactTrackOfWormUptoSaid : Prop := fnExactTrackOfWormUptoRow.holds Tryd.pinned (OpenSpec.upto fnExactTrackOfWormSpec)

/-- 'laws.FnExactMealsOfWorm', WHERE WHAT IT READS IS OF BULK AT MOST 1048576: true; the input reads as it did. -/
def fnExactMealsOfWormUptoRow : OpenClaim := { program := "ytioppaofihbmpaadoor", sum := "da6c95ffe5917161e14eef1dcd44d536c355f9b262a413fc78ea66c816cdcdcb", func := "loop.example/g01276/laws.FnExactMealsOfWorm", spec := "fnExactMealsOfWorm", inPlace := ["internal/bytealg.IndexByteString", "internal/bytealg.IndexString"], named := ["unicode/utf8.first", "unicode/utf8.acceptRanges", "loop.example/g01276/impl.tastes", "internal/bytealg.MaxLen"], apart := false, laid := [("unicode/utf8.acceptRanges", laid_unicode_utf8_acceptRanges), ("loop.example/g01276/impl.tastes", laid_loop_example_g01276_impl_tastes), ("unicode/utf8.first", laid_unicode_utf8_first)], narrowed := true }
def FnExactMealsOfWormUptoSaid : Prop := fnExactMealsOfWormUptoRow.holds Tryd.pinned (OpenSpec.upto fnExactMealsOfWormSpec)

/-- 'laws.FnExactGiveBack', WHERE WHAT IT READS IS OF BULK AT MOST 1048576: true; the input reads as it did. -/
def fnExactGiveBackUptoRow : OpenClaim := { program := "ytioppaofihbmpaadoor", sum := "da6c95ffe5917161e14eef1dcd44d536c355f9b262a413fc78ea66c816cdcdcb", func := "loop.example/g01276/laws.FnExactGiveBack", spec := "fnExactGiveBack", inPlace := ["internal/bytealg.IndexByteString", "internal/bytealg.IndexString"], named := ["unicode/utf8.first", "unicode/utf8.acceptRanges", "internal/bytealg.MaxLen"], apart := false, laid := [("unicode/utf8.acceptRanges", laid_unicode_utf8_acceptRanges), ("unicode/utf8.first", laid_unicode_utf8_first)], narrowed := true }
def FnExactGiveBackUptoSaid : Prop := fnExactGiveBackUptoRow.holds Tryd.pinned (OpenSpec.upto fnExactGiveBackSpec)

end Rows
end Go.Proofs.YtioppaofihbmpaaDoor
