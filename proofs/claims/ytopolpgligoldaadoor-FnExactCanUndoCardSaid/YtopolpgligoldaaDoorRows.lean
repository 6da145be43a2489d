/-
  NARROWER THAN 'FOR EVERY INPUT', by the rows' own cells (each row's printed sentence says how): FnExactIsTable: laid · FnExactIsScene: laid · FnExactRowOf: laid · FnExactEmptyScene: laid · FnExactStepScene: laid · FnExactSceneAfter: laid · FnExactCanUndo: laid · FnExactUndoScene: laid · FnExactLoopOfScene: laid · FnExactPaintedAfter: laid · FnExactRenameStates: laid.
  DERIVED. THE GIVEN ROWS OF THIS SEAT. 11 by the template 'for every input the law returns true; each argument reads behind the call as it read before'; 0 by the template 'total and deterministic' (their statements: YtopolpgligoldaaDoorTotals.lean).
  GIVEN WITH THE SEED: the statements are not yours to turn. If you find one false, say at which input.
  Laid BY PROGRAM, IN A SANDBOX (cutbox-rows.mjs): the forced cells as the released guide's own fill.sh prints them over the translation 62a4d4c4735dacfd… (all of the seat's roots in one cut). By AI agents, Wed Nov 11 2026. No macro, syntax, notation, axiom, sorry.
-/
import Derived.Test.YtopolpgligoldaaDoorChecked
import GoSem.Claim
import GoSem.ClaimJoined
import GoSem.ClaimMapViews
import Derived.JoinedTies
import Derived.KernelRfl
namespace Go.Proofs.YtopolpgligoldaaDoor
/- THE CELL 'sum', in the pinned program and in every row, IS THE sha256 OF THE DUMP (.gsa) THAT YtopolpgligoldaaDoorProg.lean LOADS. Nothing in Lean hashes anything: it is a label: what it is worth is what the hold of that sum in a sandbox is worth. -/
noncomputable def Tryd.pinned : Pinned := { name := "ytopolpgligoldaadoor", sum := "62a4d4c4735dacfddaf7756376ce9b0ea06cc2eb9fc490c24013b226720761f7", checked := Tryd.checked }
namespace Rows
def none {H : Type} : Left H := { results := [], args := [] }

/- WHAT THE LISTED PACKAGE-LEVEL VARIABLES READ AS WHEN THE CALL BEGINS. Each datum BY PROGRAM (the guide's laid-datum.mjs) off the statement by which the dump's own 'gosem.cut.vars' lays the variable. In a bare row this is a premise. The card (YtopolpgligoldaaDoorCards.lean) ties it to the program's text. -/
def laid_loop_example_g01276_impl_turnSigns {H : Type} : DataW H := .agg [.lit (.string [78]), .lit (.string [82]), .lit (.string [85]), .lit (.string [76])]
def laid_math_bits_deBruijn32tab {H : Type} : DataW H := .agg [.lit (.int .u8 0), .lit (.int .u8 1), .lit (.int .u8 28), .lit (.int .u8 2), .lit (.int .u8 29), .lit (.int .u8 14), .lit (.int .u8 24), .lit (.int .u8 3), .lit (.int .u8 30), .lit (.int .u8 22), .lit (.int .u8 20), .lit (.int .u8 15), .lit (.int .u8 25), .lit (.int .u8 17), .lit (.int .u8 4), .lit (.int .u8 8), .lit (.int .u8 31), .lit (.int .u8 27), .lit (.int .u8 13), .lit (.int .u8 23), .lit (.int .u8 21), .lit (.int .u8 19), .lit (.int .u8 16), .lit (.int .u8 7), .lit (.int .u8 26), .lit (.int .u8 12), .lit (.int .u8 18), .lit (.int .u8 6), .lit (.int .u8 11), .lit (.int .u8 5), .lit (.int .u8 10), .lit (.int .u8 9)]
def laid_math_bits_deBruijn64tab {H : Type} : DataW H := .agg [.lit (.int .u8 0), .lit (.int .u8 1), .lit (.int .u8 56), .lit (.int .u8 2), .lit (.int .u8 57), .lit (.int .u8 49), .lit (.int .u8 28), .lit (.int .u8 3), .lit (.int .u8 61), .lit (.int .u8 58), .lit (.int .u8 42), .lit (.int .u8 50), .lit (.int .u8 38), .lit (.int .u8 29), .lit (.int .u8 17), .lit (.int .u8 4), .lit (.int .u8 62), .lit (.int .u8 47), .lit (.int .u8 59), .lit (.int .u8 36), .lit (.int .u8 45), .lit (.int .u8 43), .lit (.int .u8 51), .lit (.int .u8 22), .lit (.int .u8 53), .lit (.int .u8 39), .lit (.int .u8 33), .lit (.int .u8 30), .lit (.int .u8 24), .lit (.int .u8 18), .lit (.int .u8 12), .lit (.int .u8 5), .lit (.int .u8 63), .lit (.int .u8 55), .lit (.int .u8 48), .lit (.int .u8 27), .lit (.int .u8 60), .lit (.int .u8 41), .lit (.int .u8 37), .lit (.int .u8 16), .lit (.int .u8 46), .lit (.int .u8 35), .lit (.int .u8 44), .lit (.int .u8 21), .lit (.int .u8 52), .lit (.int .u8 32), .lit (.int .u8 23), .lit (.int .u8 11), .lit (.int .u8 54), .lit (.int .u8 26), .lit (.int .u8 40), .lit (.int .u8 15), .lit (.int .u8 34), .lit (.int .u8 20), .lit (.int .u8 31), .lit (.int .u8 10), .lit (.int .u8 25), .lit (.int .u8 14), .lit (.int .u8 19), .lit (.int .u8 9), .lit (.int .u8 13), .lit (.int .u8 8), .lit (.int .u8 7), .lit (.int .u8 6)]
def laid_internal_strconv_uint64pow10 {H : Type} : DataW H := .agg [.lit (.int .u64 1), .lit (.int .u64 10), .lit (.int .u64 100), .lit (.int .u64 1000), .lit (.int .u64 10000), .lit (.int .u64 100000), .lit (.int .u64 1000000), .lit (.int .u64 10000000), .lit (.int .u64 100000000), .lit (.int .u64 1000000000), .lit (.int .u64 10000000000), .lit (.int .u64 100000000000), .lit (.int .u64 1000000000000), .lit (.int .u64 10000000000000), .lit (.int .u64 100000000000000), .lit (.int .u64 1000000000000000), .lit (.int .u64 10000000000000000), .lit (.int .u64 100000000000000000), .lit (.int .u64 1000000000000000000), .lit (.int .u64 10000000000000000000)]

/-- 'laws.FnExactIsTable': WHATEVER THE INPUT: true; the input reads as it did. -/
def fnExactIsTableSpec : ChangeSpec := { name := "fnExactIsTable", vars := ["loop.example/g01276/impl.turnSigns"], fn := fun _ => fun
  | [d, g1] => { results := [.lit (.bool true)], args := [d], vars := [g1] }
  | _ => none }
def fnExactIsTableRow : OpenClaim := { program := "ytopolpgligoldaadoor", sum := "62a4d4c4735dacfddaf7756376ce9b0ea06cc2eb9fc490c24013b226720761f7", func := "loop.example/g01276/laws.FnExactIsTable", spec := "fnExactIsTable", named := ["loop.example/g01276/impl.turnSigns"], plainKeys := false, apart := false, laid := [("loop.example/g01276/impl.turnSigns", laid_loop_example_g01276_impl_turnSigns)] }
def FnExactIsTableSaid : Prop := fnExactIsTableRow.holds Tryd.pinned (OpenSpec.ofChange fnExactIsTableSpec)

/-- ITS FALSE NEIGHBOUR: 'it returns false'. Refute it at one input. -/
def fnExactIsTableWrong : ChangeSpec := { name := "fnExactIsTable", vars := ["loop.example/g01276/impl.turnSigns"], fn := fun _ => fun
  | [d, g1] => { results := [.lit (.bool false)], args := [d], vars := [g1] }
  | _ => none }
def FnExactIsTableWrongFalsely : Prop := fnExactIsTableRow.holds Tryd.pinned (OpenSpec.ofChange fnExactIsTableWrong)

/-- 'laws.FnExactIsScene': WHATEVER THE INPUT: true; the input reads as it did. -/
def fnExactIsSceneSpec : ChangeSpec := { name := "fnExactIsScene", vars := ["loop.example/g01276/impl.turnSigns"], fn := fun _ => fun
  | [d, g1] => { results := [.lit (.bool true)], args := [d], vars := [g1] }
  | _ => none }
def fnExactIsSceneRow : OpenClaim := { program := "ytopolpgligoldaadoor", sum := "62a4d4c4735dacfddaf7756376ce9b0ea06cc2eb9fc490c24013b226720761f7", func := "loop.example/g01276/laws.FnExactIsScene", spec := "fnExactIsScene", named := ["loop.example/g01276/impl.turnSigns"], plainKeys := false, apart := false, laid := [("loop.example/g01276/impl.turnSigns", laid_loop_example_g01276_impl_turnSigns)] }
def FnExactIsSceneSaid : Prop := fnExactIsSceneRow.holds Tryd.pinned (OpenSpec.ofChange fnExactIsSceneSpec)

/-- ITS FALSE NEIGHBOUR: 'it returns false'. Refute it at one input. -/
def fnExactIsSceneWrong : ChangeSpec := { name := "fnExactIsScene", vars := ["loop.example/g01276/impl.turnSigns"], fn := fun _ => fun
  | [d, g1] => { results := [.lit (.bool false)], args := [d], vars := [g1] }
  | _ => none }
def FnExactIsSceneWrongFalsely : Prop := fnExactIsSceneRow.holds Tryd.pinned (OpenSpec.ofChange fnExactIsSceneWrong)

/-- 'laws.FnExactRowOf': WHATEVER THE INPUT: true; the input reads as it did. -/
def fnExactRowOfSpec : ChangeSpec := { name := "fnExactRowOf", vars := ["loop.example/g01276/impl.turnSigns"], fn := fun _ => fun
  | [d1, d2, d3, g1] => { results := [.lit (.bool true)], args := [d1, d2, d3], vars := [g1] }
  | _ => none }
def fnExactRowOfRow : OpenClaim := { program := "ytopolpgligoldaadoor", sum := "62a4d4c4735dacfddaf7756376ce9b0ea06cc2eb9fc490c24013b226720761f7", func := "loop.example/g01276/laws.FnExactRowOf", spec := "fnExactRowOf", named := ["loop.example/g01276/impl.turnSigns"], plainKeys := false, apart := false, laid := [("loop.example/g01276/impl.turnSigns", laid_loop_example_g01276_impl_turnSigns)] }
def FnExactRowOfSaid : Prop := fnExactRowOfRow.holds Tryd.pinned (OpenSpec.ofChange fnExactRowOfSpec)

/-- ITS FALSE NEIGHBOUR: 'it returns false'. Refute it at one input. -/
def fnExactRowOfWrong : ChangeSpec := { name := "fnExactRowOf", vars := ["loop.example/g01276/impl.turnSigns"], fn := fun _ => fun
  | [d1, d2, d3, g1] => { results := [.lit (.bool false)], args := [d1, d2, d3], vars := [g1] }
  | _ => none }
def FnExactRowOfWrongFalsely : Prop := fnExactRowOfRow.holds Tryd.pinned (OpenSpec.ofChange fnExactRowOfWrong)

/-- 'laws.FnExactEmptyScene': WHATEVER THE INPUT: true; the input reads as it did. -/
def fnExactEmptySceneSpec : ChangeSpec := { name := "fnExactEmptyScene", vars := ["loop.example/g01276/impl.turnSigns"], fn := fun _ => fun
  | [d1, d2, d3, g1] => { results := [.lit (.bool true)], args := [d1, d2, d3], vars := [g1] }
  | _ => none }
def fnExactEmptySceneRow : OpenClaim := { program := "ytopolpgligoldaadoor", sum := "62a4d4c4735dacfddaf7756376ce9b0ea06cc2eb9fc490c24013b226720761f7", func := "loop.example/g01276/laws.FnExactEmptyScene", spec := "fnExactEmptyScene", inPlace := ["internal/abi.NoEscape", "internal/bytealg.MakeNoZero"], named := ["loop.example/g01276/impl.turnSigns"], plainKeys := false, apart := false, laid := [("loop.example/g01276/impl.turnSigns", laid_loop_example_g01276_impl_turnSigns)] }
def FnExactEmptySceneSaid : Prop := fnExactEmptySceneRow.holds Tryd.pinned (OpenSpec.ofChange fnExactEmptySceneSpec)

/-- ITS FALSE NEIGHBOUR: 'it returns false'. Refute it at one input. -/
def fnExactEmptySceneWrong : ChangeSpec := { name := "fnExactEmptyScene", vars := ["loop.example/g01276/impl.turnSigns"], fn := fun _ => fun
  | [d1, d2, d3, g1] => { results := [.lit (.bool false)], args := [d1, d2, d3], vars := [g1] }
  | _ => none }
def FnExactEmptySceneWrongFalsely : Prop := fnExactEmptySceneRow.holds Tryd.pinned (OpenSpec.ofChange fnExactEmptySceneWrong)

/-- 'laws.FnExactStepScene': WHATEVER THE INPUT: true; the input reads as it did. -/
def fnExactStepSceneSpec : ChangeSpec := { name := "fnExactStepScene", vars := ["loop.example/g01276/impl.turnSigns"], fn := fun _ => fun
  | [d, g1] => { results := [.lit (.bool true)], args := [d], vars := [g1] }
  | _ => none }
def fnExactStepSceneRow : OpenClaim := { program := "ytopolpgligoldaadoor", sum := "62a4d4c4735dacfddaf7756376ce9b0ea06cc2eb9fc490c24013b226720761f7", func := "loop.example/g01276/laws.FnExactStepScene", spec := "fnExactStepScene", unfollowed := true, recurses := true, named := ["loop.example/g01276/impl.turnSigns", "internal/strconv.uint64pow10", "math/bits.deBruijn32tab", "math/bits.deBruijn64tab"], plainKeys := false, apart := false, laid := [("math/bits.deBruijn32tab", laid_math_bits_deBruijn32tab), ("math/bits.deBruijn64tab", laid_math_bits_deBruijn64tab), ("internal/strconv.uint64pow10", laid_internal_strconv_uint64pow10), ("loop.example/g01276/impl.turnSigns", laid_loop_example_g01276_impl_turnSigns)] }
def FnExactStepSceneSaid : Prop := fnExactStepSceneRow.holds Tryd.pinned (OpenSpec.ofChange fnExactStepSceneSpec)

/-- ITS FALSE NEIGHBOUR: 'it returns false'. Refute it at one input. -/
def fnExactStepSceneWrong : ChangeSpec := { name := "fnExactStepScene", vars := ["loop.example/g01276/impl.turnSigns"], fn := fun _ => fun
  | [d, g1] => { results := [.lit (.bool false)], args := [d], vars := [g1] }
  | _ => none }
def FnExactStepSceneWrongFalsely : Prop := fnExactStepSceneRow.holds Tryd.pinned (OpenSpec.ofChange fnExactStepSceneWrong)

/-- 'laws.FnExactSceneAfter': WHATEVER THE INPUT: true; the input reads as it did. -/
def fnExactSceneAfterSpec : ChangeSpec := { name := "fnExactSceneAfter", vars := ["loop.example/g01276/impl.turnSigns"], fn := fun _ => fun
  | [d1, d2, g1] => { results := [.lit (.bool true)], args := [d1, d2], vars := [g1] }
  | _ => none }
def fnExactSceneAfterRow : OpenClaim := { program := "ytopolpgligoldaadoor", sum := "62a4d4c4735dacfddaf7756376ce9b0ea06cc2eb9fc490c24013b226720761f7", func := "loop.example/g01276/laws.FnExactSceneAfter", spec := "fnExactSceneAfter", unfollowed := true, recurses := true, named := ["loop.example/g01276/impl.turnSigns", "internal/strconv.uint64pow10", "math/bits.deBruijn32tab", "math/bits.deBruijn64tab"], plainKeys := false, apart := false, laid := [("math/bits.deBruijn32tab", laid_math_bits_deBruijn32tab), ("math/bits.deBruijn64tab", laid_math_bits_deBruijn64tab), ("internal/strconv.uint64pow10", laid_internal_strconv_uint64pow10), ("loop.example/g01276/impl.turnSigns", laid_loop_example_g01276_impl_turnSigns)] }
def FnExactSceneAfterSaid : Prop := fnExactSceneAfterRow.holds Tryd.pinned (OpenSpec.ofChange fnExactSceneAfterSpec)

/-- ITS FALSE NEIGHBOUR: 'it returns false'. Refute it at one input. -/
def fnExactSceneAfterWrong : ChangeSpec := { name := "fnExactSceneAfter", vars := ["loop.example/g01276/impl.turnSigns"], fn := fun _ => fun
  | [d1, d2, g1] => { results := [.lit (.bool false)], args := [d1, d2], vars := [g1] }
  | _ => none }
def FnExactSceneAfterWrongFalsely : Prop := fnExactSceneAfterRow.holds Tryd.pinned (OpenSpec.ofChange fnExactSceneAfterWrong)

/-- 'laws.FnExactCanUndo': WHATEVER THE INPUT: true; the input reads as it did. -/
def fnExactCanUndoSpec : ChangeSpec := { name := "fnExactCanUndo", vars := ["loop.example/g01276/impl.turnSigns"], fn := fun _ => fun
  | [d, g1] => { results := [.lit (.bool true)], args := [d], vars := [g1] }
  | _ => none }
def fnExactCanUndoRow : OpenClaim := { program := "ytopolpgligoldaadoor", sum := "62a4d4c4735dacfddaf7756376ce9b0ea06cc2eb9fc490c24013b226720761f7", func := "loop.example/g01276/laws.FnExactCanUndo", spec := "fnExactCanUndo", unfollowed := true, recurses := true, named := ["loop.example/g01276/impl.turnSigns"], plainKeys := false, apart := false, laid := [("loop.example/g01276/impl.turnSigns", laid_loop_example_g01276_impl_turnSigns)] }
def FnExactCanUndoSaid : Prop := fnExactCanUndoRow.holds Tryd.pinned (OpenSpec.ofChange fnExactCanUndoSpec)

/-- ITS FALSE NEIGHBOUR: 'it returns false'. Refute it at one input. -/
def fnExactCanUndoWrong : ChangeSpec := { name := "fnExactCanUndo", vars := ["loop.example/g01276/impl.turnSigns"], fn := fun _ => fun
  | [d, g1] => { results := [.lit (.bool false)], args := [d], vars := [g1] }
  | _ => none }
def FnExactCanUndoWrongFalsely : Prop := fnExactCanUndoRow.holds Tryd.pinned (OpenSpec.ofChange fnExactCanUndoWrong)

/-- 'laws.FnExactUndoScene': WHATEVER THE INPUT: true; the input reads as it did. -/
def fnExactUndoSceneSpec : ChangeSpec := { name := "fnExactUndoScene", vars := ["loop.example/g01276/impl.turnSigns"], fn := fun _ => fun
  | [d, g1] => { results := [.lit (.bool true)], args := [d], vars := [g1] }
  | _ => none }
def fnExactUndoSceneRow : OpenClaim := { program := "ytopolpgligoldaadoor", sum := "62a4d4c4735dacfddaf7756376ce9b0ea06cc2eb9fc490c24013b226720761f7", func := "loop.example/g01276/laws.FnExactUndoScene", spec := "fnExactUndoScene", unfollowed := true, recurses := true, named := ["loop.example/g01276/impl.turnSigns", "internal/strconv.uint64pow10", "math/bits.deBruijn32tab", "math/bits.deBruijn64tab"], plainKeys := false, apart := false, laid := [("math/bits.deBruijn32tab", laid_math_bits_deBruijn32tab), ("math/bits.deBruijn64tab", laid_math_bits_deBruijn64tab), ("internal/strconv.uint64pow10", laid_internal_strconv_uint64pow10), ("loop.example/g01276/impl.turnSigns", laid_loop_example_g01276_impl_turnSigns)] }
def FnExactUndoSceneSaid : Prop := fnExactUndoSceneRow.holds Tryd.pinned (OpenSpec.ofChange fnExactUndoSceneSpec)

/-- ITS FALSE NEIGHBOUR: 'it returns false'. Refute it at one input. -/
def fnExactUndoSceneWrong : ChangeSpec := { name := "fnExactUndoScene", vars := ["loop.example/g01276/impl.turnSigns"], fn := fun _ => fun
  | [d, g1] => { results := [.lit (.bool false)], args := [d], vars := [g1] }
  | _ => none }
def FnExactUndoSceneWrongFalsely : Prop := fnExactUndoSceneRow.holds Tryd.pinned (OpenSpec.ofChange fnExactUndoSceneWrong)

/-- 'laws.FnExactLoopOfScene': WHATEVER THE INPUT: true; the input reads as it did. -/
def fnExactLoopOfSceneSpec : ChangeSpec := { name := "fnExactLoopOfScene", vars := ["loop.example/g01276/impl.turnSigns"], fn := fun _ => fun
  | [d, g1] => { results := [.lit (.bool true)], args := [d], vars := [g1] }
  | _ => none }
def fnExactLoopOfSceneRow : OpenClaim := { program := "ytopolpgligoldaadoor", sum := "62a4d4c4735dacfddaf7756376ce9b0ea06cc2eb9fc490c24013b226720761f7", func := "loop.example/g01276/laws.FnExactLoopOfScene", spec := "fnExactLoopOfScene", recurses := true, named := ["loop.example/g01276/impl.turnSigns", "internal/strconv.uint64pow10", "math/bits.deBruijn32tab", "math/bits.deBruijn64tab"], plainKeys := false, apart := false, laid := [("math/bits.deBruijn32tab", laid_math_bits_deBruijn32tab), ("math/bits.deBruijn64tab", laid_math_bits_deBruijn64tab), ("internal/strconv.uint64pow10", laid_internal_strconv_uint64pow10), ("loop.example/g01276/impl.turnSigns", laid_loop_example_g01276_impl_turnSigns)] }
def FnExactLoopOfSceneSaid : Prop := fnExactLoopOfSceneRow.holds Tryd.pinned (OpenSpec.ofChange fnExactLoopOfSceneSpec)

/-- ITS FALSE NEIGHBOUR: 'it returns false'. Refute it at one input. -/
def fnExactLoopOfSceneWrong : ChangeSpec := { name := "fnExactLoopOfScene", vars := ["loop.example/g01276/impl.turnSigns"], fn := fun _ => fun
  | [d, g1] => { results := [.lit (.bool false)], args := [d], vars := [g1] }
  | _ => none }
def FnExactLoopOfSceneWrongFalsely : Prop := fnExactLoopOfSceneRow.holds Tryd.pinned (OpenSpec.ofChange fnExactLoopOfSceneWrong)

/-- 'laws.FnExactPaintedAfter': WHATEVER THE INPUT: true; the input reads as it did. -/
def fnExactPaintedAfterSpec : ChangeSpec := { name := "fnExactPaintedAfter", vars := ["loop.example/g01276/impl.turnSigns"], fn := fun _ => fun
  | [d1, d2, g1] => { results := [.lit (.bool true)], args := [d1, d2], vars := [g1] }
  | _ => none }
def fnExactPaintedAfterRow : OpenClaim := { program := "ytopolpgligoldaadoor", sum := "62a4d4c4735dacfddaf7756376ce9b0ea06cc2eb9fc490c24013b226720761f7", func := "loop.example/g01276/laws.FnExactPaintedAfter", spec := "fnExactPaintedAfter", inPlace := ["internal/bytealg.CountString", "internal/bytealg.IndexByteString", "internal/bytealg.IndexString"], unfollowed := true, recurses := true, named := ["loop.example/g01276/impl.turnSigns", "internal/strconv.uint64pow10", "math/bits.deBruijn32tab", "math/bits.deBruijn64tab", "internal/bytealg.MaxLen"], plainKeys := false, apart := false, laid := [("math/bits.deBruijn32tab", laid_math_bits_deBruijn32tab), ("math/bits.deBruijn64tab", laid_math_bits_deBruijn64tab), ("internal/strconv.uint64pow10", laid_internal_strconv_uint64pow10), ("loop.example/g01276/impl.turnSigns", laid_loop_example_g01276_impl_turnSigns)] }
def FnExactPaintedAfterSaid : Prop := fnExactPaintedAfterRow.holds Tryd.pinned (OpenSpec.ofChange fnExactPaintedAfterSpec)

/-- ITS FALSE NEIGHBOUR: 'it returns false'. Refute it at one input. -/
def fnExactPaintedAfterWrong : ChangeSpec := { name := "fnExactPaintedAfter", vars := ["loop.example/g01276/impl.turnSigns"], fn := fun _ => fun
  | [d1, d2, g1] => { results := [.lit (.bool false)], args := [d1, d2], vars := [g1] }
  | _ => none }
def FnExactPaintedAfterWrongFalsely : Prop := fnExactPaintedAfterRow.holds Tryd.pinned (OpenSpec.ofChange fnExactPaintedAfterWrong)

/-- 'laws.FnExactRenameStates': WHATEVER THE INPUT: true; the input reads as it did. -/
def fnExactRenameStatesSpec : ChangeSpec := { name := "fnExactRenameStates", vars := ["loop.example/g01276/impl.turnSigns"], fn := fun _ => fun
  | [d1, d2, g1] => { results := [.lit (.bool true)], args := [d1, d2], vars := [g1] }
  | _ => none }
def fnExactRenameStatesRow : OpenClaim := { program := "ytopolpgligoldaadoor", sum := "62a4d4c4735dacfddaf7756376ce9b0ea06cc2eb9fc490c24013b226720761f7", func := "loop.example/g01276/laws.FnExactRenameStates", spec := "fnExactRenameStates", unfollowed := true, recurses := true, named := ["loop.example/g01276/impl.turnSigns"], plainKeys := false, apart := false, laid := [("loop.example/g01276/impl.turnSigns", laid_loop_example_g01276_impl_turnSigns)] }
def FnExactRenameStatesSaid : Prop := fnExactRenameStatesRow.holds Tryd.pinned (OpenSpec.ofChange fnExactRenameStatesSpec)

/-- ITS FALSE NEIGHBOUR: 'it returns false'. Refute it at one input. -/
def fnExactRenameStatesWrong : ChangeSpec := { name := "fnExactRenameStates", vars := ["loop.example/g01276/impl.turnSigns"], fn := fun _ => fun
  | [d1, d2, g1] => { results := [.lit (.bool false)], args := [d1, d2], vars := [g1] }
  | _ => none }
def FnExactRenameStatesWrongFalsely : Prop := fnExactRenameStatesRow.holds Tryd.pinned (OpenSpec.ofChange fnExactRenameStatesWrong)

/- THE SECOND FORM. 'bulk': how many values and letters a reading holds, each counted each time it is reached (what is shared counts as often as it is met; a slice's spare places count too). A statement '..UptoSaid' is the law's where the arguments, and the package variables that the reading takes, are together of bulk at most 1048576: NARROWER than '..Said'. Prove '..Said' where nothing that the law and all that it calls make is longer than what came in: it says more and counts as full. Else prove '..UptoSaid'. A law counts once. -/
mutual
def uptoBulk {H : Type} : DataW H → Nat
  | .lit (.string bytes) => bytes.length + 1
  | .lit _ => 1
  | .nil => 1
  | .ptr d => uptoBulk d + 1
  | .slice elems spare => uptoBulkAll elems + uptoBulkAll spare + 1
  | .agg parts => uptoBulkAll parts + 1
  | .iface _ d => uptoBulk d + 1
  | .map entries => uptoBulkEntries entries + 1
  | .held _ => 1
def uptoBulkAll {H : Type} : List (DataW H) → Nat
  | [] => 0
  | d :: r => uptoBulk d + uptoBulkAll r
def uptoBulkEntries {H : Type} : List (Lit × DataW H) → Nat
  | [] => 0
  | x :: r => uptoBulkEntry x + uptoBulkEntries r
def uptoBulkEntry {H : Type} : Lit × DataW H → Nat
  | (.string bytes, d) => bytes.length + uptoBulk d + 1
  | (_, d) => uptoBulk d + 1
 end
def uptoSmall : (H : Type) → List (DataW H) → Bool := fun _ ds => decide (uptoBulkAll ds ≤ 1048576)
def OpenSpec.upto (s : _root_.Go.ChangeSpec) : _root_.Go.OpenSpec := { _root_.Go.OpenSpec.ofChange s with cond := some uptoSmall }

/-- 'laws.FnExactIsTable', WHERE WHAT IT READS IS OF BULK AT MOST 1048576: true; the input reads as it did. -/
def fnExactIsTableUptoRow : OpenClaim := { program := "ytopolpgligoldaadoor", sum := "62a4d4c4735dacfddaf7756376ce9b0ea06cc2eb9fc490c24013b226720761f7", func := "loop.example/g01276/laws.FnExactIsTable", spec := "fnExactIsTable", named := ["loop.example/g01276/impl.turnSigns"], plainKeys := false, apart := false, laid := [("loop.example/g01276/impl.turnSigns", laid_loop_example_g01276_impl_turnSigns)], narrowed := true }
def FnExactIsTableUptoSaid : Prop := fnExactIsTableUptoRow.holds Tryd.pinned (OpenSpec.upto fnExactIsTableSpec)

/-- 'laws.FnExactIsScene', WHERE WHAT IT READS IS OF BULK AT MOST 1048576: true; the input reads as it did. -/
def fnExactIsSceneUptoRow : OpenClaim := { program := "ytopolpgligoldaadoor", sum := "62a4d4c4735dacfddaf7756376ce9b0ea06cc2eb9fc490c24013b226720761f7", func := "loop.example/g01276/laws.FnExactIsScene", spec := "fnExactIsScene", named := ["loop.example/g01276/impl.turnSigns"], plainKeys := false, apart := false, laid := [("loop.example/g01276/impl.turnSigns", laid_loop_example_g01276_impl_turnSigns)], narrowed := true }
def FnExactIsSceneUptoSaid : Prop := fnExactIsSceneUptoRow.holds Tryd.pinned (OpenSpec.upto fnExactIsSceneSpec)

/-- 'laws.FnExactRowOf', WHERE WHAT IT READS IS OF BULK AT MOST 1048576: true; the input reads as it did. -/
def fnExactRowOfUptoRow : OpenClaim := { program := "ytopolpgligoldaadoor", sum := "62a4d4c4735dacfddaf7756376ce9b0ea06cc2eb9fc490c24013b226720761f7", func := "loop.example/g01276/laws.FnExactRowOf", spec := "fnExactRowOf", named := ["loop.example/g01276/impl.turnSigns"], plainKeys := false, apart := false, laid := [("loop.example/g01276/impl.turnSigns", laid_loop_example_g01276_impl_turnSigns)], narrowed := true }
def FnExactRowOfUptoSaid : Prop := fnExactRowOfUptoRow.holds Tryd.pinned (OpenSpec.upto fnExactRowOfSpec)

/-- 'laws.FnExactEmptyScene', WHERE WHAT IT READS IS OF BULK AT MOST 1048576: true; the input reads as it did. -/
def fnExactEmptySceneUptoRow : OpenClaim := { program := "ytopolpgligoldaadoor", sum := "62a4d4c4735dacfddaf7756376ce9b0ea06cc2eb9fc490c24013b226720761f7", func := "loop.example/g01276/laws.FnExactEmptyScene", spec := "fnExactEmptyScene", inPlace := ["internal/abi.NoEscape", "internal/bytealg.MakeNoZero"], named := ["loop.example/g01276/impl.turnSigns"], plainKeys := false, apart := false, laid := [("loop.example/g01276/impl.turnSigns", laid_loop_example_g01276_impl_turnSigns)], narrowed := true }
def FnExactEmptySceneUptoSaid : Prop := fnExactEmptySceneUptoRow.holds Tryd.pinned (OpenSpec.upto fnExactEmptySceneSpec)

/-- 'laws.FnExactStepScene', WHERE WHAT IT READS IS OF BULK AT MOST 1048576: true; the input reads as it did. -/
def fnExactStepSceneUptoRow : OpenClaim := { program := "ytopolpgligoldaadoor", sum := "62a4d4c4735dacfddaf7756376ce9b0ea06cc2eb9fc490c24013b226720761f7", func := "loop.example/g01276/laws.FnExactStepScene", spec := "fnExactStepScene", unfollowed := true, recurses := true, named := ["loop.example/g01276/impl.turnSigns", "internal/strconv.uint64pow10", "math/bits.deBruijn32tab", "math/bits.deBruijn64tab"], plainKeys := false, apart := false, laid := [("math/bits.deBruijn32tab", laid_math_bits_deBruijn32tab), ("math/bits.deBruijn64tab", laid_math_bits_deBruijn64tab), ("internal/strconv.uint64pow10", laid_internal_strconv_uint64pow10), ("loop.example/g01276/impl.turnSigns", laid_loop_example_g01276_impl_turnSigns)], narrowed := true }
def FnExactStepSceneUptoSaid : Prop := fnExactStepSceneUptoRow.holds Tryd.pinned (OpenSpec.upto fnExactStepSceneSpec)

/-- 'laws.FnExactSceneAfter', WHERE WHAT IT READS IS OF BULK AT MOST 1048576: true; the input reads as it did. -/
def fnExactSceneAfterUptoRow : OpenClaim := { program := "ytopolpgligoldaadoor", sum := "62a4d4c4735dacfddaf7756376ce9b0ea06cc2eb9fc490c24013b226720761f7", func := "loop.example/g01276/laws.FnExactSceneAfter", spec := "fnExactSceneAfter", unfollowed := true, recurses := true, named := ["loop.example/g01276/impl.turnSigns", "internal/strconv.uint64pow10", "math/bits.deBruijn32tab", "math/bits.deBruijn64tab"], plainKeys := false, apart := false, laid := [("math/bits.deBruijn32tab", laid_math_bits_deBruijn32tab), ("math/bits.deBruijn64tab", laid_math_bits_deBruijn64tab), ("internal/strconv.uint64pow10", laid_internal_strconv_uint64pow10), ("loop.example/g01276/impl.turnSigns", laid_loop_example_g01276_impl_turnSigns)], narrowed := true }
def FnExactSceneAfterUptoSaid : Prop := fnExactSceneAfterUptoRow.holds Tryd.pinned (OpenSpec.upto fnExactSceneAfterSpec)

/-- 'laws.FnExactCanUndo', WHERE WHAT IT READS IS OF BULK AT MOST 1048576: true; the input reads as it did. -/
def fnExactCanUndoUptoRow : OpenClaim := { program := "ytopolpgligoldaadoor", sum := "62a4d4c4735dacfddaf7756376ce9b0ea06cc2eb9fc490c24013b226720761f7", func := "loop.example/g01276/laws.FnExactCanUndo", spec := "fnExactCanUndo", unfollowed := true, recurses := true, named := ["loop.example/g01276/impl.turnSigns"], plainKeys := false, apart := false, laid := [("loop.example/g01276/impl.turnSigns", laid_loop_example_g01276_impl_turnSigns)], narrowed := true }
def FnExactCanUndoUptoSaid : Prop := fnExactCanUndoUptoRow.holds Tryd.pinned (OpenSpec.upto fnExactCanUndoSpec)

/-- 'laws.FnExactUndoScene', WHERE WHAT IT READS IS OF BULK AT MOST 1048576: true; the input reads as it did. -/
def fnExactUndoSceneUptoRow : OpenClaim := { program := "ytopolpgligoldaadoor", sum := "62a4d4c4735dacfddaf7756376ce9b0ea06cc2eb9fc490c24013b226720761f7", func := "loop.example/g01276/laws.FnExactUndoScene", spec := "fnExactUndoScene", unfollowed := true, recurses := true, named := ["loop.example/g01276/impl.turnSigns", "internal/strconv.uint64pow10", "math/bits.deBruijn32tab", "math/bits.deBruijn64tab"], plainKeys := false, apart := false, laid := [("math/bits.deBruijn32tab", laid_math_bits_deBruijn32tab), ("math/bits.deBruijn64tab", laid_math_bits_deBruijn64tab), ("internal/strconv.uint64pow10", laid_internal_strconv_uint64pow10), ("loop.example/g01276/impl.turnSigns", laid_loop_example_g01276_impl_turnSigns)], narrowed := true }
def FnExactUndoSceneUptoSaid : Prop := fnExactUndoSceneUptoRow.holds Tryd.pinned (OpenSpec.upto fnExactUndoSceneSpec)

/-- 'laws.FnExactLoopOfScene', WHERE WHAT IT READS IS OF BULK AT MOST 1048576: true; the input reads as it did. -/
def fnExactLoopOfSceneUptoRow : OpenClaim := { program := "ytopolpgligoldaadoor", sum := "62a4d4c4735dacfddaf7756376ce9b0ea06cc2eb9fc490c24013b226720761f7", func := "loop.example/g01276/laws.FnExactLoopOfScene", spec := "fnExactLoopOfScene", recurses := true, named := ["loop.example/g01276/impl.turnSigns", "internal/strconv.uint64pow10", "math/bits.deBruijn32tab", "math/bits.deBruijn64tab"], plainKeys := false, apart := false, laid := [("math/bits.deBruijn32tab", laid_math_bits_deBruijn32tab), ("math/bits.deBruijn64tab", laid_math_bits_deBruijn64tab), ("internal/strconv.uint64pow10", laid_internal_strconv_uint64pow10), ("loop.example/g01276/impl.turnSigns", laid_loop_example_g01276_impl_turnSigns)], narrowed := true }
def FnExactLoopOfSceneUptoSaid : Prop := fnExactLoopOfSceneUptoRow.holds Tryd.pinned (OpenSpec.upto fnExactLoopOfSceneSpec)

/-- 'laws.FnExactPaintedAfter', WHERE WHAT IT READS IS OF BULK AT MOST 1048576: true; the input reads as it did. -/
def fnExactPaintedAfterUptoRow : OpenClaim := { program := "ytopolpgligoldaadoor", sum := "62a4d4c4735dacfddaf7756376ce9b0ea06cc2eb9fc490c24013b226720761f7", func := "loop.example/g01276/laws.FnExactPaintedAfter", spec := "fnExactPaintedAfter", inPlace := ["internal/bytealg.CountString", "internal/bytealg.IndexByteString", "internal/bytealg.IndexString"], unfollowed := true, recurses := true, named := ["loop.example/g01276/impl.turnSigns", "internal/strconv.uint64pow10", "math/bits.deBruijn32tab", "math/bits.deBruijn64tab", "internal/bytealg.MaxLen"], plainKeys := false, apart := false, laid := [("math/bits.deBruijn32tab", laid_math_bits_deBruijn32tab), ("math/bits.deBruijn64tab", laid_math_bits_deBruijn64tab), ("internal/strconv.uint64pow10", laid_internal_strconv_uint64pow10), ("loop.example/g01276/impl.turnSigns", laid_loop_example_g01276_impl_turnSigns)], narrowed := true }
def FnExactPaintedAfterUptoSaid : Prop := fnExactPaintedAfterUptoRow.holds Tryd.pinned (OpenSpec.upto fnExactPaintedAfterSpec)

/-- 'laws.FnExactRenameStates', WHERE WHAT IT READS IS OF BULK AT MOST 1048576: true; the input reads as it did. -/
def fnExactRenameStatesUptoRow : OpenClaim := { program := "ytopolpgligoldaadoor", sum := "62a4d4c4735dacfddaf7756376ce9b0ea06cc2eb9fc490c24013b226720761f7", func := "loop.example/g01276/laws.FnExactRenameStates", spec := "fnExactRenameStates", unfollowed := true, recurses := true, named := ["loop.example/g01276/impl.turnSigns"], plainKeys := false, apart := false, laid := [("loop.example/g01276/impl.turnSigns", laid_loop_example_g01276_impl_turnSigns)], narrowed := true }
def FnExactRenameStatesUptoSaid : Prop := fnExactRenameStatesUptoRow.holds Tryd.pinned (OpenSpec.upto fnExactRenameStatesSpec)

end Rows
end Go.Proofs.YtopolpgligoldaaDoor
