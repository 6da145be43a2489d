/-
  NARROWER THAN 'FOR EVERY INPUT', by the rows' own cells (each row's printed sentence says how): FnExactPeriodOf: laid · FnExactAntPeriod: laid · FnExactFirstReturn: laid · FnExactStepsBetween: laid · FnExactVisitsAfter: laid · FnExactTrackAfter: laid · FnExactCellsVisited: laid · FnExactCoverSteps: laid · FnExactMostVisited: laid · FnExactNeverVisited: laid · FnExactParseWorld: laid.
  DERIVED. THE GIVEN ROWS OF THIS SEAT. 11 by the template 'for every input the law returns true; each argument reads behind the call as it read before'; 0 by the template 'total and deterministic' (their statements: YtlechboepjmmhabDoorTotals.lean).
  GIVEN WITH THE SEED: the statements are not yours to turn. If you find one false, say at which input.
  Laid BY PROGRAM, IN A SANDBOX (cutbox-rows.mjs): the forced cells as the released guide's own fill.sh prints them over the translation 9fd101d4720996e2… (all of the seat's roots in one cut). By AI agents, Wed Nov 11 2026. No macro, syntax, notation, axiom, sorry.
-/
import Derived.Test.YtlechboepjmmhabDoorChecked
import GoSem.PinnedTables
import GoSem.Claim
import GoSem.ClaimJoined
import GoSem.ClaimMapViews
import Derived.JoinedTies
import Derived.KernelRfl
namespace Go.Proofs.YtlechboepjmmhabDoor
/- THE CELL 'sum', in the pinned program and in every row, IS THE sha256 OF THE DUMP (.gsa) THAT YtlechboepjmmhabDoorProg.lean LOADS. Nothing in Lean hashes anything: it is a label: what it is worth is what the hold of that sum in a sandbox is worth. -/
noncomputable def Tryd.pinned : Pinned := { name := "ytlechboepjmmhabdoor", sum := "9fd101d4720996e2d66f45b9452082cfb384951d5df9875f955d752ef98c3174", checked := Tryd.checked }
namespace Rows
def none {H : Type} : Left H := { results := [], args := [] }

/- WHAT THE LISTED PACKAGE-LEVEL VARIABLES READ AS WHEN THE CALL BEGINS. Each datum BY PROGRAM (the guide's laid-datum.mjs) off the statement by which the dump's own 'gosem.cut.vars' lays the variable. In a bare row this is a premise. The card (YtlechboepjmmhabDoorCards.lean) ties it to the program's text. -/
def laid_math_bits_deBruijn32tab {H : Type} : DataW H := .agg [.lit (.int .u8 0), .lit (.int .u8 1), .lit (.int .u8 28), .lit (.int .u8 2), .lit (.int .u8 29), .lit (.int .u8 14), .lit (.int .u8 24), .lit (.int .u8 3), .lit (.int .u8 30), .lit (.int .u8 22), .lit (.int .u8 20), .lit (.int .u8 15), .lit (.int .u8 25), .lit (.int .u8 17), .lit (.int .u8 4), .lit (.int .u8 8), .lit (.int .u8 31), .lit (.int .u8 27), .lit (.int .u8 13), .lit (.int .u8 23), .lit (.int .u8 21), .lit (.int .u8 19), .lit (.int .u8 16), .lit (.int .u8 7), .lit (.int .u8 26), .lit (.int .u8 12), .lit (.int .u8 18), .lit (.int .u8 6), .lit (.int .u8 11), .lit (.int .u8 5), .lit (.int .u8 10), .lit (.int .u8 9)]
def laid_math_bits_deBruijn64tab {H : Type} : DataW H := .agg [.lit (.int .u8 0), .lit (.int .u8 1), .lit (.int .u8 56), .lit (.int .u8 2), .lit (.int .u8 57), .lit (.int .u8 49), .lit (.int .u8 28), .lit (.int .u8 3), .lit (.int .u8 61), .lit (.int .u8 58), .lit (.int .u8 42), .lit (.int .u8 50), .lit (.int .u8 38), .lit (.int .u8 29), .lit (.int .u8 17), .lit (.int .u8 4), .lit (.int .u8 62), .lit (.int .u8 47), .lit (.int .u8 59), .lit (.int .u8 36), .lit (.int .u8 45), .lit (.int .u8 43), .lit (.int .u8 51), .lit (.int .u8 22), .lit (.int .u8 53), .lit (.int .u8 39), .lit (.int .u8 33), .lit (.int .u8 30), .lit (.int .u8 24), .lit (.int .u8 18), .lit (.int .u8 12), .lit (.int .u8 5), .lit (.int .u8 63), .lit (.int .u8 55), .lit (.int .u8 48), .lit (.int .u8 27), .lit (.int .u8 60), .lit (.int .u8 41), .lit (.int .u8 37), .lit (.int .u8 16), .lit (.int .u8 46), .lit (.int .u8 35), .lit (.int .u8 44), .lit (.int .u8 21), .lit (.int .u8 52), .lit (.int .u8 32), .lit (.int .u8 23), .lit (.int .u8 11), .lit (.int .u8 54), .lit (.int .u8 26), .lit (.int .u8 40), .lit (.int .u8 15), .lit (.int .u8 34), .lit (.int .u8 20), .lit (.int .u8 31), .lit (.int .u8 10), .lit (.int .u8 25), .lit (.int .u8 14), .lit (.int .u8 19), .lit (.int .u8 9), .lit (.int .u8 13), .lit (.int .u8 8), .lit (.int .u8 7), .lit (.int .u8 6)]
def laid_internal_strconv_uint64pow10 {H : Type} : DataW H := .agg [.lit (.int .u64 1), .lit (.int .u64 10), .lit (.int .u64 100), .lit (.int .u64 1000), .lit (.int .u64 10000), .lit (.int .u64 100000), .lit (.int .u64 1000000), .lit (.int .u64 10000000), .lit (.int .u64 100000000), .lit (.int .u64 1000000000), .lit (.int .u64 10000000000), .lit (.int .u64 100000000000), .lit (.int .u64 1000000000000), .lit (.int .u64 10000000000000), .lit (.int .u64 100000000000000), .lit (.int .u64 1000000000000000), .lit (.int .u64 10000000000000000), .lit (.int .u64 100000000000000000), .lit (.int .u64 1000000000000000000), .lit (.int .u64 10000000000000000000)]
def laid_unicode_utf8_acceptRanges {H : Type} : DataW H := .agg [.agg [.lit (.int .u8 128), .lit (.int .u8 191)], .agg [.lit (.int .u8 160), .lit (.int .u8 191)], .agg [.lit (.int .u8 128), .lit (.int .u8 159)], .agg [.lit (.int .u8 144), .lit (.int .u8 191)], .agg [.lit (.int .u8 128), .lit (.int .u8 143)], .agg [.lit (.int .u8 0), .lit (.int .u8 0)], .agg [.lit (.int .u8 0), .lit (.int .u8 0)], .agg [.lit (.int .u8 0), .lit (.int .u8 0)], .agg [.lit (.int .u8 0), .lit (.int .u8 0)], .agg [.lit (.int .u8 0), .lit (.int .u8 0)], .agg [.lit (.int .u8 0), .lit (.int .u8 0)], .agg [.lit (.int .u8 0), .lit (.int .u8 0)], .agg [.lit (.int .u8 0), .lit (.int .u8 0)], .agg [.lit (.int .u8 0), .lit (.int .u8 0)], .agg [.lit (.int .u8 0), .lit (.int .u8 0)], .agg [.lit (.int .u8 0), .lit (.int .u8 0)]]
/-- One of Go's own tables, pinned by name: the form's constant. -/
def laid_unicode_utf8_first : DataW Unit := Go.Pinned.utf8First

/-- 'laws.FnExactPeriodOf': WHATEVER THE INPUT: true; the input reads as it did. -/
def fnExactPeriodOfSpec : ChangeSpec := { name := "fnExactPeriodOf", fn := fun _ => fun
  | [d] => { results := [.lit (.bool true)], args := [d] }
  | _ => none }
def fnExactPeriodOfRow : OpenClaim := { program := "ytlechboepjmmhabdoor", sum := "9fd101d4720996e2d66f45b9452082cfb384951d5df9875f955d752ef98c3174", func := "loop.example/g01276/laws.FnExactPeriodOf", spec := "fnExactPeriodOf", unfollowed := true, recurses := true, named := ["internal/strconv.uint64pow10", "math/bits.deBruijn32tab", "math/bits.deBruijn64tab"], apart := false, laid := [("math/bits.deBruijn32tab", laid_math_bits_deBruijn32tab), ("math/bits.deBruijn64tab", laid_math_bits_deBruijn64tab), ("internal/strconv.uint64pow10", laid_internal_strconv_uint64pow10)] }
def FnExactPeriodOfSaid : Prop := fnExactPeriodOfRow.holds Tryd.pinned (OpenSpec.ofChange fnExactPeriodOfSpec)

/-- ITS FALSE NEIGHBOUR: 'it returns false'. Refute it at one input. -/
def fnExactPeriodOfWrong : ChangeSpec := { name := "fnExactPeriodOf", fn := fun _ => fun
  | [d] => { results := [.lit (.bool false)], args := [d] }
  | _ => none }
def FnExactPeriodOfWrongFalsely : Prop := fnExactPeriodOfRow.holds Tryd.pinned (OpenSpec.ofChange fnExactPeriodOfWrong)

/-- 'laws.FnExactAntPeriod': WHATEVER THE INPUT: true; the input reads as it did. -/
def fnExactAntPeriodSpec : ChangeSpec := { name := "fnExactAntPeriod", fn := fun _ => fun
  | [d] => { results := [.lit (.bool true)], args := [d] }
  | _ => none }
def fnExactAntPeriodRow : OpenClaim := { program := "ytlechboepjmmhabdoor", sum := "9fd101d4720996e2d66f45b9452082cfb384951d5df9875f955d752ef98c3174", func := "loop.example/g01276/laws.FnExactAntPeriod", spec := "fnExactAntPeriod", unfollowed := true, recurses := true, named := ["internal/strconv.uint64pow10", "math/bits.deBruijn32tab", "math/bits.deBruijn64tab"], apart := false, laid := [("math/bits.deBruijn32tab", laid_math_bits_deBruijn32tab), ("math/bits.deBruijn64tab", laid_math_bits_deBruijn64tab), ("internal/strconv.uint64pow10", laid_internal_strconv_uint64pow10)] }
def FnExactAntPeriodSaid : Prop := fnExactAntPeriodRow.holds Tryd.pinned (OpenSpec.ofChange fnExactAntPeriodSpec)

/-- ITS FALSE NEIGHBOUR: 'it returns false'. Refute it at one input. -/
def fnExactAntPeriodWrong : ChangeSpec := { name := "fnExactAntPeriod", fn := fun _ => fun
  | [d] => { results := [.lit (.bool false)], args := [d] }
  | _ => none }
def FnExactAntPeriodWrongFalsely : Prop := fnExactAntPeriodRow.holds Tryd.pinned (OpenSpec.ofChange fnExactAntPeriodWrong)

/-- 'laws.FnExactFirstReturn': WHATEVER THE INPUT: true; the input reads as it did. -/
def fnExactFirstReturnSpec : ChangeSpec := { name := "fnExactFirstReturn", fn := fun _ => fun
  | [d] => { results := [.lit (.bool true)], args := [d] }
  | _ => none }
def fnExactFirstReturnRow : OpenClaim := { program := "ytlechboepjmmhabdoor", sum := "9fd101d4720996e2d66f45b9452082cfb384951d5df9875f955d752ef98c3174", func := "loop.example/g01276/laws.FnExactFirstReturn", spec := "fnExactFirstReturn", unfollowed := true, recurses := true, named := ["internal/strconv.uint64pow10", "math/bits.deBruijn32tab", "math/bits.deBruijn64tab"], apart := false, laid := [("math/bits.deBruijn32tab", laid_math_bits_deBruijn32tab), ("math/bits.deBruijn64tab", laid_math_bits_deBruijn64tab), ("internal/strconv.uint64pow10", laid_internal_strconv_uint64pow10)] }
def FnExactFirstReturnSaid : Prop := fnExactFirstReturnRow.holds Tryd.pinned (OpenSpec.ofChange fnExactFirstReturnSpec)

/-- ITS FALSE NEIGHBOUR: 'it returns false'. Refute it at one input. -/
def fnExactFirstReturnWrong : ChangeSpec := { name := "fnExactFirstReturn", fn := fun _ => fun
  | [d] => { results := [.lit (.bool false)], args := [d] }
  | _ => none }
def FnExactFirstReturnWrongFalsely : Prop := fnExactFirstReturnRow.holds Tryd.pinned (OpenSpec.ofChange fnExactFirstReturnWrong)

/-- 'laws.FnExactStepsBetween': WHATEVER THE INPUT: true; the input reads as it did. -/
def fnExactStepsBetweenSpec : ChangeSpec := { name := "fnExactStepsBetween", fn := fun _ => fun
  | [d1, d2] => { results := [.lit (.bool true)], args := [d1, d2] }
  | _ => none }
def fnExactStepsBetweenRow : OpenClaim := { program := "ytlechboepjmmhabdoor", sum := "9fd101d4720996e2d66f45b9452082cfb384951d5df9875f955d752ef98c3174", func := "loop.example/g01276/laws.FnExactStepsBetween", spec := "fnExactStepsBetween", unfollowed := true, recurses := true, named := ["internal/strconv.uint64pow10", "math/bits.deBruijn32tab", "math/bits.deBruijn64tab"], apart := false, laid := [("math/bits.deBruijn32tab", laid_math_bits_deBruijn32tab), ("math/bits.deBruijn64tab", laid_math_bits_deBruijn64tab), ("internal/strconv.uint64pow10", laid_internal_strconv_uint64pow10)] }
def FnExactStepsBetweenSaid : Prop := fnExactStepsBetweenRow.holds Tryd.pinned (OpenSpec.ofChange fnExactStepsBetweenSpec)

/-- ITS FALSE NEIGHBOUR: 'it returns false'. Refute it at one input. -/
def fnExactStepsBetweenWrong : ChangeSpec := { name := "fnExactStepsBetween", fn := fun _ => fun
  | [d1, d2] => { results := [.lit (.bool false)], args := [d1, d2] }
  | _ => none }
def FnExactStepsBetweenWrongFalsely : Prop := fnExactStepsBetweenRow.holds Tryd.pinned (OpenSpec.ofChange fnExactStepsBetweenWrong)

/-- 'laws.FnExactVisitsAfter': WHATEVER THE INPUT: true; the input reads as it did. -/
def fnExactVisitsAfterSpec : ChangeSpec := { name := "fnExactVisitsAfter", fn := fun _ => fun
  | [d1, d2] => { results := [.lit (.bool true)], args := [d1, d2] }
  | _ => none }
def fnExactVisitsAfterRow : OpenClaim := { program := "ytlechboepjmmhabdoor", sum := "9fd101d4720996e2d66f45b9452082cfb384951d5df9875f955d752ef98c3174", func := "loop.example/g01276/laws.FnExactVisitsAfter", spec := "fnExactVisitsAfter", recurses := true, named := ["internal/strconv.uint64pow10", "math/bits.deBruijn32tab", "math/bits.deBruijn64tab"], apart := false, laid := [("math/bits.deBruijn32tab", laid_math_bits_deBruijn32tab), ("math/bits.deBruijn64tab", laid_math_bits_deBruijn64tab), ("internal/strconv.uint64pow10", laid_internal_strconv_uint64pow10)] }
def FnExactVisitsAfterSaid : Prop := fnExactVisitsAfterRow.holds Tryd.pinned (OpenSpec.ofChange fnExactVisitsAfterSpec)

/-- ITS FALSE NEIGHBOUR: 'it returns false'. Refute it at one input. -/
def fnExactVisitsAfterWrong : ChangeSpec := { name := "fnExactVisitsAfter", fn := fun _ => fun
  | [d1, d2] => { results := [.lit (.bool false)], args := [d1, d2] }
  | _ => none }
def FnExactVisitsAfterWrongFalsely : Prop := fnExactVisitsAfterRow.holds Tryd.pinned (OpenSpec.ofChange fnExactVisitsAfterWrong)

/-- 'laws.FnExactTrackAfter': WHATEVER THE INPUT: true; the input reads as it did. -/
def fnExactTrackAfterSpec : ChangeSpec := { name := "fnExactTrackAfter", fn := fun _ => fun
  | [d1, d2] => { results := [.lit (.bool true)], args := [d1, d2] }
  | _ => none }
def fnExactTrackAfterRow : OpenClaim := { program := "ytlechboepjmmhabdoor", sum := "9fd101d4720996e2d66f45b9452082cfb384951d5df9875f955d752ef98c3174", func := "loop.example/g01276/laws.FnExactTrackAfter", spec := "fnExactTrackAfter", recurses := true, named := ["internal/strconv.uint64pow10", "math/bits.deBruijn32tab", "math/bits.deBruijn64tab"], apart := false, laid := [("math/bits.deBruijn32tab", laid_math_bits_deBruijn32tab), ("math/bits.deBruijn64tab", laid_math_bits_deBruijn64tab), ("internal/strconv.uint64pow10", laid_internal_strconv_uint64pow10)] }
def FnExactTrackAfterSaid : Prop := fnExactTrackAfterRow.holds Tryd.pinned (OpenSpec.ofChange fnExactTrackAfterSpec)

/-- ITS FALSE NEIGHBOUR: 'it returns false'. Refute it at one input. -/
def fnExactTrackAfterWrong : ChangeSpec := { name := "fnExactTrackAfter", fn := fun _ => fun
  | [d1, d2] => { results := [.lit (.bool false)], args := [d1, d2] }
  | _ => none }
def FnExactTrackAfterWrongFalsely : Prop := fnExactTrackAfterRow.holds Tryd.pinned (OpenSpec.ofChange fnExactTrackAfterWrong)

/-- 'laws.FnExactCellsVisited': WHATEVER THE INPUT: true; the input reads as it did. -/
def fnExactCellsVisitedSpec : ChangeSpec := { name := "fnExactCellsVisited", fn := fun _ => fun
  | [d1, d2] => { results := [.lit (.bool true)], args := [d1, d2] }
  | _ => none }
def fnExactCellsVisitedRow : OpenClaim := { program := "ytlechboepjmmhabdoor", sum := "9fd101d4720996e2d66f45b9452082cfb384951d5df9875f955d752ef98c3174", func := "loop.example/g01276/laws.FnExactCellsVisited", spec := "fnExactCellsVisited", recurses := true, named := ["internal/strconv.uint64pow10", "math/bits.deBruijn32tab", "math/bits.deBruijn64tab"], apart := false, laid := [("math/bits.deBruijn32tab", laid_math_bits_deBruijn32tab), ("math/bits.deBruijn64tab", laid_math_bits_deBruijn64tab), ("internal/strconv.uint64pow10", laid_internal_strconv_uint64pow10)] }
def FnExactCellsVisitedSaid : Prop := fnExactCellsVisitedRow.holds Tryd.pinned (OpenSpec.ofChange fnExactCellsVisitedSpec)

/-- ITS FALSE NEIGHBOUR: 'it returns false'. Refute it at one input. -/
def fnExactCellsVisitedWrong : ChangeSpec := { name := "fnExactCellsVisited", fn := fun _ => fun
  | [d1, d2] => { results := [.lit (.bool false)], args := [d1, d2] }
  | _ => none }
def FnExactCellsVisitedWrongFalsely : Prop := fnExactCellsVisitedRow.holds Tryd.pinned (OpenSpec.ofChange fnExactCellsVisitedWrong)

/-- 'laws.FnExactCoverSteps': WHATEVER THE INPUT: true; the input reads as it did. -/
def fnExactCoverStepsSpec : ChangeSpec := { name := "fnExactCoverSteps", fn := fun _ => fun
  | [d] => { results := [.lit (.bool true)], args := [d] }
  | _ => none }
def fnExactCoverStepsRow : OpenClaim := { program := "ytlechboepjmmhabdoor", sum := "9fd101d4720996e2d66f45b9452082cfb384951d5df9875f955d752ef98c3174", func := "loop.example/g01276/laws.FnExactCoverSteps", spec := "fnExactCoverSteps", recurses := true, named := ["internal/strconv.uint64pow10", "math/bits.deBruijn32tab", "math/bits.deBruijn64tab"], apart := false, laid := [("math/bits.deBruijn32tab", laid_math_bits_deBruijn32tab), ("math/bits.deBruijn64tab", laid_math_bits_deBruijn64tab), ("internal/strconv.uint64pow10", laid_internal_strconv_uint64pow10)] }
def FnExactCoverStepsSaid : Prop := fnExactCoverStepsRow.holds Tryd.pinned (OpenSpec.ofChange fnExactCoverStepsSpec)

/-- ITS FALSE NEIGHBOUR: 'it returns false'. Refute it at one input. -/
def fnExactCoverStepsWrong : ChangeSpec := { name := "fnExactCoverSteps", fn := fun _ => fun
  | [d] => { results := [.lit (.bool false)], args := [d] }
  | _ => none }
def FnExactCoverStepsWrongFalsely : Prop := fnExactCoverStepsRow.holds Tryd.pinned (OpenSpec.ofChange fnExactCoverStepsWrong)

/-- 'laws.FnExactMostVisited': WHATEVER THE INPUT: true; the input reads as it did. -/
def fnExactMostVisitedSpec : ChangeSpec := { name := "fnExactMostVisited", fn := fun _ => fun
  | [d1, d2] => { results := [.lit (.bool true)], args := [d1, d2] }
  | _ => none }
def fnExactMostVisitedRow : OpenClaim := { program := "ytlechboepjmmhabdoor", sum := "9fd101d4720996e2d66f45b9452082cfb384951d5df9875f955d752ef98c3174", func := "loop.example/g01276/laws.FnExactMostVisited", spec := "fnExactMostVisited", recurses := true, named := ["internal/strconv.uint64pow10", "math/bits.deBruijn32tab", "math/bits.deBruijn64tab"], apart := false, laid := [("math/bits.deBruijn32tab", laid_math_bits_deBruijn32tab), ("math/bits.deBruijn64tab", laid_math_bits_deBruijn64tab), ("internal/strconv.uint64pow10", laid_internal_strconv_uint64pow10)] }
def FnExactMostVisitedSaid : Prop := fnExactMostVisitedRow.holds Tryd.pinned (OpenSpec.ofChange fnExactMostVisitedSpec)

/-- ITS FALSE NEIGHBOUR: 'it returns false'. Refute it at one input. -/
def fnExactMostVisitedWrong : ChangeSpec := { name := "fnExactMostVisited", fn := fun _ => fun
  | [d1, d2] => { results := [.lit (.bool false)], args := [d1, d2] }
  | _ => none }
def FnExactMostVisitedWrongFalsely : Prop := fnExactMostVisitedRow.holds Tryd.pinned (OpenSpec.ofChange fnExactMostVisitedWrong)

/-- 'laws.FnExactNeverVisited': WHATEVER THE INPUT: true; the input reads as it did. -/
def fnExactNeverVisitedSpec : ChangeSpec := { name := "fnExactNeverVisited", fn := fun _ => fun
  | [d] => { results := [.lit (.bool true)], args := [d] }
  | _ => none }
def fnExactNeverVisitedRow : OpenClaim := { program := "ytlechboepjmmhabdoor", sum := "9fd101d4720996e2d66f45b9452082cfb384951d5df9875f955d752ef98c3174", func := "loop.example/g01276/laws.FnExactNeverVisited", spec := "fnExactNeverVisited", unfollowed := true, recurses := true, named := ["internal/strconv.uint64pow10", "math/bits.deBruijn32tab", "math/bits.deBruijn64tab"], apart := false, laid := [("math/bits.deBruijn32tab", laid_math_bits_deBruijn32tab), ("math/bits.deBruijn64tab", laid_math_bits_deBruijn64tab), ("internal/strconv.uint64pow10", laid_internal_strconv_uint64pow10)] }
def FnExactNeverVisitedSaid : Prop := fnExactNeverVisitedRow.holds Tryd.pinned (OpenSpec.ofChange fnExactNeverVisitedSpec)

/-- ITS FALSE NEIGHBOUR: 'it returns false'. Refute it at one input. -/
def fnExactNeverVisitedWrong : ChangeSpec := { name := "fnExactNeverVisited", fn := fun _ => fun
  | [d] => { results := [.lit (.bool false)], args := [d] }
  | _ => none }
def FnExactNeverVisitedWrongFalsely : Prop := fnExactNeverVisitedRow.holds Tryd.pinned (OpenSpec.ofChange fnExactNeverVisitedWrong)

/-- 'laws.FnExactParseWorld': WHATEVER THE INPUT: true; the input reads as it did. -/
def fnExactParseWorldSpec : ChangeSpec := { name := "fnExactParseWorld", fn := fun _ => fun
  | [d] => { results := [.lit (.bool true)], args := [d] }
  | _ => none }
def fnExactParseWorldRow : OpenClaim := { program := "ytlechboepjmmhabdoor", sum := "9fd101d4720996e2d66f45b9452082cfb384951d5df9875f955d752ef98c3174", func := "loop.example/g01276/laws.FnExactParseWorld", spec := "fnExactParseWorld", inPlace := ["internal/bytealg.CountString", "internal/bytealg.IndexByteString", "internal/bytealg.IndexString"], named := ["unicode/utf8.first", "unicode/utf8.acceptRanges", "internal/bytealg.MaxLen", "internal/strconv.uint64pow10", "math/bits.deBruijn32tab", "math/bits.deBruijn64tab"], apart := false, laid := [("math/bits.deBruijn32tab", laid_math_bits_deBruijn32tab), ("math/bits.deBruijn64tab", laid_math_bits_deBruijn64tab), ("internal/strconv.uint64pow10", laid_internal_strconv_uint64pow10), ("unicode/utf8.acceptRanges", laid_unicode_utf8_acceptRanges), ("unicode/utf8.first", laid_unicode_utf8_first)] }
def FnExactParseWorldSaid : Prop := fnExactParseWorldRow.holds Tryd.pinned (OpenSpec.ofChange fnExactParseWorldSpec)

/-- ITS FALSE NEIGHBOUR: 'it returns false'. Refute it at one input. -/
def fnExactParseWorldWrong : ChangeSpec := { name := "fnExactParseWorld", fn := fun _ => fun
  | [d] => { results := [.lit (.bool false)], args := [d] }
  | _ => none }
def FnExactParseWorldWrongFalsely : Prop := fnExactParseWorldRow.holds Tryd.pinned (OpenSpec.ofChange fnExactParseWorldWrong)

/- THE SECOND FORM. 'bulk': how many values and letters a reading holds, each counted each time it is reached (what is shared counts as often as it is met; a slice's spare places count too). A statement '..UptoSaid' is the law's where the arguments, and the package variables that the reading takes, are together of bulk at most 1048576: NARROWER than '..Said'. Prove '..Said' where nothing that the law and all that it calls make is longer than what came in: it says more and counts as full. Else prove '..UptoSaid'. A law counts once. -/
mutual
def uptoBulk {H : Type} : DataW H → Nat
  | .lit (.string bytes) => bytes.length + 1
  | .lit _ => 1
  | .nil => 1
  | .ptr d => uptoBulk d + 1
  | .slice elems spare => uptoBulkAll elems + uptoBulkAll spare + 1
  | .agg parts => uptoBulkAll parts + 1
  | .iface _ d => uptoBulk d + 1
  | .map entries => uptoBulkEntries entries + 1
  | .held _ => 1
def uptoBulkAll {H : Type} : List (DataW H) → Nat
  | [] => 0
  | d :: r => uptoBulk d + uptoBulkAll r
def uptoBulkEntries {H : Type} : List (Lit × DataW H) → Nat
  | [] => 0
  | x :: r => uptoBulkEntry x + uptoBulkEntries r
def uptoBulkEntry {H : Type} : Lit × DataW H → Nat
  | (.string bytes, d) => bytes.length + uptoBulk d + 1
  | (_, d) => uptoBulk d + 1
 end
def uptoSmall : (H : Type) → List (DataW H) → Bool := fun _ ds => decide (uptoBulkAll ds ≤ 1048576)
def OpenSpec.upto (s : _root_.Go.ChangeSpec) : _root_.Go.OpenSpec := { _root_.Go.OpenSpec.ofChange s with cond := some uptoSmall }

/-- 'laws.FnExactPeriodOf', WHERE WHAT IT READS IS OF BULK AT MOST 1048576: true; the input reads as it did. -/
def fnExactPeriodOfUptoRow : OpenClaim := { program := "ytlechboepjmmhabdoor", sum := "9fd101d4720996e2d66f45b9452082cfb384951d5df9875f955d752ef98c3174", func := "loop.example/g01276/laws.FnExactPeriodOf", spec := "fnExactPeriodOf", unfollowed := true, recurses := true, named := ["internal/strconv.uint64pow10", "math/bits.deBruijn32tab", "math/bits.deBruijn64tab"], apart := false, laid := [("math/bits.deBruijn32tab", laid_math_bits_deBruijn32tab), ("math/bits.deBruijn64tab", laid_math_bits_deBruijn64tab), ("internal/strconv.uint64pow10", laid_internal_strconv_uint64pow10)], narrowed := true }
def FnExactPeriodOfUptoSaid : Prop := fnExactPeriodOfUptoRow.holds Tryd.pinned (OpenSpec.upto fnExactPeriodOfSpec)

/-- 'laws.FnExactAntPeriod', WHERE WHAT IT READS IS OF BULK AT MOST 1048576: true; the input reads as it did. -/
def fnExactAntPeriodUptoRow : OpenClaim := { program := "ytlechboepjmmhabdoor", sum := "9fd101d4720996e2d66f45b9452082cfb384951d5df9875f955d752ef98c3174", func := "loop.example/g01276/laws.FnExactAntPeriod", spec := "fnExactAntPeriod", unfollowed := true, recurses := true, named := ["internal/strconv.uint64pow10", "math/bits.deBruijn32tab", "math/bits.deBruijn64tab"], apart := false, laid := [("math/bits.deBruijn32tab", laid_math_bits_deBruijn32tab), ("math/bits.deBruijn64tab", laid_math_bits_deBruijn64tab), ("internal/strconv.uint64pow10", laid_internal_strconv_uint64pow10)], narrowed := true }
def FnExactAntPeriodUptoSaid : Prop := fnExactAntPeriodUptoRow.holds Tryd.pinned (OpenSpec.upto fnExactAntPeriodSpec)

/-- 'laws.FnExactFirstReturn', WHERE WHAT IT READS IS OF BULK AT MOST 1048576: true; the input reads as it did. -/
def fnExactFirstReturnUptoRow : OpenClaim := { program := "ytlechboepjmmhabdoor", sum := "9fd101d4720996e2d66f45b9452082cfb384951d5df9875f955d752ef98c3174", func := "loop.example/g01276/laws.FnExactFirstReturn", spec := "fnExactFirstReturn", unfollowed := true, recurses := true, named := ["internal/strconv.uint64pow10", "math/bits.deBruijn32tab", "math/bits.deBruijn64tab"], apart := false, laid := [("math/bits.deBruijn32tab", laid_math_bits_deBruijn32tab), ("math/bits.deBruijn64tab", laid_math_bits_deBruijn64tab), ("internal/strconv.uint64pow10", laid_internal_strconv_uint64pow10)], narrowed := true }
def FnExactFirstReturnUptoSaid : Prop := fnExactFirstReturnUptoRow.holds Tryd.pinned (OpenSpec.upto fnExactFirstReturnSpec)

/-- 'laws.FnExactStepsBetween', WHERE WHAT IT READS IS OF BULK AT MOST 1048576: true; the input reads as it did. -/
def fnExactStepsBetweenUptoRow : OpenClaim := { program := "ytlechboepjmmhabdoor", sum := "9fd101d4720996e2d66f45b9452082cfb384951d5df9875f955d752ef98c3174", func := "loop.example/g01276/laws.FnExactStepsBetween", spec := "fnExactStepsBetween", unfollowed := true, recurses := true, named := ["internal/strconv.uint64pow10", "math/bits.deBruijn32tab", "math/bits.deBruijn64tab"], apart := false, laid := [("math/bits.deBruijn32tab", laid_math_bits_deBruijn32tab), ("math/bits.deBruijn64tab", laid_math_bits_deBruijn64tab), ("internal/strconv.uint64pow10", laid_internal_strconv_uint64pow10)], narrowed := true }
def FnExactStepsBetweenUptoSaid : Prop := fnExactStepsBetweenUptoRow.holds Tryd.pinned (OpenSpec.upto fnExactStepsBetweenSpec)

/-- 'laws.FnExactVisitsAfter', WHERE WHAT IT READS IS OF BULK AT MOST 1048576: true; the input reads as it did. -/
def fnExactVisitsAfterUptoRow : OpenClaim := { program := "ytlechboepjmmhabdoor", sum := "9fd101d4720996e2d66f45b9452082cfb384951d5df9875f955d752ef98c3174", func := "loop.example/g01276/laws.FnExactVisitsAfter", spec := "fnExactVisitsAfter", recurses := true, named := ["internal/strconv.uint64pow10", "math/bits.deBruijn32tab", "math/bits.deBruijn64tab"], apart := false, laid := [("math/bits.deBruijn32tab", laid_math_bits_deBruijn32tab), ("math/bits.deBruijn64tab", laid_math_bits_deBruijn64tab), ("internal/strconv.uint64pow10", laid_internal_strconv_uint64pow10)], narrowed := true }
def FnExactVisitsAfterUptoSaid : Prop := fnExactVisitsAfterUptoRow.holds Tryd.pinned (OpenSpec.upto fnExactVisitsAfterSpec)

/-- 'laws.FnExactTrackAfter', WHERE WHAT IT READS IS OF BULK AT MOST 1048576: true; the input reads as it did. -/
def fnExactTrackAfterUptoRow : OpenClaim := { program := "ytlechboepjmmhabdoor", sum := "9fd101d4720996e2d66f45b9452082cfb384951d5df9875f955d752ef98c3174", func := "loop.example/g01276/laws.FnExactTrackAfter", spec := "fnExactTrackAfter", recurses := true, named := ["internal/strconv.uint64pow10", "math/bits.deBruijn32tab", "math/bits.deBruijn64tab"], apart := false, laid := [("math/bits.deBruijn32tab", laid_math_bits_deBruijn32tab), ("math/bits.deBruijn64tab", laid_math_bits_deBruijn64tab), ("internal/strconv.uint64pow10", laid_internal_strconv_uint64pow10)], narrowed := true }
def FnExactTrackAfterUptoSaid : Prop := fnExactTrackAfterUptoRow.holds Tryd.pinned (OpenSpec.upto fnExactTrackAfterSpec)

/-- 'laws.FnExactCellsVisited', WHERE WHAT IT READS IS OF BULK AT MOST 1048576: true; the input reads as it did. -/
def fnExactCellsVisitedUptoRow : OpenClaim := { program := "ytlechboepjmmhabdoor", sum := "9fd101d4720996e2d66f45b9452082cfb384951d5df9875f955d752ef98c3174", func := "loop.example/g01276/laws.FnExactCellsVisited", spec := "fnExactCellsVisited", recurses := true, named := ["internal/strconv.uint64pow10", "math/bits.deBruijn32tab", "math/bits.deBruijn64tab"], apart := false, laid := [("math/bits.deBruijn32tab", laid_math_bits_deBruijn32tab), ("math/bits.deBruijn64tab", laid_math_bits_deBruijn64tab), ("internal/strconv.uint64pow10", laid_internal_strconv_uint64pow10)], narrowed := true }
def FnExactCellsVisitedUptoSaid : Prop := fnExactCellsVisitedUptoRow.holds Tryd.pinned (OpenSpec.upto fnExactCellsVisitedSpec)

/-- 'laws.FnExactCoverSteps', WHERE WHAT IT READS IS OF BULK AT MOST 1048576: true; the input reads as it did. -/
def fnExactCoverStepsUptoRow : OpenClaim := { program := "ytlechboepjmmhabdoor", sum := "9fd101d4720996e2d66f45b9452082cfb384951d5df9875f955d752ef98c3174", func := "loop.example/g01276/laws.FnExactCoverSteps", spec := "fnExactCoverSteps", recurses := true, named := ["internal/strconv.uint64pow10", "math/bits.deBruijn32tab", "math/bits.deBruijn64tab"], apart := false, laid := [("math/bits.deBruijn32tab", laid_math_bits_deBruijn32tab), ("math/bits.deBruijn64tab", laid_math_bits_deBruijn64tab), ("internal/strconv.uint64pow10", laid_internal_strconv_uint64pow10)], narrowed := true }
def FnExactCoverStepsUptoSaid : Prop := fnExactCoverStepsUptoRow.holds Tryd.pinned (OpenSpec.upto fnExactCoverStepsSpec)

/-- 'laws.FnExactMostVisited', WHERE WHAT IT READS IS OF BULK AT MOST 1048576: true; the input reads as it did. -/
def fnExactMostVisitedUptoRow : OpenClaim := { program := "ytlechboepjmmhabdoor", sum := "9fd101d4720996e2d66f45b9452082cfb384951d5df9875f955d752ef98c3174", func := "loop.example/g01276/laws.FnExactMostVisited", spec := "fnExactMostVisited", recurses := true, named := ["internal/strconv.uint64pow10", "math/bits.deBruijn32tab", "math/bits.deBruijn64tab"], apart := false, laid := [("math/bits.deBruijn32tab", laid_math_bits_deBruijn32tab), ("math/bits.deBruijn64tab", laid_math_bits_deBruijn64tab), ("internal/strconv.uint64pow10", laid_internal_strconv_uint64pow10)], narrowed := true }
def FnExactMostVisitedUptoSaid : Prop := fnExactMostVisitedUptoRow.holds Tryd.pinned (OpenSpec.upto fnExactMostVisitedSpec)

/-- 'laws.FnExactNeverVisited', WHERE WHAT IT READS IS OF BULK AT MOST 1048576: true; the input reads as it did. -/
def fnExactNeverVisitedUptoRow : OpenClaim := { program := "ytlechboepjmmhabdoor", sum := "9fd101d4720996e2d66f45b9452082cfb384951d5df9875f955d752ef98c3174", func := "loop.example/g01276/laws.FnExactNeverVisited", spec := "fnExactNeverVisited", unfollowed := true, recurses := true, named := ["internal/strconv.uint64pow10", "math/bits.deBruijn32tab", "math/bits.deBruijn64tab"], apart := false, laid := [("math/bits.deBruijn32tab", laid_math_bits_deBruijn32tab), ("math/bits.deBruijn64tab", laid_math_bits_deBruijn64tab), ("internal/strconv.uint64pow10", laid_internal_strconv_uint64pow10)], narrowed := true }
def FnExactNeverVisitedUptoSaid : Prop := fnExactNeverVisitedUptoRow.holds Tryd.pinned (OpenSpec.upto fnExactNeverVisitedSpec)

/-- 'laws.FnExactParseWorld', WHERE WHAT IT READS IS OF BULK AT MOST 1048576: true; the input reads as it did. -/
def fnExactParseWorldUptoRow : OpenClaim := { program := "ytlechboepjmmhabdoor", sum := "9fd101d4720996e2d66f45b9452082cfb384951d5df9875f955d752ef98c3174", func := "loop.example/g01276/laws.FnExactParseWorld", spec := "fnExactParseWorld", inPlace := ["internal/bytealg.CountString", "internal/bytealg.IndexByteString", "internal/bytealg.IndexString"], named := ["unicode/utf8.first", "unicode/utf8.acceptRanges", "internal/bytealg.MaxLen", "internal/strconv.uint64pow10", "math/bits.deBruijn32tab", "math/bits.deBruijn64tab"], apart := false, laid := [("math/bits.deBruijn32tab", laid_math_bits_deBruijn32tab), ("math/bits.deBruijn64tab", laid_math_bits_deBruijn64tab), ("internal/strconv.uint64pow10", laid_internal_strconv_uint64pow10), ("unicode/utf8.acceptRanges", laid_unicode_utf8_acceptRanges), ("unicode/utf8.first", laid_unicode_utf8_first)], narrowed := true }
def FnExactParseWorldUptoSaid : Prop := fnExactParseWorldUptoRow.holds Tryd.pinned (OpenSpec.upto fnExactParseWorldSpec)

end Rows
end Go.Proofs.YtlechboepjmmhabDoor
