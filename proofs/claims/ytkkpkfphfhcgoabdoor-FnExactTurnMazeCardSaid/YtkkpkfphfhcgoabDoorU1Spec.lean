/- Closed forms of the functions of this chapter. -/
import Derived.Test.YtkkpkfphfhcgoabDoorU1Defs
namespace Go.Vi
set_option linter.unusedVariables false
def F_spec_miOther : FSpec := fun args m =>
  match args, m with
  | [.int .u8 b], [] => some (True, .str (mirT b))
  | _, _ => none
def F_impl_TurnMaze_1 : FSpec := fun args m =>
  match args, m with
  | [.int .i64 x, .int .i64 y, .ptr 0 0], [⟨.vals [.int .i64 mw, .int .i64 mh, .str mc, .bool mu], 28, .box⟩] => some ((1 ≤ mw ∧ mw ≤ 9) ∧ (1 ≤ mh ∧ mh ≤ 9) ∧ (0 ≤ x ∧ x ≤ 9) ∧ (0 ≤ y ∧ y ≤ 9), .tup [.int .i64 (mh - 1 - y), .int .i64 x])
  | _, _ => none
def F_impl_MirrorMaze_1 : FSpec := fun args m =>
  match args, m with
  | [.int .i64 x, .int .i64 y, .ptr 0 0], [⟨.vals [.int .i64 mw, .int .i64 mh, .str mc, .bool mu], 28, .box⟩] => some ((1 ≤ mw ∧ mw ≤ 9) ∧ (1 ≤ mh ∧ mh ≤ 9) ∧ (0 ≤ x ∧ x ≤ 9) ∧ (0 ≤ y ∧ y ≤ 9), .tup [.int .i64 (mw - 1 - x), .int .i64 y])
  | _, _ => none
def F_spec_TurnMaze : FSpec := fun args m =>
  match args, m with
  | [.agg [.int .i64 mw, .int .i64 mh, .str mc, .bool mu]], [] => some (True, .tup [.agg [.int .i64 (tnW mw mh mc mu), .int .i64 (tnH mw mh mc mu), .str (tnC mw mh mc mu), .bool (tnU mw mh mc mu)], .bool (mzB ⟨mw, mh, mc, mu⟩)])
  | _, _ => none
def F_impl_TurnMaze : FSpec := fun args m =>
  match args, m with
  | [.agg [.int .i64 mw, .int .i64 mh, .str mc, .bool mu]], [] => some (True, .tup [.agg [.int .i64 (tnW mw mh mc mu), .int .i64 (tnH mw mh mc mu), .str (tnC mw mh mc mu), .bool (tnU mw mh mc mu)], .bool (mzB ⟨mw, mh, mc, mu⟩)])
  | _, _ => none
def F_spec_MirrorMaze : FSpec := fun args m =>
  match args, m with
  | [.agg [.int .i64 mw, .int .i64 mh, .str mc, .bool mu]], [] => some (True, .tup [.agg [.int .i64 (mrW mw mh mc mu), .int .i64 (mrH mw mh mc mu), .str (mrC mw mh mc mu), .bool (tnU mw mh mc mu)], .bool (mzB ⟨mw, mh, mc, mu⟩)])
  | _, _ => none
def F_impl_MirrorMaze : FSpec := fun args m =>
  match args, m with
  | [.agg [.int .i64 mw, .int .i64 mh, .str mc, .bool mu]], [] => some (True, .tup [.agg [.int .i64 (mrW mw mh mc mu), .int .i64 (mrH mw mh mc mu), .str (mrC mw mh mc mu), .bool (tnU mw mh mc mu)], .bool (mzB ⟨mw, mh, mc, mu⟩)])
  | _, _ => none
end Go.Vi
