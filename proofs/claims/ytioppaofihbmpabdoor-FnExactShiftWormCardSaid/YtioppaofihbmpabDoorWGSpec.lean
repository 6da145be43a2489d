/- Closed forms of the functions of this chapter. -/
import Derived.Test.YtioppaofihbmpabDoorWGDefs
namespace Go.Vi
set_option linter.unusedVariables false
def F_spec_ShiftWorm : FSpec := fun args m =>
  match args, m with
  | [.agg [.int .i64 mw, .int .i64 mh, .str mr, .str mn, .int .i64 mx, .int .i64 my, .int .i64 md], .int .i64 right, .int .i64 down], [] => some (True, okWo (ndB ⟨mw, mh, mr, mn, mx, my, md⟩ right down) (shW ⟨mw, mh, mr, mn, mx, my, md⟩ right down))
  | _, _ => none
def F_impl_ShiftWorm_1 : FSpec := fun args m =>
  match args, m with
  | [.int .i64 x, .int .i64 y, .ptr 0 0, .ptr 1 0, .ptr 2 0], [⟨.vals [.int .i64 right], 3, .box⟩, ⟨.vals [.int .i64 mw, .int .i64 mh, .str mr, .str mn, .int .i64 mx, .int .i64 my, .int .i64 md], 28, .box⟩, ⟨.vals [.int .i64 down], 3, .box⟩] => some (womB ⟨mw, mh, mr, mn, mx, my, md⟩ = true ∧ 0 ≤ x ∧ x ≤ 9 ∧ 0 ≤ y ∧ y ≤ 9 ∧ 0 ≤ right ∧ right ≤ 9 ∧ 0 ≤ down ∧ down ≤ 9, .tup [.int .i64 ((x + right) % mw), .int .i64 ((y + down) % mh)])
  | _, _ => none
def F_impl_ShiftWorm : FSpec := fun args m =>
  match args, m with
  | [.agg [.int .i64 mw, .int .i64 mh, .str mr, .str mn, .int .i64 mx, .int .i64 my, .int .i64 md], .int .i64 right, .int .i64 down], [] => some (True, okWo (ndB ⟨mw, mh, mr, mn, mx, my, md⟩ right down) (shW ⟨mw, mh, mr, mn, mx, my, md⟩ right down))
  | _, _ => none
end Go.Vi
