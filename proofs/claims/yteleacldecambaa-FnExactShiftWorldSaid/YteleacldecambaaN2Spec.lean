/- Closed forms of the functions of this chapter. -/
import Derived.Test.YteleacldecambaaN2Defs
namespace Go.Vi
set_option linter.unusedVariables false
def F_spec_ShiftWorld : FSpec := fun args m =>
  match args, m with
  | [.agg [.str wr, .int .i64 ww, .int .i64 wh, .str wc, .int .i64 wx, .int .i64 wy, .int .i64 wd], .int .i64 right, .int .i64 down], [] => some (True, okV (goodB ⟨wr, ww, wh, wc, wx, wy, wd⟩ && hasB ⟨wr, ww, wh, wc, wx, wy, wd⟩ right down) (shiftW ⟨wr, ww, wh, wc, wx, wy, wd⟩ right down))
  | _, _ => none
def F_impl_ShiftWorld_1 : FSpec := fun args m =>
  match args, m with
  | [.int .i64 x, .int .i64 y, .ptr 0 0, .ptr 1 0, .ptr 2 0], [⟨.vals [.int .i64 right], 3, .box⟩, ⟨.vals [.str wr, .int .i64 ww, .int .i64 wh, .str wc, .int .i64 wx, .int .i64 wy, .int .i64 wd], 25, .box⟩, ⟨.vals [.int .i64 down], 3, .box⟩] => some (goodB ⟨wr, ww, wh, wc, wx, wy, wd⟩ = true ∧ 0 ≤ x ∧ x ≤ 9 ∧ 0 ≤ y ∧ y ≤ 9 ∧ 0 ≤ right ∧ right ≤ 9 ∧ 0 ≤ down ∧ down ≤ 9, .tup [.int .i64 ((x + right) % ww), .int .i64 ((y + down) % wh)])
  | _, _ => none
def F_impl_ShiftWorld : FSpec := fun args m =>
  match args, m with
  | [.agg [.str wr, .int .i64 ww, .int .i64 wh, .str wc, .int .i64 wx, .int .i64 wy, .int .i64 wd], .int .i64 right, .int .i64 down], [] => some (True, okV (goodB ⟨wr, ww, wh, wc, wx, wy, wd⟩ && hasB ⟨wr, ww, wh, wc, wx, wy, wd⟩ right down) (shiftW ⟨wr, ww, wh, wc, wx, wy, wd⟩ right down))
  | _, _ => none
end Go.Vi
