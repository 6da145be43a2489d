/- Closed forms of the functions of this chapter. -/
import Derived.Test.YteleacldecambaaM2Defs
namespace Go.Vi
set_option linter.unusedVariables false
def F_spec_woZeros : FSpec := fun args m =>
  match args, m with
  | [.int .i64 n], [] => some (0 ≤ n ∧ n ≤ 1000, .str (List.replicate n.toNat 48))
  | _, _ => none
def F_spec_woMap : FSpec := fun args m =>
  match args, m with
  | [.agg [.str wr, .int .i64 ww, .int .i64 wh, .str wc, .int .i64 wx, .int .i64 wy, .int .i64 wd], .int .i64 width, .int .i64 height, .agg [.int .i64 b0, .int .i64 b1, .int .i64 b2, .int .i64 b3, .int .i64 b4, .int .i64 b5]], [] => some (mapPre ⟨wr, ww, wh, wc, wx, wy, wd⟩ width height b0 b1 b2 b3 b4 b5, wdV (mapW (plA b0 b1 b2 b3 b4 b5 width height) ⟨wr, ww, wh, wc, wx, wy, wd⟩ width height))
  | _, _ => none
def F_spec_TurnWorld : FSpec := fun args m =>
  match args, m with
  | [.agg [.str wr, .int .i64 ww, .int .i64 wh, .str wc, .int .i64 wx, .int .i64 wy, .int .i64 wd]], [] => some (True, okV (goodB ⟨wr, ww, wh, wc, wx, wy, wd⟩) (turnW ⟨wr, ww, wh, wc, wx, wy, wd⟩))
  | _, _ => none
def F_spec_MirrorWorld : FSpec := fun args m =>
  match args, m with
  | [.agg [.str wr, .int .i64 ww, .int .i64 wh, .str wc, .int .i64 wx, .int .i64 wy, .int .i64 wd]], [] => some (True, okV (goodB ⟨wr, ww, wh, wc, wx, wy, wd⟩) (mirrW ⟨wr, ww, wh, wc, wx, wy, wd⟩))
  | _, _ => none
def F_impl_TurnWorld_1 : FSpec := fun args m =>
  match args, m with
  | [.int .i64 x, .int .i64 y, .ptr 0 0], [⟨.vals [.str wr, .int .i64 ww, .int .i64 wh, .str wc, .int .i64 wx, .int .i64 wy, .int .i64 wd], 25, .box⟩] => some (goodB ⟨wr, ww, wh, wc, wx, wy, wd⟩ = true ∧ 0 ≤ x ∧ x ≤ 9 ∧ 0 ≤ y ∧ y ≤ 9, .tup [.int .i64 (wh - 1 - y), .int .i64 x])
  | _, _ => none
def F_impl_MirrorWorld_1 : FSpec := fun args m =>
  match args, m with
  | [.int .i64 x, .int .i64 y, .ptr 0 0], [⟨.vals [.str wr, .int .i64 ww, .int .i64 wh, .str wc, .int .i64 wx, .int .i64 wy, .int .i64 wd], 25, .box⟩] => some (goodB ⟨wr, ww, wh, wc, wx, wy, wd⟩ = true ∧ 0 ≤ x ∧ x ≤ 9 ∧ 0 ≤ y ∧ y ≤ 9, .tup [.int .i64 (ww - 1 - x), .int .i64 y])
  | _, _ => none
def F_impl_TurnWorld : FSpec := fun args m =>
  match args, m with
  | [.agg [.str wr, .int .i64 ww, .int .i64 wh, .str wc, .int .i64 wx, .int .i64 wy, .int .i64 wd]], [] => some (True, okV (goodB ⟨wr, ww, wh, wc, wx, wy, wd⟩) (turnW ⟨wr, ww, wh, wc, wx, wy, wd⟩))
  | _, _ => none
def F_impl_MirrorWorld : FSpec := fun args m =>
  match args, m with
  | [.agg [.str wr, .int .i64 ww, .int .i64 wh, .str wc, .int .i64 wx, .int .i64 wy, .int .i64 wd]], [] => some (True, okV (goodB ⟨wr, ww, wh, wc, wx, wy, wd⟩) (mirrW ⟨wr, ww, wh, wc, wx, wy, wd⟩))
  | _, _ => none
end Go.Vi
