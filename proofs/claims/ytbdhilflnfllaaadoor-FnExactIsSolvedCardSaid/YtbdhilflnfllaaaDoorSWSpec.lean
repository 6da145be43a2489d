/- Closed forms of the functions of this chapter. -/
import Derived.Test.YtbdhilflnfllaaaDoorSWDefs
namespace Go.Vi
set_option linter.unusedVariables false
def F_spec_l1Mod : FSpec := fun args m =>
  match args, m with
  | [.int .i64 n, .int .i64 m], [] => some (1 ≤ m ∧ m ≤ 1000 ∧ -1000000 ≤ n ∧ n ≤ 1000000, .int .i64 (n % m))
  | _, _ => none
def F_spec_woTurn : FSpec := fun args m =>
  match args, m with
  | [.int .u8 b], [] => some (True, .int .i64 (turnI b))
  | _, _ => none
def F_impl_quarters : FSpec := fun args m =>
  match args, m with
  | [.int .u8 b], [] => some (True, .int .i64 (turnI b))
  | _, _ => none
def F_impl_direction : FSpec := fun args m =>
  match args, m with
  | [.int .i64 d], [] => some (True, .tup [.int .i64 (dirX d), .int .i64 (dirY d)])
  | _, _ => none
def F_impl_board_sign : FSpec := fun args m =>
  match args, m with
  | [.agg [.str wr, .int .i64 ww, .int .i64 wh, .str wc, .int .i64 wx, .int .i64 wy, .int .i64 wd]], [] => some (goodB ⟨wr, ww, wh, wc, wx, wy, wd⟩ = true, .int .u8 (signAt ⟨wr, ww, wh, wc, wx, wy, wd⟩ (colAt ⟨wr, ww, wh, wc, wx, wy, wd⟩ wx wy)))
  | _, _ => none
def F_impl_board_painted : FSpec := fun args m =>
  match args, m with
  | [.agg [.str wr, .int .i64 ww, .int .i64 wh, .str wc, .int .i64 wx, .int .i64 wy, .int .i64 wd], .int .i64 x, .int .i64 y, .int .i64 k], [] => some (goodB ⟨wr, ww, wh, wc, wx, wy, wd⟩ = true ∧ hasB ⟨wr, ww, wh, wc, wx, wy, wd⟩ x y = true ∧ 0 ≤ k ∧ k ≤ 9, wdV (pntW ⟨wr, ww, wh, wc, wx, wy, wd⟩ x y k))
  | _, _ => none
def F_impl_board_turned : FSpec := fun args m =>
  match args, m with
  | [.agg [.str wr, .int .i64 ww, .int .i64 wh, .str wc, .int .i64 wx, .int .i64 wy, .int .i64 wd], .int .i64 q], [] => some (0 ≤ wd ∧ wd ≤ 3 ∧ 0 ≤ q ∧ q ≤ 4, wdV (trnW ⟨wr, ww, wh, wc, wx, wy, wd⟩ q))
  | _, _ => none
def F_impl_board_moved : FSpec := fun args m =>
  match args, m with
  | [.agg [.str wr, .int .i64 ww, .int .i64 wh, .str wc, .int .i64 wx, .int .i64 wy, .int .i64 wd], .int .i64 k], [] => some (boxB ⟨wr, ww, wh, wc, wx, wy, wd⟩ = true ∧ (k = 1 ∨ k = -1), wdV (movW ⟨wr, ww, wh, wc, wx, wy, wd⟩ k))
  | _, _ => none
def F_spec_woPaint : GSpec := fun args m =>
  match args, m with
  | [.ptr 0 0, .int .i64 x, .int .i64 y, .int .i64 k], [⟨.vals [.str wr, .int .i64 ww, .int .i64 wh, .str wc, .int .i64 wx, .int .i64 wy, .int .i64 wd], e, .box⟩] => some (goodB ⟨wr, ww, wh, wc, wx, wy, wd⟩ = true ∧ hasB ⟨wr, ww, wh, wc, wx, wy, wd⟩ x y = true ∧ 0 ≤ k ∧ k ≤ 9, .tup [], [⟨.vals (wdL (pntW ⟨wr, ww, wh, wc, wx, wy, wd⟩ x y k)), e, .box⟩])
  | _, _ => none
def F_spec_woGo : GSpec := fun args m =>
  match args, m with
  | [.ptr 0 0, .int .i64 k], [⟨.vals [.str wr, .int .i64 ww, .int .i64 wh, .str wc, .int .i64 wx, .int .i64 wy, .int .i64 wd], e, .box⟩] => some (boxB ⟨wr, ww, wh, wc, wx, wy, wd⟩ = true ∧ (k = 1 ∨ k = -1), .tup [], [⟨.vals (wdL (movW ⟨wr, ww, wh, wc, wx, wy, wd⟩ k)), e, .box⟩])
  | _, _ => none
def F_spec_woStep : FSpec := fun args m =>
  match args, m with
  | [.agg [.str wr, .int .i64 ww, .int .i64 wh, .str wc, .int .i64 wx, .int .i64 wy, .int .i64 wd]], [] => some (goodB ⟨wr, ww, wh, wc, wx, wy, wd⟩ = true, wdV (stepW ⟨wr, ww, wh, wc, wx, wy, wd⟩))
  | _, _ => none
def F_impl_board_forth : FSpec := fun args m =>
  match args, m with
  | [.agg [.str wr, .int .i64 ww, .int .i64 wh, .str wc, .int .i64 wx, .int .i64 wy, .int .i64 wd]], [] => some (goodB ⟨wr, ww, wh, wc, wx, wy, wd⟩ = true, wdV (stepW ⟨wr, ww, wh, wc, wx, wy, wd⟩))
  | _, _ => none
end Go.Vi
