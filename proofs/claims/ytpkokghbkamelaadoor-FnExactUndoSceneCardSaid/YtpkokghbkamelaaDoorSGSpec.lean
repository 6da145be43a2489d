/- Closed forms of the functions of this chapter. -/
import Derived.Test.YtpkokghbkamelaaDoorSGDefs
namespace Go.Vi
set_option linter.unusedVariables false
def F_spec_l1Mod : FSpec := fun args m =>
 match args, m with
 | [.int .i64 n, .int .i64 m], [] => some (1 <= m /\ m <= 1000 /\ -1000000 <= n /\ n <= 1000000, .int .i64 (n % m))
 | _, _ => none
def F_spec_woTurn : FSpec := fun args m =>
 match args, m with
 | [.int .u8 b], [] => some (True, .int .i64 (turnI b))
 | _, _ => none
def F_impl_direction : FSpec := fun args m =>
 match args, m with
 | [.int .i64 d], [] => some (True, .tup [.int .i64 (dirX d), .int .i64 (dirY d)])
 | _, _ => none
def F_impl_board_colour : FSpec := fun args m =>
 match args, m with
 | [.agg [.str wr, .int .i64 ww, .int .i64 wh, .str wc, .int .i64 wx, .int .i64 wy, .int .i64 wd], .int .i64 x, .int .i64 y], [] => some (cellsX ⟨ww, wh, wc, wx, wy, wd, 0⟩ = true /\ hasX ⟨ww, wh, wc, wx, wy, wd, 0⟩ x y = true, .int .i64 (colX ⟨ww, wh, wc, wx, wy, wd, 0⟩ x y))
 | _, _ => none
def F_impl_board_painted : FSpec := fun args m =>
 match args, m with
 | [.agg [.str wr, .int .i64 ww, .int .i64 wh, .str wc, .int .i64 wx, .int .i64 wy, .int .i64 wd], .int .i64 x, .int .i64 y, .int .i64 k], [] => some (cellsX ⟨ww, wh, wc, wx, wy, wd, 0⟩ = true /\ hasX ⟨ww, wh, wc, wx, wy, wd, 0⟩ x y = true /\ 0 <= k /\ k <= 9, .agg [.str wr, .int .i64 (pntX ⟨ww, wh, wc, wx, wy, wd, 0⟩ x y k).w, .int .i64 (pntX ⟨ww, wh, wc, wx, wy, wd, 0⟩ x y k).h, .str (pntX ⟨ww, wh, wc, wx, wy, wd, 0⟩ x y k).u, .int .i64 (pntX ⟨ww, wh, wc, wx, wy, wd, 0⟩ x y k).x, .int .i64 (pntX ⟨ww, wh, wc, wx, wy, wd, 0⟩ x y k).y, .int .i64 (pntX ⟨ww, wh, wc, wx, wy, wd, 0⟩ x y k).d])
 | _, _ => none
def F_impl_board_turned : FSpec := fun args m =>
 match args, m with
 | [.agg [.str wr, .int .i64 ww, .int .i64 wh, .str wc, .int .i64 wx, .int .i64 wy, .int .i64 wd], .int .i64 q], [] => some (0 <= wd /\ wd <= 3 /\ 0 <= q /\ q <= 4, .agg [.str wr, .int .i64 (trnX ⟨ww, wh, wc, wx, wy, wd, 0⟩ q).w, .int .i64 (trnX ⟨ww, wh, wc, wx, wy, wd, 0⟩ q).h, .str (trnX ⟨ww, wh, wc, wx, wy, wd, 0⟩ q).u, .int .i64 (trnX ⟨ww, wh, wc, wx, wy, wd, 0⟩ q).x, .int .i64 (trnX ⟨ww, wh, wc, wx, wy, wd, 0⟩ q).y, .int .i64 (trnX ⟨ww, wh, wc, wx, wy, wd, 0⟩ q).d])
 | _, _ => none
def F_impl_board_moved : FSpec := fun args m =>
 match args, m with
 | [.agg [.str wr, .int .i64 ww, .int .i64 wh, .str wc, .int .i64 wx, .int .i64 wy, .int .i64 wd], .int .i64 k], [] => some (cellsX ⟨ww, wh, wc, wx, wy, wd, 0⟩ = true /\ hasX ⟨ww, wh, wc, wx, wy, wd, 0⟩ wx wy = true /\ (k = 1 \/ k = -1), .agg [.str wr, .int .i64 (movX ⟨ww, wh, wc, wx, wy, wd, 0⟩ k).w, .int .i64 (movX ⟨ww, wh, wc, wx, wy, wd, 0⟩ k).h, .str (movX ⟨ww, wh, wc, wx, wy, wd, 0⟩ k).u, .int .i64 (movX ⟨ww, wh, wc, wx, wy, wd, 0⟩ k).x, .int .i64 (movX ⟨ww, wh, wc, wx, wy, wd, 0⟩ k).y, .int .i64 (movX ⟨ww, wh, wc, wx, wy, wd, 0⟩ k).d])
 | _, _ => none
def F_spec_taGo : GSpec := fun args m =>
 match args, m with
 | [.ptr 0 0, .int .i64 k], [⟨.vals [.int .i64 s, .int .i64 i, .row 1 n, .int .i64 w, .int .i64 h, .str u, .int .i64 x, .int .i64 y, .int .i64 d, .int .i64 q], 33, .box⟩, ⟨.recs [.int .i64, .str, .int .i64] c, 96, .rows 3⟩] => some (cellsX ⟨w, h, u, x, y, d, q⟩ = true /\ hasX ⟨w, h, u, x, y, d, q⟩ x y = true /\ (k = 1 \/ k = -1), .tup [], [⟨.vals [.int .i64 s, .int .i64 i, .row 1 n, .int .i64 (movX ⟨w, h, u, x, y, d, q⟩ k).w, .int .i64 (movX ⟨w, h, u, x, y, d, q⟩ k).h, .str (movX ⟨w, h, u, x, y, d, q⟩ k).u, .int .i64 (movX ⟨w, h, u, x, y, d, q⟩ k).x, .int .i64 (movX ⟨w, h, u, x, y, d, q⟩ k).y, .int .i64 (movX ⟨w, h, u, x, y, d, q⟩ k).d, .int .i64 (movX ⟨w, h, u, x, y, d, q⟩ k).q], 33, .box⟩, ⟨.recs [.int .i64, .str, .int .i64] c, 96, .rows 3⟩])
 | _, _ => none
def F_spec_taPaint : GSpec := fun args m =>
 match args, m with
 | [.ptr 0 0, .int .i64 k], [⟨.vals [.int .i64 s, .int .i64 i, .row 1 n, .int .i64 w, .int .i64 h, .str u, .int .i64 x, .int .i64 y, .int .i64 d, .int .i64 q], 33, .box⟩, ⟨.recs [.int .i64, .str, .int .i64] c, 96, .rows 3⟩] => some (cellsX ⟨w, h, u, x, y, d, q⟩ = true /\ hasX ⟨w, h, u, x, y, d, q⟩ x y = true /\ 0 <= k /\ k <= 9, .int .i64 (colX ⟨w, h, u, x, y, d, q⟩ x y % 256), [⟨.vals [.int .i64 s, .int .i64 i, .row 1 n, .int .i64 (pntX ⟨w, h, u, x, y, d, q⟩ x y k).w, .int .i64 (pntX ⟨w, h, u, x, y, d, q⟩ x y k).h, .str (pntX ⟨w, h, u, x, y, d, q⟩ x y k).u, .int .i64 (pntX ⟨w, h, u, x, y, d, q⟩ x y k).x, .int .i64 (pntX ⟨w, h, u, x, y, d, q⟩ x y k).y, .int .i64 (pntX ⟨w, h, u, x, y, d, q⟩ x y k).d, .int .i64 (pntX ⟨w, h, u, x, y, d, q⟩ x y k).q], 33, .box⟩, ⟨.recs [.int .i64, .str, .int .i64] c, 96, .rows 3⟩])
 | _, _ => none
def F_spec_taOwn : GSpec := fun args m =>
 match args, m with
 | [.agg [.int .i64 s, .int .i64 i, .row 0 n, .int .i64 w, .int .i64 h, .str u, .int .i64 x, .int .i64 y, .int .i64 d, .int .i64 q]], [⟨.recs [.int .i64, .str, .int .i64] c, 96, .rows 3⟩] => some (is3 c n /\ n <= 2000000 /\ 1 <= n, .agg [.int .i64 s, .int .i64 i, .row 1 n, .int .i64 w, .int .i64 h, .str u, .int .i64 x, .int .i64 y, .int .i64 d, .int .i64 q], [⟨.recs [.int .i64, .str, .int .i64] c, 96, .rows 3⟩, ⟨.recs [.int .i64, .str, .int .i64] c, 96, .rows 3⟩])
 | _, _ => none
def F_impl_rowAt : FSpec := fun args m =>
 match args, m with
 | [.agg [.int .i64 s, .int .i64 i, .row 0 n], .int .i64 q, .int .i64 k], [⟨.recs [.int .i64, .str, .int .i64] c, 96, .rows 3⟩] => some (is3 c n /\ n <= 2000000 /\ tabB s i (rows3 c) = true /\ 0 <= q /\ q <= s - 1 /\ 0 <= k /\ k <= i - 1, rowV ((rows3 c).getD (q * i + k).toNat default))
 | _, _ => none
def F_impl_actor_scene : GSpec := fun args m =>
 match args, m with
 | [.agg [.str [], .int .i64 w, .int .i64 h, .str u, .int .i64 x, .int .i64 y, .int .i64 d, .int .i64 q], .agg [.int .i64 s, .int .i64 i, .row 0 n]], [⟨.recs [.int .i64, .str, .int .i64] c, 96, .rows 3⟩] => some (is3 c n /\ n <= 2000000 /\ 1 <= n, .agg [.int .i64 s, .int .i64 i, .row 1 n, .int .i64 w, .int .i64 h, .str u, .int .i64 x, .int .i64 y, .int .i64 d, .int .i64 q], [⟨.recs [.int .i64, .str, .int .i64] c, 96, .rows 3⟩, ⟨.recs [.int .i64, .str, .int .i64] c, 96, .rows 3⟩])
 | _, _ => none
end Go.Vi
