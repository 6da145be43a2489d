/- Closed forms of the functions of this chapter. -/
import Derived.Test.YtpkokghbkamelaaDoorSGDefs
namespace Go.Vi
set_option linter.unusedVariables false
def F_spec_l1Mod : FSpec := fun args m =>
 match args, m with
 | [.int .i64 n, .int .i64 m], [] => some (1 <= m /\ m <= 1000 /\ -1000000 <= n /\ n <= 1000000, .int .i64 (n % m))
 | _, _ => none
def F_spec_woTurn : FSpec := fun args m =>
 match args, m with
 | [.int .u8 b], [] => some (True, .int .i64 (turnI b))
 | _, _ => none
def F_impl_direction : FSpec := fun args m =>
 match args, m with
 | [.int .i64 d], [] => some (True, .tup [.int .i64 (dirX d), .int .i64 (dirY d)])
 | _, _ => none
def F_impl_board_colour : FSpec := fun args m =>
 match args, m with
 | [.agg [.str wr, .int .i64 ww, .int .i64 wh, .str wc, .int .i64 wx, .int .i64 wy, .int .i64 wd], .int .i64 x, .int .i64 y], [] => some (cellsX ⟨ww, wh, wc, wx, wy, wd, 0⟩ = true /\ hasX ⟨ww, wh, wc, wx, wy, wd, 0⟩ x y = true, .int .i64 (colX ⟨ww, wh, wc, wx, wy, wd, 0⟩ x y))
 | _, _ => none
def F_impl_board_painted : FSpec := fun args m =>
 match args, m with
 | [.agg [.str wr, .int .i64 ww, .int .i64 wh, .str wc, .int .i64 wx, .int .i64 wy, .int .i64 wd], .int .i64 x, .int .i64 y, .int .i64 k], [] => some (cellsX ⟨ww, wh, wc, wx, wy, wd, 0⟩ = true /\ hasX ⟨ww, wh, wc, wx, wy, wd, 0⟩ x y = true /\ 0 <= k /\ k <= 9, .agg [.str wr, .int .i64 (pntX ⟨ww, wh, wc, wx, wy, wd, 0⟩ x y k).w, .int .i64 (pntX ⟨ww, wh, wc, wx, wy, wd, 0⟩ x y k).h, .str (pntX ⟨ww, wh, wc, wx, wy, wd, 0⟩ x y k).u, .int .i64 (pntX ⟨ww, wh, wc, wx, wy, wd, 0⟩ x y k).x, .int .i64 (pntX ⟨ww, wh, wc, wx, wy, wd, 0⟩ x y k).y, .int .i64 (pntX ⟨ww, wh, wc, wx, wy, wd, 0⟩ x y k).d])
 | _, _ => none
def F_impl_board_turned : FSpec := fun args m =>
 match args, m with
 | [.agg [.str wr, .int .i64 ww, .int .i64 wh, .str wc, .int .i64 wx, .int .i64 wy, .int .i64 wd], .int .i64 q], [] => some (0 <= wd /\ wd <= 3 /\ 0 <= q /\ q <= 4, .agg [.str wr, .int .i64 (trnX ⟨ww, wh, wc, wx, wy, wd, 0⟩ q).w, .int .i64 (trnX ⟨ww, wh, wc, wx, wy, wd, 0⟩ q).h, .str (trnX ⟨ww, wh, wc, wx, wy, wd, 0⟩ q).u, .int .i64 (trnX ⟨ww, wh, wc, wx, wy, wd, 0⟩ q).x, .int .i64 (trnX ⟨ww, wh, wc, wx, wy, wd, 0⟩ q).y, .int .i64 (trnX ⟨ww, wh, wc, wx, wy, wd, 0⟩ q).d])
 | _, _ => none
def F_impl_board_moved : FSpec := fun args m =>
 match args, m with
 | [.agg [.str wr, .int .i64 ww, .int .i64 wh, .str wc, .int .i64 wx, .int .i64 wy, .int .i64 wd], .int .i64 k], [] => some (cellsX ⟨ww, wh, wc, wx, wy, wd, 0⟩ = true /\ hasX ⟨ww, wh, wc, wx, wy, wd, 0⟩ wx wy = true /\ (k = 1 \/ k = -1), .agg [.str wr, .int .i64 (movX ⟨ww, wh, wc, wx, wy, wd, 0⟩ k).w, .int .i64 (movX ⟨ww, wh, wc, wx, wy, wd, 0⟩ k).h, .str (movX ⟨ww, wh, wc, wx, wy, wd, 0⟩ k).u, .int .i64 (movX ⟨ww, wh, wc, wx, wy, wd, 0⟩ k).x, .int .i64 (movX ⟨ww, wh, wc, wx, wy, wd, 0⟩ k).y, .int .i64 (movX ⟨ww, wh, wc, wx, wy, wd, 0⟩ k).d])
 | _, _ => none
def F_spec_taGo : GSpec := fun args m =>
 match args, m with
 | [.ptr 0 0, .int .i64 k], [⟨.vals [.int .i64 s, .int .i64 i, .row 1 n, .int .i64 w, .int .i64 h, .str u, .int .i64 x, .int .i64 y, .int .i64 d, .int .i64 q], 33, .box⟩, ⟨.recs [.int .i64, .str, .int .i64] c, 96, .rows 3⟩] => some (cellsX ⟨w, h, u, x, y, d, q⟩ = true /\ hasX ⟨w, h, u, x, y, d, q⟩ x y = true /\ (k = 1 \/ k = -1), .tup [], [⟨.vals [.int .i64 s, .int .i64 i, .row 1 n, .int .i64 (movX ⟨w, h, u, x, y, d, q⟩ k).w, .int .i64 (movX ⟨w, h, u, x, y, d, q⟩ k).h, .str (movX ⟨w, h, u, x, y, d, q⟩ k).u, .int .i64 (movX ⟨w, h, u, x, y, d, q⟩ k).x, .int .i64 (movX ⟨w, h, u, x, y, d, q⟩ k).y, .int .i64 (movX ⟨w, h, u, x, y, d, q⟩ k).d, .int .i64 (movX ⟨w, h, u, x, y, d, q⟩ k).q], 33, .box⟩, ⟨.recs [.int .i64, .str, .int .i64] c, 96, .rows 3⟩])
 | _, _ => none
def F_spec_taPaint : GSpec := fun args m =>
 match args, m with
 | [.ptr 0 0, .int .i64 k], [⟨.vals [.int .i64 s, .int .i64 i, .row 1 n, .int .i64 w, .int .i64 h, .str u, .int .i64 x, .int .i64 y, .int .i64 d, .int .i64 q], 33, .box⟩, ⟨.recs [.int .i64, .str, .int .i64] c, 96, .rows 3⟩] => some (cellsX ⟨w, h, u, x, y, d, q⟩ = true /\ hasX ⟨w, h, u, x, y, d, q⟩ x y = true /\ 0 <= k /\ k <= 9, .int .i64 (colX ⟨w, h, u, x, y, d, q⟩ x y % 256), [⟨.vals [.int .i64 s, .int .i64 i, .row 1 n, .int .i64 (pntX ⟨w, h, u, x, y, d, q⟩ x y k).w, .int .i64 (pntX ⟨w, h, u, x, y, d, q⟩ x y k).h, .str (pntX ⟨w, h, u, x, y, d, q⟩ x y k).u, .int .i64 (pntX ⟨w, h, u, x, y, d, q⟩ x y k).x, .int .i64 (pntX ⟨w, h, u, x, y, d, q⟩ x y k).y, .int .i64 (pntX ⟨w, h, u, x, y, d, q⟩ x y k).d, .int .i64 (pntX ⟨w, h, u, x, y, d, q⟩ x y k).q], 33, .box⟩, ⟨.recs [.int .i64, .str, .int .i64] c, 96, .rows 3⟩])
 | _, _ => none
def F_spec_taStep : GSpec := fun args m =>
 match args, m with
 | [.ptr 0 0], [⟨.vals [.int .i64 s, .int .i64 i, .row 1 n, .int .i64 w, .int .i64 h, .str u, .int .i64 x, .int .i64 y, .int .i64 d, .int .i64 q], 33, .box⟩, ⟨.recs [.int .i64, .str, .int .i64] c, 96, .rows 3⟩] => some (is3 c n /\ n <= 2000000 /\ tabB s i (rows3 c) = true /\ goodX s i ⟨w, h, u, x, y, d, q⟩ = true, .tup [], [⟨.vals [.int .i64 s, .int .i64 i, .row 1 n, .int .i64 (stepX i (rows3 c) ⟨w, h, u, x, y, d, q⟩).w, .int .i64 (stepX i (rows3 c) ⟨w, h, u, x, y, d, q⟩).h, .str (stepX i (rows3 c) ⟨w, h, u, x, y, d, q⟩).u, .int .i64 (stepX i (rows3 c) ⟨w, h, u, x, y, d, q⟩).x, .int .i64 (stepX i (rows3 c) ⟨w, h, u, x, y, d, q⟩).y, .int .i64 (stepX i (rows3 c) ⟨w, h, u, x, y, d, q⟩).d, .int .i64 (stepX i (rows3 c) ⟨w, h, u, x, y, d, q⟩).q], 33, .box⟩, ⟨.recs [.int .i64, .str, .int .i64] c, 96, .rows 3⟩])
 | _, _ => none
def F_spec_taOwn : GSpec := fun args m =>
 match args, m with
 | [.agg [.int .i64 s, .int .i64 i, .row 0 n, .int .i64 w, .int .i64 h, .str u, .int .i64 x, .int .i64 y, .int .i64 d, .int .i64 q]], [⟨.recs [.int .i64, .str, .int .i64] c, 96, .rows 3⟩] => some (is3 c n /\ n <= 2000000 /\ 1 <= n, .agg [.int .i64 s, .int .i64 i, .row 1 n, .int .i64 w, .int .i64 h, .str u, .int .i64 x, .int .i64 y, .int .i64 d, .int .i64 q], [⟨.recs [.int .i64, .str, .int .i64] c, 96, .rows 3⟩, ⟨.recs [.int .i64, .str, .int .i64] c, 96, .rows 3⟩])
 | _, _ => none
def F_spec_taAsked : FSpec := fun args m =>
 match args, m with
 | [.agg [.int .i64 s, .int .i64 i, .row 0 n, .int .i64 w, .int .i64 h, .str u, .int .i64 x, .int .i64 y, .int .i64 d, .int .i64 q], .int .i64 m], [⟨.recs [.int .i64, .str, .int .i64] c, 96, .rows 3⟩] => some (is3 c n /\ n <= 2000000, .bool (sceneB s i (rows3 c) w h u x y d q && inB m 0 3000))
 | _, _ => none
def F_impl_rowAt : FSpec := fun args m =>
 match args, m with
 | [.agg [.int .i64 s, .int .i64 i, .row 0 n], .int .i64 q, .int .i64 k], [⟨.recs [.int .i64, .str, .int .i64] c, 96, .rows 3⟩] => some (is3 c n /\ n <= 2000000 /\ tabB s i (rows3 c) = true /\ 0 <= q /\ q <= s - 1 /\ 0 <= k /\ k <= i - 1, rowV ((rows3 c).getD (q * i + k).toNat default))
 | _, _ => none
def F_impl_actor_goOn : FSpec := fun args m =>
 match args, m with
 | [.agg [.str [], .int .i64 w, .int .i64 h, .str u, .int .i64 x, .int .i64 y, .int .i64 d, .int .i64 q], .agg [.int .i64 s, .int .i64 i, .row 0 n]], [⟨.recs [.int .i64, .str, .int .i64] c, 96, .rows 3⟩, ⟨.vals [.str g0, .str g1, .str g2, .str g3], 9, .gl 0⟩] => some (is3 c n /\ n <= 2000000 /\ isSg g0 g1 g2 g3 /\ tabB s i (rows3 c) = true /\ goodX s i ⟨w, h, u, x, y, d, q⟩ = true, acV (stepX i (rows3 c) ⟨w, h, u, x, y, d, q⟩))
 | _, _ => none
def F_impl_actor_scene : GSpec := fun args m =>
 match args, m with
 | [.agg [.str [], .int .i64 w, .int .i64 h, .str u, .int .i64 x, .int .i64 y, .int .i64 d, .int .i64 q], .agg [.int .i64 s, .int .i64 i, .row 0 n]], [⟨.recs [.int .i64, .str, .int .i64] c, 96, .rows 3⟩] => some (is3 c n /\ n <= 2000000 /\ 1 <= n, .agg [.int .i64 s, .int .i64 i, .row 1 n, .int .i64 w, .int .i64 h, .str u, .int .i64 x, .int .i64 y, .int .i64 d, .int .i64 q], [⟨.recs [.int .i64, .str, .int .i64] c, 96, .rows 3⟩, ⟨.recs [.int .i64, .str, .int .i64] c, 96, .rows 3⟩])
 | _, _ => none
def F_spec_StepScene : GSpec := fun args m =>
 match args, m with
 | [.agg [.int .i64 s, .int .i64 i, .row 0 n, .int .i64 w, .int .i64 h, .str u, .int .i64 x, .int .i64 y, .int .i64 d, .int .i64 q]], [⟨.recs [.int .i64, .str, .int .i64] c, 96, .rows 3⟩] => some (is3 c n /\ n <= 2000000, .tup [.agg [.int .i64 (zI (sceneB s i (rows3 c) w h u x y d q) s), .int .i64 (zI (sceneB s i (rows3 c) w h u x y d q) i), .row 1 (esR (sceneB s i (rows3 c) w h u x y d q) (rows3 c)).length, .int .i64 (aftX (sceneB s i (rows3 c) w h u x y d q) i (rows3 c) 1 ⟨w, h, u, x, y, d, q⟩).w, .int .i64 (aftX (sceneB s i (rows3 c) w h u x y d q) i (rows3 c) 1 ⟨w, h, u, x, y, d, q⟩).h, .str (aftX (sceneB s i (rows3 c) w h u x y d q) i (rows3 c) 1 ⟨w, h, u, x, y, d, q⟩).u, .int .i64 (aftX (sceneB s i (rows3 c) w h u x y d q) i (rows3 c) 1 ⟨w, h, u, x, y, d, q⟩).x, .int .i64 (aftX (sceneB s i (rows3 c) w h u x y d q) i (rows3 c) 1 ⟨w, h, u, x, y, d, q⟩).y, .int .i64 (aftX (sceneB s i (rows3 c) w h u x y d q) i (rows3 c) 1 ⟨w, h, u, x, y, d, q⟩).d, .int .i64 (aftX (sceneB s i (rows3 c) w h u x y d q) i (rows3 c) 1 ⟨w, h, u, x, y, d, q⟩).q], .bool (sceneB s i (rows3 c) w h u x y d q)], [⟨.recs [.int .i64, .str, .int .i64] c, 96, .rows 3⟩, ⟨.recs [.int .i64, .str, .int .i64] (flat3 (esR (sceneB s i (rows3 c) w h u x y d q) (rows3 c))), 96, .rows 3⟩])
 | _, _ => none
def F_spec_SceneAfter : GSpec := fun args m =>
 match args, m with
 | [.agg [.int .i64 s, .int .i64 i, .row 0 n, .int .i64 w, .int .i64 h, .str u, .int .i64 x, .int .i64 y, .int .i64 d, .int .i64 q], .int .i64 m], [⟨.recs [.int .i64, .str, .int .i64] c, 96, .rows 3⟩] => some (is3 c n /\ n <= 2000000, .tup [.agg [.int .i64 (zI (sceneB s i (rows3 c) w h u x y d q && inB m 0 3000) s), .int .i64 (zI (sceneB s i (rows3 c) w h u x y d q && inB m 0 3000) i), .row 1 (esR (sceneB s i (rows3 c) w h u x y d q && inB m 0 3000) (rows3 c)).length, .int .i64 (aftX (sceneB s i (rows3 c) w h u x y d q && inB m 0 3000) i (rows3 c) m.toNat ⟨w, h, u, x, y, d, q⟩).w, .int .i64 (aftX (sceneB s i (rows3 c) w h u x y d q && inB m 0 3000) i (rows3 c) m.toNat ⟨w, h, u, x, y, d, q⟩).h, .str (aftX (sceneB s i (rows3 c) w h u x y d q && inB m 0 3000) i (rows3 c) m.toNat ⟨w, h, u, x, y, d, q⟩).u, .int .i64 (aftX (sceneB s i (rows3 c) w h u x y d q && inB m 0 3000) i (rows3 c) m.toNat ⟨w, h, u, x, y, d, q⟩).x, .int .i64 (aftX (sceneB s i (rows3 c) w h u x y d q && inB m 0 3000) i (rows3 c) m.toNat ⟨w, h, u, x, y, d, q⟩).y, .int .i64 (aftX (sceneB s i (rows3 c) w h u x y d q && inB m 0 3000) i (rows3 c) m.toNat ⟨w, h, u, x, y, d, q⟩).d, .int .i64 (aftX (sceneB s i (rows3 c) w h u x y d q && inB m 0 3000) i (rows3 c) m.toNat ⟨w, h, u, x, y, d, q⟩).q], .bool (sceneB s i (rows3 c) w h u x y d q && inB m 0 3000)], [⟨.recs [.int .i64, .str, .int .i64] c, 96, .rows 3⟩, ⟨.recs [.int .i64, .str, .int .i64] (flat3 (esR (sceneB s i (rows3 c) w h u x y d q && inB m 0 3000) (rows3 c))), 96, .rows 3⟩])
 | _, _ => none
def F_impl_played : GSpec := fun args m =>
 match args, m with
 | [.agg [.int .i64 s, .int .i64 i, .row 0 n, .int .i64 w, .int .i64 h, .str u, .int .i64 x, .int .i64 y, .int .i64 d, .int .i64 q], .int .i64 m, .fn 64 []], [⟨.recs [.int .i64, .str, .int .i64] c, 96, .rows 3⟩, ⟨.vals [.str g0, .str g1, .str g2, .str g3], 9, .gl 0⟩] => some (is3 c n /\ n <= 2000000 /\ isSg g0 g1 g2 g3 /\ tabB s i (rows3 c) = true /\ goodX s i ⟨w, h, u, x, y, d, q⟩ = true /\ 0 <= m /\ m <= 3000, scV s i 2 n (iterX i (rows3 c) m.toNat ⟨w, h, u, x, y, d, q⟩), [⟨.recs [.int .i64, .str, .int .i64] c, 96, .rows 3⟩, ⟨.vals [.str g0, .str g1, .str g2, .str g3], 9, .gl 0⟩, ⟨.recs [.int .i64, .str, .int .i64] c, 96, .rows 3⟩])
 | _, _ => none
def F_impl_SceneAfter : GSpec := fun args m =>
 match args, m with
 | [.agg [.int .i64 s, .int .i64 i, .row 0 n, .int .i64 w, .int .i64 h, .str u, .int .i64 x, .int .i64 y, .int .i64 d, .int .i64 q], .int .i64 m], [⟨.recs [.int .i64, .str, .int .i64] c, 96, .rows 3⟩, ⟨.vals [.str g0, .str g1, .str g2, .str g3], 9, .gl 0⟩] => some (is3 c n /\ n <= 2000000 /\ isSg g0 g1 g2 g3, .tup [.agg [.int .i64 (zI (sceneB s i (rows3 c) w h u x y d q && inB m 0 3000) s), .int .i64 (zI (sceneB s i (rows3 c) w h u x y d q && inB m 0 3000) i), .row 2 (esR (sceneB s i (rows3 c) w h u x y d q && inB m 0 3000) (rows3 c)).length, .int .i64 (aftX (sceneB s i (rows3 c) w h u x y d q && inB m 0 3000) i (rows3 c) m.toNat ⟨w, h, u, x, y, d, q⟩).w, .int .i64 (aftX (sceneB s i (rows3 c) w h u x y d q && inB m 0 3000) i (rows3 c) m.toNat ⟨w, h, u, x, y, d, q⟩).h, .str (aftX (sceneB s i (rows3 c) w h u x y d q && inB m 0 3000) i (rows3 c) m.toNat ⟨w, h, u, x, y, d, q⟩).u, .int .i64 (aftX (sceneB s i (rows3 c) w h u x y d q && inB m 0 3000) i (rows3 c) m.toNat ⟨w, h, u, x, y, d, q⟩).x, .int .i64 (aftX (sceneB s i (rows3 c) w h u x y d q && inB m 0 3000) i (rows3 c) m.toNat ⟨w, h, u, x, y, d, q⟩).y, .int .i64 (aftX (sceneB s i (rows3 c) w h u x y d q && inB m 0 3000) i (rows3 c) m.toNat ⟨w, h, u, x, y, d, q⟩).d, .int .i64 (aftX (sceneB s i (rows3 c) w h u x y d q && inB m 0 3000) i (rows3 c) m.toNat ⟨w, h, u, x, y, d, q⟩).q], .bool (sceneB s i (rows3 c) w h u x y d q && inB m 0 3000)], [⟨.recs [.int .i64, .str, .int .i64] c, 96, .rows 3⟩, ⟨.vals [.str g0, .str g1, .str g2, .str g3], 9, .gl 0⟩, ⟨.recs [.int .i64, .str, .int .i64] (flat3 (esR (sceneB s i (rows3 c) w h u x y d q && inB m 0 3000) (rows3 c))), 96, .rows 3⟩])
 | _, _ => none
def F_impl_StepScene : GSpec := fun args m =>
 match args, m with
 | [.agg [.int .i64 s, .int .i64 i, .row 0 n, .int .i64 w, .int .i64 h, .str u, .int .i64 x, .int .i64 y, .int .i64 d, .int .i64 q]], [⟨.recs [.int .i64, .str, .int .i64] c, 96, .rows 3⟩, ⟨.vals [.str g0, .str g1, .str g2, .str g3], 9, .gl 0⟩] => some (is3 c n /\ n <= 2000000 /\ isSg g0 g1 g2 g3, .tup [.agg [.int .i64 (zI (sceneB s i (rows3 c) w h u x y d q) s), .int .i64 (zI (sceneB s i (rows3 c) w h u x y d q) i), .row 2 (esR (sceneB s i (rows3 c) w h u x y d q) (rows3 c)).length, .int .i64 (aftX (sceneB s i (rows3 c) w h u x y d q) i (rows3 c) 1 ⟨w, h, u, x, y, d, q⟩).w, .int .i64 (aftX (sceneB s i (rows3 c) w h u x y d q) i (rows3 c) 1 ⟨w, h, u, x, y, d, q⟩).h, .str (aftX (sceneB s i (rows3 c) w h u x y d q) i (rows3 c) 1 ⟨w, h, u, x, y, d, q⟩).u, .int .i64 (aftX (sceneB s i (rows3 c) w h u x y d q) i (rows3 c) 1 ⟨w, h, u, x, y, d, q⟩).x, .int .i64 (aftX (sceneB s i (rows3 c) w h u x y d q) i (rows3 c) 1 ⟨w, h, u, x, y, d, q⟩).y, .int .i64 (aftX (sceneB s i (rows3 c) w h u x y d q) i (rows3 c) 1 ⟨w, h, u, x, y, d, q⟩).d, .int .i64 (aftX (sceneB s i (rows3 c) w h u x y d q) i (rows3 c) 1 ⟨w, h, u, x, y, d, q⟩).q], .bool (sceneB s i (rows3 c) w h u x y d q)], [⟨.recs [.int .i64, .str, .int .i64] c, 96, .rows 3⟩, ⟨.vals [.str g0, .str g1, .str g2, .str g3], 9, .gl 0⟩, ⟨.recs [.int .i64, .str, .int .i64] (flat3 (esR (sceneB s i (rows3 c) w h u x y d q) (rows3 c))), 96, .rows 3⟩])
 | _, _ => none
end Go.Vi
