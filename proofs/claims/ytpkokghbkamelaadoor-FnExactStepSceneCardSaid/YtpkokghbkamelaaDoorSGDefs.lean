/- Scenes: steps. -/
import Derived.Test.YtpkokghbkamelaaDoorSCPf
namespace Go.Vi
set_option linter.unusedVariables false
def sX (w h : Int) (u : List UInt8) (x y d q : Int) : Sx := ⟨w, h, u, x, y, d, q⟩
/-- A region behind which this is the state. -/
def said (h : St) : Option Ann := some { α := Unit, find := fun _ => some (), head := fun _ => h, inv := fun _ => True, meas := fun _ => 0, join := true }
def saidF (h : St) : Option Ann := some { α := Unit, find := fun _ => some (), head := fun _ => h, inv := fun _ => True, meas := fun _ => 0, join := true, force := true }
def rowL (r : Row3) : List V := [.int .i64 r.a, .str r.t, .int .i64 r.b]
def scL (s i : Int) (b n : Nat) (a : Sx) : List V := [.int .i64 s, .int .i64 i, .row b n, .int .i64 a.w, .int .i64 a.h, .str a.u, .int .i64 a.x, .int .i64 a.y, .int .i64 a.d, .int .i64 a.q]
def acL (a : Sx) : List V := [.str [], .int .i64 a.w, .int .i64 a.h, .str a.u, .int .i64 a.x, .int .i64 a.y, .int .i64 a.d, .int .i64 a.q]
def ann_impl_actor_goOn : Nat -> St -> Option Ann := fun key st =>
 match st.mem with
 | ⟨.recs sh c, e, k⟩ :: g :: ⟨.vals [_, .int _ w, .int _ h, .str u, .int _ x, .int _ y, .int _ d, .int _ q], e2, k2⟩ :: ⟨.vals [.int _ s, .int _ i, .row b n], e3, k3⟩ :: b4 :: r =>
  (match Nat.beq key 1001, r with
  | true, _ => said { only st [(2, .ptr 2 0), (3, .ptr 3 0), (4, .ptr 4 0), (5, .ptr 5 0)] with mem := [⟨.recs sh c, e, k⟩, g, ⟨.vals [.str [], .int .i64 w, .int .i64 h, .str u, .int .i64 x, .int .i64 y, .int .i64 d, .int .i64 q], e2, k2⟩, ⟨.vals [.int .i64 s, .int .i64 i, .row b n], e3, k3⟩, b4, ⟨.vals (rowL (rowX i (rows3 c) ⟨w, h, u, x, y, d, q⟩)), 96, .box⟩] }
  | _, ⟨.vals [.int _ ra, .str rt, .int _ rb], e5, k5⟩ :: _ => (match Nat.beq key 1002 with
   | true => said { only st [(2, .ptr 2 0), (3, .ptr 3 0), (4, .ptr 4 0), (5, .ptr 5 0)] with mem := [⟨.recs sh c, e, k⟩, g, ⟨.vals (acL (movX (pntX (trnX ⟨w, h, u, x, y, d, q⟩ (qtI rt)) x y ra) 1)), e2, k2⟩, ⟨.vals [.int .i64 s, .int .i64 i, .row b n], e3, k3⟩, b4, ⟨.vals [.int .i64 ra, .str rt, .int .i64 rb], e5, k5⟩] }
   | false => none)
  | _, _ => none)
 | _ => none
def ann_spec_taStep : Nat -> St -> Option Ann := fun key st =>
 match st.mem with
 | ⟨.vals [.int _ s, .int _ i, .row b n, .int _ w, .int _ h, .str u, .int _ x, .int _ y, .int _ d, .int _ q], e, k⟩ :: ⟨.recs sh c, e1, k1⟩ :: r =>
  (match Nat.beq key 1000, Nat.beq key 1001, r with
  | true, _, _ => said { only st [(0, .ptr 0 0), (2, .int .i64 (colX ⟨w, h, u, x, y, d, q⟩ x y))] with mem := [⟨.vals (scL s i b n ⟨w, h, u, x, y, d, q⟩), e, k⟩, ⟨.recs sh c, e1, k1⟩] }
  | _, true, _ => said { only st [(0, .ptr 0 0), (2, .int .i64 (colX ⟨w, h, u, x, y, d, q⟩ x y)), (3, .ptr 2 0)] with mem := [⟨.vals (scL s i b n ⟨w, h, u, x, y, d, q⟩), e, k⟩, ⟨.recs sh c, e1, k1⟩, ⟨.vals (rowL (rowX i (rows3 c) ⟨w, h, u, x, y, d, q⟩)), 96, .box⟩] }
  | _, _, ⟨.vals [.int _ ra, .str rt, .int _ rb], e5, k5⟩ :: _ => (match Nat.beq key 1002 with
   | true => said { only st [(0, .ptr 0 0), (3, .ptr 2 0)] with mem := [⟨.vals (scL s i b n (trnX ⟨w, h, u, x, y, d, q⟩ (qtI rt))), e, k⟩, ⟨.recs sh c, e1, k1⟩, ⟨.vals [.int .i64 ra, .str rt, .int .i64 rb], e5, k5⟩] }
   | false => none)
  | _, _, _ => none)
 | _ => none
def afInv (s i : Int) (l : List Row3) (m : Int) (a : Sx) (k : Int) : Prop := 0 <= k /\ k <= m /\ m <= 3000 /\ tabB s i l = true /\ goodX s i a = true
def ann_spec_SceneAfter : Nat -> St -> Option Ann := fun key st =>
 match st.mem, intAt st 1, Nat.ble 1000 key with
 | ⟨.recs sh c, e, k⟩ :: b1 :: b2 :: b3 :: ⟨.vals [.int _ s, .int _ i, .row b n, .int _ w, .int _ h, .str u, .int _ x, .int _ y, .int _ d, .int _ q], e4, k4⟩ :: _, some m, false =>
  some { α := Int, find := fun st => intAt st 1, head := fun j => { only st [(1, .int .i64 j), (2, .ptr 1 0), (4, .ptr 2 0), (6, .ptr 4 0)] with mem := [⟨.recs sh c, e, k⟩, b1, b2, b3, ⟨.vals (scL s i b n (iterX i (rows3 c) (m - j).toNat ⟨w, h, u, x, y, d, q⟩)), e4, k4⟩] }, inv := fun j => afInv s i (rows3 c) m ⟨w, h, u, x, y, d, q⟩ j, meas := fun j => j.toNat }
 | _, _, _ => none
def ann_impl_played : Nat -> St -> Option Ann := fun key st =>
 match st.mem, st.get 2, intAt st 10, Nat.ble 1000 key with
 | ⟨.recs sh c, e, k⟩ :: g :: ⟨.vals [.int _ s, .int _ i, .row b n, w2, h2, u2, x2, y2, d2, q2], e2, k2⟩ :: b3 :: ⟨.vals [_, .int _ w, .int _ h, .str u, .int _ x, .int _ y, .int _ d, .int _ q], e4, k4⟩ :: _, f, some m, false =>
  some { α := Int, find := fun st => intAt st 11, head := fun j => { only st [(2, f), (3, .ptr 2 0), (6, .ptr 3 0), (7, .ptr 4 0), (10, .int .i64 m), (11, .int .i64 j)] with mem := [⟨.recs sh c, e, k⟩, g, ⟨.vals [.int .i64 s, .int .i64 i, .row b n, w2, h2, u2, x2, y2, d2, q2], e2, k2⟩, b3, ⟨.vals (acL (iterX i (rows3 c) j.toNat ⟨w, h, u, x, y, d, q⟩)), e4, k4⟩] }, inv := fun j => afInv s i (rows3 c) m ⟨w, h, u, x, y, d, q⟩ j, meas := fun j => (m - j).toNat }
 | _, _, _, _ => none
def ann_impl_actor_scene : Nat -> St -> Option Ann := fun key st =>
 match st.mem, Nat.beq key 1001 with
 | ⟨.recs sh c, e, k⟩ :: ⟨.vals [_, .int _ w, .int _ h, .str u, .int _ x, .int _ y, .int _ d, .int _ q], e1, k1⟩ :: ⟨.vals [.int _ s, .int _ i, .row b n], e2, k2⟩ :: ⟨_, e3, k3⟩ :: _, true =>
  saidF { only st [(2, .ptr 1 0), (3, .ptr 2 0), (4, .ptr 3 0)] with mem := [⟨.recs sh c, e, k⟩, ⟨.vals [.str [], .int .i64 w, .int .i64 h, .str u, .int .i64 x, .int .i64 y, .int .i64 d, .int .i64 q], e1, k1⟩, ⟨.vals [.int .i64 s, .int .i64 i, .row b n], e2, k2⟩, ⟨.vals [.int .i64 s, .int .i64 i, .row 4 n, .int .i64 w, .int .i64 h, .str u, .int .i64 x, .int .i64 y, .int .i64 d, .int .i64 q], e3, k3⟩, ⟨.recs sh c, e, k⟩] }
 | _, _ => none
end Go.Vi
