/- Steps of scenes undone. -/
import Derived.Test.YtpkokghbkamelaaDoorSGPf
import Derived.Test.YtpkokghbkamelaaDoorTDPf
namespace Go.Vi
set_option linter.unusedVariables false
def bkX (a : Sx) : Sx := movX a (-1)
def fwX (l : List Row3) (a : Sx) : Int := fwF l (colX (bkX a) (bkX a).x (bkX a).y) a.q 0
def undX (i : Int) (l : List Row3) (a : Sx) : Sx := { trnX (pntX (bkX a) (bkX a).x (bkX a).y (fwX l a % i)) (4 - qtI (l.getD (fwX l a).toNat default).t) with q := fwX l a / i }
def unX (g : Bool) (i : Int) (l : List Row3) (a : Sx) : Sx := bif g then undX i l a else zeroX
def iterU (i : Int) (l : List Row3) : Nat -> Sx -> Sx
 | 0, a => a
 | n + 1, a => iterU i l n (undX i l a)
def ann_impl_actor_goBack : Nat -> St -> Option Ann := fun key st =>
 match st.mem with
 | ⟨.recs sh c, e, k⟩ :: g :: ⟨.vals [_, .int _ w, .int _ h, .str u, .int _ x, .int _ y, .int _ d, .int _ q], e2, k2⟩ :: ⟨.vals [.int _ s, .int _ i, .row b n], e3, k3⟩ :: b4 :: _ =>
  (match Nat.beq key 1001, Nat.beq key 1002, Nat.beq key 1003, intAt st 5 with
  | true, _, _, _ => said { only st [(2, .ptr 2 0), (3, .ptr 3 0), (4, .ptr 4 0)] with mem := [⟨.recs sh c, e, k⟩, g, ⟨.vals (acL (bkX ⟨w, h, u, x, y, d, q⟩)), e2, k2⟩, ⟨.vals [.int .i64 s, .int .i64 i, .row b n], e3, k3⟩, b4] }
  | _, true, _, _ => said { only st [(2, .ptr 2 0), (3, .ptr 3 0), (4, .ptr 4 0), (5, .int .i64 (fwF (rows3 c) (colX ⟨w, h, u, x, y, d, q⟩ x y) q 0))] with mem := [⟨.recs sh c, e, k⟩, g, ⟨.vals (acL ⟨w, h, u, x, y, d, q⟩), e2, k2⟩, ⟨.vals [.int .i64 s, .int .i64 i, .row b n], e3, k3⟩, b4] }
  | _, _, true, some f => said { only st [(2, .ptr 2 0), (3, .ptr 3 0), (4, .ptr 4 0), (5, .int .i64 f)] with mem := [⟨.recs sh c, e, k⟩, g, ⟨.vals (acL (trnX (pntX ⟨w, h, u, x, y, d, q⟩ x y (f % i)) (4 - qtI ((rows3 c).getD f.toNat default).t))), e2, k2⟩, ⟨.vals [.int .i64 s, .int .i64 i, .row b n], e3, k3⟩, b4] }
  | _, _, _, _ => none)
 | _ => none
def ulInv (l : List Row3) (t q : Int) (k : Int) : Prop := fwInv l t q k /\ l.length <= 16
def ann_spec_UndoScene : Nat -> St -> Option Ann := fun key st =>
 match st.mem with
 | ⟨.recs sh c, e, k⟩ :: b1 :: b2 :: b3 :: ⟨.vals [.int _ s, .int _ i, .row b n, .int _ w, .int _ h, .str u, .int _ x, .int _ y, .int _ d, .int _ q], e4, k4⟩ :: r =>
  (match Nat.beq key 1005, Nat.beq key 1010, Nat.ble 1000 key with
  | true, _, _ => said { only st [(1, .ptr 1 0), (2, .ptr 2 0), (4, .ptr 4 0), (5, .int .i64 (colX ⟨w, h, u, x, y, d, q⟩ x y))] with mem := [⟨.recs sh c, e, k⟩, b1, b2, b3, ⟨.vals (scL s i b n ⟨w, h, u, x, y, d, q⟩), e4, k4⟩] }
  | _, true, _ => (match r, intAt st 6 with
   | ⟨.vals [.int _ ra, .str rt, .int _ rb], e5, k5⟩ :: _, some j => said { only st [(1, .ptr 1 0), (2, .ptr 2 0), (4, .ptr 4 0), (6, .int .i64 j)] with mem := [⟨.recs sh c, e, k⟩, b1, b2, b3, ⟨.vals (scL s i b n { w := w, h := h, u := u, x := x, y := y, d := (d - qtI rt) % 4, q := q }), e4, k4⟩] }
   | _, _ => none)
  | _, _, false => (match intAt st 5, st.get 36 with
   | some t, .row rb m => some { α := Int, find := fun st => intAt st 38, head := fun j => { only st [(1, .ptr 1 0), (2, .ptr 2 0), (4, .ptr 4 0), (5, .int .i64 t), (36, .row rb m), (37, .int .i64 m), (38, .int .i64 j)] with mem := [⟨.recs sh c, e, k⟩, b1, b2, b3, ⟨.vals (scL s i b n ⟨w, h, u, x, y, d, q⟩), e4, k4⟩] }, inv := fun j => ulInv (rows3 c) t q j, meas := fun j => ((m : Int) - j).toNat }
   | _, _ => none)
  | _, _, _ => none)
 | _ => none
def plInv (m k : Int) : Prop := 0 <= k /\ k <= m /\ m = 1
def ann_impl_playedU : Nat -> St -> Option Ann := fun key st =>
 match st.mem, st.get 2, intAt st 10, Nat.ble 1000 key with
 | ⟨.recs sh c, e, k⟩ :: g :: ⟨.vals [.int _ s, .int _ i, .row b n, w2, h2, u2, x2, y2, d2, q2], e2, k2⟩ :: b3 :: ⟨.vals [_, .int _ w, .int _ h, .str u, .int _ x, .int _ y, .int _ d, .int _ q], e4, k4⟩ :: _, f, some m, false =>
  some { α := Int, find := fun st => intAt st 11, head := fun j => { only st [(2, f), (3, .ptr 2 0), (6, .ptr 3 0), (7, .ptr 4 0), (10, .int .i64 m), (11, .int .i64 j)] with mem := [⟨.recs sh c, e, k⟩, g, ⟨.vals [.int .i64 s, .int .i64 i, .row b n, w2, h2, u2, x2, y2, d2, q2], e2, k2⟩, b3, ⟨.vals (acL (iterU i (rows3 c) j.toNat ⟨w, h, u, x, y, d, q⟩)), e4, k4⟩] }, inv := plInv m, meas := fun j => (m - j).toNat }
 | _, _, _, _ => none
end Go.Vi
