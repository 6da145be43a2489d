/- Steps forth and back. -/
import Derived.Test.YtbchncdchanomacDoorP1Defs
namespace Go.Vi
def turnI (b : Int) : Int := bif b == 82 then 1 else bif b == 85 then 2 else bif b == 76 then 3 else 0
def dirX (d : Int) : Int := bif d == 0 then 0 else bif d == 1 then 1 else bif d == 2 then 0 else -1
def dirY (d : Int) : Int := bif d == 0 then -1 else bif d == 1 then 0 else bif d == 2 then 1 else 0
def boxB (w : Wd) : Bool := inB w.w 1 9 && inB w.h 1 9 && inB w.x 0 (w.w - 1) && inB w.y 0 (w.h - 1)
def signAt (w : Wd) (c : Int) : Int := (w.r.getD c.toNat 0).toNat
def trnW (w : Wd) (q : Int) : Wd := { w with d := (w.d + q) % 4 }
def movW (w : Wd) (k : Int) : Wd := { w with x := (w.x + k * dirX w.d) % w.w, y := (w.y + k * dirY w.d) % w.h }
def pntW (w : Wd) (x y k : Int) : Wd := { w with c := paintC w x y k }
def setW (w : Wd) (k : Int) : Wd := pntW w w.x w.y k
def stepW (w : Wd) : Wd := movW (setW (trnW w (turnI (signAt w (colAt w w.x w.y)))) ((colAt w w.x w.y + 1) % w.r.length)) 1
def bkC (w : Wd) : Int := (colAt (movW w (-1)) (movW w (-1)).x (movW w (-1)).y - 1) % w.r.length
def backW (w : Wd) : Wd := trnW (setW (movW w (-1)) (bkC w)) (4 - turnI (signAt w (bkC w)))
def iterW (f : Wd → Wd) : Nat → Wd → Wd
  | 0, w => w
  | n + 1, w => iterW f n (f w)
def wdL (w : Wd) : List V := [.str w.r, .int .i64 w.w, .int .i64 w.h, .str w.c, .int .i64 w.x, .int .i64 w.y, .int .i64 w.d]
def wdOf : List V → Option Wd
  | [.str r, .int _ w, .int _ h, .str c, .int _ x, .int _ y, .int _ d] => some ⟨r, w, h, c, x, y, d⟩
  | _ => none
def aftInv (f : Wd → Wd) (s0 : Int) (w0 : Wd) (a : Int × Wd) : Prop := goodB a.2 = true ∧ inB s0 0 3000 = true ∧ 0 ≤ a.1 ∧ a.1 ≤ s0 ∧ iterW f a.1.toNat a.2 = iterW f s0.toNat w0
def annAfter (f : Wd → Wd) : Nat → St → Option Ann := fun _ st =>
  match st.mem, intAt st 1 with
  | [⟨.vals vs, e, kd⟩, b1], some s0 =>
    (match wdOf vs with
    | some w0 => some {
        α := Int × Wd
        find := fun st => (match intAt st 1, st.mem with | some s, ⟨.vals vs, _, _⟩ :: _ => (match wdOf vs with | some w => some (s, w) | none => none) | _, _ => none)
        head := fun a => { only st [(1, .int .i64 a.1), (2, .ptr 0 0), (4, .ptr 1 0), (5, .lit false)] with mem := [⟨.vals (wdL a.2), e, kd⟩, b1] }
        inv := aftInv f s0 w0
        meas := fun a => a.1.toNat }
    | none => none)
  | _, _ => none
def ann_spec_WorldAfter := annAfter stepW
def ann_spec_WorldBefore := annAfter backW
def stepBy (f : FuncId) : Wd → Wd := if f = 24 then stepW else backW
structure Led where
  s : Int
  k : Int
  v : Wd
def ledInv (f : Wd → Wd) (s0 : Int) (w0 : Wd) (a : Led) : Prop := goodB w0 = true ∧ goodB a.v = true ∧ 0 ≤ s0 ∧ a.s ≤ 3000 ∧ 1 ≤ a.k ∧ a.k ≤ a.s + 1 ∧ a.v = iterW f (a.k - 1).toNat w0 ∧ iterW f a.s.toNat w0 = iterW f s0.toNat w0
def ann_impl_led : Nat → St → Option Ann := fun _ st =>
  match st.mem, intAt st 1, st.get 2 with
  | [⟨.vals vs, e, kd⟩, b1, ⟨_, e2, kd2⟩], some s0, .fn f caps =>
    (match wdOf vs with
    | some w0 => some {
        α := Led
        find := fun st => (match intAt st 1, intAt st 8, st.mem with | some s, some k, [_, _, ⟨.vals vs, _, _⟩] => (match wdOf vs with | some w => some ⟨s, k, w⟩ | none => none) | _, _, _ => none)
        head := fun a => { only st [(1, .int .i64 a.s), (2, .fn f caps), (3, .ptr 0 0), (6, .ptr 1 0), (7, .ptr 2 0), (8, .int .i64 a.k)] with mem := [⟨.vals (wdL w0), e, kd⟩, b1, ⟨.vals (wdL a.v), e2, kd2⟩] }
        inv := ledInv (stepBy f) s0 w0
        meas := fun a => (a.s - a.k + 1).toNat }
    | none => none)
  | _, _, _ => none
end Go.Vi
