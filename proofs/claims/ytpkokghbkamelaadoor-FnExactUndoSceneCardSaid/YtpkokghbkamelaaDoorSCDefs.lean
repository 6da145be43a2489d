/- Scenes: what is good, and steps. -/
import Derived.Test.YtpkokghbkamelaaDoorTZPf
import Derived.Test.YtpkokghbkamelaaDoorTYPf
namespace Go.Vi
set_option linter.unusedVariables false
structure Sx where
 w : Int
 h : Int
 u : List UInt8
 x : Int
 y : Int
 d : Int
 q : Int
def colsB (c : List UInt8) (n : Int) : Bool := c.all fun d => inB ((d.toNat : Int) - 48) 0 (n - 1)
def hasX (a : Sx) (x y : Int) : Bool := inB x 0 (a.w - 1) && inB y 0 (a.h - 1)
def cellsX (a : Sx) : Bool := inB a.w 1 9 && inB a.h 1 9 && decide ((a.u.length : Int) = a.w * a.h)
def goodX (s i : Int) (a : Sx) : Bool := cellsX a && colsB a.u i && hasX a a.x a.y && inB a.d 0 3 && inB a.q 0 (s - 1)
def sceneB (s i : Int) (l : List Row3) (w h : Int) (u : List UInt8) (x y d q : Int) : Bool := tabB s i l && goodX s i ⟨w, h, u, x, y, d, q⟩
def szS (l : List Row3) (u : List UInt8) (left : Int) : Int := bif decide (szT l left < 0) then -1 else szI u.length (szT l left)
def cIx (a : Sx) (x y : Int) : Nat := (y * a.w + x).toNat
def colX (a : Sx) (x y : Int) : Int := ((a.u.getD (cIx a x y) 0).toNat : Int) - 48
def turnI (b : Int) : Int := bif b == 82 then 1 else bif b == 85 then 2 else bif b == 76 then 3 else 0
def dirX (d : Int) : Int := bif d == 0 then 0 else bif d == 1 then 1 else bif d == 2 then 0 else -1
def dirY (d : Int) : Int := bif d == 0 then -1 else bif d == 1 then 0 else bif d == 2 then 1 else 0
def trnX (a : Sx) (k : Int) : Sx := { a with d := (a.d + k) % 4 }
def movX (a : Sx) (k : Int) : Sx := { a with x := (a.x + k * dirX a.d) % a.w, y := (a.y + k * dirY a.d) % a.h }
def pntX (a : Sx) (x y k : Int) : Sx := { a with u := a.u.take (cIx a x y) ++ num1 k ++ a.u.drop (cIx a x y + 1) }
def zeroX : Sx := ⟨0, 0, [], 0, 0, 0, 0⟩
def acV (a : Sx) : V := .agg [.str [], .int .i64 a.w, .int .i64 a.h, .str a.u, .int .i64 a.x, .int .i64 a.y, .int .i64 a.d, .int .i64 a.q]
def rowV (r : Row3) : V := .agg [.int .i64 r.a, .str r.t, .int .i64 r.b]
def colsInv (c : List UInt8) (n : Int) (i : Int) : Prop := c.length <= 1000 /\ 0 <= i /\ i <= c.length /\ colsB (c.take i.toNat) n = true
def ann_impl_areColours : Nat -> St -> Option Ann := fun _ st =>
 match strAt st 0, intAt st 1 with
 | some s, some k => some { α := Int, find := fun st => intAt st 8, head := fun i => only st [(0, .str s), (1, .int .i64 k), (7, .int .i64 s.length), (8, .int .i64 i)], inv := fun i => colsInv s k i, meas := fun i => (s.length - i).toNat }
 | _, _ => none
def ann_spec_taScene : Nat -> St -> Option Ann := fun key st =>
 match st.mem, st.get 1, Nat.beq key 4 with
 | _ :: ⟨.vals [_, .int _ i, _, _, _, .str u, _, _, _, _], _, _⟩ :: _, v, true =>
  some { α := Int, find := fun st => intAt st 3, head := fun k => only st [(1, v), (3, .int .i64 k)], inv := fun k => colsInv u i k, meas := fun k => (u.length - k).toNat }
 | _, _, _ => none
def ann_impl_IsScene : Nat -> St -> Option Ann := fun key st =>
 match st.mem, Nat.beq key 1003 with
 | _ :: _ :: ⟨.vals [.int _ s, .int _ i, _, .int _ w, .int _ h, .str u, .int _ x, .int _ y, .int _ d, .int _ q], _, _⟩ :: _, true =>
  some { α := Unit, find := fun _ => some (), head := fun _ => only st [(1, .ptr 2 0), (3, .bool (hasX ⟨w, h, u, x, y, d, q⟩ x y && inB d 0 3 && inB q 0 (s - 1)))], inv := fun _ => True, meas := fun _ => 0, join := true }
 | _, _ => none
end Go.Vi
