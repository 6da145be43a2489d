/- Spots found: by halves, and by a map. -/
import Derived.Test.YtpkokghbkamelaaI1Pf
namespace Go.Vi
set_option linter.unusedVariables false
/-- How many of the first spots come before a cell, if they are in order. -/
def cutF (a : List Int) (x y : Int) : Nat -> Nat
 | 0 => 0
 | i + 1 => bif lessS (spX a i) (spY a i) x y then i + 1 else cutF a x y i
def srtd (a : List Int) (n : Nat) : Prop := ∃ c, allS c a n = true
def lowF (a : List Int) (n : Nat) (x y : Int) : Int := cutF a x y n
def isF (a : List Int) (n : Nat) (x y : Int) : Bool := decide (lowF a n x y < n) && spX a (lowF a n x y).toNat == x && spY a (lowF a n x y).toNat == y
def colS (a : List Int) (x y : Int) : Nat -> Int
 | 0 => 0
 | i + 1 => bif x == spX a i && y == spY a i then spK a i else colS a x y i
def colP (ok : Bool) (a : List Int) (n : Nat) (x y : Int) : Int := bif ok then colS a x y n else 0
def mapOf (a : List Int) : Nat -> List (V × V)
 | 0 => []
 | i + 1 => putK (.agg [.int .i64 (spX a i), .int .i64 (spY a i)]) (.int .i64 (spK a i)) (mapOf a i)
def said1 (h : St) : Option Ann := some { α := Unit, find := fun _ => some (), head := fun _ => h, inv := fun _ => True, meas := fun _ => 0, join := true, force := true }
def ann_impl_endlessOf : Nat -> St -> Option Ann := fun key st =>
 match Nat.beq key 1001, Nat.beq key 1005, st.mem with
 | true, _, ⟨.ints kd a, e, k⟩ :: ⟨.vals [.str pr, .row b n, .int k1 px, .int k2 py, .int k3 pd], e1, kk1⟩ :: _ =>
  said1 { only st [(1, .ptr 1 0), (3, .ptr 3 0)] with mem := [⟨.ints kd a, e, k⟩, ⟨.vals [.str pr, .row b n, .int k1 px, .int k2 py, .int k3 pd], e1, kk1⟩, ⟨.map [], 44, .map⟩, ⟨.vals [.str pr, .mp 2, .int k1 px, .int k2 py, .int k3 pd], 50, .box⟩] }
 | _, true, [⟨.ints kd a, e, k⟩, b1, ⟨.map l, e2, k2⟩, b3, b4] => (match st.get 23, intAt st 24, intAt st 25 with
  | .row x n, some _, some i => said1 { only st [(1, .ptr 1 0), (3, .ptr 3 0), (23, .row x n), (24, .int .i64 n), (25, .int .i64 i)] with mem := [⟨.ints kd a, e, k⟩, b1, ⟨.map (mapOf a (i.toNat + 1)), e2, k2⟩, b3] }
  | _, _, _ => none)
 | _, _, [⟨.ints kd a, e, k⟩, b1, ⟨_, e2, k2⟩, b3] => (match st.get 23 with
  | .row x n => some {
   α := Int
   find := fun st => intAt st 25
   head := fun i => { only st [(1, .ptr 1 0), (3, .ptr 3 0), (23, .row x n), (24, .int .i64 n), (25, .int .i64 i)] with mem := [⟨.ints kd a, e, k⟩, b1, ⟨.map (mapOf a i.toNat), e2, k2⟩, b3] }
   inv := ivInv n fun _ => True
   meas := fun i => ((n : Int) - i).toNat }
  | _ => none)
 | _, _, _ => none
def halfInv (a : List Int) (n : Nat) (x y : Int) (p : Int × Int) : Prop := 0 <= p.1 /\ p.2 <= n /\ p.1 <= lowF a n x y /\ lowF a n x y <= p.2
def ann_spec_enAt : Nat -> St -> Option Ann := fun key st =>
 match Nat.ble 1000 key, st.mem, st.get 0, intAt st 1, intAt st 2 with
 | false, [⟨.ints _ a, _, _⟩], .row b n, some x, some y => some {
   α := Int × Int
   find := fun st => (match intAt st 8, intAt st 9 with | some l, some h => some (l, h) | _, _ => none)
   head := fun p => only st [(0, .row b n), (1, .int .i64 x), (2, .int .i64 y), (8, .int .i64 p.1), (9, .int .i64 p.2)]
   inv := halfInv a n x y
   meas := fun p => (p.2 - p.1).toNat }
 | _, _, _, _, _ => none
end Go.Vi
