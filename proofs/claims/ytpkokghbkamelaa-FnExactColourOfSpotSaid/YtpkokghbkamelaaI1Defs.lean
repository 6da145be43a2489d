/- Plains that come in; what is a plain; boxes. -/
import Derived.Test.YtpkokghbkamelaaF0Pf
import Derived.Test.YtpkokghbkamelaaVik
namespace Go.Vi
def szS (n : Nat) (left : Int) : Int := bif decide (left - n < 0) then -1 else left - n
def szP (r : List UInt8) (n : Nat) (left : Int) : Int := bif decide (left - r.length < 0) then -1 else bif decide (szS n (left - r.length) < 0) then -1 else szS n (left - r.length)
/-- A row of which the first i are laid. -/
def cpy (a : List Int) (i : Nat) : List Int := a.take (3 * i) ++ List.replicate (a.length - 3 * i) 0
def ivInv (n : Nat) (p : Int -> Prop) (i : Int) : Prop := 0 <= i /\ i <= n /\ n <= 2000000 /\ p i
def ann_laws_toSpotS : Nat -> St -> Option Ann := fun _ st =>
 match st.mem, st.get 0 with
 | [⟨.ints kd a, e, k⟩, ⟨_, e1, k1⟩], .row x n => some {
     α := Int
     find := fun st => intAt st 4
     head := fun i => { only st [(0, .row x n), (3, .row 1 n), (4, .int .i64 i)] with mem := [⟨.ints kd a, e, k⟩, ⟨.ints .i64 (cpy a i.toNat), e1, k1⟩] }
     inv := ivInv n fun _ => True
     meas := fun i => ((n : Int) - i).toNat }
 | _, _ => none
def lessS (ax ay bx by_ : Int) : Bool := decide (ay < by_) || ay == by_ && decide (ax < bx)
def cmp3 (a b : Int) : Int := bif decide (a < b) then -1 else bif decide (a > b) then 1 else 0
def cmpS (ax ay bx by_ : Int) : Int := bif cmp3 ay by_ == 0 then cmp3 ax bx else cmp3 ay by_
def orF : List Int -> Int
 | [] => 0
 | x :: r => bif x == 0 then orF r else x
def ann_cmp_Or_int : Nat -> St -> Option Ann := fun _ st =>
 match st.mem, st.get 6 with
 | [⟨.ints _ a, _, _⟩], .row x n => some {
     α := Int
     find := fun st => intAt st 8
     head := fun i => only st [(3, .int .i64 0), (6, .row x n), (7, .int .i64 n), (8, .int .i64 i)]
     inv := ivInv n fun i => orF a = orF (a.drop i.toNat)
     meas := fun i => ((n : Int) - i).toNat }
 | _, _ => none
def farB (n : Int) : Bool := inB n (-1000) 1000
def spX (a : List Int) (i : Nat) : Int := a.getD (i * 3) 0
def spY (a : List Int) (i : Nat) : Int := a.getD (i * 3 + 1) 0
def spK (a : List Int) (i : Nat) : Int := a.getD (i * 3 + 1 + 1) 0
/-- Spot number i is one, behind the one before. -/
def oneS (k : Int) (a : List Int) (i : Nat) : Bool := farB (spX a i) && farB (spY a i) && inB (spK a i) 1 (k - 1) && (i == 0 || lessS (spX a (i - 1)) (spY a (i - 1)) (spX a i) (spY a i))
def allS (k : Int) (a : List Int) : Nat -> Bool
 | 0 => true
 | i + 1 => allS k a i && oneS k a i
def goodP (r : List UInt8) (n : Nat) (a : List Int) (x y d : Int) : Bool := ruleB r && decide (n <= 300) && farB x && farB y && inB d 0 3 && allS r.length a n
def plOf : List V -> Option (List UInt8)
 | .str r :: _ => some r
 | _ => none
def annSpots (sr sl si : Nat) : Nat -> St -> Option Ann := fun _ st =>
 match st.mem, st.get sr with
 | [⟨.ints _ a, _, _⟩, ⟨.vals vs, _, _⟩], .row x n =>
  (match plOf vs with
  | some r => some {
    α := Int
    find := fun st => intAt st si
    head := fun i => only st [(1, .ptr 1 0), (sr, .row x n), (sl, .int .i64 n), (si, .int .i64 i)]
    inv := fun i => n <= 300 /\ 1 <= r.length /\ r.length <= 6 /\ ivInv n (fun i => allS r.length a i.toNat = true) i
    meas := fun i => ((n : Int) - i).toNat }
  | none => none)
 | _, _ => none
def ann_spec_enGood := annSpots 34 35 36
def ann_impl_IsPlain := annSpots 30 31 32
end Go.Vi
