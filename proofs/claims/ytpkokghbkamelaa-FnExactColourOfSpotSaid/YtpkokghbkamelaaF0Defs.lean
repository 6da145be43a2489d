/- Rows of spots in a law. -/
import Derived.Test.YtpkokghbkamelaaL1Pf
namespace Go.Vi
def ramp (k : Int) (n : Nat) : List Int := (List.range n).map fun j : Nat => k + (j : Int)
def sp3 (i : Int) : Nat := 3 * i.toNat
def spsInv (a b : List Int) (n : Nat) (i : Int) : Prop := 0 <= i /\ i <= n /\ a.take (sp3 i) = b.take (sp3 i)
def ann_laws_eqSpotS : Nat -> St -> Option Ann := fun _ st =>
 match st.mem, st.get 0, st.get 1 with
 | [⟨.ints _ a, _, _⟩, ⟨.ints _ b, _, _⟩], .row x n, .row y m => some {
     α := Int
     find := fun st => intAt st 5
     head := fun i => only st [(0, .row x n), (1, .row y m), (5, .int .i64 i)]
     inv := fun i => spsInv a b n i
     meas := fun i => ((n : Int) - i).toNat }
 | _, _, _ => none
def mksInv (n : Nat) (i : Int) : Prop := 0 <= i /\ i <= n
def mksRow (a : List Int) (k0 : Int) (m : Nat) : List Int := ramp k0 m ++ a.drop m
def ann_laws_markSpotS : Nat -> St -> Option Ann := fun _ st =>
 match st.mem, st.get 0, intAt st 1 with
 | [⟨.ints kd a, e, kk⟩], .row x n, some k0 => some {
     α := Int
     find := fun st => intAt st 5
     head := fun i => { only st [(0, .row x n), (1, .int .i64 (k0 + 3 * i)), (5, .int .i64 i)] with mem := [⟨.ints kd (mksRow a k0 (sp3 i)), e, kk⟩] }
     inv := fun i => mksInv n i
     meas := fun i => ((n : Int) - i).toNat }
 | _, _, _ => none
def hlsInv (a : List Int) (n : Nat) (k0 : Int) (i : Int) : Prop := 0 <= i /\ i <= n /\ a.take (sp3 i) = ramp k0 (sp3 i)
def ann_laws_heldSpotS : Nat -> St -> Option Ann := fun _ st =>
 match st.mem, st.get 0, intAt st 1 with
 | [⟨.ints _ a, _, _⟩], .row x n, some k0 => some {
     α := Int
     find := fun st => intAt st 5
     head := fun i => only st [(0, .row x n), (1, .int .i64 (k0 + 3 * i)), (5, .int .i64 i)]
     inv := fun i => hlsInv a n k0 i
     meas := fun i => ((n : Int) - i).toNat }
 | _, _, _ => none
end Go.Vi
