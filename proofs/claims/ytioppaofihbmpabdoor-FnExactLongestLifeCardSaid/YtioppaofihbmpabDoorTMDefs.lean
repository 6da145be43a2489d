/- How the laws compare and mark rows. -/
import Derived.Test.YtioppaofihbmpabDoorVig
namespace Go.Vi
abbrev nilM : List (List Int) := []
def smallM (l : List (List Int)) : Prop := l.length ≤ 2000000 ∧ ∀ r ∈ l, r.length ≤ 2000000
def annIx (α : Type) (find : St → Option α) (head : α → St) (inv : α → Prop) (meas : α → Nat) : Option Ann := some { α := α, find := find, head := head, inv := inv, meas := meas }
def ixInv (m : Nat) (i : Int) : Prop := 0 ≤ i ∧ i ≤ m
def ann_laws_toIntS : Nat → St → Option Ann := fun _ st =>
  match st.mem with
  | ⟨.ints kd a, e, k⟩ :: _ => some {
      α := Int
      find := fun st => intAt st 4
      head := fun i => { only st [(0, .row 0 a.length), (3, .row 1 a.length), (4, .int .i64 i)] with mem := [⟨.ints kd a, e, k⟩, ⟨.ints .i64 (a.take i.toNat ++ List.replicate (a.length - i.toNat) 0), 3, .row⟩] }
      inv := fun i => ixInv a.length i
      meas := fun i => ((a.length : Int) - i).toNat
      auto := true }
  | _ => none
def eqsInv (a b : List Int) (i : Int) : Prop := 0 ≤ i ∧ i ≤ a.length ∧ a.length = b.length ∧ a.length ≤ 2000000 ∧ a.take i.toNat = b.take i.toNat
def ann_laws_eqIntS : Nat → St → Option Ann := fun _ st =>
  match st.mem, st.get 0, st.get 1 with
  | [⟨.ints _ a, _, _⟩, ⟨.ints _ b, _, _⟩], .row x n, .row y m => some {
      α := Int
      find := fun st => intAt st 5
      head := fun i => only st [(0, .row x n), (1, .row y m), (5, .int .i64 i)]
      inv := fun i => eqsInv a b i
      meas := fun i => (a.length - i).toNat }
  | _, _, _ => none
def eqmInv (a b : List (List Int)) (i : Int) : Prop := 0 ≤ i ∧ i ≤ a.length ∧ a.length = b.length ∧ a.take i.toNat = b.take i.toNat
def ann_laws_eqIntSS : Nat → St → Option Ann := fun _ st =>
  match st.mem, st.get 0, st.get 1 with
  | [⟨.mat _ _ a, _, _⟩, ⟨.mat _ _ b, _, _⟩], .row x n, .row y m => some {
      α := Int
      find := fun st => intAt st 5
      head := fun i => only st [(0, .row x n), (1, .row y m), (5, .int .i64 i)]
      inv := fun i => eqmInv a b i
      meas := fun i => (a.length - i).toNat }
  | _, _, _ => none
def ramp (k : Int) (n : Nat) : List Int := (List.range n).map fun j : Nat => k + (j : Int)
def totL : List (List Int) → Nat
  | [] => 0
  | r :: l => r.length + totL l
def rampM : Int → List (List Int) → List (List Int)
  | _, [] => []
  | k, r :: l => ramp k r.length :: rampM (k + (r.length : Nat)) l
def mrkRow (a : List Int) (k0 : Int) (i : Nat) : List Int := ramp k0 i ++ a.drop i
def ann_laws_markIntS : Nat → St → Option Ann := fun _ st =>
  match st.mem, st.get 0, intAt st 1 with
  | [⟨.ints kd a, e, kk⟩], .row x n, some k0 => some {
      α := Int
      find := fun st => intAt st 5
      head := fun i => { only st [(0, .row x n), (1, .int .i64 (k0 + i)), (5, .int .i64 i)] with mem := [⟨.ints kd (mrkRow a k0 i.toNat), e, kk⟩] }
      inv := fun i => ixInv a.length i
      meas := fun i => ((a.length : Int) - i).toNat }
  | _, _, _ => none
def mrkMat (l : List (List Int)) (k0 : Int) (i : Nat) : List (List Int) := rampM k0 (l.take i) ++ l.drop i
def ann_laws_markIntSS : Nat → St → Option Ann := fun _ st =>
  match st.mem, st.get 0, intAt st 1 with
  | [⟨.mat kd et l, e, kk⟩], .row x n, some k0 => some {
      α := Int
      find := fun st => intAt st 5
      head := fun i => { only st [(0, .row x n), (1, .int .i64 (k0 + (totL (l.take i.toNat) : Nat))), (5, .int .i64 i)] with mem := [⟨.mat kd et (mrkMat l k0 i.toNat), e, kk⟩] }
      inv := fun i => ixInv l.length i
      meas := fun i => ((l.length : Int) - i).toNat }
  | _, _, _ => none
def hldInv (a : List Int) (k0 : Int) (i : Int) : Prop := ixInv a.length i ∧ a.take i.toNat = ramp k0 i.toNat
def ann_laws_heldIntS : Nat → St → Option Ann := fun _ st =>
  match st.mem, st.get 0, intAt st 1 with
  | [⟨.ints _ a, _, _⟩], .row x n, some k0 => some {
      α := Int
      find := fun st => intAt st 5
      head := fun i => only st [(0, .row x n), (1, .int .i64 (k0 + i)), (5, .int .i64 i)]
      inv := fun i => hldInv a k0 i
      meas := fun i => ((a.length : Int) - i).toNat }
  | _, _, _ => none
def hlmInv (l : List (List Int)) (k0 : Int) (i : Int) : Prop := ixInv l.length i ∧ l.take i.toNat = rampM k0 (l.take i.toNat)
def ann_laws_heldIntSS : Nat → St → Option Ann := fun _ st =>
  match st.mem, st.get 0, intAt st 1 with
  | [⟨.mat _ _ l, _, _⟩], .row x n, some k0 => some {
      α := Int
      find := fun st => intAt st 5
      head := fun i => only st [(0, .row x n), (1, .int .i64 (k0 + (totL (l.take i.toNat) : Nat))), (5, .int .i64 i)]
      inv := fun i => hlmInv l k0 i
      meas := fun i => ((l.length : Int) - i).toNat }
  | _, _, _ => none
end Go.Vi
