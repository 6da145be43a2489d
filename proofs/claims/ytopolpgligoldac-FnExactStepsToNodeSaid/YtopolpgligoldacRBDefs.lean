/- How the laws mark routes; rings. -/
import Derived.Test.YtopolpgligoldacRAPf
namespace Go.Vi
def ramp (k : Int) (n : Nat) : List Int := (List.range n).map fun j : Nat => k + (j : Int)
def totL : List (List Int) → Nat
  | [] => 0
  | r :: l => r.length + totL l
def rampM : Int → List (List Int) → List (List Int)
  | _, [] => []
  | k, r :: l => ramp k r.length :: rampM (k + (r.length : Nat)) l
def ringN (nodes : Int) : Nat := bif inB nodes 1 10 then nodes.toNat else 0
def ringRow (n : Int) (i : Nat) : List Int := [Int.tmod ((i : Int) + 1) n, Int.tmod ((i : Int) + n - 1) n]
def ringM (n : Int) (m : Nat) : List (List Int) := (List.range m).map (ringRow n)
def mrkRow (a : List Int) (k0 : Int) (i : Nat) : List Int := ramp k0 i ++ a.drop i
def ann_laws_markIntS : Nat → St → Option Ann := fun _ st =>
  match st.mem, st.get 0, intAt st 1 with
  | [⟨.ints kd a, e, kk⟩], .row x n, some k0 => some {
      α := Int
      find := fun st => intAt st 5
      head := fun i => { only st [(0, .row x n), (1, .int .i64 (k0 + i)), (5, .int .i64 i)] with mem := [⟨.ints kd (mrkRow a k0 i.toNat), e, kk⟩] }
      inv := fun i => ixInv a.length i
      meas := fun i => ((a.length : Int) - i).toNat }
  | _, _, _ => none
def mrkMat (l : List (List Int)) (k0 : Int) (i : Nat) : List (List Int) := rampM k0 (l.take i) ++ l.drop i
def ann_laws_markIntSS : Nat → St → Option Ann := fun _ st =>
  match st.mem, st.get 0, intAt st 1 with
  | [⟨.mat kd et l, e, kk⟩], .row x n, some k0 => some {
      α := Int
      find := fun st => intAt st 5
      head := fun i => { only st [(0, .row x n), (1, .int .i64 (k0 + (totL (l.take i.toNat) : Nat))), (5, .int .i64 i)] with mem := [⟨.mat kd et (mrkMat l k0 i.toNat), e, kk⟩] }
      inv := fun i => ixInv l.length i
      meas := fun i => ((l.length : Int) - i).toNat }
  | _, _, _ => none
def hldInv (a : List Int) (k0 : Int) (i : Int) : Prop := ixInv a.length i ∧ a.take i.toNat = ramp k0 i.toNat
def ann_laws_heldIntS : Nat → St → Option Ann := fun _ st =>
  match st.mem, st.get 0, intAt st 1 with
  | [⟨.ints _ a, _, _⟩], .row x n, some k0 => some {
      α := Int
      find := fun st => intAt st 5
      head := fun i => only st [(0, .row x n), (1, .int .i64 (k0 + i)), (5, .int .i64 i)]
      inv := fun i => hldInv a k0 i
      meas := fun i => ((a.length : Int) - i).toNat }
  | _, _, _ => none
def hlmInv (l : List (List Int)) (k0 : Int) (i : Int) : Prop := ixInv l.length i ∧ l.take i.toNat = rampM k0 (l.take i.toNat)
def ann_laws_heldIntSS : Nat → St → Option Ann := fun _ st =>
  match st.mem, st.get 0, intAt st 1 with
  | [⟨.mat _ _ l, _, _⟩], .row x n, some k0 => some {
      α := Int
      find := fun st => intAt st 5
      head := fun i => only st [(0, .row x n), (1, .int .i64 (k0 + (totL (l.take i.toNat) : Nat))), (5, .int .i64 i)]
      inv := fun i => hlmInv l k0 i
      meas := fun i => ((l.length : Int) - i).toNat }
  | _, _, _ => none
/-- The result's box, the route's box, its rows. -/
def rgMem (n i : Nat) (nodes : Int) (l : List (List Int)) : List Blk := [⟨.vals [.raw (.slice none 0 0), .raw (.slice none 0 0)], 29, .box⟩, ⟨.vals [.row 2 i, .row 3 n], 29, .box⟩, ⟨.mat .i64 3 l, 23, .mat⟩, ⟨.ints .i64 (List.replicate nodes.toNat 0), 3, .row⟩]
def ann_spec_RingRoute : Nat → St → Option Ann := fun key st =>
  match intAt st 0, key with
  | some nodes, 5 => some {
      α := Int
      find := fun st => intAt st 5
      head := fun i => { only st [(0, .int .i64 nodes), (2, .ptr 0 0), (4, .ptr 1 0), (5, .int .i64 i)] with mem := rgMem nodes.toNat i.toNat nodes (ringM nodes i.toNat) }
      inv := fun i => ixInv nodes.toNat i
      meas := fun i => ((nodes.toNat : Int) - i).toNat
      auto := true }
  | _, _ => none
def ann_impl_RingRoute : Nat → St → Option Ann := fun key st =>
  match intAt st 0, key with
  | some nodes, 1003 => some {
      α := Unit
      find := fun _ => some ()
      head := fun _ => { only st [(0, .int .i64 nodes), (2, .ptr 0 0), (4, .ptr 1 0)] with mem := rgMem nodes.toNat nodes.toNat nodes (List.replicate nodes.toNat nilI) }
      inv := fun _ => True
      meas := fun _ => 0 }
  | some nodes, 5 => some {
      α := Int
      find := fun st => intAt st 16
      head := fun i => { only st [(0, .int .i64 nodes), (2, .ptr 0 0), (4, .ptr 1 0), (15, .int .i64 nodes), (16, .int .i64 i)] with mem := rgMem nodes.toNat nodes.toNat nodes (ringM nodes i.toNat ++ List.replicate (nodes.toNat - i.toNat) nilI) }
      inv := fun i => ixInv nodes.toNat i
      meas := fun i => ((nodes.toNat : Int) - i).toNat
      auto := true }
  | _, _ => none
end Go.Vi
