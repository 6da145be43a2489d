/- The ends that balls come out at. -/
import Derived.Test.YtkkpkfphfhcgoaaDoorH1Pf
namespace Go.Vi
def etF (w h : Int) (c : List UInt8) (t : Bool) : Nat → List Int
  | 0 => []
  | k + 1 => etF w h c t k ++ [endR w h (outR t w h (entR w h c k) 0 0).r]
def etL (w h : Int) (c : List UInt8) (t : Bool) : List Int := bif mzB ⟨w, h, c, t⟩ then etF w h c t (2 * (w + h)).toNat else []
def ann_spec_ExitTable : Nat → St → Option Ann := fun key st =>
  match st.mem with
  | ⟨.vals [.int q w, .int q' h, .str c, .bool t], e0, k0⟩ :: _ =>
    (match Nat.beq key 1007, intAt st 5 with
    | true, some k => some {
        α := Unit
        find := fun _ => some ()
        head := fun _ => only st [(1, .ptr 0 0), (4, st.get 4), (5, .int .i64 k), (7, .int .i64 (rnE w h c t (entX w h k) (entY w h k) (entD w h k)))]
        inv := fun _ => True
        meas := fun _ => 0
        join := true }
    | _, _ => some {
        α := Int
        find := fun st => intAt st 5
        head := fun k => { only st [(1, .ptr 0 0), (4, .row 1 (etF w h c t k.toNat).length), (5, .int .i64 k)] with mem := [⟨.vals [.int q w, .int q' h, .str c, .bool t], e0, k0⟩, ⟨.ints .i64 (etF w h c t k.toNat), 3, .row⟩] }
        inv := ltInv w h
        meas := fun k => (2 * (w + h) - k).toNat
        auto := true })
  | _ => none
def ann_impl_ExitTable : Nat → St → Option Ann := fun key st =>
  match st.mem, Nat.beq key 5 with
  | ⟨.vals [.int q w, .int q' h, .str c, .bool t], e0, k0⟩ :: _, true => some {
      α := Int
      find := fun st => intAt st 14
      head := fun k => { only st [(1, .ptr 0 0), (4, .row 1 (etF w h c t k.toNat).length), (13, .int .i64 (2 * (w + h))), (14, .int .i64 k)] with mem := [⟨.vals [.int q w, .int q' h, .str c, .bool t], e0, k0⟩, ⟨.ints .i64 (etF w h c t k.toNat), 3, .row⟩] }
      inv := ltInv w h
      meas := fun k => (2 * (w + h) - k).toNat
      auto := true }
  | _, _ => none
/-! ### rows of numbers in a law -/
def ramp (k : Int) (n : Nat) : List Int := (List.range n).map fun j : Nat => k + (j : Int)
def eqsInv (a b : List Int) (i : Int) : Prop := 0 ≤ i ∧ i ≤ a.length ∧ a.length = b.length ∧ a.length ≤ 1000 ∧ a.take i.toNat = b.take i.toNat
def ann_laws_eqIntS : Nat → St → Option Ann := fun _ st =>
  match st.mem, st.get 0, st.get 1 with
  | [⟨.ints _ a, _, _⟩, ⟨.ints _ b, _, _⟩], .row x n, .row y m => some {
      α := Int
      find := fun st => intAt st 5
      head := fun i => only st [(0, .row x n), (1, .row y m), (5, .int .i64 i)]
      inv := fun i => eqsInv a b i
      meas := fun i => (a.length - i).toNat }
  | _, _, _ => none
def mrkInv (a : List Int) (k0 : Int) (i : Int) : Prop := 0 ≤ i ∧ i ≤ a.length ∧ a.length ≤ 1000 ∧ 0 ≤ k0 ∧ k0 ≤ 1000
def mrkRow (a : List Int) (k0 : Int) (i : Int) : List Int := ramp k0 i.toNat ++ a.drop i.toNat
def ann_laws_markIntS : Nat → St → Option Ann := fun _ st =>
  match st.mem, st.get 0, intAt st 1 with
  | [⟨.ints kd a, e, kk⟩], .row x n, some k0 => some {
      α := Int
      find := fun st => intAt st 5
      head := fun i => { only st [(0, .row x n), (1, .int .i64 (k0 + i)), (5, .int .i64 i)] with mem := [⟨.ints kd (mrkRow a k0 i), e, kk⟩] }
      inv := fun i => mrkInv a k0 i
      meas := fun i => (a.length - i).toNat }
  | _, _, _ => none
def hldInv (a : List Int) (k0 : Int) (i : Int) : Prop := mrkInv a k0 i ∧ a.take i.toNat = ramp k0 i.toNat
def ann_laws_heldIntS : Nat → St → Option Ann := fun _ st =>
  match st.mem, st.get 0, intAt st 1 with
  | [⟨.ints _ a, _, _⟩], .row x n, some k0 => some {
      α := Int
      find := fun st => intAt st 5
      head := fun i => only st [(0, .row x n), (1, .int .i64 (k0 + i)), (5, .int .i64 i)]
      inv := fun i => hldInv a k0 i
      meas := fun i => (a.length - i).toNat }
  | _, _, _ => none
end Go.Vi
