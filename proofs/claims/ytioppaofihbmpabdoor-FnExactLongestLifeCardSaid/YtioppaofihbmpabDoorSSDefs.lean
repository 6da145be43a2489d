/- How the laws compare and mark rows of texts. -/
import Derived.Test.YtioppaofihbmpabDoorTMPf
namespace Go.Vi
/-- The digits of n ahead of a text; f is more than enough. -/
def digF : Nat → Nat → List UInt8 → List UInt8
  | 0, _, l => l
  | f + 1, n, l => bif decide (n = 0) then l else digF f (n / 10) (UInt8.ofNat (48 + n % 10) :: l)
def mtx (k : Int) : List UInt8 := bif decide (k ≤ 0) then [109, 48] else 109 :: digF k.toNat k.toNat []
def mtInv (k0 : Int) (q : Int × List UInt8) : Prop := 0 ≤ q.1 ∧ q.1 + q.2.length ≤ 100000000 ∧ digF q.1.toNat q.1.toNat q.2 = digF k0.toNat k0.toNat []
def ann_laws_markText : Nat → St → Option Ann := fun _ st =>
  match intAt st 0 with
  | some k0 => some {
      α := Int × List UInt8
      find := fun st => (match intAt st 0, strAt st 3 with | some k, some l => some (k, l) | _, _ => none)
      head := fun q => only st [(0, .int .i64 q.1), (3, .str q.2)]
      inv := fun q => mtInv k0 q
      meas := fun q => q.1.toNat }
  | none => none
def eqtInv (a b : List (List UInt8)) (i : Int) : Prop := 0 ≤ i ∧ i ≤ a.length ∧ a.length = b.length ∧ a.length ≤ 2000000 ∧ a.take i.toNat = b.take i.toNat
def ann_laws_eqStringS : Nat → St → Option Ann := fun key st =>
  match Nat.beq key 4, st.mem, st.get 0, st.get 1 with
  | true, [⟨.strs a, _, _⟩, ⟨.strs b, _, _⟩], .row x n, .row y m => some {
      α := Int
      find := fun st => intAt st 5
      head := fun i => only st [(0, .row x n), (1, .row y m), (5, .int .i64 i)]
      inv := fun i => eqtInv a b i
      meas := fun i => (a.length - i).toNat }
  | _, _, _, _ => none
def rampS (k : Int) (n : Nat) : List (List UInt8) := (List.range n).map fun j : Nat => mtx (k + (j : Int))
def mrkS (a : List (List UInt8)) (k0 : Int) (i : Nat) : List (List UInt8) := rampS k0 i ++ a.drop i
def ann_laws_markStringS : Nat → St → Option Ann := fun key st =>
  match Nat.beq key 2, st.mem, st.get 0, intAt st 1 with
  | true, [⟨.strs a, e, kk⟩], .row x n, some k0 => some {
      α := Int
      find := fun st => intAt st 5
      head := fun i => { only st [(0, .row x n), (1, .int .i64 (k0 + i)), (5, .int .i64 i)] with mem := [⟨.strs (mrkS a k0 i.toNat), e, kk⟩] }
      inv := fun i => ixInv a.length i
      meas := fun i => ((a.length : Int) - i).toNat }
  | _, _, _, _ => none
def hldS (a : List (List UInt8)) (k0 : Int) (i : Int) : Prop := ixInv a.length i ∧ a.take i.toNat = rampS k0 i.toNat
def ann_laws_heldStringS : Nat → St → Option Ann := fun key st =>
  match Nat.beq key 2, st.mem, st.get 0, intAt st 1 with
  | true, [⟨.strs a, _, _⟩], .row x n, some k0 => some {
      α := Int
      find := fun st => intAt st 5
      head := fun i => only st [(0, .row x n), (1, .int .i64 (k0 + i)), (5, .int .i64 i)]
      inv := fun i => hldS a k0 i
      meas := fun i => ((a.length : Int) - i).toNat }
  | _, _, _, _ => none
end Go.Vi
