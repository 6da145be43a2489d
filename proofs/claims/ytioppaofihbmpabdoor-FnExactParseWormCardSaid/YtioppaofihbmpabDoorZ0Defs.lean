/- Texts split at a byte, numbers read. -/
import Derived.Test.YtioppaofihbmpabDoorW1Pf
namespace Go.Vi
/-- The parts that are complete before place i, and where the next one begins. -/
def spl (b : UInt8) (s : List UInt8) : Nat → List (List UInt8) × Nat
  | 0 => ([], 0)
  | i + 1 => bif s.getD i 0 == b then ((spl b s i).1 ++ [(s.take i).drop (spl b s i).2], i + 1) else spl b s i
def splL (b : UInt8) (s : List UInt8) : List (List UInt8) := (spl b s s.length).1 ++ [s.drop (spl b s s.length).2]
def splInv (s : List UInt8) (i : Int) : Prop := s.length ≤ 1048576 ∧ 0 ≤ i ∧ i ≤ s.length
def ann_spec_l1Split : Nat → St → Option Ann := fun _ st =>
  match strAt st 0, intAt st 1 with
  | some s, some b => some {
      α := Int
      find := fun st => intAt st 7
      head := fun i => { only st [(0, .str s), (1, .int .u8 b), (5, .row 0 (spl (UInt8.ofNat b.toNat) s i.toNat).1.length), (6, .int .i64 (spl (UInt8.ofNat b.toNat) s i.toNat).2), (7, .int .i64 i)] with mem := [⟨.strs (spl (UInt8.ofNat b.toNat) s i.toNat).1, 9, .row⟩] }
      inv := fun i => splInv s i
      meas := fun i => (s.length - i).toNat
      auto := true }
  | _, _ => none
def digB (c : UInt8) : Bool := decide (48 ≤ c.toNat) && decide (c.toNat ≤ 57)
def valD (s : List UInt8) : Nat → Int
  | 0 => 0
  | i + 1 => 10 * valD s i + ((s.getD i 0).toNat - 48)
def readF (s : List UInt8) : Int := bif inB s.length 1 6 && !(s.getD 0 0 == 48 && decide (1 < s.length)) && s.all digB then valD s s.length else -1
def redInv (s : List UInt8) (i : Int) : Prop := (1 ≤ s.length ∧ s.length ≤ 6) ∧ (0 ≤ i ∧ i ≤ s.length) ∧ (s.take i.toNat).all digB = true ∧ (!(s.getD 0 0 == 48 && decide (1 < s.length))) = true
def ann_spec_l1Read : Nat → St → Option Ann := fun _ st =>
  match strAt st 0 with
  | some s => some {
      α := Int
      find := fun st => intAt st 4
      head := fun i => only st [(0, .str s), (3, .int .i64 (valD s i.toNat)), (4, .int .i64 i)]
      inv := fun i => redInv s i
      meas := fun i => (s.length - i).toNat }
  | none => none
end Go.Vi
