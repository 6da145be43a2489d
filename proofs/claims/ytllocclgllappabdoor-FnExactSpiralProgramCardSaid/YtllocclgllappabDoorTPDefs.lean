/- Programs: their parts. -/
import Derived.Test.YtllocclgllappabDoorVig
namespace Go.Vi
def inB (a b c : Int) : Bool := decide (b ≤ a) && decide (a ≤ c)
def signB (c : UInt8) : Bool := c == 76 || c == 82 || c == 78 || c == 85
def signI (n : Int) : Bool := n == 76 || n == 82 || n == 78 || n == 85
def ruleB (l : List UInt8) : Bool := decide (1 ≤ l.length) && decide (l.length ≤ 6) && l.all signB
/-- The parts of a text: steps and sign, side by side. -/
def ptS : List UInt8 → List Sc
  | a :: b :: r => ⟨(a.toNat : Int) - 48, []⟩ :: ⟨(b.toNat : Int), []⟩ :: ptS r
  | _ => []
def okP : List UInt8 → Bool
  | a :: b :: r => inB ((a.toNat : Int) - 48) 0 9 && signB b && okP r
  | _ => true
def progB (s : List UInt8) : Bool := (s.length % 2 == 0) && inB ((s.length / 2 : Nat) : Int) 1 9 && okP s
def partsC (s : List UInt8) : List Sc := bif progB s then ptS s else []
def partsN (s : List UInt8) : Nat := bif progB s then s.length / 2 else 0
/-! ### loops -/
def ruleInv (s : List UInt8) (i : Int) : Prop := 0 ≤ i ∧ i ≤ s.length ∧ 1 ≤ s.length ∧ s.length ≤ 6 ∧ (s.take i.toNat).all signB = true
def ann_spec_woRule : Nat → St → Option Ann := fun _ st =>
  match strAt st 0 with
  | some s => some { α := Int, find := fun st => intAt st 3, head := fun i => only st [(0, .str s), (3, .int .i64 i)], inv := fun i => ruleInv s i, meas := fun i => (s.length - i).toNat }
  | none => none
def pgInv (s : List UInt8) (i : Int) : Prop := 0 ≤ i ∧ i ≤ s.length ∧ i.toNat % 2 = 0 ∧ s.length % 2 = 0 ∧ 1 ≤ s.length / 2 ∧ s.length / 2 ≤ 9 ∧ okP (s.take i.toNat) = true
def ann_spec_tuGood : Nat → St → Option Ann := fun _ st =>
  match strAt st 0 with
  | some s => some { α := Int, find := fun st => intAt st 3, head := fun i => only st [(0, .str s), (3, .int .i64 i)], inv := fun i => pgInv s i, meas := fun i => (s.length - i).toNat }
  | none => none
abbrev shP : List Sh := [.int .i64, .int .u8]
def ann_impl_partsOf : Nat → St → Option Ann := fun key st =>
  match strAt st 0, key with
  | some s, 5 => some {
      α := Int
      find := fun st => intAt st 5
      head := fun i => { only st [(0, .str s), (4, .row 0 (i.toNat / 2)), (5, .int .i64 i)] with mem := [⟨.recs [.int .i64, .int .u8] (ptS (s.take i.toNat)), 38, .rows 2⟩] }
      inv := fun i => pgInv s i
      meas := fun i => (s.length - i).toNat
      auto := true }
  | _, _ => none
end Go.Vi
