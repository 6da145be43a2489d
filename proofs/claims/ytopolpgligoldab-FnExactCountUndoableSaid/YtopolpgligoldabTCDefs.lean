/- Tables counted. -/
import Derived.Test.YtopolpgligoldabVig
namespace Go.Vi
def inB (a b c : Int) : Bool := decide (b ≤ a) && decide (a ≤ c)
def cntB (s t : Int) : Bool := inB s 1 4 && inB t 1 4 && decide (s * t ≤ 4)
def ctF (s t : Int) : Int := bif cntB s t then (4 * (s * t)) ^ (s * t).toNat else 0
def factI : Nat → Int
  | 0 => 1
  | n + 1 => factI n * ((n : Int) + 1)
def cuF (s t : Int) : Int := bif cntB s t then 4 ^ (s * t).toNat * factI (s * t).toNat else 0
def ann_spec_taPower : Nat → St → Option Ann := fun _ st =>
  match intAt st 0, intAt st 1 with
  | some n, some b0 => some {
      α := Int
      find := fun st => intAt st 1
      head := fun b => only st [(0, .int .i64 n), (1, .int .i64 b), (5, .int .i64 (n ^ (b0 - b).toNat))]
      inv := fun b => 0 ≤ b ∧ b ≤ b0
      meas := fun b => b.toNat }
  | _, _ => none
def ann_impl_CountTables : Nat → St → Option Ann := fun _ st =>
  match intAt st 6 with
  | some r => some {
      α := Int
      find := fun st => intAt st 16
      head := fun i => only st [(6, .int .i64 r), (7, .int .i64 ((4 * r) ^ i.toNat)), (15, .int .i64 r), (16, .int .i64 i)]
      inv := fun i => 0 ≤ i ∧ i ≤ r
      meas := fun i => (r - i).toNat }
  | _ => none
def ann_spec_CountUndoable : Nat → St → Option Ann := fun _ st =>
  match intAt st 6 with
  | some n => some {
      α := Int
      find := fun st => intAt st 8
      head := fun k => only st [(6, .int .i64 n), (7, .int .i64 (4 ^ n.toNat * factI (k - 1).toNat)), (8, .int .i64 k)]
      inv := fun k => 2 ≤ k ∧ k ≤ n + 1 ∨ k = 2
      meas := fun k => (n + 1 - k).toNat }
  | _ => none
def ann_impl_CountUndoable : Nat → St → Option Ann := fun _ st =>
  match intAt st 14 with
  | some n => some {
      α := Int
      find := fun st => intAt st 15
      head := fun i => only st [(6, .int .i64 (4 ^ i.toNat * factI i.toNat)), (14, .int .i64 n), (15, .int .i64 i)]
      inv := fun i => 0 ≤ i ∧ i ≤ n
      meas := fun i => (n - i).toNat }
  | _ => none
end Go.Vi
