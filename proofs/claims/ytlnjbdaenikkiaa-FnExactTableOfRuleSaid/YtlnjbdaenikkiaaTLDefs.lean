/- Tables of rules. -/
import Derived.Test.YtlnjbdaenikkiaaTTPf
namespace Go.Vi
set_option linter.unusedVariables false
def rlB (s : List UInt8) : Bool := ruleB s && decide (s.length ≤ 4)
def rl1 (s : List UInt8) (j : Nat) : Row3 := ⟨((j : Int) + 1) % s.length, [s.getD j 0], 0⟩
def rlK (s : List UInt8) (n : Nat) : List Row3 := (List.range n).map (rl1 s)
def rlR (s : List UInt8) : List Row3 := bif rlB s then rlK s s.length else []
def rlInv (s : List UInt8) (n : Nat) : Prop := rlB s = true ∧ n ≤ s.length
def iterAt : Nat → List Blk → Option Nat
  | 0, ⟨.map [(.gp n _, _)], _, _⟩ :: _ => some n
  | k + 1, _ :: r => iterAt k r
  | _, _ => none
def iterB (s : List UInt8) (n : Nat) (e : TypeId) : Blk := ⟨.map [(.gp n 0, .str s)], e, .map⟩
def ann_spec_TableOfRule : Nat → St → Option Ann := fun key st =>
  match Nat.beq key 5, st.mem, strAt st 0 with
  | true, [b0, _, ⟨.map _, e, _⟩], some s => some {
      α := Nat
      find := fun st => iterAt 2 st.mem
      head := fun n => { only st [(0, .str s), (2, .ptr 0 0), (4, .ptr 1 0), (19, .ptr 2 0)] with mem := [b0, tabBox 1 s.length 3 n, iterB s n e, rwBlk (rlK s n)] }
      inv := fun n => rlInv s n
      meas := fun n => s.length - n
      auto := true }
  | _, _, _ => none
def ann_impl_TableOfRule : Nat → St → Option Ann := fun key st =>
  match Nat.beq key 5, st.mem, strAt st 0 with
  | true, [b0, _], some s => some {
      α := Int
      find := fun st => intAt st 20
      head := fun i => { only st [(0, .str s), (2, .ptr 0 0), (4, .ptr 1 0), (19, .int .i64 s.length), (20, .int .i64 i)] with mem := [b0, tabBox 1 s.length 2 i.toNat, rwBlk (rlK s i.toNat)] }
      inv := fun i => 0 ≤ i ∧ rlInv s i.toNat
      meas := fun i => (s.length - i).toNat
      auto := true }
  | _, _, _ => none
def ann_impl_IsRule : Nat → St → Option Ann := fun _ st =>
  match strAt st 0 with
  | some s => some { α := Int, find := fun st => intAt st 10, head := fun i => only st [(0, .str s), (9, .int .i64 s.length), (10, .int .i64 i)], inv := fun i => ruleInv s i, meas := fun i => (s.length - i).toNat }
  | none => none
end Go.Vi
