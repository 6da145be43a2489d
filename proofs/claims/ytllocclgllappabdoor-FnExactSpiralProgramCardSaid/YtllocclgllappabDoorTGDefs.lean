/- Programs turned back and grown. -/
import Derived.Test.YtllocclgllappabDoorTXPf
namespace Go.Vi
set_option linter.unusedVariables false
def okC : List Sc → Prop
  | p :: _ :: r => (0 ≤ p.i ∧ p.i ≤ 9) ∧ okC r
  | _ => True
def evInv (s : List UInt8) (i : Int) : Prop := progB s = true ∧ 0 ≤ i ∧ i ≤ s.length ∧ i.toNat % 2 = 0
def ixN (n : Nat) (i : Int) : Prop := 0 ≤ i ∧ i ≤ n
def num1 (n : Int) : List UInt8 := [UInt8.ofNat (48 + n).toNat]
/-- The text of parts. -/
def prS : List Sc → List UInt8
  | p :: q :: r => UInt8.ofNat (48 + p.i).toNat :: UInt8.ofNat q.i.toNat :: prS r
  | _ => []
/-- The signs are bytes. -/
def sgC : List Sc → Prop
  | _ :: q :: r => (0 ≤ q.i ∧ q.i ≤ 255) ∧ sgC r
  | _ => True
/-- Cells that are numbers alone. -/
def zsC (c : List Sc) : Prop := ∀ x ∈ c, x.s = []
def prt (c : List Sc) (t : Nat) : List Sc := [c.getD (t * 2) ⟨0, []⟩, c.getD (t * 2 + 1) ⟨0, []⟩]
/-- n parts, told one by one. -/
def fl2 (n : Nat) (f : Nat → List Sc) : List Sc := (List.range n).flatMap f
/-- Of n parts those less than i from the ends are exchanged. -/
def swC (c : List Sc) (n i : Nat) : List Sc := fl2 n fun t => if t < i ∨ n ≤ t + i then prt c (n - 1 - t) else prt c t
def revC : List Sc → List Sc
  | p :: q :: r => revC r ++ [p, q]
  | _ => []
def bk : List UInt8 → List UInt8
  | a :: b :: r => bk r ++ [a, oth b]
  | _ => []
def gwC (k : Int) : List Sc → List Sc
  | p :: q :: r => ⟨p.i * k, []⟩ :: q :: gwC k r
  | _ => []
def gwOk (k : Int) : List Sc → Bool
  | p :: _ :: r => decide (p.i * k ≤ 9) && gwOk k r
  | _ => true
def gwB (s : List UInt8) (k : Int) : Bool := progB s && (inB k 1 9 && gwOk k (ptS s))
def gwS (s : List UInt8) (k : Int) : List UInt8 := bif gwB s k then prS (gwC k (ptS s)) else []
def bkS (s : List UInt8) : List UInt8 := bif progB s then bk s else []
/-! ### loops -/
def ann_impl_programOf : Nat → St → Option Ann := fun _ st =>
  match st.mem, st.get 6 with
  | ⟨.recs sh c, e, kd⟩ :: _, .row b n => some {
      α := Int
      find := fun st => intAt st 8
      head := fun i => { only st [(3, .row 1 (2 * i.toNat)), (6, .row b n), (7, .int .i64 n), (8, .int .i64 i)] with mem := [⟨.recs sh c, e, kd⟩, ⟨.bytes (prS (c.take (i.toNat * 2))), 5, .row⟩] }
      inv := fun i => ixN n i
      meas := fun i => ((n : Int) - i).toNat
      auto := true }
  | _, _ => none
def rvInv (n : Nat) (i : Int) : Prop := 0 ≤ i ∧ 2 * i ≤ n
def ann_impl_part : Nat → St → Option Ann := fun key st =>
  match st.mem, st.get 0, key with
  | [⟨.recs sh c, e, kd⟩], .row b n, 1 => some {
      α := Int
      find := fun st => intAt st 2
      head := fun i => { only st [(0, .row b n), (2, .int .i64 i), (3, .int .i64 ((n : Int) - 1 - i))] with mem := [⟨.recs sh (swC c n i.toNat), e, kd⟩] }
      inv := fun i => rvInv n i
      meas := fun i => ((n : Int) - i).toNat }
  | _, _, _ => none
def bkInv (s : List UInt8) (i : Int) : Prop := progB s = true ∧ -2 ≤ i ∧ i + 2 ≤ s.length ∧ (i + 2).toNat % 2 = 0
def ann_spec_BackProgram : Nat → St → Option Ann := fun key st =>
  match strAt st 0, key with
  | some s, 5 => some {
      α := Int
      find := fun st => intAt st 5
      head := fun i => only st [(0, .str s), (4, .str (bk (s.drop (i + 2).toNat))), (5, .int .i64 i)]
      inv := fun i => bkInv s i
      meas := fun i => (i + 2).toNat }
  | _, _ => none
def gsInv (s : List UInt8) (k i : Int) : Prop := evInv s i ∧ inB k 1 9 = true ∧ gwOk k (ptS (s.take i.toNat)) = true
def ann_spec_GrowProgram : Nat → St → Option Ann := fun key st =>
  match strAt st 0, intAt st 1, key with
  | some s, some k, 5 => some {
      α := Int
      find := fun st => intAt st 7
      head := fun i => only st [(0, .str s), (1, .int .i64 k), (6, .str (prS (gwC k (ptS (s.take i.toNat))))), (7, .int .i64 i)]
      inv := fun i => gsInv s k i
      meas := fun i => ((s.length : Int) - i).toNat }
  | _, _, _ => none
def giInv (c : List Sc) (n : Nat) (k i : Int) : Prop := ixN n i ∧ inB k 1 9 = true ∧ gwOk k (c.take (i.toNat * 2)) = true
def ann_impl_GrowProgram : Nat → St → Option Ann := fun key st =>
  match st.mem, st.get 6, intAt st 1, key with
  | [⟨.recs sh c, e, kd⟩], .row b n, some k, 5 => some {
      α := Int
      find := fun st => intAt st 23
      head := fun i => { only st [(1, .int .i64 k), (6, .row b n), (22, .int .i64 n), (23, .int .i64 i)] with mem := [⟨.recs sh (gwC k (c.take (i.toNat * 2)) ++ c.drop (i.toNat * 2)), e, kd⟩] }
      inv := fun i => giInv c n k i
      meas := fun i => ((n : Int) - i).toNat }
  | _, _, _, _ => none
end Go.Vi
