/- Worms: odd nodes, longest lives. -/
import Derived.Test.YtioppaofihbmpabDoorWCPf
import Derived.Test.YtioppaofihbmpabDoorSSPf
namespace Go.Vi
set_option linter.unusedVariables false
def oddB (m : Wo) (i : Nat) : Bool := cntW m ((i : Int) % m.w) ((i : Int) / m.w) 4 % 2 == 1
def oddW (m : Wo) (k : Nat) : List Int := ((List.range k).filter (oddB m)).map fun i : Nat => (i : Int)
def odR (m : Wo) : List Int := bif womB m then oddW m (m.w * m.h).toNat else []
def llStep (m : Wo) (q : List (List UInt8) × Int) (t : List UInt8) : List (List UInt8) × Int :=
  bif decide ((lifK t m : Int) > q.2) then ([t], (lifK t m : Nat)) else bif ((lifK t m : Nat) : Int) == q.2 then (q.1 ++ [t], q.2) else q
def llW (m : Wo) (z : Int) (i : Nat) : List (List UInt8) × Int := (tastes.take i).foldl (llStep m) ([], z)
def llR (m : Wo) : List (List UInt8) := bif womB m then (llW m 0 6).1 else []
def llN (m : Wo) : Int := bif womB m then (llW m 0 6).2 else 0
/-! ### loops -/
def odInv (m : Wo) (i : Int) : Prop := womB m = true ∧ 0 ≤ i ∧ i ≤ m.w * m.h
def ann_spec_OddNodes : Nat → St → Option Ann := fun key st =>
  match Nat.beq key 5, st.mem, boxWo 0 st.mem with
  | true, [b0], some m => some {
      α := Int
      find := fun st => intAt st 5
      head := fun i => { only st [(1, .ptr 0 0), (4, .row 1 (oddW m i.toNat).length), (5, .int .i64 i)] with mem := [b0, ⟨.ints .i64 (oddW m i.toNat), 3, .row⟩] }
      inv := fun i => odInv m i
      meas := fun i => (m.r.length - i).toNat
      auto := true }
  | _, _, _ => none
def ann_impl_OddNodes : Nat → St → Option Ann := fun key st =>
  match Nat.beq key 6, st.mem, boxWo 0 st.mem with
  | true, [_, b1], some m => some {
      α := Int
      find := fun st => intAt st 14
      head := fun i => { only st [(4, .ptr 0 0), (5, .row 1 (oddW m i.toNat).length), (13, .int .i64 (m.w * m.h)), (14, .int .i64 i)] with mem := [b1, ⟨.ints .i64 (oddW m i.toNat), 3, .row⟩] }
      inv := fun i => odInv m i
      meas := fun i => (m.w * m.h - i).toNat
      auto := true }
  | _, _, _ => none
def llInv (m : Wo) (i : Int) : Prop := womB m = true ∧ 0 ≤ i ∧ i ≤ 6
def ann_spec_LongestLife : Nat → St → Option Ann := fun key st =>
  match Nat.beq key 6, st.mem, boxWo 0 st.mem with
  | true, [b0, b1], some m => some {
      α := Int
      find := fun st => intAt st 17
      head := fun i => { only st [(1, .ptr 0 0), (5, .row 2 (llW m (-1) i.toNat).1.length), (6, .int .i64 (llW m (-1) i.toNat).2), (15, .row 1 6), (16, .int .i64 6), (17, .int .i64 i)] with mem := [b0, b1, ⟨.strs (llW m (-1) i.toNat).1, 9, .row⟩] }
      inv := fun i => llInv m i
      meas := fun i => (6 - i).toNat
      auto := true }
  | _, _, _ => none
def ann_impl_LongestLife : Nat → St → Option Ann := fun key st =>
  match Nat.beq key 6, st.mem, boxWo 1 st.mem, st.get 14 with
  | true, [gl, b1], some m, v => some {
      α := Int
      find := fun st => intAt st 15
      head := fun i => { only st [(1, .ptr 1 0), (5, .row 2 (llW m 0 i.toNat).1.length), (6, .int .i64 (llW m 0 i.toNat).2), (14, v), (15, .int .i64 i)] with mem := [gl, b1, ⟨.strs (llW m 0 i.toNat).1, 9, .row⟩] }
      inv := fun i => llInv m i
      meas := fun i => (6 - i).toNat
      auto := true }
  | _, _, _, _ => none
end Go.Vi
