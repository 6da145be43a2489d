/- Programs of spirals. -/
import Derived.Test.YtllocclgllappabDoorTGPf
import Derived.Test.YtllocclgllappabDoorTMPf
namespace Go.Vi
set_option linter.unusedVariables false
def hasI : List Int → Int → Bool
  | [], _ => false
  | y :: q, x => (y == x) || hasI q x
/-- The number at i lies within, and is greater than the one before it. -/
def risN (a : List Int) (lo hi : Int) (i : Nat) : Bool := inB (a.getD i 0) lo hi && (decide (i = 0) || decide (a.getD (i - 1) 0 < a.getD i 0))
def risB (a : List Int) (lo hi : Int) : Bool := (List.range a.length).all (risN a lo hi)
def spB (p : Int) (a : List Int) : Bool := inB p 1 9 && risB a 1 p
def lrI (a : List Int) (t : Nat) : Int := bif hasI a ((t : Int) + 1) then 76 else 82
def spF (a : List Int) : Nat → List UInt8
  | 0 => []
  | t + 1 => spF a t ++ (num1 ((t : Int) + 1) ++ [UInt8.ofNat (lrI a t).toNat])
def spS (p : Int) (a : List Int) : List UInt8 := bif spB p a then spF a p.toNat else []
/-- The parts while they are laid, and while the signs are changed. -/
def spM (i t : Nat) : List Sc := if t < i then [⟨(t : Int) + 1, []⟩, ⟨82, []⟩] else [⟨0, []⟩, ⟨0, []⟩]
def spL (a : List Int) (t : Nat) : List Sc := [⟨(t : Int) + 1, []⟩, ⟨lrI a t, []⟩]
/-! ### loops -/
def riInv (a : List Int) (lo hi i : Int) : Prop := ixInv a.length i ∧ (List.range i.toNat).all (risN a lo hi) = true
def ann_spec_l1Rising : Nat → St → Option Ann := fun key st =>
  match st.mem, intAt st 1, intAt st 2, st.get 9, key with
  | [⟨.ints _ a, _, _⟩], some lo, some hi, .row b n, 2 => some {
      α := Int
      find := fun st => intAt st 11
      head := fun i => only st [(0, .row b n), (1, .int .i64 lo), (2, .int .i64 hi), (9, .row b n), (10, .int .i64 n), (11, .int .i64 i)]
      inv := fun i => riInv a lo hi i
      meas := fun i => ((a.length : Int) - i).toNat }
  | _, _, _, _, _ => none
def hasInv (a : List Int) (x i : Int) : Prop := ixInv a.length i ∧ hasI (a.take i.toNat) x = false
def ann_spec_l1Has : Nat → St → Option Ann := fun _ st =>
  match st.mem, intAt st 1, st.get 7 with
  | [⟨.ints _ a, _, _⟩], some x, .row b n => some {
      α := Int
      find := fun st => intAt st 9
      head := fun i => only st [(1, .int .i64 x), (7, .row b n), (8, .int .i64 n), (9, .int .i64 i)]
      inv := fun i => hasInv a x i
      meas := fun i => ((a.length : Int) - i).toNat }
  | _, _, _ => none
def ann_impl_areNumbersOfParts : Nat → St → Option Ann := fun key st =>
  match st.mem, intAt st 1, st.get 7, key with
  | [⟨.ints _ a, _, _⟩], some p, .row b n, 2 => some {
      α := Int
      find := fun st => intAt st 9
      head := fun i => only st [(0, .row b n), (1, .int .i64 p), (7, .row b n), (8, .int .i64 n), (9, .int .i64 i)]
      inv := fun i => riInv a 1 p i
      meas := fun i => ((a.length : Int) - i).toNat }
  | _, _, _, _ => none
def skInv (p : Int) (a : List Int) (k : Int) : Prop := spB p a = true ∧ 1 ≤ k ∧ k ≤ p + 1
def ann_spec_SpiralProgram : Nat → St → Option Ann := fun key st =>
  match st.mem, intAt st 0, st.get 1, key with
  | [⟨.ints _ a, _, _⟩], some p, .row b n, 5 => some {
      α := Int
      find := fun st => intAt st 7
      head := fun k => only st [(0, .int .i64 p), (1, .row b n), (6, .str (spF a (k - 1).toNat)), (7, .int .i64 k)]
      inv := fun k => skInv p a k
      meas := fun k => (p + 1 - k).toNat }
  | _, _, _, _ => none
def sxInv (p : Nat) (a : List Int) (m : Nat) (i : Int) : Prop := spB (p : Int) a = true ∧ 0 ≤ i ∧ i ≤ m
def ann_impl_SpiralProgram : Nat → St → Option Ann := fun key st =>
  match st.mem, st.get 6, key with
  | ⟨.ints kd a, e, k⟩ :: ⟨.recs sh c, f, q⟩ :: _, .row b p, 5 => some {
      α := Int
      find := fun st => intAt st 23
      head := fun i => { only st [(1, .row 0 a.length), (6, .row b p), (22, .int .i64 p), (23, .int .i64 i)] with mem := [⟨.ints kd a, e, k⟩, ⟨.recs sh (fl2 p (spM i.toNat)), f, q⟩] }
      inv := fun i => sxInv p a p i
      meas := fun i => ((p : Int) - i).toNat }
  | ⟨.ints kd a, e, k⟩ :: ⟨.recs sh c, f, q⟩ :: _, .row b p, 10 => some {
      α := Int
      find := fun st => intAt st 35
      head := fun i => { only st [(6, .row b p), (33, .row 0 a.length), (34, .int .i64 a.length), (35, .int .i64 i)] with mem := [⟨.ints kd a, e, k⟩, ⟨.recs sh (fl2 p (spL (a.take i.toNat))), f, q⟩] }
      inv := fun i => sxInv p a a.length i
      meas := fun i => ((a.length : Int) - i).toNat }
  | _, _, _ => none
end Go.Vi
