/- Sums of colours; how many worlds there are. -/
import Derived.Test.YtlechboepjmmhaaL1Pf
namespace Go.Vi
def sumC : List UInt8 → Int
  | [] => 0
  | b :: r => ((b.toNat : Int) - 48) + sumC r
def smInv (c : List UInt8) (i : Int) : Prop := 0 ≤ i ∧ i ≤ c.length
def annSum (si : Nat) (more : List UInt8 → List (Nat × V)) : Nat → St → Option Ann := fun _ st =>
  match st.mem with
  | [⟨.vals [_, _, _, .str c, _, _, _], _, _⟩] => some {
      α := Int
      find := fun st => intAt st si
      head := fun i => only st ([(1, .ptr 0 0), (4, .int .i64 (sumC (c.take i.toNat))), (si, .int .i64 i)] ++ more c)
      inv := fun i => smInv c i
      meas := fun i => ((c.length : Int) - i).toNat }
  | _ => none
def ann_spec_ColourSum := annSum 5 fun _ => []
def ann_impl_ColourSum := annSum 12 fun c => [(11, .int .i64 c.length)]
/-- n times len so often, or 0 beyond 3000. -/
def manyI (len : Int) : Nat → Int → Int
  | 0, n => n
  | c + 1, n => bif decide (n * len > 3000) then 0 else manyI len c (n * len)
def manyW (s : List UInt8) (w h : Int) : Int := manyI s.length (w * h).toNat (4 * (w * h))
def asked (s : List UInt8) (w h : Int) : Bool := ruleB s && inB w 1 9 && inB h 1 9 && decide (0 < manyW s w h)
/-- q.1 cells are left, and q.2 is reached. -/
def mnyInv (s : List UInt8) (w h : Int) (q : Int × Int) : Prop := (1 ≤ s.length ∧ s.length ≤ 6) ∧ (1 ≤ w * h ∧ w * h ≤ 81) ∧ 0 ≤ q.1 ∧ q.1 ≤ w * h ∧ 1 ≤ q.2 ∧ q.2 ≤ 3000 ∧ manyI s.length q.1.toNat q.2 = manyW s w h
def ann_spec_loMany : Nat → St → Option Ann := fun _ st =>
  match strAt st 0, intAt st 1, intAt st 2 with
  | some s, some w, some h => some {
      α := Int × Int
      find := fun st => (match intAt st 8, intAt st 7 with | some k, some n => some (k, n) | _, _ => none)
      head := fun q => only st [(0, .str s), (7, .int .i64 q.2), (8, .int .i64 q.1)]
      inv := mnyInv s w h
      meas := fun q => q.1.toNat }
  | _, _, _ => none
def ann_impl_CountWorlds : Nat → St → Option Ann := fun _ st =>
  match strAt st 0, intAt st 1, intAt st 2, intAt st 24 with
  | some s, some w, some h, some m => some {
      α := Int × Int
      find := fun st => (match intAt st 25, intAt st 9 with | some k, some n => some (k, n) | _, _ => none)
      head := fun q => only st [(0, .str s), (9, .int .i64 q.2), (24, .int .i64 m), (25, .int .i64 q.1)]
      inv := fun q => 0 ≤ q.1 ∧ mnyInv s w h (m - q.1, q.2)
      meas := fun q => (m - q.1).toNat }
  | _, _, _, _ => none
end Go.Vi
