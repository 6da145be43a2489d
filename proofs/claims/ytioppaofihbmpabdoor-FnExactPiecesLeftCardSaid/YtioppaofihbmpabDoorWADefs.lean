/- Worms: grids, lines, tastes. -/
import Derived.Test.YtioppaofihbmpabDoorVig
import Derived.Lib.SlTrimSet
namespace Go.Vi
structure Wo where
  w : Int
  h : Int
  r : List UInt8
  n : List UInt8
  x : Int
  y : Int
  d : Int
def inB (a b c : Int) : Bool := decide (b ≤ a) && decide (a ≤ c)
def bitB (c : UInt8) : Bool := c == 48 || c == 49
def binB (l : List UInt8) : Bool := l.all bitB
def womB (m : Wo) : Bool :=
  inB m.w 3 6 && inB m.h 3 6 && ((m.r.length : Int) == m.w * m.h) && ((m.n.length : Int) == m.w * m.h) && binB m.r && binB m.n && inB m.x 0 (m.w - 1) && inB m.y 0 (m.h - 1) && inB m.d 0 3
def woV (m : Wo) : V := .agg [.int .i64 m.w, .int .i64 m.h, .str m.r, .str m.n, .int .i64 m.x, .int .i64 m.y, .int .i64 m.d]
def zeroWo : Wo := ⟨0, 0, [], [], 0, 0, 0⟩
def okWo (ok : Bool) (m : Wo) : V := .tup [woV (bif ok then m else zeroWo), .bool ok]
def tastes : List (List UInt8) := [[76, 78, 82], [76, 82, 78], [78, 76, 82], [78, 82, 76], [82, 76, 78], [82, 78, 76]]
def tasB (t : List UInt8) : Bool := tastes.any fun s => s == t
def isTs (g0 g1 g2 g3 g4 g5 : List UInt8) : Prop := g0 = [76, 78, 82] ∧ g1 = [76, 82, 78] ∧ g2 = [78, 76, 82] ∧ g3 = [78, 82, 76] ∧ g4 = [82, 76, 78] ∧ g5 = [82, 78, 76]
def szWo (r n : List UInt8) (left : Int) : Int := bif decide (left - r.length < 0) then -1 else bif decide (left - r.length - n.length < 0) then -1 else left - r.length - n.length
def eqWo (a b : Wo) : Bool := a.w == b.w && a.h == b.h && a.r == b.r && a.n == b.n && a.x == b.x && a.y == b.y && a.d == b.d
def cntB (b : UInt8) (l : List UInt8) : Int := (l.countP (· == b) : Nat)
/-! ### loops -/
def wgInv (r n : List UInt8) (i : Int) : Prop := 0 ≤ i ∧ i ≤ r.length ∧ r.length ≤ 1000 ∧ n.length = r.length ∧ binB (r.take i.toNat) = true ∧ binB (n.take i.toNat) = true
def ann_spec_wmGood : Nat → St → Option Ann := fun _ st =>
  match st.mem with
  | [⟨.vals [_, _, .str r, .str n, _, _, _], _, _⟩] =>
    some { α := Int, find := fun st => intAt st 3, head := fun i => only st [(1, .ptr 0 0), (3, .int .i64 i)], inv := fun i => wgInv r n i, meas := fun i => (r.length - i).toNat }
  | _ => none
def tsInv (t : List UInt8) (i : Int) : Prop := 0 ≤ i ∧ i ≤ 6 ∧ ((tastes.take i.toNat).any fun s => s == t) = false
def ann_spec_wmTaste : Nat → St → Option Ann := fun _ st =>
  match strAt st 0 with
  | some t => some { α := Int, find := fun st => intAt st 7, head := fun i => only st [(0, .str t), (5, .row 0 6), (6, .int .i64 6), (7, .int .i64 i)], inv := fun i => tsInv t i, meas := fun i => (6 - i).toNat }
  | none => none
def ann_impl_IsTaste : Nat → St → Option Ann := fun _ st =>
  match strAt st 0, st.get 5 with
  | some t, v => some { α := Int, find := fun st => intAt st 6, head := fun i => only st [(0, .str t), (5, v), (6, .int .i64 i)], inv := fun i => tsInv t i, meas := fun i => (6 - i).toNat }
  | none, _ => none
def cnInv (s : List UInt8) (i : Int) : Prop := 0 ≤ i ∧ i ≤ s.length ∧ s.length ≤ 1000
def ann_spec_wmCount : Nat → St → Option Ann := fun _ st =>
  match strAt st 0 with
  | some s => some { α := Int, find := fun st => intAt st 4, head := fun i => only st [(0, .str s), (3, .int .i64 (cntB 49 (s.take i.toNat))), (4, .int .i64 i)], inv := fun i => cnInv s i, meas := fun i => (s.length - i).toNat }
  | none => none
end Go.Vi
