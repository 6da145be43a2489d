/- Corners, boxes, areas and windings of turtles. -/
import Derived.Test.YtllocclgllappaaTUPf
import Derived.Test.YtllocclgllappaaTMPf
namespace Go.Vi
set_option linter.unusedVariables false
def fewB (s : List UInt8) (k : Int) : Bool := askB s k && decide (repN s k ≤ 400)
def cnN (s : List UInt8) (k : Int) : Nat := bif fewB s k then repN s k + 1 else 0
def posT (c : List Sc) (j : Nat) : Tt := goC (c.take (j * 2)) zeroT
def xyT (t : Tt) : List Int := [t.x, t.y]
/-- The start and the ends of parts, n of them: as rows, and flat. -/
def cnM (c : List Sc) (n : Nat) : List (List Int) := (List.range n).map fun j => xyT (posT c j)
def cnF (c : List Sc) (n : Nat) : List Int := (List.range n).flatMap fun j => xyT (posT c j)
def cnR (s : List UInt8) (k : Int) : List (List Int) := bif fewB s k then cnM (repS s k) (repN s k + 1) else []
def cfR (s : List UInt8) (k : Int) : List Int := bif fewB s k then cnF (repS s k) (repN s k + 1) else []
/-- The ends of parts, part by part. -/
def trM : List Sc → Tt → List (List Int)
  | p :: q :: r, t => xyT (tnT q.i (goT p.i t)) :: trM r (tnT q.i (goT p.i t))
  | _, _ => []
/-- The first m points of a flat row, as rows. -/
def unF (f : List Int) (m : Nat) : List (List Int) := (List.range m).map fun j => [f.getD (j * 2) 0, f.getD (j * 2 + 1) 0]
def leI (a b : Int) : Int := if b < a then b else a
def moI (a b : Int) : Int := if a < b then b else a
structure Bx where
  a : Int
  b : Int
  c : Int
  d : Int
def bx4 (q : Bx) : List Int := [q.a, q.b, q.c, q.d]
def bxS (x y : Int) (q : Bx) : Bx := ⟨leI q.a x, moI q.b x, leI q.c y, moI q.d y⟩
def twoM (l : List (List Int)) : Prop := ∀ r ∈ l, r.length = 2
def bxM (l : List (List Int)) : Nat → Bx
  | 0 => ⟨(l.getD 0 []).getD 0 0, (l.getD 0 []).getD 0 0, (l.getD 0 []).getD 1 0, (l.getD 0 []).getD 1 0⟩
  | i + 1 => bxS ((l.getD i []).getD 0 0) ((l.getD i []).getD 1 0) (bxM l i)
def bxF (f : List Int) : Nat → Bx
  | 0 => ⟨f.getD 0 0, f.getD 0 0, f.getD 1 0, f.getD 1 0⟩
  | i + 1 => bxS (f.getD (i * 2) 0) (f.getD (i * 2 + 1) 0) (bxF f i)
def bxN (s : List UInt8) (k : Int) : Nat := bif fewB s k then 4 else 0
def bxR (s : List UInt8) (k : Int) : List Int := bif fewB s k then bx4 (bxF (cfR s k) (cnN s k)) else []
/-- Twice the area along the first i parts. -/
def arC (c : List Sc) : Nat → Int
  | 0 => 0
  | i + 1 => arC c i + ((posT c i).x * (posT c (i + 1)).y - (posT c (i + 1)).x * (posT c i).y)
def arF (s : List UInt8) : Int := bif clB s then arC (repS s (clS s)) (repN s (clS s)) else 0
def hasU (s : List UInt8) : Bool := s.any (· == 85)
def wiB (s : List UInt8) : Bool := clB s && !hasU s
def wiF (s : List UInt8) : Int := bif wiB s then Int.tdiv (quC (ptS s) * clS s) 4 else 0
/-! ### loops -/
def mtBlk (l : List (List Int)) : Blk := ⟨.mat .i64 3 l, 34, .mat⟩
def itBlk (a : List Int) : Blk := ⟨.ints .i64 a, 3, .row⟩
def flBlk (a : List Int) : Blk := ⟨.ints .i64 a, 65, .rows 2⟩
def hvBlk (a : List Int) : Blk := ⟨.ints .i64 a, 51, .rows 3⟩
def ann_spec_tuCorners : Nat → St → Option Ann := fun key st =>
  match strAt st 0, intAt st 1, st.mem, key with
  | some s, some k, _, 3 => some {
      α := Int
      find := fun st => intAt st 1
      head := fun r => { only st [(0, .str s), (1, .int .i64 r), (5, .row 0 (1 + s.length / 2 * (k - r).toNat)), (6, .ptr 1 0)] with mem := [mtBlk ([0, 0] :: trM (repC (k - r).toNat (ptS s)) zeroT), tBox (aftR s (k - r).toNat)] }
      inv := fun r => 0 ≤ r ∧ r ≤ k
      meas := fun r => r.toNat
      auto := true }
  | some s, some r, [⟨.mat _ _ l, _, _⟩, ⟨.vals [.int _ x, .int _ y, .int _ w], _, _⟩], 6 => (match st.get 5 with
    | .row b m => some {
      α := Int
      find := fun st => intAt st 7
      head := fun i => { only st [(0, .str s), (1, .int .i64 r), (5, .row 0 (m + i.toNat / 2)), (6, .ptr 1 0), (7, .int .i64 i)] with mem := [mtBlk (l ++ trM (ptS (s.take i.toNat)) ⟨x, y, w⟩), tBox (goC (ptS (s.take i.toNat)) ⟨x, y, w⟩)] }
      inv := fun i => evInv s i
      meas := fun i => ((s.length : Int) - i).toNat
      auto := true }
    | _ => none)
  | _, _, _, _ => none
def ann_impl_cornersOf : Nat → St → Option Ann := fun key st =>
  match strAt st 0, intAt st 1, st.get 29, key with
  | some s, some k, .row _ n, 6 => some {
      α := Int
      find := fun st => intAt st 31
      head := fun i => { only st [(8, .row 0 i.toNat), (29, .row 1 n), (30, .int .i64 n), (31, .int .i64 i)] with mem := [flBlk (cnF (repS s k) i.toNat), hvBlk (hlC (repS s k) 1 n)] }
      inv := fun i => ixN n i
      meas := fun i => ((n : Int) - i).toNat
      auto := true }
  | _, _, _, _ => none
def ann_impl_CornersAfter : Nat → St → Option Ann := fun key st =>
  match st.mem, st.get 22, key with
  | ⟨.ints _ f, _, _⟩ :: _, .row _ n, 6 => some {
      α := Int
      find := fun st => intAt st 24
      head := fun i => { only st [(8, .row 0 i.toNat), (22, .row 1 n), (23, .int .i64 n), (24, .int .i64 i)] with mem := [mtBlk (unF f i.toNat), flBlk f] }
      inv := fun i => ixN n i
      meas := fun i => ((n : Int) - i).toNat
      auto := true }
  | _, _, _ => none
def ann_spec_tuBox : Nat → St → Option Ann := fun key st =>
  match st.mem, st.get 27, key with
  | ⟨.mat _ _ l, _, _⟩ :: _, .row _ n, 3 => some {
      α := Int
      find := fun st => intAt st 29
      head := fun i => { only st [(3, .row 1 4), (27, .row 0 n), (28, .int .i64 n), (29, .int .i64 i)] with mem := [mtBlk l, itBlk (bx4 (bxM l i.toNat))] }
      inv := fun i => ixN n i
      meas := fun i => ((n : Int) - i).toNat
      auto := true }
  | _, _, _ => none
def ann_impl_boxOf : Nat → St → Option Ann := fun key st =>
  match st.mem, st.get 19, key with
  | ⟨.ints _ f, _, _⟩ :: _, .row _ n, 4 => some {
      α := Int
      find := fun st => intAt st 21
      head := fun i => { only st [(4, .row 1 4), (19, .row 0 n), (20, .int .i64 n), (21, .int .i64 i)] with mem := [flBlk f, itBlk (bx4 (bxF f i.toNat))] }
      inv := fun i => ixN n i
      meas := fun i => ((n : Int) - i).toNat
      auto := true }
  | ⟨.ints _ f, _, _⟩ :: ⟨.ints _ l, _, _⟩ :: ⟨.vals [.int _ x, .int _ y], e, k⟩ :: _, .row _ n, 1006 => some {
      α := Int
      find := fun st => intAt st 21
      head := fun i => { only st [(4, .row 1 4), (6, .ptr 2 0), (19, .row 0 n), (20, .int .i64 n), (21, .int .i64 i)] with mem := [flBlk f, itBlk [leI (l.getD 0 0) x, moI (l.getD 1 0) x, l.getD 2 0, l.getD 3 0], ⟨.vals [.int .i64 x, .int .i64 y], e, k⟩] }
      inv := fun _ => True
      meas := fun _ => 0 }
  | ⟨.ints _ f, _, _⟩ :: ⟨.ints _ l, _, _⟩ :: ⟨.vals [.int _ x, .int _ y], e, k⟩ :: _, .row _ n, 1007 => some {
      α := Int
      find := fun st => intAt st 21
      head := fun i => { only st [(4, .row 1 4), (19, .row 0 n), (20, .int .i64 n), (21, .int .i64 i)] with mem := [flBlk f, itBlk [l.getD 0 0, l.getD 1 0, leI (l.getD 2 0) y, moI (l.getD 3 0) y]] }
      inv := fun _ => True
      meas := fun _ => 0 }
  | _, _, _ => none
def ann_spec_TwiceArea : Nat → St → Option Ann := fun key st =>
  match strAt st 0, st.get 4, key with
  | some s, .row _ n, 6 => some {
      α := Int
      find := fun st => intAt st 6
      head := fun i => only st [(0, .str s), (4, .row 0 n), (5, .int .i64 (arC (repS s (clS s)) (i.toNat - 1))), (6, .int .i64 i)]
      inv := fun i => 1 ≤ i ∧ i ≤ n
      meas := fun i => ((n : Int) - i).toNat }
  | _, _, _ => none
def ann_impl_TwiceArea : Nat → St → Option Ann := fun key st =>
  match strAt st 0, st.get 6, st.get 27, key with
  | some s, .row b n, .view c o sz m q, 9 => some {
      α := Int
      find := fun st => intAt st 29
      head := fun i => only st [(6, .row b n), (7, .int .i64 (arC (repS s (clS s)) i.toNat)), (27, .view c o sz m q), (28, .int .i64 m), (29, .int .i64 i)]
      inv := fun i => ixN m i
      meas := fun i => ((m : Int) - i).toNat }
  | _, _, _, _ => none
def wuInv (s : List UInt8) (i : Int) : Prop := odInv s i ∧ hasU (s.take (i.toNat - 1)) = false
def ann_spec_WindingOf : Nat → St → Option Ann := fun key st =>
  match strAt st 0, key with
  | some s, 4 => some { α := Int, find := fun st => intAt st 4, head := fun i => only st [(0, .str s), (4, .int .i64 i)], inv := fun i => wuInv s i, meas := fun i => (s.length + 1 - i).toNat }
  | _, _ => none
end Go.Vi
