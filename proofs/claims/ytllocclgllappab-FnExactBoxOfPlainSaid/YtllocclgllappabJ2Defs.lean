/- Boxes. -/
import Derived.Test.YtllocclgllappabI1Pf
namespace Go.Vi
set_option linter.unusedVariables false
def leastI (a b : Int) : Int := if a < b then a else b
def mostI (a b : Int) : Int := if b < a then a else b
def boxF (a : List Int) (x y : Int) : Nat → List Int
  | 0 => [x, x, y, y]
  | i + 1 => [leastI ((boxF a x y i).getD 0 0) (spX a i), mostI ((boxF a x y i).getD 1 0) (spX a i), leastI ((boxF a x y i).getD 2 0) (spY a i), mostI ((boxF a x y i).getD 3 0) (spY a i)]
def boxP (ok : Bool) (n : Nat) (a : List Int) (x y : Int) : List Int := bif ok then boxF a x y n else []
def annBox (sr sl si sb : Nat) : Nat → St → Option Ann := fun _ st =>
  match st.mem, st.get sr with
  | [⟨.ints kd a, e, k⟩, ⟨.vals vs, e1, k1⟩, ⟨_, e2, k2⟩], .row x n =>
    (match vs with
    | [_, _, .int _ px, .int _ py, _] => some {
        α := Int
        find := fun st => intAt st si
        head := fun i => { only st [(1, .ptr 1 0), (sr, .row x n), (sl, .int .i64 n), (si, .int .i64 i), (sb, .row 2 4)] with mem := [⟨.ints kd a, e, k⟩, ⟨.vals vs, e1, k1⟩, ⟨.ints .i64 (boxF a px py i.toNat), e2, k2⟩] }
        inv := ivInv n fun _ => True
        meas := fun i => ((n : Int) - i).toNat }
    | _ => none)
  | _, _ => none
def up0 (l : List Int) (x _y : Int) : List Int := l.set 0 (if l.getD 0 0 < x then l.getD 0 0 else x)
def up1 (l : List Int) (x _y : Int) : List Int := l.set 1 (if x < l.getD 1 0 then l.getD 1 0 else x)
def up2 (l : List Int) (_x y : Int) : List Int := l.set 2 (if l.getD 2 0 < y then l.getD 2 0 else y)
def up3 (l : List Int) (_x y : Int) : List Int := l.set 3 (if y < l.getD 3 0 then l.getD 3 0 else y)
def up01 (l : List Int) (x _y : Int) : List Int := (l.set 0 (if x < l.getD 0 0 then x else l.getD 0 0)).set 1 (if l.getD 1 0 < x then x else l.getD 1 0)
def up23 (l : List Int) (_x y : Int) : List Int := (l.set 2 (if y < l.getD 2 0 then y else l.getD 2 0)).set 3 (if l.getD 3 0 < y then y else l.getD 3 0)
/-- Behind a region that draws: the box's row is l', all else is as it was. -/
def annJoin (keep : List Nat) (row : List Int → Int → Int → List Int) : Nat → St → Option Ann := fun _ st =>
  match st.mem with
  | [b0, b1, ⟨.ints kd l, e, k⟩, ⟨.vals [.int q x, .int q' y, z], e3, k3⟩] => some {
      α := Unit
      find := fun _ => some ()
      head := fun _ => { only st (keep.map fun t => (t, st.get t)) with mem := [b0, b1, ⟨.ints kd (row l x y), e, k⟩, ⟨.vals [.int q x, .int q' y, z], e3, k3⟩] }
      inv := fun _ => True
      meas := fun _ => 0
      join := true }
  | _ => none
def ann_spec_enBox : Nat → St → Option Ann := fun key st =>
  match Nat.beq key 3, Nat.beq key 1005, Nat.beq key 1006, Nat.beq key 1007 with
  | true, _, _, _ => annBox 16 17 18 3 key st
  | _, true, _, _ => annJoin [1, 3, 5, 16, 17, 18] up0 key st
  | _, _, true, _ => annJoin [1, 3, 5, 16, 17, 18] up1 key st
  | _, _, _, true => annJoin [1, 3, 5, 16, 17, 18] up2 key st
  | _, _, _, _ => (match Nat.beq key 1008 with | true => annJoin [1, 3, 5, 16, 17, 18] up3 key st | false => none)
def leI (a b : Int) : Int := if b < a then b else a
def moI (a b : Int) : Int := if a < b then b else a
structure Bx where
  a : Int
  b : Int
  c : Int
  d : Int
def bx4 (q : Bx) : List Int := [q.a, q.b, q.c, q.d]
def bxS (x y : Int) (q : Bx) : Bx := ⟨leI q.a x, moI q.b x, leI q.c y, moI q.d y⟩
def bxF (f : List Int) : Nat → Bx
  | 0 => ⟨f.getD 0 0, f.getD 0 0, f.getD 1 0, f.getD 1 0⟩
  | i + 1 => bxS (f.getD (i * 2) 0) (f.getD (i * 2 + 1) 0) (bxF f i)
def flBlk (a : List Int) : Blk := ⟨.ints .i64 a, 49, .rows 2⟩
def itBlk (a : List Int) : Blk := ⟨.ints .i64 a, 3, .row⟩
def ixN (n : Nat) (i : Int) : Prop := 0 ≤ i ∧ i ≤ n
def ann_impl_boxOf : Nat → St → Option Ann := fun key st =>
  match st.mem, st.get 19, key with
  | ⟨.ints _ f, _, _⟩ :: _, .row _ n, 4 => some {
      α := Int
      find := fun st => intAt st 21
      head := fun i => { only st [(4, .row 1 4), (19, .row 0 n), (20, .int .i64 n), (21, .int .i64 i)] with mem := [flBlk f, itBlk (bx4 (bxF f i.toNat))] }
      inv := fun i => ixN n i
      meas := fun i => ((n : Int) - i).toNat
      auto := true }
  | ⟨.ints _ f, _, _⟩ :: ⟨.ints _ l, _, _⟩ :: ⟨.vals [.int _ x, .int _ y], e, k⟩ :: _, .row _ n, 1006 => some {
      α := Int
      find := fun st => intAt st 21
      head := fun i => { only st [(4, .row 1 4), (6, .ptr 2 0), (19, .row 0 n), (20, .int .i64 n), (21, .int .i64 i)] with mem := [flBlk f, itBlk [leI (l.getD 0 0) x, moI (l.getD 1 0) x, l.getD 2 0, l.getD 3 0], ⟨.vals [.int .i64 x, .int .i64 y], e, k⟩] }
      inv := fun _ => True
      meas := fun _ => 0 }
  | ⟨.ints _ f, _, _⟩ :: ⟨.ints _ l, _, _⟩ :: ⟨.vals [.int _ x, .int _ y], e, k⟩ :: _, .row _ n, 1007 => some {
      α := Int
      find := fun st => intAt st 21
      head := fun i => { only st [(4, .row 1 4), (19, .row 0 n), (20, .int .i64 n), (21, .int .i64 i)] with mem := [flBlk f, itBlk [l.getD 0 0, l.getD 1 0, leI (l.getD 2 0) y, moI (l.getD 3 0) y]] }
      inv := fun _ => True
      meas := fun _ => 0 }
  | _, _, _ => none
/-- The places of a plain: the ant's, and those of the first spots. -/
def plF (a : List Int) (x y : Int) : Nat → List Int
  | 0 => [x, y]
  | i + 1 => plF a x y i ++ [spX a i, spY a i]
def ann_impl_BoxOfPlain : Nat → St → Option Ann := fun key st =>
  match st.mem, st.get 17, key with
  | ⟨.ints kd a, e, k⟩ :: ⟨.vals vs, e1, k1⟩ :: _, .row x n, 5 =>
    (match vs with
    | [_, _, .int _ px, .int _ py, _] => some {
        α := Int
        find := fun st => intAt st 19
        head := fun i => { only st [(1, .ptr 1 0), (4, .row 2 (i.toNat + 1)), (17, .row x n), (18, .int .i64 n), (19, .int .i64 i)] with mem := [⟨.ints kd a, e, k⟩, ⟨.vals vs, e1, k1⟩, flBlk (plF a px py i.toNat)] }
        inv := ivInv n fun _ => True
        meas := fun i => ((n : Int) - i).toNat
        auto := true }
    | _ => none)
  | _, _, _ => none
/-! ### rows of numbers in a law -/
def eqsInv (a b : List Int) (i : Int) : Prop := 0 ≤ i ∧ i ≤ a.length ∧ a.length = b.length ∧ a.length ≤ 1000 ∧ a.take i.toNat = b.take i.toNat
def ann_laws_eqIntS : Nat → St → Option Ann := fun _ st =>
  match st.mem, st.get 0, st.get 1 with
  | [⟨.ints _ a, _, _⟩, ⟨.ints _ b, _, _⟩], .row x n, .row y m => some {
      α := Int
      find := fun st => intAt st 5
      head := fun i => only st [(0, .row x n), (1, .row y m), (5, .int .i64 i)]
      inv := fun i => eqsInv a b i
      meas := fun i => (a.length - i).toNat }
  | _, _, _ => none
def mrkInv (a : List Int) (k0 : Int) (i : Int) : Prop := 0 ≤ i ∧ i ≤ a.length ∧ a.length ≤ 1000 ∧ 0 ≤ k0 ∧ k0 ≤ 1000
def mrkRow (a : List Int) (k0 : Int) (i : Int) : List Int := ramp k0 i.toNat ++ a.drop i.toNat
def ann_laws_markIntS : Nat → St → Option Ann := fun _ st =>
  match st.mem, st.get 0, intAt st 1 with
  | [⟨.ints kd a, e, kk⟩], .row x n, some k0 => some {
      α := Int
      find := fun st => intAt st 5
      head := fun i => { only st [(0, .row x n), (1, .int .i64 (k0 + i)), (5, .int .i64 i)] with mem := [⟨.ints kd (mrkRow a k0 i), e, kk⟩] }
      inv := fun i => mrkInv a k0 i
      meas := fun i => (a.length - i).toNat }
  | _, _, _ => none
def hldInv (a : List Int) (k0 : Int) (i : Int) : Prop := mrkInv a k0 i ∧ a.take i.toNat = ramp k0 i.toNat
def ann_laws_heldIntS : Nat → St → Option Ann := fun _ st =>
  match st.mem, st.get 0, intAt st 1 with
  | [⟨.ints _ a, _, _⟩], .row x n, some k0 => some {
      α := Int
      find := fun st => intAt st 5
      head := fun i => only st [(0, .row x n), (1, .int .i64 (k0 + i)), (5, .int .i64 i)]
      inv := fun i => hldInv a k0 i
      meas := fun i => (a.length - i).toNat }
  | _, _, _ => none
end Go.Vi
