/- Visits, tracks, covers. -/
import Derived.Test.YtlechboepjmmhabDoorQ1Pf
namespace Go.Vi
def ixW (w : Wd) : Int := w.y * w.w + w.x
def trkF : Nat → Wd → List Int
  | 0, _ => []
  | n + 1, w => ixW w :: trkF n (stepW w)
def bump (l : List Int) (i : Int) : List Int := l.set i.toNat (l.getD i.toNat 0 + 1)
def zrow (w : Wd) : List Int := List.replicate w.c.length 0
def visF (n : Nat) (w : Wd) : List Int := (trkF n w).foldl bump (zrow w)
def visW (ok : Bool) (steps : Int) (w : Wd) : List Int := bif ok then visF steps.toNat w else []
def trkW (ok : Bool) (steps : Int) (w : Wd) : List Int := bif ok then trkF steps.toNat w else []
def idxF (v : Int) : List Int → Int
  | [] => -1
  | x :: r => bif v == x then 0 else bif decide (idxF v r < 0) then -1 else idxF v r + 1
def maxL : List Int → Int
  | [] => 0
  | x :: r => r.foldl (fun a b => if a < b then b else a) x
def cntP (l : List Int) : Int := (l.countP fun x => decide (0 < x) : Nat)
def zerF (l : List Int) : Nat → List Int
  | 0 => []
  | k + 1 => zerF l k ++ (bif l.getD k 0 == 0 then [(k : Int)] else [])
def nevL (l : List Int) : List Int := zerF l l.length
def nevW (ok : Bool) (w : Wd) : List Int :=
  match untilW ok (pPer w) 1 w with
  | some p => nevL (visF p.toNat w)
  | none => []
/-- Of the first k cells: the least number of steps in which all of them are in the track. -/
def covK (t : List Int) : Nat → Option Int
  | 0 => some 0
  | k + 1 =>
    match covK t k with
    | none => none
    | some s => bif decide (idxF (k : Int) t < 0) then none else some (if s < idxF (k : Int) t + 1 then idxF (k : Int) t + 1 else s)
def covW (ok : Bool) (w : Wd) : Option Int := bif ok then covK (trkF 4000 w) w.c.length else none
structure Vis where
  s : Int
  v : Wd
  l : List Int
/-- What stays of a world that goes on. -/
def likeW (w0 v : Wd) : Prop := v.w = w0.w ∧ v.h = w0.h ∧ v.c.length = w0.c.length
def visB (l : List Int) (n : Nat) (m : Int) : Prop := l.length = n ∧ ∀ x ∈ l, 0 ≤ x ∧ x ≤ m
def visInv (s0 : Int) (w0 : Wd) (a : Vis) : Prop := goodB a.v = true ∧ likeW w0 a.v ∧ 0 ≤ a.s ∧ a.s ≤ s0 ∧ visB a.l w0.c.length (s0 - a.s) ∧ (trkF a.s.toNat a.v).foldl bump a.l = visF s0.toNat w0
def ann_spec_loVisits : Nat → St → Option Ann := fun _ st =>
  match st.mem, intAt st 1 with
  | [⟨.vals ws, e0, k0⟩, ⟨_, e1, k1⟩], some s0 =>
    (match wdOf ws with
    | some w0 => some {
        α := Vis
        find := fun st => (match intAt st 1, st.mem with | some s, [⟨.vals vs, _, _⟩, ⟨.ints _ l, _, _⟩] => (match wdOf vs with | some v => some ⟨s, v, l⟩ | none => none) | _, _ => none)
        head := fun a => { only st [(1, .int .i64 a.s), (2, .ptr 0 0), (5, .row 1 w0.c.length)] with mem := [⟨.vals (wdL a.v), e0, k0⟩, ⟨.ints .i64 a.l, e1, k1⟩] }
        inv := visInv s0 w0
        meas := fun a => a.s.toNat }
    | none => none)
  | _, _ => none
/-- Here s counts what is made. -/
def trkInv (s0 : Int) (w0 : Wd) (a : Vis) : Prop := goodB a.v = true ∧ 0 ≤ a.s ∧ a.s ≤ s0 ∧ (a.l.length : Int) = a.s ∧ a.l ++ trkF (s0 - a.s).toNat a.v = trkF s0.toNat w0
def ann_impl_trackOf : Nat → St → Option Ann := fun _ st =>
  match st.mem, intAt st 11 with
  | [b0, ⟨_, e1, k1⟩, ⟨.vals vs, e2, k2⟩], some s0 =>
    (match wdOf vs with
    | some w0 => some {
        α := Vis
        find := fun st => (match intAt st 12, st.get 5, st.get 6 with
          | some i, .row b _, .ptr c _ => (match st.mem[b]?, st.mem[c]? with
            | some ⟨.ints _ l, _, _⟩, some ⟨.vals vs, _, _⟩ => (match wdOf vs with | some w => some ⟨i, w, l⟩ | none => none)
            | _, _ => none)
          | _, _, _ => none)
        head := fun a => { only st [(2, .ptr 0 0), (5, .row 1 a.l.length), (6, .ptr 2 0), (11, .int .i64 s0), (12, .int .i64 a.s)] with mem := [b0, ⟨.ints .i64 a.l, e1, k1⟩, ⟨.vals (wdL a.v), e2, k2⟩] }
        inv := trkInv s0 w0
        meas := fun a => (s0 - a.s).toNat
        auto := true }
    | none => none)
  | _, _ => none
/-- Here s counts what is left. -/
def trlInv (s0 : Int) (w0 : Wd) (a : Vis) : Prop := trkInv s0 w0 ⟨s0 - a.s, a.v, a.l⟩ ∧ goodB w0 = true ∧ inB s0 0 200 = true
def ann_spec_TrackAfter : Nat → St → Option Ann := fun _ st =>
  match st.mem, intAt st 1 with
  | [⟨.vals ws, e0, k0⟩], some s0 =>
    (match wdOf ws with
    | some w0 => some {
        α := Vis
        find := fun st => (match intAt st 1, st.get 2, st.get 6 with
          | some s, .ptr c _, .row b _ => (match st.mem[b]?, st.mem[c]? with
            | some ⟨.ints _ l, _, _⟩, some ⟨.vals vs, _, _⟩ => (match wdOf vs with | some w => some ⟨s, w, l⟩ | none => none)
            | _, _ => none)
          | some s, .ptr c _, .raw _ => (match st.mem[c]? with
            | some ⟨.vals vs, _, _⟩ => (match wdOf vs with | some w => some ⟨s, w, []⟩ | none => none)
            | _ => none)
          | _, _, _ => none)
        head := fun a => { only st [(1, .int .i64 a.s), (2, .ptr 0 0), (6, .row 1 a.l.length)] with mem := [⟨.vals (wdL a.v), e0, k0⟩, ⟨.ints .i64 a.l, 3, .row⟩] }
        inv := trlInv s0 w0
        meas := fun a => a.s.toNat
        auto := true }
    | none => none)
  | _, _ => none
/-- The row when the first i of the track are counted. -/
def vsAt (t : List Int) (n : Nat) (i : Nat) : List Int := (t.take i).foldl bump (List.replicate n 0)
def vsInv (t : List Int) (n : Nat) (i : Int) : Prop := 0 ≤ i ∧ i ≤ t.length ∧ visB (vsAt t n i.toNat) n i
def ann_impl_visitsOf : Nat → St → Option Ann := fun _ st =>
  match st.mem with
  | [⟨.vals [.str r, w, h, .str c, x, y, d], e0, k0⟩, ⟨_, e1, k1⟩, ⟨.ints _ t, e2, k2⟩] => some {
      α := Int
      find := fun st => intAt st 16
      head := fun i => { only st [(2, .ptr 0 0), (5, .row 1 c.length), (14, .row 2 t.length), (15, .int .i64 t.length), (16, .int .i64 i)] with mem := [⟨.vals [.str r, w, h, .str c, x, y, d], e0, k0⟩, ⟨.ints .i64 (vsAt t c.length i.toNat), e1, k1⟩, ⟨.ints .i64 t, e2, k2⟩] }
      inv := fun i => vsInv t c.length i
      meas := fun i => ((t.length : Int) - i).toNat }
  | _ => none
/-- A loop over a row that is looked at. -/
def ovInv (p : Int → Prop) (n : Nat) (i : Int) : Prop := 0 ≤ i ∧ i ≤ n ∧ n ≤ 10000 ∧ p i
def ann_slices_Index_int_int : Nat → St → Option Ann := fun _ st =>
  match st.mem, st.get 0, intAt st 1 with
  | [⟨.ints _ a, _, _⟩], .row x n, some v => some {
      α := Int
      find := fun st => intAt st 8
      head := fun i => only st [(0, .row x n), (1, .int .i64 v), (7, .int .i64 n), (8, .int .i64 i)]
      inv := ovInv (fun i => idxF v (a.take i.toNat) = -1) a.length
      meas := fun i => ((a.length : Int) - i).toNat }
  | _, _, _ => none
def ann_slices_Max_int_int : Nat → St → Option Ann := fun _ st =>
  match st.mem, st.get 0 with
  | [⟨.ints _ a, _, _⟩], .row x n => some {
      α := Int
      find := fun st => intAt st 4
      head := fun i => only st [(0, .row x n), (3, .int .i64 (maxL (a.take i.toNat))), (4, .int .i64 i)]
      inv := ovInv (fun i => 1 ≤ i) a.length
      meas := fun i => ((a.length : Int) - i).toNat }
  | _, _ => none
def annCount (sr sl si sn : Nat) : Nat → St → Option Ann := fun _ st =>
  match st.get sr with
  | .row b n => (match st.mem[b]? with
    | some ⟨.ints _ a, _, _⟩ => some {
        α := Int
        find := fun st => intAt st si
        head := fun i => only st [(sr, .row b n), (sl, .int .i64 n), (si, .int .i64 i), (sn, .int .i64 (cntP (a.take i.toNat)))]
        inv := ovInv (fun _ => True) a.length
        meas := fun i => ((a.length : Int) - i).toNat }
    | _ => none)
  | _ => none
def ann_spec_CellsVisited := annCount 15 16 17 6
def ann_impl_CellsVisited := annCount 19 20 21 8
/-- b is the first of the greatest of the first i. -/
def bstInv (a : List Int) (q : Int × Int) : Prop := 0 ≤ q.1 ∧ q.1 ≤ a.length ∧ 1 ≤ a.length ∧ a.length ≤ 10000 ∧ 0 ≤ q.2 ∧ q.2 < a.length ∧ (∀ j : Nat, (j : Int) < q.1 → a.getD j 0 ≤ a.getD q.2.toNat 0) ∧ ∀ j : Nat, (j : Int) < q.2 → a.getD j 0 < a.getD q.2.toNat 0
def ann_spec_MostVisited : Nat → St → Option Ann := fun _ st =>
  match st.get 7 with
  | .row b n => (match st.mem[b]? with
    | some ⟨.ints _ a, _, _⟩ => some {
        α := Int × Int
        find := fun st => (match intAt st 23, intAt st 6 with | some i, some b => some (i, b) | _, _ => none)
        head := fun q => only st [(6, .int .i64 q.2), (7, .row b n), (21, .row b n), (22, .int .i64 n), (23, .int .i64 q.1)]
        inv := bstInv a
        meas := fun q => ((a.length : Int) - q.1).toNat }
    | _ => none)
  | _ => none
structure Cov where
  s : Int
  v : Wd
  l : List Bool
  k : Int
/-- s - 1 steps are made; a cell is marked if it is in the track so far. -/
def covInv (w0 : Wd) (a : Cov) : Prop :=
  goodB w0 = true ∧ goodB a.v = true ∧ likeW w0 a.v ∧ 1 ≤ a.s ∧ a.s ≤ 4001 ∧ a.l.length = w0.c.length ∧ a.v = iterW stepW (a.s - 1).toNat w0 ∧ a.k = (a.l.countP fun b => !b : Nat) ∧ 1 ≤ a.k ∧
  ∀ j : Nat, j < w0.c.length → (a.l.getD j false = true ↔ (j : Int) ∈ (trkF 4000 w0).take (a.s - 1).toNat)
def ann_spec_CoverSteps : Nat → St → Option Ann := fun _ st =>
  match st.mem with
  | [⟨.vals ws, e0, k0⟩, ⟨_, e1, k1⟩] =>
    (match wdOf ws with
    | some w0 => some {
        α := Cov
        find := fun st => (match intAt st 6, intAt st 5, st.mem with | some s, some k, [⟨.vals vs, _, _⟩, ⟨.bools l, _, _⟩] => (match wdOf vs with | some v => some ⟨s, v, l, k⟩ | none => none) | _, _, _ => none)
        head := fun a => { only st [(1, .ptr 0 0), (4, .row 1 w0.c.length), (5, .int .i64 a.k), (6, .int .i64 a.s)] with mem := [⟨.vals (wdL a.v), e0, k0⟩, ⟨.bools a.l, e1, k1⟩] }
        inv := covInv w0
        meas := fun a => (4001 - a.s).toNat }
    | none => none)
  | _ => none
def cvkInv (t : List Int) (n : Nat) (q : Int × Int) : Prop := 0 ≤ q.1 ∧ q.1 ≤ n ∧ n ≤ 81 ∧ t.length = 4000 ∧ covK t q.1.toNat = some q.2 ∧ 0 ≤ q.2 ∧ q.2 ≤ 4000
def ann_impl_CoverSteps : Nat → St → Option Ann := fun _ st =>
  match st.mem, st.get 4 with
  | ⟨.vals [_, _, _, .str c, _, _, _], _, _⟩ :: _, .row b n => (match st.mem[b]? with
    | some ⟨.ints _ t, _, _⟩ => some {
        α := Int × Int
        find := fun st => (match intAt st 16, intAt st 5 with | some i, some s => some (i, s) | _, _ => none)
        head := fun q => only st [(1, .ptr 0 0), (4, .row b n), (5, .int .i64 q.2), (15, .int .i64 c.length), (16, .int .i64 q.1)]
        inv := cvkInv t c.length
        meas := fun q => ((c.length : Int) - q.1).toNat }
    | _ => none)
  | _, _ => none
/-- The zeros of a row, collected: sr the row, so what is collected. -/
def annZero (sr sl si so : Nat) : Nat → St → Option Ann := fun _ st =>
  match st.get sr, st.mem with
  | .row b n, b0 :: _ => (match st.mem[b]? with
    | some ⟨.ints _ a, e, k⟩ => some {
        α := Int
        find := fun st => intAt st si
        head := fun i => { only st [(1, .ptr 0 0), (sr, .row 1 n), (sl, .int .i64 n), (si, .int .i64 i), (so, .row 2 (zerF a i.toNat).length)] with mem := [b0, ⟨.ints .i64 a, e, k⟩, ⟨.ints .i64 (zerF a i.toNat), 3, .row⟩] }
        inv := ovInv (fun _ => True) a.length
        meas := fun i => ((a.length : Int) - i).toNat
        auto := true }
    | _ => none)
  | _, _ => none
def ann_spec_NeverVisited : Nat → St → Option Ann := fun key st =>
  match Nat.beq key 1004 with
  | true =>
    (match st.mem with
    | [⟨.vals vs, e0, k0⟩] => (match wdOf vs with
      | some w => some {
          α := Unit
          find := fun _ => some ()
          head := fun _ => { only st [(1, .ptr 0 0), (4, .raw (.slice none 0 0)), (18, .row 1 (visF (optI (untilW (goodB w) (pPer w) 1 w)).toNat w).length), (19, .int .i64 (visF (optI (untilW (goodB w) (pPer w) 1 w)).toNat w).length), (20, .int .i64 0)] with mem := [⟨.vals vs, e0, k0⟩, ⟨.ints .i64 (visF (optI (untilW (goodB w) (pPer w) 1 w)).toNat w), 3, .row⟩] }
          inv := fun _ => True
          meas := fun _ => 0 }
      | none => none)
    | _ => none)
  | false => annZero 18 19 20 4 key st
def ann_impl_NeverVisited := annZero 18 19 20 6
/-! ### rows of numbers in a law -/
def ramp (k : Int) (n : Nat) : List Int := (List.range n).map fun j : Nat => k + (j : Int)
def eqsInv (a b : List Int) (i : Int) : Prop := 0 ≤ i ∧ i ≤ a.length ∧ a.length = b.length ∧ a.length ≤ 10000 ∧ a.take i.toNat = b.take i.toNat
def ann_laws_eqIntS : Nat → St → Option Ann := fun _ st =>
  match st.mem, st.get 0, st.get 1 with
  | [⟨.ints _ a, _, _⟩, ⟨.ints _ b, _, _⟩], .row x n, .row y m => some {
      α := Int
      find := fun st => intAt st 5
      head := fun i => only st [(0, .row x n), (1, .row y m), (5, .int .i64 i)]
      inv := fun i => eqsInv a b i
      meas := fun i => (a.length - i).toNat }
  | _, _, _ => none
def mrkInv (a : List Int) (k0 : Int) (i : Int) : Prop := 0 ≤ i ∧ i ≤ a.length ∧ a.length ≤ 10000 ∧ 0 ≤ k0 ∧ k0 ≤ 10000
def mrkRow (a : List Int) (k0 : Int) (i : Int) : List Int := ramp k0 i.toNat ++ a.drop i.toNat
def ann_laws_markIntS : Nat → St → Option Ann := fun _ st =>
  match st.mem, st.get 0, intAt st 1 with
  | [⟨.ints kd a, e, kk⟩], .row x n, some k0 => some {
      α := Int
      find := fun st => intAt st 5
      head := fun i => { only st [(0, .row x n), (1, .int .i64 (k0 + i)), (5, .int .i64 i)] with mem := [⟨.ints kd (mrkRow a k0 i), e, kk⟩] }
      inv := fun i => mrkInv a k0 i
      meas := fun i => (a.length - i).toNat }
  | _, _, _ => none
def hldInv (a : List Int) (k0 : Int) (i : Int) : Prop := mrkInv a k0 i ∧ a.take i.toNat = ramp k0 i.toNat
def ann_laws_heldIntS : Nat → St → Option Ann := fun _ st =>
  match st.mem, st.get 0, intAt st 1 with
  | [⟨.ints _ a, _, _⟩], .row x n, some k0 => some {
      α := Int
      find := fun st => intAt st 5
      head := fun i => only st [(0, .row x n), (1, .int .i64 (k0 + i)), (5, .int .i64 i)]
      inv := fun i => hldInv a k0 i
      meas := fun i => (a.length - i).toNat }
  | _, _, _ => none
end Go.Vi
