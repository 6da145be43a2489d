/- Tables whose states or tints have other names. -/
import Derived.Test.YtehglmfhohinbaaDoorTTPf
namespace Go.Vi
set_option linter.unusedVariables false
def hasI : List Int → Int → Bool
  | [], _ => false
  | y :: q, x => (y == x) || hasI q x
def idxI : List Int → Int → Int
  | [], _ => -1
  | y :: q, x => bif y == x then 0 else (bif hasI q x then idxI q x + 1 else -1)
def hasInv (a : List Int) (x i : Int) : Prop := ixInv a.length i ∧ hasI (a.take i.toNat) x = false
def ann_spec_l1Has : Nat → St → Option Ann := fun _ st =>
  match st.mem, intAt st 1, st.get 7 with
  | [⟨.ints _ a, _, _⟩], some x, .row b n => some {
      α := Int
      find := fun st => intAt st 9
      head := fun i => only st [(1, .int .i64 x), (7, .row b n), (8, .int .i64 n), (9, .int .i64 i)]
      inv := fun i => hasInv a x i
      meas := fun i => ((a.length : Int) - i).toNat }
  | _, _, _ => none
def ann_slices_Index_int_int : Nat → St → Option Ann := fun _ st =>
  match st.mem, intAt st 1, st.get 0 with
  | [⟨.ints _ a, _, _⟩], some x, .row b n => some {
      α := Int
      find := fun st => intAt st 8
      head := fun i => only st [(0, .row b n), (1, .int .i64 x), (7, .int .i64 n), (8, .int .i64 i)]
      inv := fun i => hasInv a x i
      meas := fun i => ((a.length : Int) - i).toNat }
  | _, _, _ => none
def ann_laws_toIntS : Nat → St → Option Ann := fun _ st =>
  match st.mem with
  | ⟨.ints kd a, e, k⟩ :: _ => some {
      α := Int
      find := fun st => intAt st 4
      head := fun i => { only st [(0, .row 0 a.length), (3, .row 1 a.length), (4, .int .i64 i)] with mem := [⟨.ints kd a, e, k⟩, ⟨.ints .i64 (a.take i.toNat ++ List.replicate (a.length - i.toNat) 0), 3, .row⟩] }
      inv := fun i => ixInv a.length i
      meas := fun i => ((a.length : Int) - i).toNat
      auto := true }
  | _ => none
def eqsInv (a b : List Int) (i : Int) : Prop := 0 ≤ i ∧ i ≤ a.length ∧ a.length = b.length ∧ a.length ≤ 2000000 ∧ a.take i.toNat = b.take i.toNat
def ann_laws_eqIntS : Nat → St → Option Ann := fun _ st =>
  match st.mem, st.get 0, st.get 1 with
  | [⟨.ints _ a, _, _⟩, ⟨.ints _ b, _, _⟩], .row x n, .row y m => some {
      α := Int
      find := fun st => intAt st 5
      head := fun i => only st [(0, .row x n), (1, .row y m), (5, .int .i64 i)]
      inv := fun i => eqsInv a b i
      meas := fun i => (a.length - i).toNat }
  | _, _, _ => none
def ramp (k : Int) (n : Nat) : List Int := (List.range n).map fun j : Nat => k + (j : Int)
def mrkRow (a : List Int) (k0 : Int) (i : Nat) : List Int := ramp k0 i ++ a.drop i
def ann_laws_markIntS : Nat → St → Option Ann := fun _ st =>
  match st.mem, st.get 0, intAt st 1 with
  | [⟨.ints kd a, e, kk⟩], .row x n, some k0 => some {
      α := Int
      find := fun st => intAt st 5
      head := fun i => { only st [(0, .row x n), (1, .int .i64 (k0 + i)), (5, .int .i64 i)] with mem := [⟨.ints kd (mrkRow a k0 i.toNat), e, kk⟩] }
      inv := fun i => ixInv a.length i
      meas := fun i => ((a.length : Int) - i).toNat }
  | _, _, _ => none
def allB (a : List Int) (lo hi : Int) : Bool := a.all fun x => inB x lo hi
def lallInv (a : List Int) (lo hi : Int) (i : Int) : Prop := 0 ≤ i ∧ i ≤ a.length ∧ allB (a.take i.toNat) lo hi = true
def ann_spec_l1All : Nat → St → Option Ann := fun _ st =>
  match st.mem, intAt st 1, intAt st 2, st.get 9 with
  | [⟨.ints _ a, _, _⟩], some lo, some hi, .row b n => some {
      α := Int
      find := fun st => intAt st 11
      head := fun i => only st [(1, .int .i64 lo), (2, .int .i64 hi), (9, .row b n), (10, .int .i64 n), (11, .int .i64 i)]
      inv := fun i => lallInv a lo hi i
      meas := fun i => ((a.length : Int) - i).toNat }
  | _, _, _, _ => none
/-! ### orders -/
/-- No number stands in the list twice, up to place i. -/
def ndB (a : List Int) (i : Nat) : Bool := (List.range i).all fun j => !hasI (a.take j) (a.getD j 0)
def ordB (p : Int) (a : List Int) : Bool := decide ((a.length : Int) = p) && (allB a 0 (p - 1) && ndB a a.length)
/-- Each of the numbers below i stands in the list. -/
def evB (a : List Int) (i : Nat) : Bool := (List.range i).all fun j => hasI a (j : Nat)
def toInv (p : Int) (a : List Int) (i : Int) : Prop := (a.length : Int) = p ∧ allB a 0 (p - 1) = true ∧ 0 ≤ i ∧ i ≤ p ∧ ndB a i.toNat = true
def ann_spec_taOrder : Nat → St → Option Ann := fun key st =>
  match st.mem, intAt st 0, st.get 18, key with
  | [⟨.ints _ a, _, _⟩], some p, .row b n, 4 => some {
      α := Int
      find := fun st => intAt st 20
      head := fun i => only st [(1, .row b n), (18, .row b n), (19, .int .i64 n), (20, .int .i64 i)]
      inv := fun i => toInv p a i
      meas := fun i => (p - i).toNat }
  | _, _, _, _ => none
def ioInv (p : Int) (a : List Int) (i : Int) : Prop := (a.length : Int) = p ∧ 0 ≤ i ∧ i ≤ p ∧ evB a i.toNat = true
def ann_impl_isOrder : Nat → St → Option Ann := fun key st =>
  match st.mem, intAt st 1, st.get 0, key with
  | [⟨.ints _ a, _, _⟩], some p, .row b n, 4 => some {
      α := Int
      find := fun st => intAt st 11
      head := fun i => only st [(0, .row b n), (10, .int .i64 p), (11, .int .i64 i)]
      inv := fun i => ioInv p a i
      meas := fun i => (p - i).toNat }
  | _, _, _, _ => none
/-! ### rows laid anew -/
def laidR (pos : Nat → Nat) (val : Row3 → Row3) (l : List Row3) : Nat → List Row3 → List Row3
  | 0, b => b
  | m + 1, b => (laidR pos val l m b).set (pos m) (val (l.getD m default))
def posT (T : Nat) (a : List Int) (i : Nat) : Nat := i / T * T + (a.getD (i % T) 0).toNat
def valT (a : List Int) (r : Row3) : Row3 := ⟨a.getD r.a.toNat 0, r.t, r.b⟩
def posS (T : Nat) (a : List Int) (i : Nat) : Nat := (a.getD (i / T) 0).toNat * T + i % T
def valS (a : List Int) (r : Row3) : Row3 := ⟨r.a, r.t, a.getD r.b.toNat 0⟩
def zeroR (n : Nat) : List Row3 := List.replicate n ⟨0, [], 0⟩
def gdT (s i : Int) (l : List Row3) (a : List Int) : Bool := tabB s i l && ordB i a
def gdS (s i : Int) (l : List Row3) (a : List Int) : Bool := tabB s i l && ordB s a
def rnT (s i : Int) (l : List Row3) (a : List Int) : List Row3 := bif gdT s i l a then laidR (posT i.toNat a) (valT a) l l.length (zeroR l.length) else []
def rnS (s i : Int) (l : List Row3) (a : List Int) : List Row3 := bif gdS s i l a then laidR (posS i.toNat a) (valS a) l l.length (zeroR l.length) else []
def intBlk : List Blk → Option (List Int)
  | [] => none
  | ⟨.ints _ a, _, _⟩ :: _ => some a
  | _ :: r => intBlk r
def annRen (g : Int → Int → List Row3 → List Int → Bool) (pos : Nat → List Int → Nat → Nat) (val : List Int → Row3 → Row3) (base : List Row3 → List Row3) (keep : List Nat) (so sr sn si : Nat) : St → Option Ann := fun st =>
  match st.mem, intBlk st.mem, st.get so, st.get sr with
  | ⟨.recs sh c, _, _⟩ :: _, some a, .ptr b _, .row _ n =>
    (match st.mem[b]? with
    | some ⟨.vals [.int _ s, .int _ i, .row r _], _, _⟩ =>
      (match st.mem[r]? with
      | some ⟨_, e, kd⟩ => some {
          α := Int
          find := fun st => intAt st si
          head := fun j => { only st (keep.map (fun t => (t, st.get t)) ++ [(sn, .int .i64 n), (si, .int .i64 j)]) with mem := st.mem.set r ⟨.recs sh (flat3 (laidR (pos i.toNat a) (val a) (rows3 c) j.toNat (base (rows3 c)))), e, kd⟩ }
          inv := fun j => miInv (g s i (rows3 c) a) n j
          meas := fun j => ((n : Int) - j).toNat }
      | none => none)
    | _ => none)
  | _, _, _, _ => none
/-- Behind the region that draws its order: the new rows' box, and the rows. -/
def annR3 : St → Option Ann := fun st =>
  match st.mem with
  | [b0, b1, ⟨.vals [.int q1 s, .int q2 i, .row r n], e, k⟩, b3] => some {
      α := Unit
      find := fun _ => some ()
      head := fun _ => { only st ([1, 2, 4].map (fun t => (t, st.get t)) ++ [(6, .ptr 4 0)]) with mem := [b0, b1, ⟨.vals [.int q1 s, .int q2 i, .row r n], e, k⟩, b3, tabBox s i 5 n, ⟨.recs [.int .i64, .str, .int .i64] (List.replicate (n * 3) ⟨0, []⟩), 47, .rows 3⟩] }
      inv := fun _ => True
      meas := fun _ => 0
      auto := true
      join := true }
  | _ => none
def ann_spec_RenameTints : Nat → St → Option Ann := fun key st => match Nat.beq key 5, Nat.beq key 1003 with | true, _ => annRen gdT posT valT (fun l => zeroR l.length) [1, 2, 4, 6, 30] 6 30 31 32 st | _, true => annR3 st | _, _ => none
def ann_spec_RenameStates : Nat → St → Option Ann := fun key st => match Nat.beq key 5, Nat.beq key 1003 with | true, _ => annRen gdS posS valS (fun l => zeroR l.length) [1, 2, 4, 6, 30] 6 30 31 32 st | _, true => annR3 st | _, _ => none
def ann_impl_renamed : Nat → St → Option Ann := fun key st =>
  match Nat.beq key 3, st.get 1 with
  | true, .fn f _ => (match Nat.beq f 35 with | true => annRen gdT posT valT (fun l => l) [1, 2, 4, 5, 13] 5 13 14 15 st | false => annRen gdS posS valS (fun l => l) [1, 2, 4, 5, 13] 5 13 14 15 st)
  | _, _ => none
end Go.Vi
