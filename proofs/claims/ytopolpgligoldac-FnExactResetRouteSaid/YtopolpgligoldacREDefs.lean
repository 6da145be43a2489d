/- Walks on routes: rotors turned and reset, goals, lines used. -/
import Derived.Test.YtopolpgligoldacRDPf
namespace Go.Vi
def hasI : List Int → Int → Bool
  | [], _ => false
  | y :: q, x => (y == x) || hasI q x
def idxI : List Int → Int → Int
  | [], _ => -1
  | y :: q, x => bif y == x then 0 else (bif hasI q x then idxI q x + 1 else -1)
def numZ (l : List (List Int)) (ro : List Int) (n : Nat) : Nat := bif routeB l ro then n else 0
def zeroL (l : List (List Int)) (ro : List Int) : List (List Int) := bif routeB l ro then l else []
/-- The first that holds, counted from 1, or 0. -/
def srch (p : Nat → Bool) : Nat → Nat → Nat
  | 0, _ => 0
  | f + 1, k => bif p k then k + 1 else srch p f (k + 1)
def hitP (l : List (List Int)) (x : Int) (ro e : List Int) (k : Nat) : Bool := hasI e (wA l x ro (k + 1))
def toN (l : List (List Int)) (x : Int) (ro e : List Int) : Nat := srch (hitP l x ro e) 3000 0
def toA (l : List (List Int)) (x : Int) (ro e : List Int) : Int := bif (toN l x ro e == 0) then 0 else wA l x ro (toN l x ro e)
def stOk (l : List (List Int)) (ro : List Int) (n : Nat) (x goal : Int) : Bool := rtOk l ro n x && inB goal 0 ((n : Int) - 1)
def stN (l : List (List Int)) (ro : List Int) (n : Nat) (x goal : Int) : Nat := bif stOk l ro n x goal then toN l x ro [goal] else 0
def zer (l : List (List Int)) : List (List Int) := l.map fun r => List.replicate r.length 0
def usd (l : List (List Int)) (x : Int) (ro : List Int) : Nat → List (List Int)
  | 0 => zer l
  | k + 1 => (usd l x ro k).set (wA l x ro k).toNat (((usd l x ro k).getD (wA l x ro k).toNat []).set ((wR l x ro k).getD (wA l x ro k).toNat 0).toNat (((usd l x ro k).getD (wA l x ro k).toNat []).getD ((wR l x ro k).getD (wA l x ro k).toNat 0).toNat 0 + 1))
def usedM (l : List (List Int)) (ro : List Int) (n : Nat) (x steps : Int) : List (List Int) := bif wkOk l ro n x steps then usd l x ro steps.toNat else []
/-! ### loops -/
def hasInv (a : List Int) (x i : Int) : Prop := ixInv a.length i ∧ hasI (a.take i.toNat) x = false
def ann_spec_l1Has : Nat → St → Option Ann := fun _ st =>
  match st.mem, intAt st 1, st.get 7 with
  | [⟨.ints _ a, _, _⟩], some x, .row b n => some {
      α := Int
      find := fun st => intAt st 9
      head := fun i => only st [(1, .int .i64 x), (7, .row b n), (8, .int .i64 n), (9, .int .i64 i)]
      inv := fun i => hasInv a x i
      meas := fun i => ((a.length : Int) - i).toNat }
  | _, _, _ => none
def ann_slices_Index_int_int : Nat → St → Option Ann := fun _ st =>
  match st.mem, intAt st 1, st.get 0 with
  | [⟨.ints _ a, _, _⟩], some x, .row b n => some {
      α := Int
      find := fun st => intAt st 8
      head := fun i => only st [(0, .row b n), (1, .int .i64 x), (7, .int .i64 n), (8, .int .i64 i)]
      inv := fun i => hasInv a x i
      meas := fun i => ((a.length : Int) - i).toNat }
  | _, _, _ => none
def toInv (l : List (List Int)) (x : Int) (ro e : List Int) (s : Int) : Prop := 1 ≤ s ∧ s ≤ 3001 ∧ toN l x ro e = srch (hitP l x ro e) (3001 - s).toNat (s - 1).toNat
def ann_spec_roTo : Nat → St → Option Ann := fun _ st =>
  match st.mem, intAt st 1 with
  | ⟨.mat _ _ l, _, _⟩ :: ⟨.ints _ ro, _, _⟩ :: ⟨.ints _ e, _, _⟩ :: _, some x => some {
      α := Int
      find := fun st => intAt st 8
      head := fun s => { only st [(1, .int .i64 (wA l x ro (s - 1).toNat)), (2, .row 2 e.length), (3, .ptr 3 0), (8, .int .i64 s)] with mem := [mBlk l, iBlk (wR l x ro (s - 1).toNat), iBlk e, rBox [.row 0 l.length, .row 1 ro.length]] }
      inv := fun s => toInv l x ro e s
      meas := fun s => (3001 - s).toNat
      auto := true }
  | _, _ => none
def ann_impl_walk_goTo : Nat → St → Option Ann := fun _ st =>
  match st.mem with
  | ⟨.mixi [_, .int _ x] _ q _, _, _⟩ :: ⟨.ints _ e, _, _⟩ :: ⟨.mat _ _ l, _, _⟩ :: _ => some {
      α := Int
      find := fun st => intAt st 6
      head := fun s => { only st [(0, .ptr 0 0), (1, .row 1 e.length), (6, .int .i64 s)] with mem := [wBlk l.length (wA l x q (s - 1).toNat) (wR l x q (s - 1).toNat) 2, iBlk e, mBlk l] }
      inv := fun s => toInv l x q e s
      meas := fun s => (3001 - s).toNat
      auto := true }
  | _ => none
def ann_spec_LinesUsed : Nat → St → Option Ann := fun key st =>
  match st.mem, intAt st 1, intAt st 2, key with
  | ⟨.mat _ _ l, _, _⟩ :: ⟨.ints _ ro, _, _⟩ :: _, some x, some steps, 6 => some {
      α := Int
      find := fun st => intAt st 22
      head := fun i => { only st [(1, .int .i64 x), (2, .int .i64 steps), (8, .ptr 2 0), (9, .row 5 i.toNat), (20, .row 3 l.length), (21, .int .i64 (l.length : Nat)), (22, .int .i64 i)] with mem := [mBlk l, iBlk ro, rBox [.row 3 l.length, .row 4 ro.length], mBlk l, iBlk ro, mBlk (zer (l.take i.toNat))] }
      inv := fun i => ixInv l.length i
      meas := fun i => ((l.length : Int) - i).toNat
      auto := true }
  | ⟨.mat _ _ l, _, _⟩ :: ⟨.ints _ ro, _, _⟩ :: _, some x, some steps, 10 => some {
      α := Int
      find := fun st => intAt st 2
      head := fun b => { only st [(1, .int .i64 (wA l x ro (steps - b).toNat)), (2, .int .i64 b), (8, .ptr 2 0), (9, .row 5 l.length)] with mem := [mBlk l, iBlk ro, rBox [.row 3 l.length, .row 4 ro.length], mBlk l, iBlk (wR l x ro (steps - b).toNat), mBlk (usd l x ro (steps - b).toNat)] }
      inv := fun b => 0 ≤ b ∧ b ≤ steps
      meas := fun b => b.toNat
      auto := true }
  | _, _, _, _ => none
def ann_impl_LinesUsed : Nat → St → Option Ann := fun key st =>
  match st.mem, key with
  | ⟨.mat _ _ l, _, _⟩ :: ⟨.ints _ ro, _, _⟩ :: _, 6 => (match intAt st 1, intAt st 2 with
    | some x, some steps => some {
      α := Int
      find := fun st => intAt st 34
      head := fun i => { only st [(1, .int .i64 x), (2, .int .i64 steps), (8, .ptr 2 0), (10, .row 3 i.toNat), (32, .row 0 l.length), (33, .int .i64 (l.length : Nat)), (34, .int .i64 i)] with mem := [mBlk l, iBlk ro, wBlk l.length x (q0 ro) 0, mBlk (zer (l.take i.toNat))] }
      inv := fun i => ixInv l.length i
      meas := fun i => ((l.length : Int) - i).toNat
      auto := true }
    | _, _ => none)
  | ⟨.mat _ _ l, _, _⟩ :: ⟨.ints _ ro, _, _⟩ :: _, 11 => (match intAt st 1, intAt st 45 with
    | some x, some steps => some {
      α := Int
      find := fun st => intAt st 46
      head := fun i => { only st [(1, .int .i64 x), (8, .ptr 2 0), (10, .row 3 l.length), (45, .int .i64 steps), (46, .int .i64 i)] with mem := [mBlk l, iBlk ro, wBlk l.length (wA l x (q0 ro) i.toNat) (wR l x (q0 ro) i.toNat) 0, mBlk (usd l x (q0 ro) i.toNat)] }
      inv := fun i => 0 ≤ i ∧ i ≤ steps
      meas := fun i => (steps - i).toNat
      auto := true }
    | _, _ => none)
  | ⟨.mat _ _ l, _, _⟩ :: ⟨.ints _ ro, _, _⟩ :: _, 1013 => (match intAt st 1, intAt st 45 with
    | some x, some steps => some {
      α := Int
      find := fun st => intAt st 46
      head := fun i => { only st [(1, .int .i64 x), (8, .ptr 2 0), (10, .row 3 l.length), (45, .int .i64 steps), (46, .int .i64 i)] with mem := [mBlk l, iBlk ro, wBlk l.length (wA l x (q0 ro) (i.toNat + 1)) (wR l x (q0 ro) (i.toNat + 1)) 0, mBlk (usd l x (q0 ro) (i.toNat + 1))] }
      inv := fun _ => True
      meas := fun _ => 0 }
    | _, _ => none)
  | _, _ => none
end Go.Vi
