/- Where one can walk on a route. -/
import Derived.Test.YtdeppknmibhokaaRAPf
namespace Go.Vi
def hasI : List Int → Int → Bool
  | [], _ => false
  | y :: q, x => (y == x) || hasI q x
def idxI : List Int → Int → Int
  | [], _ => -1
  | y :: q, x => bif y == x then 0 else (bif hasI q x then idxI q x + 1 else -1)
def addI (q : List Int) (x : Int) : List Int := bif hasI q x then q else q ++ [x]
def addAll (q r : List Int) : List Int := r.foldl addI q
def stepQ (l : List (List Int)) (q : List Int) (k : Nat) : List Int := bif decide (k < q.length) then addAll q (l.getD (q.getD k 0).toNat []) else q
def qAt (l : List (List Int)) (x : Int) : Nat → List Int
  | 0 => [x]
  | k + 1 => stepQ l (qAt l x k) k
def canB (l : List (List Int)) (ro : List Int) (n : Nat) (x goal : Int) : Bool := routeB l ro && inB x 0 ((n : Int) - 1) && inB goal 0 ((n : Int) - 1)
def hasInv (a : List Int) (x i : Int) : Prop := ixInv a.length i ∧ hasI (a.take i.toNat) x = false
def ann_spec_l1Has : Nat → St → Option Ann := fun _ st =>
  match st.mem, intAt st 1, st.get 7 with
  | [⟨.ints _ a, _, _⟩], some x, .row b n => some {
      α := Int
      find := fun st => intAt st 9
      head := fun i => only st [(1, .int .i64 x), (7, .row b n), (8, .int .i64 n), (9, .int .i64 i)]
      inv := fun i => hasInv a x i
      meas := fun i => ((a.length : Int) - i).toNat }
  | _, _, _ => none
def ann_slices_Index_int_int : Nat → St → Option Ann := fun _ st =>
  match st.mem, intAt st 1, st.get 0 with
  | [⟨.ints _ a, _, _⟩], some x, .row b n => some {
      α := Int
      find := fun st => intAt st 8
      head := fun i => only st [(0, .row b n), (1, .int .i64 x), (7, .int .i64 n), (8, .int .i64 i)]
      inv := fun i => hasInv a x i
      meas := fun i => ((a.length : Int) - i).toNat }
  | _, _, _ => none
/-- The walked rows: the mat, the rotors, the route's box, the queue. -/
def cwMem (mA mB mC : Blk) (q : List Int) : List Blk := [mA, mB, mC, ⟨.ints .i64 q, 3, .row⟩]
def cwInv (l : List (List Int)) (x : Int) (k : Int) : Prop := 0 ≤ k ∧ k ≤ (qAt l x k.toNat).length
def annCan (sk sj sr sn : Nat) : Nat → St → Option Ann := fun key st =>
  match st.mem, st.get 3, intAt st 1, intAt st 2, key with
  | ⟨.mat .i64 et l, e, kk⟩ :: mB :: mC :: _, v, some x, some goal, 5 => some {
      α := Int
      find := fun st => intAt st sk
      head := fun k => { only st [(1, .int .i64 x), (2, .int .i64 goal), (3, v), (8, .row 3 (qAt l x k.toNat).length), (sk, .int .i64 k)] with mem := cwMem ⟨.mat .i64 et l, e, kk⟩ mB mC (qAt l x k.toNat) }
      inv := fun k => cwInv l x k
      meas := fun k => ((l.length : Int) - k).toNat
      auto := true }
  | ⟨.mat .i64 et l, e, kk⟩ :: mB :: mC :: _, v, some x, some goal, 8 => (match intAt st sk, st.get sr with
    | some k, .inr b i c => some {
        α := Int
        find := fun st => intAt st sj
        head := fun j => { only st [(1, .int .i64 x), (2, .int .i64 goal), (3, v), (8, .row 3 (addAll (qAt l x k.toNat) ((l.getD i []).take j.toNat)).length), (sk, .int .i64 k), (sr, .inr b i c), (sn, .int .i64 c), (sj, .int .i64 j)] with mem := cwMem ⟨.mat .i64 et l, e, kk⟩ mB mC (addAll (qAt l x k.toNat) ((l.getD i []).take j.toNat)) }
        inv := fun j => ixInv (l.getD i []).length j
        meas := fun j => (((l.getD i []).length : Int) - j).toNat
        auto := true }
    | _, _ => none)
  | _, _, _, _, _ => none
def ann_spec_CanWalk : Nat → St → Option Ann := annCan 9 39 37 38
def ann_impl_CanWalk : Nat → St → Option Ann := annCan 9 44 42 43
end Go.Vi
