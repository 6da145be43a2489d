/- Tables: which can be undone. -/
import Derived.Test.YtpkokghbkamelaaDoorTAPf
namespace Go.Vi
def sameO (r q : Row3) : Bool := r.a == q.a && r.b == q.b
/-- A row before that one makes the same. -/
def dupAt (l : List Row3) (k : Nat) : Bool := (l.take k).any fun q => sameO (l.getD k default) q
def undoB (l : List Row3) : Bool := (List.range l.length).all fun k => !dupAt l k
def fwF : List Row3 -> Int -> Int -> Int -> Int
 | [], _, _, _ => -1
 | r :: l, p, q, k => bif r.a == p && r.b == q then k else fwF l p q (k + 1)
def undoInv (l : List Row3) (k : Int) : Prop := 0 <= k /\ k <= l.length /\ (List.range k.toNat).all (fun k => !dupAt l k) = true
def dupInv (l : List Row3) (k j : Int) : Prop := 0 <= j /\ j <= k /\ ((l.take k.toNat).take j.toNat).any (fun q => sameO (l.getD k.toNat default) q) = false
def fwInv (l : List Row3) (p q : Int) (k : Int) : Prop := 0 <= k /\ k <= l.length /\ fwF (l.drop k.toNat) p q k = fwF l p q 0
def ann_spec_taUndo : Nat -> St -> Option Ann := fun key st =>
 match st.mem, st.get 8, st.get 1, key with
 | ⟨.recs _ a, _, _⟩ :: _, .row x n, v, 2 => some {
   α := Int
   find := fun st => intAt st 10
   head := fun k => only st [(1, v), (8, .row x n), (9, .int .i64 n), (10, .int .i64 k)]
   inv := fun k => undoInv (rows3 a) k
   meas := fun k => ((n : Int) - k).toNat }
 | ⟨.recs _ a, _, _⟩ :: _, .row x n, v, 5 => (match intAt st 10, st.get 4, st.get 18, st.get 19 with
  | some k, u, sl, ln => some {
    α := Int
    find := fun st => intAt st 20
    head := fun j => only st [(1, v), (4, u), (8, .row x n), (9, .int .i64 n), (10, .int .i64 k), (18, sl), (19, ln), (20, .int .i64 j)]
    inv := fun j => dupInv (rows3 a) k j
    meas := fun j => (k - j).toNat }
  | none, _, _, _ => none)
 | _, _, _, _ => none
def ann_impl_outcome : Nat -> St -> Option Ann := fun key st =>
 match st.mem, st.get 0, st.get 1, st.get 5, key with
 | ⟨.recs _ a, _, _⟩ :: ⟨.vals [.int _ p, .int _ q], _, _⟩ :: _, .row x n, f, v, 2 => some {
   α := Int
   find := fun st => intAt st 11
   head := fun k => only st [(0, .row x n), (1, f), (5, v), (9, .row x n), (10, .int .i64 n), (11, .int .i64 k)]
   inv := fun k => fwInv (rows3 a) p q k
   meas := fun k => ((n : Int) - k).toNat }
 | _, _, _, _, _ => none
def ann_impl_CanUndo : Nat -> St -> Option Ann := fun key st =>
 match st.mem, st.get 10, st.get 1, key with
 | ⟨.recs _ a, _, _⟩ :: _, .row x n, v, 4 => some {
   α := Int
   find := fun st => intAt st 12
   head := fun k => only st [(1, v), (10, .row x n), (11, .int .i64 n), (12, .int .i64 k)]
   inv := fun k => undoInv (rows3 a) k
   meas := fun k => ((n : Int) - k).toNat }
 | _, _, _, _ => none
end Go.Vi
