/- Routes: rows of rows in a law; what is good. -/
import Derived.Test.YtopolpgligoldacVig
namespace Go.Vi
def inB (a b c : Int) : Bool := decide (b ≤ a) && decide (a ≤ c)
/-- No row is longer than what a law lets through. -/
def smallM (l : List (List Int)) : Prop := l.length ≤ 2000000 ∧ ∀ r ∈ l, r.length ≤ 2000000
def szI (n : Int) (left : Int) : Int := bif decide (left - n < 0) then -1 else left - n
def szL : List (List Int) → Int → Int
  | [], left => left
  | r :: l, left => bif decide (szI r.length left < 0) then -1 else szL l (szI r.length left)
def szM (l : List (List Int)) (left : Int) : Int := bif decide (left - l.length < 0) then -1 else szL l (left - l.length)
def szR (l : List (List Int)) (ro : List Int) (left : Int) : Int := bif decide (szM l left < 0) then -1 else szI ro.length (szM l left)
def allB (a : List Int) (lo hi : Int) : Bool := a.all fun x => inB x lo hi
def rowB (n : Nat) (r : List Int) (x : Int) : Bool := inB r.length 1 4 && allB r 0 ((n : Int) - 1) && inB x 0 ((r.length : Int) - 1)
def rowsB (n : Nat) : List (List Int) → List Int → Bool
  | [], _ => true
  | r :: l, ro => rowB n r (ro.headD 0) && rowsB n l ro.tail
def routeB (l : List (List Int)) (ro : List Int) : Bool := inB l.length 1 10 && (ro.length == l.length) && rowsB l.length l ro
abbrev nilM : List (List Int) := []
/-! ### loops -/
def annIx (α : Type) (find : St → Option α) (head : α → St) (inv : α → Prop) (meas : α → Nat) : Option Ann := some { α := α, find := find, head := head, inv := inv, meas := meas }
def szInv (l : List (List Int)) (left0 : Int) (q : Int × Int) : Prop := 0 ≤ q.1 ∧ q.1 ≤ l.length ∧ 0 ≤ q.2 ∧ q.2 ≤ 1048576 ∧ szL (l.drop q.1.toNat) q.2 = szL l left0
def ann_laws_szIntSS : Nat → St → Option Ann := fun _ st =>
  match st.mem, st.get 0, intAt st 1 with
  | [⟨.mat _ _ l, _, _⟩], .row x n, some left0 => some {
      α := Int × Int
      find := fun st => (match intAt st 5, intAt st 1 with | some i, some left => some (i, left) | _, _ => none)
      head := fun q => only st [(0, .row x n), (1, .int .i64 q.2), (5, .int .i64 q.1)]
      inv := fun q => szInv l left0 q
      meas := fun q => ((l.length : Int) - q.1).toNat }
  | _, _, _ => none
def ixInv (m : Nat) (i : Int) : Prop := 0 ≤ i ∧ i ≤ m
def ann_laws_toIntS : Nat → St → Option Ann := fun _ st =>
  match st.mem with
  | ⟨.ints kd a, e, k⟩ :: _ => some {
      α := Int
      find := fun st => intAt st 4
      head := fun i => { only st [(0, .row 0 a.length), (3, .row 1 a.length), (4, .int .i64 i)] with mem := [⟨.ints kd a, e, k⟩, ⟨.ints .i64 (a.take i.toNat ++ List.replicate (a.length - i.toNat) 0), 3, .row⟩] }
      inv := fun i => ixInv a.length i
      meas := fun i => ((a.length : Int) - i).toNat
      auto := true }
  | _ => none
def ann_laws_toIntSS : Nat → St → Option Ann := fun _ st =>
  match st.mem with
  | ⟨.mat kd et l, e, k⟩ :: _ => some {
      α := Int
      find := fun st => intAt st 4
      head := fun i => { only st [(0, .row 0 l.length), (3, .row 1 l.length), (4, .int .i64 i)] with mem := [⟨.mat kd et l, e, k⟩, ⟨.mat .i64 3 (l.take i.toNat ++ List.replicate (l.length - i.toNat) nilI), 23, .mat⟩] }
      inv := fun i => ixInv l.length i
      meas := fun i => ((l.length : Int) - i).toNat
      auto := true }
  | _ => none
def eqsInv (a b : List Int) (i : Int) : Prop := 0 ≤ i ∧ i ≤ a.length ∧ a.length = b.length ∧ a.length ≤ 2000000 ∧ a.take i.toNat = b.take i.toNat
def ann_laws_eqIntS : Nat → St → Option Ann := fun _ st =>
  match st.mem, st.get 0, st.get 1 with
  | [⟨.ints _ a, _, _⟩, ⟨.ints _ b, _, _⟩], .row x n, .row y m => some {
      α := Int
      find := fun st => intAt st 5
      head := fun i => only st [(0, .row x n), (1, .row y m), (5, .int .i64 i)]
      inv := fun i => eqsInv a b i
      meas := fun i => (a.length - i).toNat }
  | _, _, _ => none
def eqmInv (a b : List (List Int)) (i : Int) : Prop := 0 ≤ i ∧ i ≤ a.length ∧ a.length = b.length ∧ a.take i.toNat = b.take i.toNat
def ann_laws_eqIntSS : Nat → St → Option Ann := fun _ st =>
  match st.mem, st.get 0, st.get 1 with
  | [⟨.mat _ _ a, _, _⟩, ⟨.mat _ _ b, _, _⟩], .row x n, .row y m => some {
      α := Int
      find := fun st => intAt st 5
      head := fun i => only st [(0, .row x n), (1, .row y m), (5, .int .i64 i)]
      inv := fun i => eqmInv a b i
      meas := fun i => (a.length - i).toNat }
  | _, _, _ => none
def allInv (a : List Int) (lo hi : Int) (i : Int) : Prop := 0 ≤ i ∧ i ≤ a.length ∧ allB (a.take i.toNat) lo hi = true
def ann_spec_l1All : Nat → St → Option Ann := fun _ st =>
  match st.mem, intAt st 1, intAt st 2, st.get 9 with
  | [⟨.ints _ a, _, _⟩], some lo, some hi, .row x n => some {
      α := Int
      find := fun st => intAt st 11
      head := fun i => only st [(1, .int .i64 lo), (2, .int .i64 hi), (9, .row x n), (10, .int .i64 n), (11, .int .i64 i)]
      inv := fun i => allInv a lo hi i
      meas := fun i => ((a.length : Int) - i).toNat }
  | _, _, _, _ => none
def rtInv (l : List (List Int)) (ro : List Int) (i : Int) : Prop := 0 ≤ i ∧ i ≤ l.length ∧ rowsB l.length l ro = rowsB l.length (l.drop i.toNat) (ro.drop i.toNat)
def ann_spec_roGood : Nat → St → Option Ann := fun _ st =>
  match st.mem, st.get 20, st.get 1 with
  | ⟨.mat _ _ l, _, _⟩ :: ⟨.ints _ ro, _, _⟩ :: _, .row x n, v => some {
      α := Int
      find := fun st => intAt st 22
      head := fun i => only st [(1, v), (3, .int .i64 n), (20, .row x n), (21, .int .i64 n), (22, .int .i64 i)]
      inv := fun i => rtInv l ro i
      meas := fun i => ((l.length : Int) - i).toNat }
  | _, _, _ => none
def ann_impl_IsRoute : Nat → St → Option Ann := fun key st =>
  match st.mem, st.get 22, st.get 1, key with
  | ⟨.mat _ _ l, _, _⟩ :: ⟨.ints _ ro, _, _⟩ :: _, .row x n, v, 4 => some {
      α := Int
      find := fun st => intAt st 24
      head := fun i => only st [(1, v), (22, .row x n), (23, .int .i64 n), (24, .int .i64 i)]
      inv := fun i => rtInv l ro i
      meas := fun i => ((l.length : Int) - i).toNat }
  | ⟨.mat _ _ l, _, _⟩ :: ⟨.ints _ _, _, _⟩ :: _, .row x n, v, 9 => (match st.get 45, intAt st 24 with
    | .inr b i c, some i0 => some {
        α := Int
        find := fun st => intAt st 47
        head := fun j => only st [(1, v), (22, .row x n), (23, .int .i64 n), (24, .int .i64 i0), (45, .inr b i c), (46, .int .i64 c), (47, .int .i64 j)]
        inv := fun j => allInv (l.getD i []) 0 ((l.length : Int) - 1) j
        meas := fun j => (((l.getD i []).length : Int) - j).toNat }
    | _, _ => none)
  | _, _, _, _ => none
end Go.Vi
