/- Walks on routes. -/
import Derived.Test.YtopolpgligoldacRBPf
namespace Go.Vi
def rtOk (l : List (List Int)) (ro : List Int) (n : Nat) (x : Int) : Bool := routeB l ro && inB x 0 ((n : Int) - 1)
def wkOk (l : List (List Int)) (ro : List Int) (n : Nat) (x steps : Int) : Bool := rtOk l ro n x && inB steps 0 3000
def tkOk (l : List (List Int)) (ro : List Int) (n : Nat) (x steps : Int) : Bool := wkOk l ro n x steps && decide (steps ≤ 200)
/-- Where a walker goes, and the rotors behind that. -/
def atNext (l : List (List Int)) (x : Int) (ro : List Int) : Int := (l.getD x.toNat []).getD (ro.getD x.toNat 0).toNat 0
def roNext (l : List (List Int)) (x : Int) (ro : List Int) : List Int := ro.set x.toNat (Int.tmod (ro.getD x.toNat 0 + 1) ((l.getD x.toNat []).length : Nat))
def wS (l : List (List Int)) (x : Int) (ro : List Int) : Nat → Int × List Int
  | 0 => (x, ro)
  | k + 1 => (atNext l (wS l x ro k).1 (wS l x ro k).2, roNext l (wS l x ro k).1 (wS l x ro k).2)
def wA (l : List (List Int)) (x : Int) (ro : List Int) (k : Nat) : Int := (wS l x ro k).1
def wR (l : List (List Int)) (x : Int) (ro : List Int) (k : Nat) : List Int := (wS l x ro k).2
def q0 (ro : List Int) : List Int := cpI 10 [0, 0, 0, 0, 0, 0, 0, 0, 0, 0] 10 ro
def okW (l : List (List Int)) (q : List Int) (x : Int) : Prop :=
  0 ≤ x ∧ x < (l.length : Nat) ∧ l.length ≤ 10 ∧ l.length ≤ q.length ∧ ∀ i, i < l.length → 1 ≤ (l.getD i []).length ∧ (l.getD i []).length ≤ 4 ∧ 0 ≤ q.getD i 0 ∧ q.getD i 0 < ((l.getD i []).length : Nat) ∧ ∀ j, j < (l.getD i []).length → 0 ≤ (l.getD i []).getD j 0 ∧ (l.getD i []).getD j 0 < (l.length : Nat)
def numW (l : List (List Int)) (ro : List Int) (n : Nat) (x steps : Int) (k : Nat) : Nat := bif wkOk l ro n x steps then k else 0
def walkA (l : List (List Int)) (ro : List Int) (n : Nat) (x steps : Int) : Int := bif wkOk l ro n x steps then wA l x ro steps.toNat else 0
def walkL (l : List (List Int)) (ro : List Int) (n : Nat) (x steps : Int) : List (List Int) := bif wkOk l ro n x steps then l else []
def walkR (l : List (List Int)) (ro : List Int) (n : Nat) (x steps : Int) : List Int := bif wkOk l ro n x steps then wR l x ro steps.toNat else []
def trk (l : List (List Int)) (x : Int) (ro : List Int) (k : Nat) : List Int := (List.range k).map fun i => wA l x ro (i + 1)
def numT (l : List (List Int)) (ro : List Int) (n : Nat) (x steps : Int) : Nat := bif tkOk l ro n x steps then steps.toNat else 0
def trackR (l : List (List Int)) (ro : List Int) (n : Nat) (x steps : Int) : List Int := bif tkOk l ro n x steps then trk l x ro steps.toNat else []
def vis (l : List (List Int)) (x : Int) (ro : List Int) : Nat → List Int
  | 0 => List.replicate l.length 0
  | k + 1 => (vis l x ro k).set (wA l x ro (k + 1)).toNat ((vis l x ro k).getD (wA l x ro (k + 1)).toNat 0 + 1)
def visitR (l : List (List Int)) (ro : List Int) (n : Nat) (x steps : Int) : List Int := bif wkOk l ro n x steps then vis l x ro steps.toNat else []
/-! ### loops -/
abbrev nilR : V := .raw (.slice none 0 0)
def rBox (vs : List V) : Blk := ⟨.vals vs, 29, .box⟩
def mBlk (l : List (List Int)) : Blk := ⟨.mat .i64 3 l, 23, .mat⟩
def iBlk (a : List Int) : Blk := ⟨.ints .i64 a, 3, .row⟩
def wBlk (n : Nat) (x : Int) (q : List Int) (b : Nat) : Blk := ⟨.mixi [.row b n, .int .i64 x] 10 q [], 58, .box⟩
def ann_spec_roOwn : Nat → St → Option Ann := fun key st =>
  match st.mem, key with
  | ⟨.mat _ _ l, _, _⟩ :: ⟨.ints _ ro, _, _⟩ :: _, 3 => some {
      α := Int
      find := fun st => intAt st 13
      head := fun i => { only st [(2, .ptr 2 0), (3, .ptr 3 0), (11, .row 0 l.length), (12, .int .i64 (l.length : Nat)), (13, .int .i64 i)] with mem := [mBlk l, iBlk ro, rBox [nilR, nilR], rBox [.row 4 i.toNat, .row 5 ro.length], mBlk (l.take i.toNat), iBlk ro] }
      inv := fun i => ixInv l.length i
      meas := fun i => ((l.length : Int) - i).toNat
      auto := true }
  | ⟨.mat _ _ l, _, _⟩ :: ⟨.ints _ ro, _, _⟩ :: _, 1005 => some {
      α := Int
      find := fun st => intAt st 13
      head := fun i => { only st [(2, .ptr 2 0), (3, .ptr 3 0), (11, .row 0 l.length), (12, .int .i64 (l.length : Nat)), (13, .int .i64 i)] with mem := [mBlk l, iBlk ro, rBox [nilR, nilR], rBox [.row 4 (i.toNat + 1), .row 5 ro.length], mBlk (l.take (i.toNat + 1)), iBlk ro] }
      inv := fun _ => True
      meas := fun _ => 0 }
  | _, _ => none
def ann_impl_walk_routeNow : Nat → St → Option Ann := fun key st =>
  match st.mem, key with
  | ⟨.mixi [_, .int _ x] _ q _, _, _⟩ :: ⟨.mat _ _ l, _, _⟩ :: _, 3 => some {
      α := Int
      find := fun st => intAt st 23
      head := fun i => { only st [(2, .ptr 2 0), (3, .ptr 3 0), (21, .row 1 l.length), (22, .int .i64 (l.length : Nat)), (23, .int .i64 i)] with mem := [wBlk l.length x q 1, mBlk l, rBox [nilR, nilR], rBox [.row 4 i.toNat, .row 5 l.length], mBlk (l.take i.toNat), iBlk (q.take l.length)] }
      inv := fun i => ixInv l.length i
      meas := fun i => ((l.length : Int) - i).toNat
      auto := true }
  | ⟨.mixi [_, .int _ x] _ q _, _, _⟩ :: ⟨.mat _ _ l, _, _⟩ :: _, 1001 => some {
      α := Unit
      find := fun _ => some ()
      head := fun _ => { only st [(0, .ptr 0 0), (2, .ptr 2 0), (3, .ptr 3 0)] with mem := [wBlk l.length x q 1, mBlk l, rBox [nilR, nilR], rBox [nilR, .row 4 l.length], iBlk (q.take l.length)] }
      inv := fun _ => True
      meas := fun _ => 0 }
  | ⟨.mixi [_, .int _ x] _ q _, _, _⟩ :: ⟨.mat _ _ l, _, _⟩ :: _, 1005 => some {
      α := Int
      find := fun st => intAt st 23
      head := fun i => { only st [(2, .ptr 2 0), (3, .ptr 3 0), (21, .row 1 l.length), (22, .int .i64 (l.length : Nat)), (23, .int .i64 i)] with mem := [wBlk l.length x q 1, mBlk l, rBox [nilR, nilR], rBox [.row 4 (i.toNat + 1), .row 5 l.length], mBlk (l.take (i.toNat + 1)), iBlk (q.take l.length)] }
      inv := fun _ => True
      meas := fun _ => 0 }
  | _, _ => none
def ann_spec_WalkAfter : Nat → St → Option Ann := fun _ st =>
  match st.mem, intAt st 1, intAt st 2 with
  | ⟨.mat _ _ l, _, _⟩ :: ⟨.ints _ ro, _, _⟩ :: _, some x, some steps => some {
      α := Int
      find := fun st => intAt st 2
      head := fun b => { only st [(1, .int .i64 (wA l x ro (steps - b).toNat)), (2, .int .i64 b), (6, .ptr 2 0), (9, .ptr 3 0)] with mem := [mBlk l, iBlk ro, rBox [nilR, nilR], rBox [.row 4 l.length, .row 5 ro.length], mBlk l, iBlk (wR l x ro (steps - b).toNat)] }
      inv := fun b => 0 ≤ b ∧ b ≤ steps
      meas := fun b => b.toNat
      auto := true }
  | _, _, _ => none
def ann_impl_WalkAfter : Nat → St → Option Ann := fun key st =>
  match st.mem, intAt st 1, intAt st 2, key with
  | ⟨.mat _ _ l, _, _⟩ :: ⟨.ints _ ro, _, _⟩ :: _, some x, some steps, 5 => some {
      α := Int
      find := fun st => intAt st 26
      head := fun i => { only st [(6, .ptr 2 0), (9, .ptr 3 0), (25, .int .i64 steps), (26, .int .i64 i)] with mem := [mBlk l, iBlk ro, rBox [nilR, nilR], wBlk l.length (wA l x (q0 ro) i.toNat) (wR l x (q0 ro) i.toNat) 0] }
      inv := fun i => 0 ≤ i ∧ i ≤ steps
      meas := fun i => (steps - i).toNat
      auto := true }
  | _, _, _, _ => (match st.mem, key with
    | [⟨.mat _ _ l, _, _⟩, ⟨.ints _ ro, _, _⟩, _, ⟨.mixi [_, .int _ y] _ q _, _, _⟩], 1008 => some {
        α := Unit
        find := fun _ => some ()
        head := fun _ => { only st [(6, .ptr 2 0), (7, .int .i64 y), (8, .lit true)] with mem := [mBlk l, iBlk ro, rBox [.row 3 l.length, .row 4 l.length], mBlk l, iBlk (q.take l.length)] }
        inv := fun _ => True
        meas := fun _ => 0 }
    | _, _ => none)
def ann_spec_roTrack : Nat → St → Option Ann := fun _ st =>
  match st.mem, intAt st 1, intAt st 2 with
  | ⟨.mat _ _ l, _, _⟩ :: ⟨.ints _ ro, _, _⟩ :: _, some x, some steps => some {
      α := Int
      find := fun st => intAt st 2
      head := fun b => { only st [(1, .int .i64 (wA l x ro (steps - b).toNat)), (2, .int .i64 b), (7, .ptr 2 0), (8, .row 3 (steps - b).toNat)] with mem := [mBlk l, iBlk ro, rBox [.row 4 l.length, .row 5 ro.length], iBlk (trk l x ro (steps - b).toNat), mBlk l, iBlk (wR l x ro (steps - b).toNat)] }
      inv := fun b => 0 ≤ b ∧ b ≤ steps
      meas := fun b => b.toNat
      auto := true }
  | _, _, _ => none
def ann_impl_TrackOfWalk : Nat → St → Option Ann := fun key st =>
  match st.mem, intAt st 1, intAt st 2, key with
  | ⟨.mat _ _ l, _, _⟩ :: ⟨.ints _ ro, _, _⟩ :: _, some x, some steps, 6 => some {
      α := Int
      find := fun st => intAt st 27
      head := fun i => { only st [(8, .ptr 2 0), (10, .row 3 i.toNat), (26, .int .i64 steps), (27, .int .i64 i)] with mem := [mBlk l, iBlk ro, wBlk l.length (wA l x (q0 ro) i.toNat) (wR l x (q0 ro) i.toNat) 0, iBlk (trk l x (q0 ro) i.toNat)] }
      inv := fun i => 0 ≤ i ∧ i ≤ steps
      meas := fun i => (steps - i).toNat
      auto := true }
  | _, _, _, _ => none
def ann_spec_VisitsOfWalk : Nat → St → Option Ann := fun _ st =>
  match st.mem, intAt st 1, intAt st 2 with
  | ⟨.mat _ _ l, _, _⟩ :: ⟨.ints _ ro, _, _⟩ :: _, some x, some steps => some {
      α := Int
      find := fun st => intAt st 25
      head := fun i => { only st [(8, .row 2 l.length), (23, .row 3 steps.toNat), (24, .int .i64 (steps.toNat : Nat)), (25, .int .i64 i)] with mem := [mBlk l, iBlk ro, iBlk (vis l x ro i.toNat), iBlk (trk l x ro steps.toNat)] }
      inv := fun i => 0 ≤ i ∧ i ≤ steps
      meas := fun i => (steps - i).toNat
      auto := true }
  | _, _, _ => none
def ann_impl_VisitsOfWalk : Nat → St → Option Ann := fun key st =>
  match st.mem, intAt st 1, intAt st 2, key with
  | ⟨.mat _ _ l, _, _⟩ :: ⟨.ints _ ro, _, _⟩ :: _, some x, some steps, 6 => some {
      α := Int
      find := fun st => intAt st 29
      head := fun i => { only st [(8, .ptr 2 0), (10, .row 3 l.length), (28, .int .i64 steps), (29, .int .i64 i)] with mem := [mBlk l, iBlk ro, wBlk l.length (wA l x (q0 ro) i.toNat) (wR l x (q0 ro) i.toNat) 0, iBlk (vis l x (q0 ro) i.toNat)] }
      inv := fun i => 0 ≤ i ∧ i ≤ steps
      meas := fun i => (steps - i).toNat
      auto := true }
  | _, _, _, _ => none
end Go.Vi
