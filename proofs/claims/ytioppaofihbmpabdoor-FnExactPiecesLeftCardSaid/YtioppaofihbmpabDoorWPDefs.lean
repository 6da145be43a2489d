/- Worms: into how many pieces the grid falls. -/
import Derived.Test.YtioppaofihbmpabDoorWBPf
namespace Go.Vi
set_option linter.unusedVariables false
/-! ### what is reached: marked in depth, marked in breadth -/
def dfs (g : Int → List Int) : Nat → Int → List Bool → List Bool
  | 0, _, l => l
  | n + 1, k, l => bif l.getD k.toNat true then l else (g k).foldl (fun l j => dfs g n j l) (l.set k.toNat true)
def offs (l : List Bool) : Nat := l.count false
def rch (g : Int → List Int) (k : Int) (l : List Bool) : List Bool := dfs g (offs l + 1) k l
def rchs (g : Int → List Int) (js : List Int) (l : List Bool) : List Bool := js.foldl (fun l j => rch g j l) l
def addQ (s : List Bool × List Int) (j : Int) : List Bool × List Int := bif s.1.getD j.toNat true then s else (s.1.set j.toNat true, s.2 ++ [j])
def bstep (g : Int → List Int) (s : List Bool × List Int) (i : Nat) : List Bool × List Int := bif decide (i < s.2.length) then (g (s.2.getD i 0)).foldl addQ s else s
def bq (g : Int → List Int) (s : List Bool × List Int) : Nat → List Bool × List Int
  | 0 => s
  | i + 1 => bstep g (bq g s i) i
def bfs (g : Int → List Int) (k : Int) (l : List Bool) : List Bool := (bq g (l.set k.toNat true, [k]) l.length).1
def pcs (f : Int → List Bool → List Bool) (n : Nat) : Nat → List Bool × Int
  | 0 => (List.replicate n false, 0)
  | i + 1 => bif (pcs f n i).1.getD i true then pcs f n i else (f i (pcs f n i).1, (pcs f n i).2 + 1)
/-! ### lines -/
def nbC (c : Cr) (k q : Int) : Int := (movC (seeC c k q)).y * c.w + (movC (seeC c k q)).x
def gqC (c : Cr) (k : Int) : Nat → List Int
  | 0 => []
  | q + 1 => gqC c k q ++ (bif hasA (seeC c k (q : Nat)) then [nbC c k (q : Nat)] else [])
def gC (c : Cr) (k : Int) : List Int := gqC c k 4
def atW (m : Wo) (k : Int) : Wo := { m with x := k % m.w, y := k / m.w }
def nbW (m : Wo) (k q : Int) : Int := (goW (atW m k) q 1).y * m.w + (goW (atW m k) q 1).x
def gqW (m : Wo) (k : Int) : Nat → List Int
  | 0 => []
  | q + 1 => gqW m k q ++ (bif hasW m (k % m.w) (k / m.w) (q : Nat) then [nbW m k (q : Nat)] else [])
def gW (m : Wo) (k : Int) : List Int := gqW m k 4
def pieW (m : Wo) : Int := (pcs (bfs (gW m)) m.r.length m.r.length).2
/-! ### loops -/
def rcRow (c : Cr) (k : Int) (l : List Bool) (i : Int) : List Bool := rchs (gC c) (gqC c k i.toNat) l
def ann_impl_crawler_reach : Nat → St → Option Ann := fun key st =>
  match Nat.beq key 4, st.mem, intAt st 1, st.get 2 with
  | true, [⟨.bools l, e, kd⟩, ⟨.vals vs, eb, kb⟩], some k, .row b n => (match boxCr [⟨.vals vs, eb, kb⟩] with
    | some c => some {
        α := Int
        find := fun st => intAt st 15
        head := fun i => { only st [(1, .int .i64 k), (2, .row 0 n), (3, .ptr 1 0), (15, .int .i64 i)] with mem := [⟨.bools (rcRow c k l i), e, kd⟩, ⟨.vals vs, eb, kb⟩] }
        inv := fun i => fourInv i
        meas := fun i => (4 - i).toNat }
    | none => none)
  | _, _, _, _ => none
def piF (m : Wo) (i : Int) : List Bool × Int := pcs (rch (gC (crOf m))) m.r.length i.toNat
def piInv (m : Wo) (i : Int) : Prop := womB m = true ∧ 0 ≤ i ∧ i ≤ m.w * m.h
def ann_impl_PiecesLeft : Nat → St → Option Ann := fun key st =>
  match Nat.beq key 7, st.mem, boxWo 0 st.mem with
  | true, [_, b1, ⟨.bools _, e, kd⟩], some m => some {
      α := Int
      find := fun st => intAt st 18
      head := fun i => { only st [(4, .ptr 0 0), (5, .row 1 m.r.length), (6, .int .i64 (piF m i).2), (17, .int .i64 (m.w * m.h)), (18, .int .i64 i)] with mem := [b1, ⟨.bools (piF m i).1, e, kd⟩] }
      inv := fun i => piInv m i
      meas := fun i => (m.w * m.h - i).toNat
      auto := true }
  | _, _, _ => none
def spF (m : Wo) (i : Int) : List Bool × Int := pcs (bfs (gW m)) m.r.length i.toNat
def quF (m : Wo) (l : List Bool) (i k : Int) : List Bool × List Int := bq (gW m) (l.set i.toNat true, [i]) k.toNat
def waF (m : Wo) (s : List Bool × List Int) (k q : Int) : List Bool × List Int := (gqW m (s.2.getD k.toNat 0) q.toNat).foldl addQ s
def spInv (m : Wo) (i : Int) : Prop := womB m = true ∧ 0 ≤ i ∧ i ≤ m.r.length
def quInv (m : Wo) (l : List Bool) (i k : Int) : Prop := 0 ≤ k ∧ k ≤ (quF m l i k).2.length
def ann_spec_PiecesLeft : Nat → St → Option Ann := fun key st =>
  match key, st.mem, boxWo 0 st.mem with
  | 6, [b0, ⟨.bools _, e, kd⟩], some m => some {
      α := Int
      find := fun st => intAt st 21
      head := fun i => { only st [(1, .ptr 0 0), (4, .row 1 m.r.length), (5, .int .i64 (spF m i).2), (20, .int .i64 m.r.length), (21, .int .i64 i)] with mem := [b0, ⟨.bools (spF m i).1, e, kd⟩] }
      inv := fun i => spInv m i
      meas := fun i => (m.r.length - i).toNat
      auto := true }
  | 13, [b0, ⟨.bools _, e, kd⟩, b2], some m => (match intAt st 5, intAt st 21 with
    | some c, some i => some {
        α := Int
        find := fun st => intAt st 8
        head := fun k => { only st [(1, .ptr 0 0), (4, .row 1 m.r.length), (5, .int .i64 c), (7, .row 2 (quF m (spF m i).1 i k).2.length), (8, .int .i64 k), (20, .int .i64 m.r.length), (21, .int .i64 i)] with mem := [b0, ⟨.bools (quF m (spF m i).1 i k).1, e, kd⟩, ⟨.ints .i64 (quF m (spF m i).1 i k).2, 3, .row⟩] }
        inv := fun k => quInv m (spF m i).1 i k
        meas := fun k => (m.r.length - k).toNat
        auto := true }
    | _, _ => none)
  | 16, [b0, ⟨.bools _, e, kd⟩, b2], some m => (match intAt st 5, intAt st 8, intAt st 21 with
    | some c, some k, some i => some {
        α := Int
        find := fun st => intAt st 9
        head := fun q => { only st [(1, .ptr 0 0), (4, .row 1 m.r.length), (5, .int .i64 c), (7, .row 2 (waF m (quF m (spF m i).1 i k) k q).2.length), (8, .int .i64 k), (9, .int .i64 q), (20, .int .i64 m.r.length), (21, .int .i64 i)] with mem := [b0, ⟨.bools (waF m (quF m (spF m i).1 i k) k q).1, e, kd⟩, ⟨.ints .i64 (waF m (quF m (spF m i).1 i k) k q).2, 3, .row⟩] }
        inv := fun q => fourInv q
        meas := fun q => (4 - q).toNat
        auto := true }
    | _, _, _ => none)
  | _, _, _ => none
end Go.Vi
