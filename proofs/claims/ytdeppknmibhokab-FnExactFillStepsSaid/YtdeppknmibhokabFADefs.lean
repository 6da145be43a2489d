/- Walkers that fill a line: with lists, and with a map. -/
import Derived.Test.YtdeppknmibhokabVig
namespace Go.Vi
def inB (a b c : Int) : Bool := decide (b ≤ a) && decide (a ≤ c)
/-- Which cells lead right; where the walker is; the steps. -/
structure Wk where
  right : List Bool
  pos : Int
  steps : Int
def sStep (full : List Bool) (q : Wk) : Wk :=
  bif full.getD q.pos.toNat false then ⟨q.right.set q.pos.toNat (!q.right.getD q.pos.toNat false), q.pos + (bif q.right.getD q.pos.toNat false then 1 else -1), q.steps + 1⟩ else q
def sAt (full : List Bool) (q : Wk) : Nat → Wk
  | 0 => q
  | k + 1 => sStep full (sAt full q k)
@[irreducible] def fuelW : Nat := 23000
structure Ln where
  full : List Bool
  right : List Bool
  low : Int
  high : Int
  steps : Int
def sNext (o : Ln) : Ln :=
  let q := sAt o.full ⟨o.right, 50, o.steps⟩ fuelW
  ⟨o.full.set q.pos.toNat true, q.right, min o.low q.pos, max o.high q.pos, q.steps⟩
def sOut : Nat → Ln
  | 0 => ⟨List.replicate 101 false, List.replicate 101 false, 50, 50, 0⟩
  | i + 1 => sNext (sOut i)
def fLo (w : Int) : Int := (sOut w.toNat).low - 50
def fHi (w : Int) : Int := (sOut w.toNat).high - 50
def fSt (w : Int) : Int := (sOut w.toNat).steps
/-- The same with a map. -/
structure Wm where
  m : List (V × V)
  cell : Int
  steps : Int
def kC (c : Int) : V := .int .i64 c
def mStep (lo hi : Int) (q : Wm) : Wm :=
  bif inB q.cell lo hi then ⟨putK (.int .i64 q.cell) (.bool (!lookTF (.int .i64 q.cell) q.m)) q.m, q.cell + (bif lookTF (.int .i64 q.cell) q.m then 1 else -1), q.steps + 1⟩ else q
def mAt (lo hi : Int) (q : Wm) : Nat → Wm
  | 0 => q
  | k + 1 => mStep lo hi (mAt lo hi q k)
structure Lm where
  m : List (V × V)
  lo : Int
  hi : Int
  steps : Int
def mNext (o : Lm) : Lm :=
  let q := mAt o.lo o.hi ⟨o.m, 0, o.steps⟩ fuelW
  ⟨q.m, min o.lo q.cell, max o.hi q.cell, q.steps⟩
def mOut : Nat → Lm
  | 0 => ⟨[], 0, 0, 0⟩
  | i + 1 => mNext (mOut i)
/-! ### loops -/
def lnMem (e e' : TypeId) (k k' : Kind) (full right : List Bool) : List Blk := [⟨.bools full, e, k⟩, ⟨.bools right, e', k'⟩]
def outInv (w0 x : Int) : Prop := 0 ≤ x ∧ x ≤ w0
def inInv (full right : List Bool) (s0 s : Int) : Prop := s0 ≤ s ∧ (sAt full ⟨right, 50, s0⟩ (s - s0).toNat).steps = s
def ann_spec_roFill : Nat → St → Option Ann := fun key st =>
  match st.mem, intAt st 0, intAt st 7, intAt st 8, intAt st 9, key with
  | [⟨.bools _, e, k⟩, ⟨.bools _, e', k'⟩], some w0, _, _, _, 4 => some {
      α := Int
      find := fun st => intAt st 0
      head := fun x => { only st [(0, .int .i64 x), (5, .row 0 101), (6, .row 1 101), (7, .int .i64 (sOut (w0 - x).toNat).low), (8, .int .i64 (sOut (w0 - x).toNat).high), (9, .int .i64 (sOut (w0 - x).toNat).steps)] with mem := lnMem e e' k k' (sOut (w0 - x).toNat).full (sOut (w0 - x).toNat).right }
      inv := fun x => outInv w0 x
      meas := fun x => x.toNat }
  | [⟨.bools full, e, k⟩, ⟨.bools right, e', k'⟩], some w, some low, some high, some s0, 7 => some {
      α := Int
      find := fun st => intAt st 9
      head := fun s => { only st [(0, .int .i64 w), (5, .row 0 101), (6, .row 1 101), (7, .int .i64 low), (8, .int .i64 high), (9, .int .i64 s), (10, .int .i64 (sAt full ⟨right, 50, s0⟩ (s - s0).toNat).pos)] with mem := lnMem e e' k k' full (sAt full ⟨right, 50, s0⟩ (s - s0).toNat).right }
      inv := fun s => inInv full right s0 s
      meas := fun s => (fuelW - (s - s0)).toNat }
  | _, _, _, _, _, _ => none
def liMem (B0 : Blk) (e1 e2 : TypeId) (lo hi s : Int) (m : List (V × V)) : List Blk := [B0, ⟨.vals [.int .i64 lo, .int .i64 hi, .int .i64 s], e1, .box⟩, ⟨.map m, e2, .map⟩]
def stepsIn (st : St) : Option Int :=
  match st.mem with
  | [_, ⟨.vals [_, _, .int _ s], _, _⟩, _] => some s
  | _ => none
def inInvM (m : List (V × V)) (lo hi s0 s : Int) : Prop := s0 ≤ s ∧ (mAt lo hi ⟨m, 0, s0⟩ (s - s0).toNat).steps = s
def ann_impl_filledBy : Nat → St → Option Ann := fun key st =>
  match st.mem, intAt st 0, intAt st 14, intAt st 15, key with
  | [B0, ⟨.vals _, e1, _⟩, ⟨.map _, e2, _⟩], some w, some n, _, 6 => some {
      α := Int
      find := fun st => intAt st 15
      head := fun i => { only st [(0, .int .i64 w), (2, .ptr 0 0), (4, .ptr 1 0), (5, .mp 2), (14, .int .i64 n), (15, .int .i64 i)] with mem := liMem B0 e1 e2 (mOut i.toNat).lo (mOut i.toNat).hi (mOut i.toNat).steps (mOut i.toNat).m }
      inv := fun i => 0 ≤ i ∧ i ≤ n
      meas := fun i => (n - i).toNat }
  | [B0, ⟨.vals [.int _ lo, .int _ hi, .int _ s0], e1, _⟩, ⟨.map m, e2, _⟩], some w, some n, some i, 8 => some {
      α := Int
      find := stepsIn
      head := fun s => { only st [(0, .int .i64 w), (2, .ptr 0 0), (4, .ptr 1 0), (5, .mp 2), (6, .int .i64 (mAt lo hi ⟨m, 0, s0⟩ (s - s0).toNat).cell), (14, .int .i64 n), (15, .int .i64 i)] with mem := liMem B0 e1 e2 lo hi s (mAt lo hi ⟨m, 0, s0⟩ (s - s0).toNat).m }
      inv := fun s => inInvM m lo hi s0 s
      meas := fun s => (fuelW - (s - s0)).toNat }
  | _, _, _, _, _ => none
end Go.Vi
