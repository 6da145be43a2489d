/- Turtles: where they go. -/
import Derived.Test.YtllocclgllappaaTPPf
namespace Go.Vi
structure Tt where
  x : Int
  y : Int
  w : Int
def zeroT : Tt := ⟨0, 0, 0⟩
def qI (b : Int) : Int := bif b == 82 then 1 else bif b == 85 then 2 else bif b == 76 then 3 else 0
def dxI (w : Int) : Int := bif w == 0 then 0 else bif w == 1 then 1 else bif w == 2 then 0 else -1
def dyI (w : Int) : Int := bif w == 0 then -1 else bif w == 1 then 0 else bif w == 2 then 1 else 0
def goT (a : Int) (t : Tt) : Tt := ⟨t.x + a * dxI t.w, t.y + a * dyI t.w, t.w⟩
def tnT (b : Int) (t : Tt) : Tt := ⟨t.x, t.y, Int.tmod (t.w + qI b) 4⟩
/-- Part by part. -/
def goC : List Sc → Tt → Tt
  | p :: q :: r, t => goC r (tnT q.i (goT p.i t))
  | _, t => t
def quC : List Sc → Int
  | _ :: q :: r => (bif q.i == 76 then -1 else qI q.i) + quC r
  | _ => 0
def lenC : List Sc → Int
  | p :: _ :: r => p.i + lenC r
  | _ => 0
/-- The steps of all parts are digits. -/
def okC : List Sc → Prop
  | p :: _ :: r => (0 ≤ p.i ∧ p.i ≤ 9) ∧ okC r
  | _ => True
def okT (b : Int) (t : Tt) : Prop := (-b ≤ t.x ∧ t.x ≤ b) ∧ (-b ≤ t.y ∧ t.y ≤ b) ∧ 0 ≤ t.w ∧ t.w ≤ 3
def digU (c : UInt8) : Bool := inB ((c.toNat : Int) - 48) 0 9
def repC : Nat → List Sc → List Sc
  | 0, _ => []
  | k + 1, c => c ++ repC k c
def askB (s : List UInt8) (k : Int) : Bool := progB s && inB k 0 100
def repN (s : List UInt8) (k : Int) : Nat := bif askB s k then s.length / 2 * k.toNat else 0
def repS (s : List UInt8) (k : Int) : List Sc := bif askB s k then repC k.toNat (ptS s) else []
def aftR (s : List UInt8) (k : Nat) : Tt := goC (repC k (ptS s)) zeroT
def plcF (s : List UInt8) (k : Int) : Tt := bif askB s k then aftR s k.toNat else zeroT
def zT (t : Tt) : Bool := t.x == 0 && (t.y == 0 && t.w == 0)
def clS (s : List UInt8) : Int := bif zT (aftR s 1) then 1 else bif zT (aftR s 2) then 2 else bif zT (aftR s 3) then 3 else bif zT (aftR s 4) then 4 else 0
def clB (s : List UInt8) : Bool := progB s && decide (0 < clS s)
def clF (s : List UInt8) : Int := bif progB s then clS s else 0
def tri (t : Tt) : List Int := [t.x, t.y, t.w]
/-- The halts behind each e parts, m of them, the start first. -/
def hlC (c : List Sc) (e m : Nat) : List Int := (List.range m).flatMap fun j => tri (goC (c.take (e * j * 2)) zeroT)
/-- What a row holds whose first n cells are those of the parts over and over. -/
def repZ (c : List Sc) (len m : Nat) : List Sc := (repC 100 c).take m ++ List.replicate (len - m) ⟨0, []⟩
/-! ### loops -/
def evInv (s : List UInt8) (i : Int) : Prop := progB s = true ∧ 0 ≤ i ∧ i ≤ s.length ∧ i.toNat % 2 = 0
def odInv (s : List UInt8) (i : Int) : Prop := progB s = true ∧ 1 ≤ i ∧ i ≤ s.length + 1 ∧ i.toNat % 2 = 1
def ann_spec_tuQuarters : Nat → St → Option Ann := fun _ st =>
  match strAt st 0 with
  | some s => some { α := Int, find := fun st => intAt st 4, head := fun i => only st [(0, .str s), (3, .int .i64 (quC (ptS (s.take (i.toNat - 1))))), (4, .int .i64 i)], inv := fun i => odInv s i, meas := fun i => (s.length + 1 - i).toNat }
  | none => none
def ixN (n : Nat) (i : Int) : Prop := 0 ≤ i ∧ i ≤ n
def ann_impl_QuartersOf : Nat → St → Option Ann := fun _ st =>
  match st.mem, st.get 16 with
  | ⟨.recs _ c, _, _⟩ :: _, .row b n => some {
      α := Int
      find := fun st => intAt st 18
      head := fun i => only st [(6, .int .i64 (quC (c.take (i.toNat * 2)))), (16, .row b n), (17, .int .i64 n), (18, .int .i64 i)]
      inv := fun i => ixN n i
      meas := fun i => ((n : Int) - i).toNat }
  | _, _ => none
def ann_spec_tuLength : Nat → St → Option Ann := fun _ st =>
  match strAt st 0 with
  | some s => some { α := Int, find := fun st => intAt st 4, head := fun i => only st [(0, .str s), (3, .int .i64 (lenC (ptS (s.take i.toNat)))), (4, .int .i64 i)], inv := fun i => evInv s i, meas := fun i => (s.length - i).toNat }
  | none => none
def ann_impl_stepsOf : Nat → St → Option Ann := fun _ st =>
  match st.mem, st.get 6 with
  | ⟨.recs _ c, _, _⟩ :: _, .row b n => some {
      α := Int
      find := fun st => intAt st 8
      head := fun i => only st [(3, .int .i64 (lenC (c.take (i.toNat * 2)))), (6, .row b n), (7, .int .i64 n), (8, .int .i64 i)]
      inv := fun i => ixN n i
      meas := fun i => ((n : Int) - i).toNat }
  | _, _ => none
def rpInv (n k : Nat) (i : Int) : Prop := 0 ≤ i ∧ i ≤ (n * k : Nat) ∧ (i = 0 → k = 0) ∧ i.toNat % n = 0
def ann_impl_part : Nat → St → Option Ann := fun key st =>
  match st.mem, st.get 0, st.get 1, key with
  | ⟨.recs _ c, _, _⟩ :: _, .row b n, .int _ k, 8 => some {
      α := Int
      find := fun st => intAt st 8
      head := fun i => { only st [(0, .row b n), (7, .row 1 (n * k.toNat)), (8, .int .i64 i)] with mem := [⟨.recs [.int .i64, .int .u8] c, 57, .rows 2⟩, ⟨.recs [.int .i64, .int .u8] (repZ c (n * k.toNat * 2) (i.toNat * 2)), 57, .rows 2⟩] }
      inv := fun i => rpInv n k.toNat i
      meas := fun i => (((n * k.toNat : Nat) : Int) - i).toNat
      auto := true }
  | _, _, _, _ => none
def tBox (t : Tt) : Blk := ⟨.vals [.int .i64 t.x, .int .i64 t.y, .int .i64 t.w], 45, .box⟩
def iBox (t : Tt) : Blk := ⟨.vals [.int .i64 t.x, .int .i64 t.y, .int .i64 t.w], 51, .box⟩
def ann_spec_tuAfter : Nat → St → Option Ann := fun key st =>
  match strAt st 0, intAt st 1, st.mem, key with
  | some s, some k, _, 2 => some {
      α := Int
      find := fun st => intAt st 1
      head := fun r => { only st [(0, .str s), (1, .int .i64 r), (4, .ptr 0 0), (5, .ptr 1 0)] with mem := [tBox zeroT, tBox (aftR s (k - r).toNat)] }
      inv := fun r => 0 ≤ r ∧ r ≤ k
      meas := fun r => r.toNat
      auto := true }
  | some s, some r, [_, ⟨.vals [.int _ x, .int _ y, .int _ w], _, _⟩], 5 => some {
      α := Int
      find := fun st => intAt st 6
      head := fun i => { only st [(0, .str s), (1, .int .i64 r), (4, .ptr 0 0), (5, .ptr 1 0), (6, .int .i64 i)] with mem := [tBox zeroT, tBox (goC (ptS (s.take i.toNat)) ⟨x, y, w⟩)] }
      inv := fun i => evInv s i
      meas := fun i => ((s.length : Int) - i).toNat
      auto := true }
  | _, _, _, _ => none
def ann_impl_newTurtle_1 : Nat → St → Option Ann := fun key st =>
  match st.mem, st.get 8, key with
  | ⟨.recs sh c, e, kd⟩ :: ⟨.vals [.int _ x, .int _ y, .int _ w], _, _⟩ :: _, .row b n, 2 => some {
      α := Int
      find := fun st => intAt st 10
      head := fun i => { only st [(1, .ptr 1 0), (3, .ptr 2 0), (8, .row b n), (9, .int .i64 n), (10, .int .i64 i)] with mem := [⟨.recs sh c, e, kd⟩, iBox (goC (c.take (i.toNat * 2)) ⟨x, y, w⟩), iBox zeroT] }
      inv := fun i => ixN n i
      meas := fun i => ((n : Int) - i).toNat
      auto := true }
  | ⟨.vals [.int _ x, .int _ y, .int _ w], _, _⟩ :: _, v, 2 => some {
      α := Int
      find := fun st => intAt st 10
      head := fun i => { only st [(1, .ptr 0 0), (3, .ptr 1 0), (8, v), (9, .int .i64 (0 : Nat)), (10, .int .i64 i)] with mem := [iBox ⟨x, y, w⟩, iBox zeroT] }
      inv := fun i => i = 0
      meas := fun _ => 0
      auto := true }
  | _, _, _ => none
def clInv (s : List UInt8) (n : Int) : Prop := 1 ≤ n ∧ n ≤ 5 ∧ ∀ j : Nat, 1 ≤ j → (j : Int) < n → zT (aftR s j) = false
def ann_spec_tuCloses : Nat → St → Option Ann := fun _ st =>
  match strAt st 0 with
  | some s => some { α := Int, find := fun st => intAt st 3, head := fun n => only st [(0, .str s), (3, .int .i64 n)], inv := fun n => clInv s n, meas := fun n => (5 - n).toNat }
  | none => none
def hlInv (n : Nat) (e i : Int) : Prop := 0 ≤ i ∧ i ≤ n ∧ i.toNat % e.toNat = 0
def ann_impl_haltsOf : Nat → St → Option Ann := fun key st =>
  match st.mem, st.get 0, st.get 1, key with
  | ⟨.recs _ c, _, _⟩ :: _, .row b n, .int _ e, 4 => some {
      α := Int
      find := fun st => intAt st 7
      head := fun i => { only st [(0, .row b n), (1, .int .i64 e), (5, .fn 78 [1]), (6, .row 2 (i.toNat / e.toNat + 1)), (7, .int .i64 i)] with mem := [⟨.recs [.int .i64, .int .u8] c, 57, .rows 2⟩, iBox (goC (c.take (i.toNat * 2)) zeroT), ⟨.ints .i64 (hlC c e.toNat (i.toNat / e.toNat + 1)), 51, .rows 3⟩] }
      inv := fun i => hlInv n e i
      meas := fun i => ((n : Int) - i).toNat
      auto := true }
  | _, _, _, _ => none
def ann_impl_ClosesAfter : Nat → St → Option Ann := fun key st =>
  match strAt st 0, st.get 6, key with
  | some s, .row b n, 6 => some {
      α := Int
      find := fun st => intAt st 7
      head := fun i => only st [(0, .str s), (6, .row b n), (7, .int .i64 i)]
      inv := fun i => clInv s i
      meas := fun i => (5 - i).toNat }
  | _, _, _ => none
end Go.Vi
