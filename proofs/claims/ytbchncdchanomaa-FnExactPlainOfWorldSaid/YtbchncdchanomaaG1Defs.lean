/- The plain of a world. -/
import Derived.Test.YtbchncdchanomaaF1Pf
namespace Go.Vi
/-- The spots of the first k cells, and how many they are. -/
def spF (w : Wd) : Nat → List Int
  | 0 => []
  | k + 1 => spF w k ++ (bif ((w.c.getD k 0).toNat : Int) - 48 == 0 then [] else [(k : Int) % w.w, (k : Int) / w.w, ((w.c.getD k 0).toNat : Int) - 48])
def cntS (w : Wd) : Nat → Nat
  | 0 => 0
  | k + 1 => cntS w k + (bif ((w.c.getD k 0).toNat : Int) - 48 == 0 then 0 else 1)
def wdOf : List V → Option Wd
  | [.str r, .int _ w, .int _ h, .str c, .int _ x, .int _ y, .int _ d] => some ⟨r, w, h, c, x, y, d⟩
  | _ => none
def plB (w : Wd) (n : Nat) : List V := [.str w.r, .row 3 n, .int .i64 w.x, .int .i64 w.y, .int .i64 w.d]
def pwInv (w : Wd) (i : Int) : Prop := 0 ≤ i ∧ i ≤ w.c.length
def ann_impl_PlainOfWorld : Nat → St → Option Ann := fun key st =>
  match Nat.beq key 5 with
  | false => none
  | true =>
    match st.mem with
    | [⟨.vals vs, e0, k0⟩, b1, ⟨_, e2, k2⟩] =>
      (match wdOf vs with
      | some w => some {
          α := Int
          find := fun st => intAt st 23
          head := fun i => { only st [(1, .ptr 0 0), (2, .ptr 1 0), (4, .ptr 2 0), (22, .int .i64 w.c.length), (23, .int .i64 i)] with mem := [⟨.vals vs, e0, k0⟩, b1, ⟨.vals (plB w (cntS w i.toNat)), e2, k2⟩, ⟨.ints .i64 (spF w i.toNat), 61, .rows 3⟩] }
          inv := fun i => pwInv w i
          meas := fun i => (w.c.length - i).toNat
          auto := true }
      | none => none)
    | _ => none
def owInv (w : Wd) (y : Int) : Prop := 0 ≤ y ∧ y ≤ w.h
def iwInv (w : Wd) (y x : Int) : Prop := 0 ≤ y ∧ y < w.h ∧ 0 ≤ x ∧ x ≤ w.w
def ann_spec_PlainOfWorld : Nat → St → Option Ann := fun key st =>
  match st.mem with
  | ⟨.vals vs, e0, k0⟩ :: b1 :: ⟨_, e2, k2⟩ :: _ =>
    (match wdOf vs with
    | some w =>
      (match Nat.beq key 5, Nat.beq key 8, intAt st 5 with
      | true, _, _ => some {
          α := Int
          find := fun st => intAt st 5
          head := fun y => { only st [(1, .ptr 0 0), (2, .ptr 1 0), (4, .ptr 2 0), (5, .int .i64 y)] with mem := [⟨.vals vs, e0, k0⟩, b1, ⟨.vals (plB w (cntS w (y * w.w).toNat)), e2, k2⟩, ⟨.ints .i64 (spF w (y * w.w).toNat), 61, .rows 3⟩] }
          inv := fun y => owInv w y
          meas := fun y => (w.h - y).toNat
          auto := true }
      | _, true, some y => some {
          α := Int
          find := fun st => intAt st 6
          head := fun x => { only st [(1, .ptr 0 0), (2, .ptr 1 0), (4, .ptr 2 0), (5, .int .i64 y), (6, .int .i64 x)] with mem := [⟨.vals vs, e0, k0⟩, b1, ⟨.vals (plB w (cntS w (y * w.w + x).toNat)), e2, k2⟩, ⟨.ints .i64 (spF w (y * w.w + x).toNat), 61, .rows 3⟩] }
          inv := fun x => iwInv w y x
          meas := fun x => (w.w - x).toNat
          auto := true }
      | _, _, _ => none)
    | none => none)
  | _ => none
end Go.Vi
