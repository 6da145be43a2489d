/- The ends of balls one after the other. -/
import Derived.Test.YtkkpkfphfhcgoabDoorH1Pf
namespace Go.Vi
def oneC (t : Bool) (w h k : Int) (c : List UInt8) : List UInt8 := (outR t w h (entR w h c k) 0 0).r.c
def oneE (t : Bool) (w h k : Int) (c : List UInt8) : Int := endR w h (outR t w h (entR w h c k) 0 0).r
/-- The cells behind n balls. -/
def celN (t : Bool) (w h k : Int) (c : List UInt8) : Nat → List UInt8
  | 0 => c
  | n + 1 => oneC t w h k (celN t w h k c n)
def endN (t : Bool) (w h k : Int) (c : List UInt8) : Nat → List Int
  | 0 => []
  | n + 1 => endN t w h k c n ++ [oneE t w h k (celN t w h k c n)]
def eiB (w h : Int) (c : List UInt8) (t : Bool) (k balls : Int) : Bool := enB ⟨w, h, c, t⟩ k && inB balls 0 600
def eiL (w h : Int) (c : List UInt8) (t : Bool) (k balls : Int) : List Int := bif eiB w h c t k balls then endN t w h k c balls.toNat else []
def eiInv (s0 b : Int) : Prop := 0 ≤ b ∧ b ≤ s0 ∧ s0 ≤ 600
def rnL (w h : Int) (c : List UInt8) (t : Bool) (x y d : Int) : List V := [.int .i64 (rnW w h c t x y d), .int .i64 (rnH w h c t x y d), .str (rnC w h c t x y d), .bool (rnU w h c t x y d)]
def ann_spec_ExitsInTurn : Nat → St → Option Ann := fun key st =>
  match st.mem, intAt st 1, intAt st 2 with
  | ⟨.vals [.int _ w, .int _ h, .str c, .bool t], e0, k0⟩ :: _, some k, some s0 =>
    (match Nat.beq key 1006, Nat.beq key 4 with
    | true, _ => some {
        α := Unit
        find := fun _ => some ()
        head := fun _ => { only st [(1, .int .i64 k), (2, .int .i64 s0), (3, .ptr 0 0), (8, st.get 8), (9, .ptr 2 0), (10, .int .i64 (rnE w h c t (entX w h k) (entY w h k) (entD w h k)))] with mem := st.mem ++ [⟨.vals (rnL w h c t (entX w h k) (entY w h k) (entD w h k)), 28, .box⟩] }
        inv := fun _ => True
        meas := fun _ => 0
        join := true }
    | _, true => some {
        α := Int
        find := fun st => intAt st 2
        head := fun b => { only st [(1, .int .i64 k), (2, .int .i64 b), (3, .ptr 0 0), (8, .row 1 (endN t w h k c (s0 - b).toNat).length)] with mem := [⟨.vals (mzL w h (celN t w h k c (s0 - b).toNat) t), e0, k0⟩, ⟨.ints .i64 (endN t w h k c (s0 - b).toNat), 3, .row⟩] }
        inv := eiInv s0
        meas := fun b => b.toNat
        auto := true }
    | _, _ => none)
  | _, _, _ => none
def eiFind (w h : Int) (st : St) : Option (Int × Rn) :=
  match intAt st 30, st.get 8 with
  | some b, .ptr r _ => (match st.mem[r]? with
    | some ⟨.mix _ _ l [.int _ x, .int _ y, .int _ d, .int _ e, .int _ n], _, _⟩ => some (b, ⟨rlO w h l x y d, e, n⟩)
    | _ => none)
  | _, _ => none
def ann_impl_ExitsInTurn : Nat → St → Option Ann := fun key st =>
  match st.mem, intAt st 1, intAt st 29, Nat.beq key 6 with
  | ⟨.vals [.int _ w, .int _ h, .str c, .bool t], e0, k0⟩ :: _, some k, some s0, true => some {
      α := Int × Rn
      find := eiFind w h
      head := fun a => { only st [(1, .int .i64 k), (3, .ptr 0 0), (8, .ptr 1 0), (9, .row 2 (endN t w h k c a.1.toNat).length), (29, .int .i64 s0), (30, .int .i64 a.1)] with mem := [⟨.vals (mzL w h c t), e0, k0⟩, rollB w h c t a.2 70, ⟨.ints .i64 (endN t w h k c a.1.toNat), 3, .row⟩] }
      inv := fun a => eiInv s0 a.1 ∧ a.2.r.c = celN t w h k c a.1.toNat
      meas := fun a => (s0 - a.1).toNat
      auto := true }
  | _, _, _, _ => none
/-! ### rows of numbers in a law -/
def ramp (k : Int) (n : Nat) : List Int := (List.range n).map fun j : Nat => k + (j : Int)
def eqsInv (a b : List Int) (i : Int) : Prop := 0 ≤ i ∧ i ≤ a.length ∧ a.length = b.length ∧ a.length ≤ 1000 ∧ a.take i.toNat = b.take i.toNat
def ann_laws_eqIntS : Nat → St → Option Ann := fun _ st =>
  match st.mem, st.get 0, st.get 1 with
  | [⟨.ints _ a, _, _⟩, ⟨.ints _ b, _, _⟩], .row x n, .row y m => some {
      α := Int
      find := fun st => intAt st 5
      head := fun i => only st [(0, .row x n), (1, .row y m), (5, .int .i64 i)]
      inv := fun i => eqsInv a b i
      meas := fun i => (a.length - i).toNat }
  | _, _, _ => none
def mrkInv (a : List Int) (k0 : Int) (i : Int) : Prop := 0 ≤ i ∧ i ≤ a.length ∧ a.length ≤ 1000 ∧ 0 ≤ k0 ∧ k0 ≤ 1000
def mrkRow (a : List Int) (k0 : Int) (i : Int) : List Int := ramp k0 i.toNat ++ a.drop i.toNat
def ann_laws_markIntS : Nat → St → Option Ann := fun _ st =>
  match st.mem, st.get 0, intAt st 1 with
  | [⟨.ints kd a, e, kk⟩], .row x n, some k0 => some {
      α := Int
      find := fun st => intAt st 5
      head := fun i => { only st [(0, .row x n), (1, .int .i64 (k0 + i)), (5, .int .i64 i)] with mem := [⟨.ints kd (mrkRow a k0 i), e, kk⟩] }
      inv := fun i => mrkInv a k0 i
      meas := fun i => (a.length - i).toNat }
  | _, _, _ => none
def hldInv (a : List Int) (k0 : Int) (i : Int) : Prop := mrkInv a k0 i ∧ a.take i.toNat = ramp k0 i.toNat
def ann_laws_heldIntS : Nat → St → Option Ann := fun _ st =>
  match st.mem, st.get 0, intAt st 1 with
  | [⟨.ints _ a, _, _⟩], .row x n, some k0 => some {
      α := Int
      find := fun st => intAt st 5
      head := fun i => only st [(0, .row x n), (1, .int .i64 (k0 + i)), (5, .int .i64 i)]
      inv := fun i => hldInv a k0 i
      meas := fun i => (a.length - i).toNat }
  | _, _, _ => none
end Go.Vi
