/- Balls until the maze is the same. -/
import Derived.Test.YtkkpkfphfhcgoaaDoorH1Pf
namespace Go.Vi
/-- Behind the regions of a law that hold a struct each. -/
def exL (w h : Int) (c : List UInt8) (t : Bool) (x y d : Int) : List V := [.int .i64 (exW w h c t x y d), .int .i64 (exH w h c t x y d), .str (exC w h c t x y d), .bool (exU w h c t x y d)]
def ann_laws_FnExactMazeAfterBall : Nat → St → Option Ann := fun key st =>
  match Nat.beq key 1005, Nat.beq key 1006, st.mem with
  | true, _, [⟨.vals [.int _ w, .int _ h, .str c, .bool t], _, _⟩, ⟨.vals [.int _ x, .int _ y, .int _ d], _, _⟩] => some {
      α := Unit
      find := fun _ => some ()
      head := fun _ => { only st [(2, .ptr 0 0), (3, .ptr 1 0), (6, .ptr 2 0), (7, .bool (exB w h c t x y d))] with mem := st.mem ++ [⟨.vals (exL w h c t x y d), 26, .box⟩] }
      inv := fun _ => True
      meas := fun _ => 0
      join := true }
  | _, true, [⟨.vals [.int _ w, .int _ h, .str c, .bool t], _, _⟩, ⟨.vals [.int _ x, .int _ y, .int _ d], _, _⟩, b2] => some {
      α := Unit
      find := fun _ => some ()
      head := fun _ => { only st [(6, .ptr 0 0), (7, st.get 7), (8, .ptr 1 0), (9, .bool (exB w h c t x y d))] with mem := [b2, ⟨.vals (exL w h c t x y d), 26, .box⟩] }
      inv := fun _ => True
      meas := fun _ => 0
      join := true }
  | _, _, _ => none
def aftC (w h k : Int) (c : List UInt8) : List UInt8 := (outR true w h (entR w h c k) 0 0).r.c
/-- Of the balls from number b on, n at most: the first behind which the cells are those. -/
def bsF (w h k : Int) (c0 : List UInt8) : Nat → Int → List UInt8 → Option Int
  | 0, _, _ => none
  | n + 1, b, c => bif aftC w h k c == c0 then some b else bsF w h k c0 n (b + 1) (aftC w h k c)
def bsW (w h : Int) (c : List UInt8) (t : Bool) (k : Int) : Option Int := bif enB ⟨w, h, c, t⟩ k && t then bsF w h k c 600 1 c else none
def bsN (w h : Int) (c : List UInt8) (t : Bool) (k : Int) : Int := match bsW w h c t k with | some n => n | none => 0
def bsB (w h : Int) (c : List UInt8) (t : Bool) (k : Int) : Bool := (bsW w h c t k).isSome
def bsInv (w h k : Int) (c0 : List UInt8) (b : Int) (c : List UInt8) : Prop :=
  (c.length : Int) = w * h ∧ c.all mirB = true ∧ 1 ≤ b ∧ b ≤ 601 ∧ bsF w h k c0 (601 - b).toNat b c = bsF w h k c0 600 1 c0
def ann_spec_BallsUntilSame : Nat → St → Option Ann := fun key st =>
  match Nat.beq key 5, st.mem, intAt st 1 with
  | true, [⟨.vals [.int _ w, .int _ h, .str c, .bool t], e0, k0⟩, ⟨_, e1, k1⟩], some k => some {
      α := Int × List UInt8
      find := fun st => (match intAt st 7, st.mem with | some b, [_, ⟨.vals [_, _, .str c', _], _, _⟩] => some (b, c') | _, _ => none)
      head := fun a => { only st [(1, .int .i64 k), (2, .ptr 0 0), (6, .ptr 1 0), (7, .int .i64 a.1)] with mem := [⟨.vals (mzL w h c t), e0, k0⟩, ⟨.vals (mzL w h a.2 t), e1, k1⟩] }
      inv := fun a => bsInv w h k c a.1 a.2
      meas := fun a => (601 - a.1).toNat }
  | _, _, _ => none
def bsFind (w h : Int) (st : St) : Option (Int × Rn) :=
  match intAt st 8, st.get 6 with
  | some b, .ptr r _ => (match st.mem[r]? with
    | some ⟨.mix _ _ l [.int _ x, .int _ y, .int _ d, .int _ e, .int _ n], _, _⟩ => some (b, ⟨rlO w h l x y d, e, n⟩)
    | _ => none)
  | _, _ => none
def ann_impl_BallsUntilSame : Nat → St → Option Ann := fun _ st =>
  match st.mem, intAt st 1 with
  | ⟨.vals [.int _ w, .int _ h, .str c, .bool t], e0, k0⟩ :: _, some k => some {
      α := Int × Rn
      find := bsFind w h
      head := fun a => { only st [(1, .int .i64 k), (2, .ptr 0 0), (6, .ptr 1 0), (7, .ptr 2 0), (8, .int .i64 a.1)] with mem := [⟨.vals (mzL w h c t), e0, k0⟩, rollB w h c t a.2 68, ⟨.mix [] 81 (padB 81 c) [], 66, .box⟩] }
      inv := fun a => bsInv w h k c a.1 a.2.r.c
      meas := fun a => (601 - a.1).toNat
      auto := true }
  | _, _ => none
end Go.Vi
