/- Balls that come out. -/
import Derived.Test.YtkkpkfphfhcgoabDoorA1Pf
namespace Go.Vi
def entR (w h : Int) (c : List UInt8) (k : Int) : Rl := ⟨c, entX w h k, entY w h k, entD w h k⟩
def sdP (w h : Int) (l : List UInt8) (k : Int) : Prop := l = padB 81 (l.take (w * h).toNat) ∧ ((1 ≤ w ∧ w ≤ 9) ∧ (1 ≤ h ∧ h ≤ 9)) ∧ ((l.take (w * h).toNat).length : Int) = w * h ∧ (l.take (w * h).toNat).all mirB = true ∧ 0 ≤ k ∧ k < 2 * (w + h)
def sdR (t : Bool) (w h : Int) (l : List UInt8) (k e n : Int) : Rn := outR t w h (entR w h (l.take (w * h).toNat) k) e n
/-- The end by the place. -/
def outP (w h x y : Int) : Int := if y < 0 then x else if w ≤ x then w + y else if h ≤ y then 2 * w + h - 1 - x else 2 * (w + h) - 1 - y
def rn7 (w h : Int) (c : List UInt8) (t : Bool) (x y d : Int) : Rn := outR t w h ⟨c, x, y, d⟩ 0 0
def rnB (w h : Int) (c : List UInt8) (t : Bool) (x y d : Int) : Bool := !inR w h (rn7 w h c t x y d).r
def rnW (w h : Int) (c : List UInt8) (t : Bool) (x y d : Int) : Int := bif rnB w h c t x y d then w else 0
def rnH (w h : Int) (c : List UInt8) (t : Bool) (x y d : Int) : Int := bif rnB w h c t x y d then h else 0
def rnC (w h : Int) (c : List UInt8) (t : Bool) (x y d : Int) : List UInt8 := bif rnB w h c t x y d then (rn7 w h c t x y d).r.c else []
def rnU (w h : Int) (c : List UInt8) (t : Bool) (x y d : Int) : Bool := bif rnB w h c t x y d then t else false
def rnE (w h : Int) (c : List UInt8) (t : Bool) (x y d : Int) : Int := bif rnB w h c t x y d then endR w h (rn7 w h c t x y d).r else 0
def rnK (w h : Int) (c : List UInt8) (t : Bool) (x y d : Int) : Int := bif rnB w h c t x y d then (rn7 w h c t x y d).k else 0
def rnN (w h : Int) (c : List UInt8) (t : Bool) (x y d : Int) : Int := bif rnB w h c t x y d then (rn7 w h c t x y d).e else 0
def runV (w h : Int) (c : List UInt8) (t : Bool) (x y d : Int) : V :=
  .tup [.agg [.int .i64 (rnW w h c t x y d), .int .i64 (rnH w h c t x y d), .str (rnC w h c t x y d), .bool (rnU w h c t x y d)], .int .i64 (rnE w h c t x y d), .int .i64 (rnK w h c t x y d), .int .i64 (rnN w h c t x y d), .bool (rnB w h c t x y d)]
def exB (w h : Int) (c : List UInt8) (t : Bool) (x y d : Int) : Bool := blB ⟨w, h, c, t⟩ x y d && rnB w h c t x y d
def exE (w h : Int) (c : List UInt8) (t : Bool) (x y d : Int) : Int := bif blB ⟨w, h, c, t⟩ x y d then rnE w h c t x y d else 0
def exK (w h : Int) (c : List UInt8) (t : Bool) (x y d : Int) : Int := bif blB ⟨w, h, c, t⟩ x y d then rnK w h c t x y d else 0
def exW (w h : Int) (c : List UInt8) (t : Bool) (x y d : Int) : Int := bif blB ⟨w, h, c, t⟩ x y d then rnW w h c t x y d else 0
def exH (w h : Int) (c : List UInt8) (t : Bool) (x y d : Int) : Int := bif blB ⟨w, h, c, t⟩ x y d then rnH w h c t x y d else 0
def exC (w h : Int) (c : List UInt8) (t : Bool) (x y d : Int) : List UInt8 := bif blB ⟨w, h, c, t⟩ x y d then rnC w h c t x y d else []
def exU (w h : Int) (c : List UInt8) (t : Bool) (x y d : Int) : Bool := bif blB ⟨w, h, c, t⟩ x y d then rnU w h c t x y d else false
/-- The longest of the first k ends. -/
def ltF (w h : Int) (c : List UInt8) (t : Bool) : Nat → Int
  | 0 => 0
  | k + 1 => if ltF w h c t k < (outR t w h (entR w h c k) 0 0).e then (outR t w h (entR w h c k) 0 0).e else ltF w h c t k
def ltB (w h : Int) (c : List UInt8) (t : Bool) : Bool := mzB ⟨w, h, c, t⟩ && !t
def ltE (w h : Int) (c : List UInt8) (t : Bool) : Int := bif ltB w h c t then ltF w h c t (2 * (w + h)).toNat else 0
/-! ### loops -/
def goInv (t : Bool) (w h : Int) (r0 : Rl) (e0 k0 : Int) (a : Rn) : Prop := OnWay t w h r0 a.r ∧ runR t w h r0 a = outR t w h r0 e0 k0
def rollOf (w h : Int) : List Blk → Option Rn
  | ⟨.mix _ _ l [.int _ x, .int _ y, .int _ d, .int _ e, .int _ k], _, _⟩ :: _ => some ⟨rlO w h l x y d, e, k⟩
  | _ => none
def ann_impl_roll_goOut : Nat → St → Option Ann := fun key st =>
  match st.mem with
  | [⟨.mix [.int q w, .int q' h, .str c, .bool t] n l [.int q2 x, .int q3 y, .int q4 d, .int q5 e, .int q6 k], ty, kd⟩] =>
    (match Nat.beq key 1001 with
    | true => some {
        α := Unit
        find := fun _ => some ()
        head := fun _ => { only st [(0, .ptr 0 0), (3, .ptr 1 0), (4, .ptr 2 0)] with mem := [⟨.mix [.int q w, .int q' h, .str c, .bool t] n l [.int q2 x, .int q3 y, .int q4 d, .int q5 e, .int q6 k], ty, kd⟩, ⟨.vals [.int q2 x, .int q3 y, .int q4 d], 46, .box⟩, ⟨.mix [] n l [], 68, .box⟩] }
        inv := fun _ => True
        meas := fun _ => 0
        join := true }
    | false => some {
        α := Rn
        find := fun st => rollOf w h st.mem
        head := fun a => { only st [(0, .ptr 0 0), (3, .ptr 1 0), (4, .ptr 2 0)] with mem := [rollB w h c t a ty, ⟨.vals [.int .i64 x, .int .i64 y, .int .i64 d], 46, .box⟩, ⟨.mix [] 81 l [], 68, .box⟩] }
        inv := goInv t w h (rlO w h l x y d) e k
        meas := fun a => leftR t w h (rlO w h l x y d) a.r })
  | _ => none
def mzL (w h : Int) (c : List UInt8) (t : Bool) : List V := [.int .i64 w, .int .i64 h, .str c, .bool t]
def blL (x y d : Int) : List V := [.int .i64 x, .int .i64 y, .int .i64 d]
def ann_spec_miRun : Nat → St → Option Ann := fun key st =>
  match Nat.beq key 1001, Nat.beq key 3, Nat.beq key 1008, st.mem with
  | true, _, _, [⟨.vals m, e0, k0⟩, ⟨.vals b, e1, k1⟩, b2] => some {
      α := Unit
      find := fun _ => some ()
      head := fun _ => { only st [(2, .ptr 0 0), (3, .ptr 1 0), (4, .ptr 2 0), (9, .ptr 3 0), (10, .ptr 4 0)] with mem := [⟨.vals m, e0, k0⟩, ⟨.vals b, e1, k1⟩, b2, ⟨.vals m, 28, .box⟩, ⟨.vals b, 46, .box⟩] }
      inv := fun _ => True
      meas := fun _ => 0
      join := true }
  | _, true, _, [⟨.vals [.int _ w, .int _ h, .str c, .bool t], e0, k0⟩, ⟨.vals [.int _ x, .int _ y, .int _ d], e1, k1⟩, b2, ⟨_, e3, k3⟩, ⟨_, e4, k4⟩] => some {
      α := Rn
      find := fun st => (match st.mem, intAt st 11, intAt st 12 with
        | [_, _, _, ⟨.vals [_, _, .str c', _], _, _⟩, ⟨.vals [.int _ x', .int _ y', .int _ d'], _, _⟩], some k, some e => some ⟨⟨c', x', y', d'⟩, e, k⟩
        | _, _, _ => none)
      head := fun a => { only st [(2, .ptr 0 0), (3, .ptr 1 0), (4, .ptr 2 0), (9, .ptr 3 0), (10, .ptr 4 0), (11, .int .i64 a.k), (12, .int .i64 a.e)] with mem := [⟨.vals (mzL w h c t), e0, k0⟩, ⟨.vals (blL x y d), e1, k1⟩, b2, ⟨.vals (mzL w h a.r.c t), e3, k3⟩, ⟨.vals (blL a.r.x a.r.y a.r.d), e4, k4⟩] }
      inv := goInv t w h ⟨c, x, y, d⟩ 0 0
      meas := fun a => leftR t w h ⟨c, x, y, d⟩ a.r }
  | _, _, true, [⟨.vals [.int _ w, .int _ h, _, _], _, _⟩, _, ⟨_, e2, k2⟩, ⟨.vals m', _, _⟩, ⟨.vals [.int _ x', .int _ y', _], _, _⟩] => some {
      α := Unit
      find := fun _ => some ()
      head := fun _ => { only st [(4, .ptr 0 0), (5, .int .i64 (outP w h x' y')), (6, st.get 11), (7, st.get 12), (8, .lit true)] with mem := [⟨.vals m', e2, k2⟩] }
      inv := fun _ => True
      meas := fun _ => 0
      join := true }
  | _, _, _, _ => none
def ltInv (w h : Int) (k : Int) : Prop := ((1 ≤ w ∧ w ≤ 9) ∧ (1 ≤ h ∧ h ≤ 9)) ∧ 0 ≤ k ∧ k ≤ 2 * (w + h)
def ann_spec_LongestTrack : Nat → St → Option Ann := fun key st =>
  match st.mem with
  | [⟨.vals [.int _ w, .int _ h, .str c, .bool t], _, _⟩] =>
    (match Nat.beq key 1007, intAt st 5 with
    | true, some k => some {
        α := Unit
        find := fun _ => some ()
        head := fun _ => only st [(1, .ptr 0 0), (4, st.get 4), (5, .int .i64 k), (9, .int .i64 (rnN w h c t (entX w h k) (entY w h k) (entD w h k)))]
        inv := fun _ => True
        meas := fun _ => 0
        join := true }
    | _, _ => some {
        α := Int
        find := fun st => intAt st 5
        head := fun k => only st [(1, .ptr 0 0), (4, .int .i64 (ltF w h c t k.toNat)), (5, .int .i64 k)]
        inv := ltInv w h
        meas := fun k => (2 * (w + h) - k).toNat })
  | _ => none
def ann_impl_LongestTrack : Nat → St → Option Ann := fun _ st =>
  match st.mem with
  | [⟨.vals [.int _ w, .int _ h, .str c, .bool t], _, _⟩] => some {
      α := Int
      find := fun st => intAt st 16
      head := fun k => only st [(1, .ptr 0 0), (4, .int .i64 (ltF w h c t k.toNat)), (15, .int .i64 (2 * (w + h))), (16, .int .i64 k)]
      inv := ltInv w h
      meas := fun k => (2 * (w + h) - k).toNat }
  | _ => none
end Go.Vi
