/- Mazes: what is good, balls, one hit, a ball until it comes out. -/
import Derived.Test.YteleacldecambaaDoorL1Pf
import Derived.Lib.SlTrimSet
namespace Go.Vi
structure Mz where
  w : Int
  h : Int
  c : List UInt8
  t : Bool
def mirB (b : UInt8) : Bool := b == 46 || b == 90 || b == 83
def mzB (m : Mz) : Bool := inB m.w 1 9 && inB m.h 1 9 && ((m.c.length : Int) == m.w * m.h) && m.c.all mirB
def mzV (m : Mz) : V := .agg [.int .i64 m.w, .int .i64 m.h, .str m.c, .bool m.t]
def blB (m : Mz) (x y d : Int) : Bool := mzB m && inB x 0 (m.w - 1) && inB y 0 (m.h - 1) && inB d 0 3
def blV (x y d : Int) : V := .agg [.int .i64 x, .int .i64 y, .int .i64 d]
def szM (c : List UInt8) (left : Int) : Int := bif decide (left - c.length < 0) then -1 else left - c.length
def eqM (a b : Mz) : Bool := a.w == b.w && a.h == b.h && a.c == b.c && a.t == b.t
def cntB (b : UInt8) (l : List UInt8) : Int := (l.countP (· == b) : Nat)
/-- The other mirror. -/
def mirO (b : UInt8) : UInt8 := if b == 90 then 83 else if b == 83 then 90 else b
def wayN (b : UInt8) (d : Int) : Int := if b == 90 then (d.toNat ^^^ 1 : Nat) else if b == 83 then 3 - d else d
def dxW (d : Int) : Int := if d = 1 then 1 else if d = 3 then -1 else 0
def dyW (d : Int) : Int := if d = 0 then -1 else if d = 2 then 1 else 0
/-- Where a ball comes in. -/
def entX (w h k : Int) : Int := if k < w then k else if k < w + h then w - 1 else if k < 2 * w + h then 2 * w + h - 1 - k else 0
def entY (w h k : Int) : Int := if k < w then 0 else if k < w + h then k - w else if k < 2 * w + h then h - 1 else 2 * (w + h) - 1 - k
def entD (w h k : Int) : Int := if k < w then 2 else if k < w + h then 3 else if k < 2 * w + h then 0 else 1
structure Rl where
  c : List UInt8
  x : Int
  y : Int
  d : Int
  deriving DecidableEq
def ixR (w : Int) (r : Rl) : Nat := (r.y * w + r.x).toNat
def cellR (w : Int) (r : Rl) : UInt8 := r.c.getD (ixR w r) 0
def hitR (t : Bool) (w : Int) (r : Rl) : Rl :=
  ⟨bif t then r.c.set (ixR w r) (mirO (cellR w r)) else r.c, r.x + dxW (wayN (cellR w r) r.d), r.y + dyW (wayN (cellR w r) r.d), wayN (cellR w r) r.d⟩
def inR (w h : Int) (r : Rl) : Bool := inB r.x 0 (w - 1) && inB r.y 0 (h - 1)
def goodR (w h : Int) (r : Rl) : Prop := ((1 ≤ w ∧ w ≤ 9) ∧ (1 ≤ h ∧ h ≤ 9)) ∧ (r.c.length : Int) = w * h ∧ r.c.all mirB = true ∧ inR w h r = true ∧ 0 ≤ r.d ∧ r.d ≤ 3
/-- All mazes of so many cells; all balls of all mazes. -/
def allC : Nat → List (List UInt8)
  | 0 => [[]]
  | n + 1 => (allC n).flatMap fun l => [46 :: l, 90 :: l, 83 :: l]
def allR (n : Nat) : List Rl := (allC n).flatMap fun c => (List.range 9).flatMap fun x => (List.range 9).flatMap fun y => (List.range 4).map fun d => ⟨c, (x : Nat), (y : Nat), (d : Nat)⟩
def fuelR (w h : Int) : Nat := (allR (w * h).toNat).length
/-- How often a ball enters cells until it stops: out, or as at first. -/
def stopR (w h : Int) (r0 r : Rl) : Bool := !inR w h r || decide (r = r0)
def cntR (t : Bool) (w h : Int) (r0 : Rl) : Nat → Rl → Nat
  | 0, _ => 0
  | f + 1, r => bif stopR w h r0 (hitR t w r) then 1 else cntR t w h r0 f (hitR t w r) + 1
structure Rn where
  r : Rl
  e : Int
  k : Int
def inc (n : Int) : Int := IntKind.wrap .i64 (n + 1)
def hitsN (w : Int) (r : Rl) (k : Int) : Int := bif cellR w r == 46 then k else inc k
def goN (t : Bool) (w : Int) : Nat → Rn → Rn
  | 0, s => s
  | n + 1, s => goN t w n ⟨hitR t w s.r, inc s.e, hitsN w s.r s.k⟩
/-- How many more cells a ball enters. -/
def leftR (t : Bool) (w h : Int) (r0 r : Rl) : Nat := cntR t w h r0 (fuelR w h) r
def runR (t : Bool) (w h : Int) (r0 : Rl) (s : Rn) : Rn := goN t w (leftR t w h r0 s.r) s
/-- What a run comes to. -/
def outR (t : Bool) (w h : Int) (r : Rl) (e k : Int) : Rn := runR t w h r ⟨r, e, k⟩
def iterR (t : Bool) (w : Int) : Nat → Rl → Rl
  | 0, r => r
  | n + 1, r => iterR t w n (hitR t w r)
/-- The end at which a ball is that has come out. -/
def endR (w h : Int) (r : Rl) : Int := if r.d = 0 then r.x else if r.d = 1 then w + r.y else if r.d = 2 then 2 * w + h - 1 - r.x else 2 * (w + h) - 1 - r.y
def enB (m : Mz) (k : Int) : Bool := mzB m && inB k 0 (2 * (m.w + m.h) - 1)
def entV (ok : Bool) (w h k : Int) : V := .tup [blV (bif ok then entX w h k else 0) (bif ok then entY w h k else 0) (bif ok then entD w h k else 0), .bool ok]
def mirI (n : Int) : Int := if n = 90 then 83 else if n = 83 then 90 else n
def wayI (n : Int) (d : Int) : Int := if n = 90 then (d.toNat ^^^ 1 : Nat) else if n = 83 then 3 - d else d
/-- What a ball's box holds. -/
def rlO (w h : Int) (l : List UInt8) (x y d : Int) : Rl := ⟨l.take (w * h).toNat, x, y, d⟩
def rlP (w h : Int) (l : List UInt8) (x y d : Int) : Prop := l = padB 81 (l.take (w * h).toNat) ∧ goodR w h (rlO w h l x y d)
def stepN (t : Bool) (w : Int) (s : Rn) : Rn := ⟨hitR t w s.r, inc s.e, hitsN w s.r s.k⟩
def rollB (w h : Int) (c : List UInt8) (t : Bool) (s : Rn) (ty : TypeId) : Blk :=
  ⟨.mix [.int .i64 w, .int .i64 h, .str c, .bool t] 81 (padB 81 s.r.c) [.int .i64 s.r.x, .int .i64 s.r.y, .int .i64 s.r.d, .int .i64 s.e, .int .i64 s.k], ty, .box⟩
/-! ### loops -/
def cmInv (c : List UInt8) (i : Int) : Prop := c.length ≤ 1000 ∧ 0 ≤ i ∧ i ≤ c.length
def ann_spec_miGood : Nat → St → Option Ann := fun _ st =>
  match st.mem with
  | [⟨.vals [_, _, .str c, _], _, _⟩] =>
    some { α := Int, find := fun st => intAt st 3, head := fun i => only st [(1, .ptr 0 0), (3, .int .i64 i)], inv := fun i => cmInv c i ∧ (c.take i.toNat).all mirB = true, meas := fun i => (c.length - i).toNat }
  | _ => none
def ann_spec_CountMirrors : Nat → St → Option Ann := fun _ st =>
  match st.mem with
  | [⟨.vals [_, _, .str c, _], _, _⟩] =>
    some { α := Int, find := fun st => intAt st 7, head := fun i => only st [(1, .ptr 0 0), (5, .int .i64 (cntB 90 (c.take i.toNat))), (6, .int .i64 (cntB 83 (c.take i.toNat))), (7, .int .i64 i)], inv := fun i => cmInv c i, meas := fun i => (c.length - i).toNat }
  | _ => none
/-- Behind the regions of a law that hold two structs each: the results lie in boxes. -/
def tupL : V → List V
  | .tup l => l
  | _ => []
def aggL : V → List V
  | .agg l => l
  | _ => []
def hcB (w h : Int) (c : List UInt8) (t : Bool) (x y d : Int) : Bool := blB ⟨w, h, c, t⟩ x y d && inR w h (hitR t w ⟨c, x, y, d⟩)
def hcW (w h : Int) (c : List UInt8) (t : Bool) (x y d : Int) : Int := bif hcB w h c t x y d then w else 0
def hcH (w h : Int) (c : List UInt8) (t : Bool) (x y d : Int) : Int := bif hcB w h c t x y d then h else 0
def hcC (w h : Int) (c : List UInt8) (t : Bool) (x y d : Int) : List UInt8 := bif hcB w h c t x y d then (hitR t w ⟨c, x, y, d⟩).c else []
def hcU (w h : Int) (c : List UInt8) (t : Bool) (x y d : Int) : Bool := bif hcB w h c t x y d then t else false
def hcX (w h : Int) (c : List UInt8) (t : Bool) (x y d : Int) : Int := bif hcB w h c t x y d then (hitR t w ⟨c, x, y, d⟩).x else 0
def hcY (w h : Int) (c : List UInt8) (t : Bool) (x y d : Int) : Int := bif hcB w h c t x y d then (hitR t w ⟨c, x, y, d⟩).y else 0
def hcD (w h : Int) (c : List UInt8) (t : Bool) (x y d : Int) : Int := bif hcB w h c t x y d then (hitR t w ⟨c, x, y, d⟩).d else 0
def hitAt (w h : Int) (c : List UInt8) (t : Bool) (x y d : Int) : V :=
  .tup [.agg [.int .i64 (hcW w h c t x y d), .int .i64 (hcH w h c t x y d), .str (hcC w h c t x y d), .bool (hcU w h c t x y d)], blV (hcX w h c t x y d) (hcY w h c t x y d) (hcD w h c t x y d), .bool (hcB w h c t x y d)]
def ann_laws_FnExactHitCell : Nat → St → Option Ann := fun key st =>
  match Nat.beq key 1005, Nat.beq key 1006, st.mem with
  | true, _, [⟨.vals [.int _ w, .int _ h, .str c, .bool t], _, _⟩, ⟨.vals [.int _ x, .int _ y, .int _ d], _, _⟩] => some {
      α := Unit
      find := fun _ => some ()
      head := fun _ => { only st [(2, .ptr 0 0), (3, .ptr 1 0), (6, .ptr 2 0), (7, .ptr 3 0), (8, (tupL (hitAt w h c t x y d)).getD 2 .undef)] with mem := st.mem ++ [⟨.vals (aggL ((tupL (hitAt w h c t x y d)).getD 0 .undef)), 27, .box⟩, ⟨.vals (aggL ((tupL (hitAt w h c t x y d)).getD 1 .undef)), 28, .box⟩] }
      inv := fun _ => True
      meas := fun _ => 0
      join := true }
  | _, true, [⟨.vals [.int _ w, .int _ h, .str c, .bool t], _, _⟩, ⟨.vals [.int _ x, .int _ y, .int _ d], _, _⟩, b2, b3] => some {
      α := Unit
      find := fun _ => some ()
      head := fun _ => { only st [(6, .ptr 0 0), (7, .ptr 1 0), (8, st.get 8), (9, .ptr 2 0), (10, .ptr 3 0), (11, (tupL (hitAt w h c t x y d)).getD 2 .undef)] with mem := [b2, b3, ⟨.vals (aggL ((tupL (hitAt w h c t x y d)).getD 0 .undef)), 27, .box⟩, ⟨.vals (aggL ((tupL (hitAt w h c t x y d)).getD 1 .undef)), 28, .box⟩] }
      inv := fun _ => True
      meas := fun _ => 0
      join := true }
  | _, _, _ => none
end Go.Vi
