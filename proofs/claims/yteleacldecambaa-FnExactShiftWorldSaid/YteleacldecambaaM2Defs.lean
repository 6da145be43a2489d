/- Boards laid anew: shifted, turned, mirrored. -/
import Derived.Test.YteleacldecambaaS0Pf
import Derived.Test.YteleacldecambaaR1Pf
namespace Go.Vi
def plA (b0 b1 b2 b3 b4 b5 width height : Int) (x y : Int) : Int × Int := ((b0 * x + b1 * y + b2) % width, (b3 * x + b4 * y + b5) % height)
/-- Where cell number k goes. -/
def ixP (pl : Int → Int → Int × Int) (ww width : Int) (k : Nat) : Nat := ((pl ((k : Int) % ww) ((k : Int) / ww)).2 * width + (pl ((k : Int) % ww) ((k : Int) / ww)).1).toNat
def rlF (pl : Int → Int → Int × Int) (ww width : Int) (c init : List UInt8) : Nat → List UInt8
  | 0 => init
  | k + 1 => (rlF pl ww width c init k).set (ixP pl ww width k) (c.getD k 0)
/-- The world when k cells are laid. -/
def mapAt (pl : Int → Int → Int × Int) (w : Wd) (width height : Int) (k : Nat) : Wd :=
  { r := w.r, w := width, h := height, c := rlF pl w.w width w.c (List.replicate (width * height).toNat 48) k,
    x := bif decide (w.y * w.w + w.x < (k : Int)) then (pl w.x w.y).1 else 0, y := bif decide (w.y * w.w + w.x < (k : Int)) then (pl w.x w.y).2 else 0, d := w.d }
def mapW (pl : Int → Int → Int × Int) (w : Wd) (width height : Int) : Wd := mapAt pl w width height (w.w * w.h).toNat
def one3 (b : Int) : Prop := b = -1 ∨ b = 0 ∨ b = 1
def mapPre (w : Wd) (width height b0 b1 b2 b3 b4 b5 : Int) : Prop :=
  goodB w = true ∧ (1 ≤ width ∧ width ≤ 9) ∧ (1 ≤ height ∧ height ≤ 9) ∧ width * height = w.w * w.h ∧ (one3 b0 ∧ one3 b1 ∧ one3 b3 ∧ one3 b4) ∧ (0 ≤ b2 ∧ b2 ≤ 9) ∧ (0 ≤ b5 ∧ b5 ≤ 9)
def shiftW (w : Wd) (right down : Int) : Wd := mapW (plA 1 0 right 0 1 down w.w w.h) w w.w w.h
def turnW (w : Wd) : Wd := trnW (mapW (plA 0 (-1) (w.h - 1) 1 0 0 w.h w.w) w w.h w.w) 1
def mirrW (w : Wd) : Wd := { mapW (plA (-1) 0 (w.w - 1) 0 1 0 w.w w.h) w w.w w.h with r := othR w.r, d := (4 - w.d) % 4 }
def zerInv (n0 : Int) (n : Int) : Prop := 0 ≤ n ∧ n ≤ n0 ∧ n0 ≤ 1000
def ann_spec_woZeros : Nat → St → Option Ann := fun _ st =>
  match intAt st 0 with
  | some n0 => some { α := Int, find := fun st => intAt st 0, head := fun n => only st [(0, .int .i64 n), (3, .str (List.replicate (n0 - n).toNat 48))], inv := fun n => zerInv n0 n, meas := fun n => n.toNat }
  | none => none
def wdOf : List V → Option Wd
  | [.str r, .int _ w, .int _ h, .str c, .int _ x, .int _ y, .int _ d] => some ⟨r, w, h, c, x, y, d⟩
  | _ => none
def arrOf : List V → Option (Int × Int × Int × Int × Int × Int)
  | [.int _ a, .int _ b, .int _ c, .int _ d, .int _ e, .int _ f] => some (a, b, c, d, e, f)
  | _ => none
def outInv (w : Wd) (y : Int) : Prop := 0 ≤ y ∧ y ≤ w.h
def inInv (w : Wd) (y x : Int) : Prop := 0 ≤ y ∧ y < w.h ∧ 0 ≤ x ∧ x ≤ w.w
def ann_spec_woMap : Nat → St → Option Ann := fun key st =>
  match st.mem, intAt st 1, intAt st 2 with
  | [⟨.vals vs, e0, k0⟩, ⟨.vals as, e1, k1⟩, b2], some width, some height =>
    (match wdOf vs, arrOf as, Nat.beq key 1001 with
    | some w, some (a0, a1, a2, a3, a4, a5), true => some {
        α := Unit
        find := fun _ => some ()
        head := fun _ => { only st [(1, .int .i64 width), (2, .int .i64 height), (4, .ptr 0 0), (7, .ptr 1 0), (8, .ptr 2 0), (9, .ptr 3 0)] with mem := [⟨.vals vs, e0, k0⟩, ⟨.vals as, e1, k1⟩, b2, ⟨.vals (wdL (mapAt (plA a0 a1 a2 a3 a4 a5 width height) w width height 0)), 25, .box⟩] }
        inv := fun _ => True
        meas := fun _ => 0 }
    | _, _, _ => none)
  | [⟨.vals vs, e0, k0⟩, ⟨.vals as, e1, k1⟩, b2, ⟨_, e3, k3⟩], some width, some height =>
    (match wdOf vs, arrOf as with
    | some w, some (a0, a1, a2, a3, a4, a5) =>
      (match Nat.beq key 3 with
      | true => some {
          α := Int
          find := fun st => intAt st 10
          head := fun y => { only st [(1, .int .i64 width), (2, .int .i64 height), (4, .ptr 0 0), (7, .ptr 1 0), (8, .ptr 2 0), (9, .ptr 3 0), (10, .int .i64 y)] with mem := [⟨.vals vs, e0, k0⟩, ⟨.vals as, e1, k1⟩, b2, ⟨.vals (wdL (mapAt (plA a0 a1 a2 a3 a4 a5 width height) w width height (y * w.w).toNat)), e3, k3⟩] }
          inv := fun y => outInv w y
          meas := fun y => (w.h - y).toNat }
      | false =>
        (match intAt st 10, Nat.beq key 6 with
        | some y, true => some {
            α := Int
            find := fun st => intAt st 11
            head := fun x => { only st [(1, .int .i64 width), (2, .int .i64 height), (4, .ptr 0 0), (7, .ptr 1 0), (8, .ptr 2 0), (9, .ptr 3 0), (10, .int .i64 y), (11, .int .i64 x)] with mem := [⟨.vals vs, e0, k0⟩, ⟨.vals as, e1, k1⟩, b2, ⟨.vals (wdL (mapAt (plA a0 a1 a2 a3 a4 a5 width height) w width height (y * w.w + x).toNat)), e3, k3⟩] }
            inv := fun x => inInv w y x
            meas := fun x => (w.w - x).toNat }
        | _, _ => none))
    | _, _ => none)
  | _, _, _ => none
def relInv (c : List UInt8) (i : Int) : Prop := 0 ≤ i ∧ i ≤ c.length
/-- By which numbers a function lays the cells: what it holds is the world. -/
def plOf (f : FuncId) (caps : List Nat) (mem : List Blk) : Option (Int → Int → Int × Int) :=
  match caps with
  | [b] => (match mem[b]? with
    | some ⟨.vals vs, _, _⟩ => (match wdOf vs with
      | some w => (match decide (f = 39) with | true => some (plA 0 (-1) (w.h - 1) 1 0 0 w.h w.w) | false => some (plA (-1) 0 (w.w - 1) 0 1 0 w.w w.h))
      | none => none)
    | _ => none)
  | [r, b, d] => (match mem[r]?, mem[b]?, mem[d]? with
    | some ⟨.vals [.int _ right], _, _⟩, some ⟨.vals vs, _, _⟩, some ⟨.vals [.int _ down], _, _⟩ => (match wdOf vs with
      | some w => some (plA 1 0 right 0 1 down w.w w.h)
      | none => none)
    | _, _, _ => none)
  | _ => none
def ann_impl_relaidCells : Nat → St → Option Ann := fun key st =>
  match Nat.beq key 3 with
  | false => none
  | true =>
  match st.get 0, st.get 1, st.get 2, st.get 3, st.get 9 with
  | .str c, .int _ ww, .int _ width, .fn f caps, .row r n =>
    (match plOf f caps st.mem, st.mem[r]? with
    | some pl, some ⟨_, e, kd⟩ => some {
        α := Int
        find := fun st => intAt st 18
        head := fun i => { only st [(0, .str c), (1, .int .i64 ww), (2, .int .i64 width), (3, .fn f caps), (9, .row r n), (17, .int .i64 c.length), (18, .int .i64 i)] with mem := st.mem.set r ⟨.bytes (rlF pl ww width c (List.replicate c.length 0) i.toNat), e, kd⟩ }
        inv := fun i => relInv c i
        meas := fun i => (c.length - i).toNat }
    | _, _ => none)
  | _, _, _, _, _ => none
end Go.Vi
