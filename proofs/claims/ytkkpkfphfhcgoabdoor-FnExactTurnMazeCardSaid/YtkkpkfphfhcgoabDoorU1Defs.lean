/- Mazes turned and mirrored. -/
import Derived.Test.YtkkpkfphfhcgoabDoorA1Pf
namespace Go.Vi
def mirT (b : Int) : List UInt8 := if b = 90 then [83] else if b = 83 then [90] else [46]
def turnC (w h : Int) (c : List UInt8) : List UInt8 := (List.range (w * h).toNat).map fun j : Nat => mirO (c.getD ((h - 1 - (j : Int) % h) * w + (j : Int) / h).toNat 0)
def mirrC (w h : Int) (c : List UInt8) : List UInt8 := (List.range (w * h).toNat).map fun j : Nat => mirO (c.getD ((j : Int) / w * w + (w - 1 - (j : Int) % w)).toNat 0)
def tnW (w h : Int) (c : List UInt8) (t : Bool) : Int := bif mzB ⟨w, h, c, t⟩ then h else 0
def tnH (w h : Int) (c : List UInt8) (t : Bool) : Int := bif mzB ⟨w, h, c, t⟩ then w else 0
def tnC (w h : Int) (c : List UInt8) (t : Bool) : List UInt8 := bif mzB ⟨w, h, c, t⟩ then turnC w h c else []
def tnU (w h : Int) (c : List UInt8) (t : Bool) : Bool := bif mzB ⟨w, h, c, t⟩ then t else false
def mrW (w h : Int) (c : List UInt8) (t : Bool) : Int := bif mzB ⟨w, h, c, t⟩ then w else 0
def mrH (w h : Int) (c : List UInt8) (t : Bool) : Int := bif mzB ⟨w, h, c, t⟩ then h else 0
def mrC (w h : Int) (c : List UInt8) (t : Bool) : List UInt8 := bif mzB ⟨w, h, c, t⟩ then mirrC w h c else []
def mzL4 (w h : Int) (c : List UInt8) (t : Bool) : List V := [.int .i64 w, .int .i64 h, .str c, .bool t]
/-! ### the model's loops -/
def rowInv (a b y : Int) : Prop := (1 ≤ a ∧ a ≤ 9) ∧ (1 ≤ b ∧ b ≤ 9) ∧ 0 ≤ y ∧ y ≤ a
def colInv (a b y x : Int) : Prop := (1 ≤ a ∧ a ≤ 9) ∧ (1 ≤ b ∧ b ≤ 9) ∧ (0 ≤ y ∧ y < a) ∧ 0 ≤ x ∧ x ≤ b
def ann_spec_TurnMaze : Nat → St → Option Ann := fun key st =>
  match st.mem with
  | [⟨.vals [.int _ w, .int _ h, .str c, .bool t], e0, k0⟩, b1, ⟨_, e2, k2⟩] =>
    (match Nat.beq key 5, Nat.beq key 8, intAt st 5 with
    | true, _, _ => some {
        α := Int
        find := fun st => intAt st 5
        head := fun y => { only st [(1, .ptr 0 0), (2, .ptr 1 0), (4, .ptr 2 0), (5, .int .i64 y)] with mem := [⟨.vals (mzL4 w h c t), e0, k0⟩, b1, ⟨.vals (mzL4 h w ((turnC w h c).take (y * h).toNat) t), e2, k2⟩] }
        inv := fun y => rowInv w h y
        meas := fun y => (w - y).toNat }
    | _, true, some y => some {
        α := Int
        find := fun st => intAt st 6
        head := fun x => { only st [(1, .ptr 0 0), (2, .ptr 1 0), (4, .ptr 2 0), (5, .int .i64 y), (6, .int .i64 x)] with mem := [⟨.vals (mzL4 w h c t), e0, k0⟩, b1, ⟨.vals (mzL4 h w ((turnC w h c).take (y * h + x).toNat) t), e2, k2⟩] }
        inv := fun x => colInv w h y x
        meas := fun x => (h - x).toNat }
    | _, _, _ => none)
  | _ => none
def ann_spec_MirrorMaze : Nat → St → Option Ann := fun key st =>
  match st.mem with
  | [⟨.vals [.int _ w, .int _ h, .str c, .bool t], e0, k0⟩, b1, ⟨_, e2, k2⟩] =>
    (match Nat.beq key 5, Nat.beq key 8, intAt st 5 with
    | true, _, _ => some {
        α := Int
        find := fun st => intAt st 5
        head := fun y => { only st [(1, .ptr 0 0), (2, .ptr 1 0), (4, .ptr 2 0), (5, .int .i64 y)] with mem := [⟨.vals (mzL4 w h c t), e0, k0⟩, b1, ⟨.vals (mzL4 w h ((mirrC w h c).take (y * w).toNat) t), e2, k2⟩] }
        inv := fun y => rowInv h w y
        meas := fun y => (h - y).toNat }
    | _, true, some y => some {
        α := Int
        find := fun st => intAt st 6
        head := fun x => { only st [(1, .ptr 0 0), (2, .ptr 1 0), (4, .ptr 2 0), (5, .int .i64 y), (6, .int .i64 x)] with mem := [⟨.vals (mzL4 w h c t), e0, k0⟩, b1, ⟨.vals (mzL4 w h ((mirrC w h c).take (y * w + (w - 1 - x)).toNat) t), e2, k2⟩] }
        inv := fun x => colInv h w y (w - 1 - x)
        meas := fun x => (x + 1).toNat }
    | _, _, _ => none)
  | _ => none
/-! ### cells laid anew -/
def ixP (pl : Int → Int → Int × Int) (ww width : Int) (k : Nat) : Nat := ((pl ((k : Int) % ww) ((k : Int) / ww)).2 * width + (pl ((k : Int) % ww) ((k : Int) / ww)).1).toNat
def rlF (pl : Int → Int → Int × Int) (ww width : Int) (c init : List UInt8) : Nat → List UInt8
  | 0 => init
  | k + 1 => (rlF pl ww width c init k).set (ixP pl ww width k) (c.getD k 0)
def relInv (c : List UInt8) (i : Int) : Prop := 0 ≤ i ∧ i ≤ c.length
def plTurn (h : Int) : Int → Int → Int × Int := fun x y => (h - 1 - y, x)
def plMirr (w : Int) : Int → Int → Int × Int := fun x y => (w - 1 - x, y)
/-- Where a function lays the cells, by what it holds. -/
def plOf (f : FuncId) (caps : List Nat) (mem : List Blk) : Option (Int → Int → Int × Int) :=
  match caps with
  | [b] => (match mem[b]? with
    | some ⟨.vals [.int _ w, .int _ h, _, _], _, _⟩ => (match decide (f = 36) with | true => some (plTurn h) | false => some (plMirr w))
    | _ => none)
  | _ => none
def ann_impl_relaidCells : Nat → St → Option Ann := fun key st =>
  match Nat.beq key 3 with
  | false => none
  | true =>
  match st.get 0, st.get 1, st.get 2, st.get 3, st.get 9 with
  | .str c, .int _ ww, .int _ width, .fn f caps, .row r n =>
    (match plOf f caps st.mem, st.mem[r]? with
    | some pl, some ⟨_, e, kd⟩ => some {
        α := Int
        find := fun st => intAt st 18
        head := fun i => { only st [(0, .str c), (1, .int .i64 ww), (2, .int .i64 width), (3, .fn f caps), (9, .row r n), (17, .int .i64 c.length), (18, .int .i64 i)] with mem := st.mem.set r ⟨.bytes (rlF pl ww width c (List.replicate c.length 0) i.toNat), e, kd⟩ }
        inv := fun i => relInv c i
        meas := fun i => (c.length - i).toNat }
    | _, _ => none)
  | _, _, _, _, _ => none
def othAt (l : List UInt8) (i : Nat) : List UInt8 := (l.take i).map mirO ++ l.drop i
def ann_impl_relaidMaze : Nat → St → Option Ann := fun key st =>
  match Nat.beq key 3 with
  | false => none
  | true =>
  match st.get 1, st.get 2, st.get 4, st.get 8, st.get 9 with
  | .int _ width, .int _ height, .ptr b4 _, .ptr b8 _, .row r n =>
    (match st.mem[r]? with
    | some ⟨.bytes l, e, kd⟩ => some {
        α := Int
        find := fun st => intAt st 22
        head := fun i => { only st [(1, .int .i64 width), (2, .int .i64 height), (4, .ptr b4 0), (8, .ptr b8 0), (9, .row r n), (20, .row r n), (21, .int .i64 n), (22, .int .i64 i)] with mem := st.mem.set r ⟨.bytes (othAt l i.toNat), e, kd⟩ }
        inv := fun i => relInv l i ∧ l.length = n
        meas := fun i => (n - i).toNat }
    | _ => none)
  | _, _, _, _, _ => none
end Go.Vi
