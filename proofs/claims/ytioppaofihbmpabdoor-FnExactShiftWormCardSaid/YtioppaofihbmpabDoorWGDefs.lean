/- Worms shifted. -/
import Derived.Test.YtioppaofihbmpabDoorWBPf
namespace Go.Vi
set_option linter.unusedVariables false
/-- From where the line of a node comes, and where it goes. -/
def srcZ (w h right down j : Int) : Int := (j / w - down) % h * w + (j % w - right) % w
def dstZ (w h right down j : Int) : Int := (j / w + down) % h * w + (j % w + right) % w
def srcI (w h right down : Int) (j : Nat) : Nat := (srcZ w h right down j).toNat
def shTxt (w h right down : Int) (c : List UInt8) (k : Nat) : List UInt8 := (List.range k).map fun j => c.getD (srcI w h right down j) 0
def relW (w h right down : Int) (c : List UInt8) (i : Nat) : List UInt8 := (List.range c.length).map fun j => if srcI w h right down j < i then c.getD (srcI w h right down j) 0 else 0
def shW (m : Wo) (right down : Int) : Wo := { m with r := shTxt m.w m.h right down m.r m.r.length, n := shTxt m.w m.h right down m.n m.r.length, x := (m.x + right) % m.w, y := (m.y + down) % m.h }
/-! ### loops -/
def shInv (m : Wo) (right down i : Int) : Prop := ndB m right down = true ∧ 0 ≤ i ∧ i ≤ m.r.length
def ann_spec_ShiftWorm : Nat → St → Option Ann := fun key st =>
  match Nat.beq key 5, st.mem, boxWo 0 st.mem, intAt st 1, intAt st 2 with
  | true, [b0, b1, ⟨_, e, k⟩], some m, some right, some down => some {
      α := Int
      find := fun st => intAt st 9
      head := fun i => { only st [(1, .int .i64 right), (2, .int .i64 down), (3, .ptr 0 0), (6, .ptr 1 0), (8, .ptr 2 0), (9, .int .i64 i)] with mem := [b0, b1, ⟨.vals [.int .i64 m.w, .int .i64 m.h, .str (shTxt m.w m.h right down m.r i.toNat), .str (shTxt m.w m.h right down m.n i.toNat), .int .i64 0, .int .i64 0, .int .i64 m.d], e, k⟩] }
      inv := fun i => shInv m right down i
      meas := fun i => (m.r.length - i).toNat
      auto := true }
  | _, _, _, _, _ => none
def capsOf (caps : List Nat) (mem : List Blk) : Option (Wo × Int × Int) :=
  match caps with
  | [r, b, d] => (match mem[r]?, mem[b]?, mem[d]? with
    | some ⟨.vals [.int _ right], _, _⟩, some ⟨.vals [.int _ w, .int _ h, .str r, .str n, .int _ x, .int _ y, .int _ d], _, _⟩, some ⟨.vals [.int _ down], _, _⟩ => some (⟨w, h, r, n, x, y, d⟩, right, down)
    | _, _, _ => none)
  | _ => none
def reInv (c : List UInt8) (i : Int) : Prop := 0 ≤ i ∧ i ≤ c.length
def ann_impl_relaidCells : Nat → St → Option Ann := fun key st =>
  match Nat.beq key 3 with
  | false => none
  | true =>
  match st.get 0, st.get 1, st.get 2, st.get 3, st.get 9 with
  | .str c, .int _ ww, .int _ width, .fn f caps, .row r n =>
    (match capsOf caps st.mem, st.mem[r]? with
    | some (m, right, down), some ⟨_, e, kd⟩ => some {
        α := Int
        find := fun st => intAt st 18
        head := fun i => { only st [(0, .str c), (1, .int .i64 ww), (2, .int .i64 width), (3, .fn f caps), (9, .row r n), (17, .int .i64 c.length), (18, .int .i64 i)] with mem := st.mem.set r ⟨.bytes (relW m.w m.h right down c i.toNat), e, kd⟩ }
        inv := fun i => reInv c i
        meas := fun i => (c.length - i).toNat }
    | _, _ => none)
  | _, _, _, _, _ => none
end Go.Vi
