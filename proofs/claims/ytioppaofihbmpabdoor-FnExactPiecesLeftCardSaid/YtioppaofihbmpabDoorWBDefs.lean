/- Worms: steps forth and back. -/
import Derived.Test.YtioppaofihbmpabDoorWAPf
namespace Go.Vi
set_option linter.unusedVariables false
def turnI (b : Int) : Int := bif b == 82 then 1 else bif b == 85 then 2 else bif b == 76 then 3 else 0
def dirX (d : Int) : Int := bif d == 0 then 0 else bif d == 1 then 1 else bif d == 2 then 0 else -1
def dirY (d : Int) : Int := bif d == 0 then -1 else bif d == 1 then 0 else bif d == 2 then 1 else 0
/-- A board without cells, and lines behind it. -/
structure Cr where
  r : List UInt8
  w : Int
  h : Int
  c : List UInt8
  x : Int
  y : Int
  d : Int
  l : List UInt8
def bdV (c : Cr) : V := .agg [.str c.r, .int .i64 c.w, .int .i64 c.h, .str c.c, .int .i64 c.x, .int .i64 c.y, .int .i64 c.d]
def crL (c : Cr) : List V := [.str c.r, .int .i64 c.w, .int .i64 c.h, .str c.c, .int .i64 c.x, .int .i64 c.y, .int .i64 c.d, .str c.l]
def crV (c : Cr) : V := .agg (crL c)
def woL (m : Wo) : List V := [.int .i64 m.w, .int .i64 m.h, .str m.r, .str m.n, .int .i64 m.x, .int .i64 m.y, .int .i64 m.d]
def boxC (c : Cr) : Bool := inB c.w 3 6 && inB c.h 3 6 && inB c.x 0 (c.w - 1) && inB c.y 0 (c.h - 1)
def crB (c : Cr) : Bool := boxC c && inB c.d 0 3 && ((c.l.length : Int) == 2 * (c.w * c.h))
def trnC (c : Cr) (q : Int) : Cr := { c with d := (c.d + q) % 4 }
def movC (c : Cr) : Cr := { c with x := (c.x + dirX c.d) % c.w, y := (c.y + dirY c.d) % c.h }
def seeC (c : Cr) (k q : Int) : Cr := { c with x := k % c.w, y := k / c.w, d := q }
/-- Whether the line of a node on a way is told in Down; where it is told. -/
def dnB (d : Int) : Bool := d == 0 || d == 2
def atI (w h x y d : Int) : Int := bif d == 0 then (y - 1) % h * w + x else bif d == 1 then y * w + x else bif d == 2 then y * w + x else y * w + (x - 1) % w
def lnI (w h x y d : Int) : Int := (bif dnB d then w * h else 0) + atI w h x y d
def ixA (c : Cr) : Nat := (lnI c.w c.h c.x c.y c.d).toNat
def hasA (c : Cr) : Bool := c.l.getD (ixA c) 0 == 49
def setA (c : Cr) (s : List UInt8) : Cr := { c with l := c.l.take (ixA c) ++ s ++ c.l.drop (ixA c + 1) }
def wormC (c : Cr) : Wo := ⟨c.w, c.h, c.l.take (c.w * c.h).toNat, c.l.drop (c.w * c.h).toNat, c.x, c.y, c.d⟩
def crOf (m : Wo) : Cr := ⟨[], m.w, m.h, [], m.x, m.y, m.d, m.r ++ m.n⟩
def cntA (c : Cr) (k : Int) : Nat → Int
  | 0 => 0
  | q + 1 => cntA c k q + (bif hasA (seeC c k (q : Nat)) then 1 else 0)
def trnS (s : UInt8) : Int := turnI s.toNat
def findA (c : Cr) (t : List UInt8) : Option UInt8 := t.find? fun s => hasA (trnC c (trnS s))
def stpC (c : Cr) (s : UInt8) : Cr := movC (setA (trnC c (trnS s)) [48])
def goR (c : Cr) (t : List UInt8) : Cr := match findA c t with | some s => stpC c s | none => ⟨[], 0, 0, [], 0, 0, 0, []⟩
def goS (c : Cr) (t : List UInt8) : Int := match findA c t with | some s => (s.toNat : Nat) | none => 0
def goB (c : Cr) (t : List UInt8) : Bool := (findA c t).isSome
/-! ### worms -/
def ixW (m : Wo) (x y q : Int) : Nat := (atI m.w m.h x y q).toNat
def hasW (m : Wo) (x y q : Int) : Bool := bif dnB q then m.n.getD (ixW m x y q) 0 == 49 else m.r.getD (ixW m x y q) 0 == 49
def setW (m : Wo) (x y q : Int) (s : List UInt8) : Wo :=
  { m with r := bif dnB q then m.r else m.r.take (ixW m x y q) ++ s ++ m.r.drop (ixW m x y q + 1), n := bif dnB q then m.n.take (ixW m x y q) ++ s ++ m.n.drop (ixW m x y q + 1) else m.n }
def goW (m : Wo) (q k : Int) : Wo := { m with x := (m.x + k * dirX q) % m.w, y := (m.y + k * dirY q) % m.h }
def wayW (m : Wo) (s : UInt8) : Int := (m.d + trnS s) % 4
def findW (m : Wo) (t : List UInt8) : Option UInt8 := t.find? fun s => hasW m m.x m.y (wayW m s)
def stpW (m : Wo) (s : UInt8) : Wo := goW { setW m m.x m.y (wayW m s) [48] with d := wayW m s } (wayW m s) 1
def liveW (t : List UInt8) (m : Wo) : Bool := (findW m t).isSome
def nxtW (t : List UInt8) (m : Wo) : Wo := match findW m t with | some s => stpW m s | none => m
def eatS (m : Wo) (t : List UInt8) : List UInt8 := match findW m t with | some s => [s] | none => []
def iterW (t : List UInt8) : Nat → Wo → Wo
  | 0, m => m
  | k + 1, m => nxtW t (iterW t k m)
def allL (t : List UInt8) : Nat → Wo → Bool
  | 0, _ => true
  | k + 1, m => allL t k m && liveW t (iterW t k m)
def cntW (m : Wo) (x y : Int) : Nat → Int
  | 0 => 0
  | q + 1 => cntW m x y q + (bif hasW m x y (q : Nat) then 1 else 0)
def ndB (m : Wo) (x y : Int) : Bool := womB m && inB x 0 (m.w - 1) && inB y 0 (m.h - 1)
def laV (m : Wo) (x y : Int) : V := .tup [.int .i64 (bif ndB m x y then cntW m x y 4 else 0), .bool (ndB m x y)]
def eatB (m : Wo) (t : List UInt8) : Bool := womB m && tasB t && liveW t m
def aftB (m : Wo) (t : List UInt8) (k : Int) : Bool := womB m && tasB t && inB k 0 100 && allL t k.toNat m
def bakB (m : Wo) (q : Int) : Bool := womB m && inB q 0 3 && !(q == (m.d + 2) % 4) && !(hasW m m.x m.y ((m.d + 2) % 4))
def bakW (m : Wo) (q : Int) : Wo := { goW (setW m m.x m.y ((m.d + 2) % 4) [49]) m.d (-1) with d := q }
/-! ### loops -/
def boxCr : List Blk → Option Cr
  | ⟨.vals [.str r, .int _ w, .int _ h, .str c, .int _ x, .int _ y, .int _ d, .str l], _, _⟩ :: _ => some ⟨r, w, h, c, x, y, d, l⟩
  | _ => none
def boxWo : Nat → List Blk → Option Wo
  | 0, ⟨.vals [.int _ w, .int _ h, .str r, .str n, .int _ x, .int _ y, .int _ d], _, _⟩ :: _ => some ⟨w, h, r, n, x, y, d⟩
  | k + 1, _ :: r => boxWo k r
  | _, _ => none
def iterAt : Nat → List Blk → Option Nat
  | 0, ⟨.map [(.gp n _, _)], _, _⟩ :: _ => some n
  | k + 1, _ :: r => iterAt k r
  | _, _ => none
def iterB (s : List UInt8) (n : Nat) (e : TypeId) : Blk := ⟨.map [(.gp n 0, .str s)], e, .map⟩
def fourInv (i : Int) : Prop := 0 ≤ i ∧ i ≤ 4
def ann_impl_crawler_linesAt : Nat → St → Option Ann := fun _ st =>
  match boxCr st.mem, intAt st 1 with
  | some c, some k => some { α := Int, find := fun st => intAt st 7, head := fun i => only st [(1, .int .i64 k), (2, .ptr 0 0), (5, .int .i64 (cntA c k i.toNat)), (7, .int .i64 i)], inv := fun i => fourInv i, meas := fun i => (4 - i).toNat }
  | _, _ => none
def ann_spec_wmAt : Nat → St → Option Ann := fun _ st =>
  match boxWo 0 st.mem, intAt st 1, intAt st 2 with
  | some m, some x, some y => some { α := Int, find := fun st => intAt st 8, head := fun i => only st [(1, .int .i64 x), (2, .int .i64 y), (3, .ptr 0 0), (7, .int .i64 (cntW m x y i.toNat)), (8, .int .i64 i)], inv := fun i => fourInv i, meas := fun i => (4 - i).toNat }
  | _, _, _ => none
def goInv (c : Cr) (t : List UInt8) (n : Nat) : Prop := n ≤ t.length ∧ findA c (t.take n) = none
def ann_impl_crawler_goOn : Nat → St → Option Ann := fun key st =>
  match Nat.beq key 2, st.mem, boxCr st.mem with
  | true, [b0, b1, ⟨.map [(_, .str t)], e, _⟩], some c => some {
      α := Nat
      find := fun st => iterAt 2 st.mem
      head := fun n => { only st [(2, .ptr 0 0), (4, .ptr 1 0), (11, .ptr 2 0)] with mem := [b0, b1, iterB t n e] }
      inv := fun n => goInv c t n
      meas := fun n => t.length - n
      auto := true }
  | _, _, _ => none
def etInv (m : Wo) (t : List UInt8) (n : Nat) : Prop := n ≤ t.length ∧ findW m (t.take n) = none
def ann_spec_wmEat : Nat → St → Option Ann := fun key st =>
  match Nat.beq key 2, st.mem, boxWo 0 st.mem, strAt st 1 with
  | true, [b0, ⟨.map [(_, .str t)], e, _⟩], some m, some t0 => some {
      α := Nat
      find := fun st => iterAt 1 st.mem
      head := fun n => { only st [(0, .ptr 0 0), (1, .str t0), (8, .ptr 1 0)] with mem := [b0, iterB t n e] }
      inv := fun n => etInv m t n
      meas := fun n => t.length - n
      auto := true }
  | _, _, _, _ => none
def waInv (m : Wo) (t : List UInt8) (k s : Int) : Prop := 0 ≤ s ∧ s ≤ k ∧ k ≤ 100 ∧ womB m = true ∧ tasB t = true ∧ allL t (k - s).toNat m = true
def ann_spec_WormAfter : Nat → St → Option Ann := fun key st =>
  match Nat.beq key 3, st.mem, boxWo 0 st.mem, strAt st 1, intAt st 2 with
  | true, [⟨_, e, kd⟩, b1], some m, some t, some k => some {
      α := Int
      find := fun st => intAt st 2
      head := fun s => { only st [(1, .str t), (2, .int .i64 s), (3, .ptr 0 0), (6, .ptr 1 0)] with mem := [⟨.vals (woL (iterW t (k - s).toNat m)), e, kd⟩, b1] }
      inv := fun s => waInv m t k s
      meas := fun s => s.toNat
      auto := true }
  | _, _, _, _, _ => none
def wiInv (m : Wo) (t : List UInt8) (k i : Int) : Prop := 0 ≤ i ∧ i ≤ k ∧ k ≤ 100 ∧ womB m = true ∧ tasB t = true ∧ allL t i.toNat m = true
def ann_impl_WormAfter : Nat → St → Option Ann := fun key st =>
  match Nat.beq key 5, st.mem, boxWo 1 st.mem, strAt st 1, intAt st 28 with
  | true, [gl, _, rb, ⟨_, e, kd⟩], some m, some t, some k => some {
      α := Int
      find := fun st => intAt st 29
      head := fun i => { only st [(1, .str t), (6, .ptr 1 0), (8, .ptr 2 0), (28, .int .i64 k), (29, .int .i64 i)] with mem := [gl, rb, ⟨.vals (crL (crOf (iterW t i.toNat m))), e, kd⟩] }
      inv := fun i => wiInv m t k i
      meas := fun i => (k - i).toNat
      auto := true }
  | _, _, _, _, _ => none
end Go.Vi
