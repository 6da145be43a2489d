/- The conditions, reckoned out by program: texts alone. -/
import Derived.Test.YtioppaofihbmpabDoorWEDefs
namespace Go.Vi
set_option linter.unusedVariables false
def VC_spec_OddNodes (mw : Int) (mh : Int) (mr : List UInt8) (mn : List UInt8) (mx : Int) (my : Int) (md : Int) (K : V → List Blk → Prop) : Prop := At True ∧ ((!womB { w := mw, h := mh, r := mr, n := mn, x := mx, y := my, d := md }) 
  = true → K (V.tup [V.raw (Value.slice none (0 : Nat) (0 : Nat)), V.lit false]) [{ cs := Cells.vals [V.int IntKind.i64 mw, V.int IntKind.i64 mh, V.str mr, V.str mn, V.int IntKind.i64 mx, V.int IntKind.i64 my, V.int IntKind.i64 md], elem := 28, kind := Kind.box }]) 
  ∧ ((!womB { w := mw, h := mh, r := mr, n := mn, x := mx, y := my, d := md }) = false → (True ∧ (((0 : Nat) = (0 : Nat) ∧ (0 : Nat) = (0 : Nat)) ∧ ((1 : Nat) = (1 : Nat) ∧ (0 : Nat) 
  = (0 : Nat)) ∧ (True ∧ (0 : Int) = (0 : Int)) ∧ True) ∧ ((True ∧ (True ∧ mw = mw) ∧ (True ∧ mh = mh) ∧ mr = mr ∧ mn = mn ∧ (True ∧ mx = mx) ∧ (True ∧ my = my) ∧ (True ∧ md = md) ∧ True) 
  ∧ (True ∧ IntKind.i64 = IntKind.i64 ∧ nilI = oddW { w := mw, h := mh, r := mr, n := mn, x := mx, y := my, d := md } (Int.toNat (0 : Int))) ∧ True) ∧ True) ∧ At (odInv { w := mw, h := mh, r := mr, n := mn, x := mx, y := my, d := md } 
  (0 : Int)) ∧ ∀ (a : Int), odInv { w := mw, h := mh, r := mr, n := mn, x := mx, y := my, d := md } a → (decide (a < (↑(List.length mr) : Int)) = true → True ∧ At (mw ≠ (0 : Int)) ∧ At 
  (mw ≠ (0 : Int)) ∧ At (womB { w := mw, h := mh, r := mr, n := mn, x := mx, y := my, d := md } = true ∧ inB (Int.tmod a mw) (0 : Int) (mw - (1 : Int)) = true ∧ inB (IntKind.wrap IntKind.i64 
  (Int.tdiv a mw)) (0 : Int) (mh - (1 : Int)) = true) ∧ At ((2 : Int) ≠ (0 : Int)) ∧ ((Int.tmod (cntW { w := mw, h := mh, r := mr, n := mn, x := mx, y := my, d := md } (Int.tmod a mw) 
  (IntKind.wrap IntKind.i64 (Int.tdiv a mw)) (4 : Nat)) (2 : Int) == (1 : Int)) = true → At ((List.length (oddW { w := mw, h := mh, r := mr, n := mn, x := mx, y := my, d := md } (Int.toNat 
  a)) = List.length (oddW { w := mw, h := mh, r := mr, n := mn, x := mx, y := my, d := md } (Int.toNat a)) * (1 : Nat) ∧ (1 : Nat) * (1 : Nat) ≤ List.length [a]) ∧ (0 : Nat) < (1 : Nat) 
  ∧ List.length (oddW { w := mw, h := mh, r := mr, n := mn, x := mx, y := my, d := md } (Int.toNat a)) + (1 : Nat) ≤ (1000000000 : Nat)) ∧ (True ∧ (((0 : Nat) = (0 : Nat) ∧ (0 : Nat) 
  = (0 : Nat)) ∧ ((1 : Nat) = (1 : Nat) ∧ List.length (oddW { w := mw, h := mh, r := mr, n := mn, x := mx, y := my, d := md } (Int.toNat a)) + (1 : Nat) = List.length (oddW { w := mw, h := mh, r := mr, n := mn, x := mx, y := my, d := md } 
  (Int.toNat (IntKind.wrap IntKind.i64 (a + (1 : Int)))))) ∧ (True ∧ IntKind.wrap IntKind.i64 (a + (1 : Int)) = IntKind.wrap IntKind.i64 (a + (1 : Int))) ∧ True) ∧ ((True ∧ (True ∧ mw 
  = mw) ∧ (True ∧ mh = mh) ∧ mr = mr ∧ mn = mn ∧ (True ∧ mx = mx) ∧ (True ∧ my = my) ∧ (True ∧ md = md) ∧ True) ∧ (True ∧ IntKind.i64 = IntKind.i64 ∧ oddW { w := mw, h := mh, r := mr, n := mn, x := mx, y := my, d := md } 
  (Int.toNat a) ++ List.take ((1 : Nat) * (1 : Nat)) [a] = oddW { w := mw, h := mh, r := mr, n := mn, x := mx, y := my, d := md } (Int.toNat (IntKind.wrap IntKind.i64 (a + (1 : Int))))) 
  ∧ True) ∧ True) ∧ At (odInv { w := mw, h := mh, r := mr, n := mn, x := mx, y := my, d := md } (IntKind.wrap IntKind.i64 (a + (1 : Int))) ∧ Int.toNat ((↑(List.length mr) : Int) - IntKind.wrap 
  IntKind.i64 (a + (1 : Int))) < Int.toNat ((↑(List.length mr) : Int) - a))) ∧ ((Int.tmod (cntW { w := mw, h := mh, r := mr, n := mn, x := mx, y := my, d := md } (Int.tmod a mw) (IntKind.wrap 
  IntKind.i64 (Int.tdiv a mw)) (4 : Nat)) (2 : Int) == (1 : Int)) = false → (True ∧ (((0 : Nat) = (0 : Nat) ∧ (0 : Nat) = (0 : Nat)) ∧ ((1 : Nat) = (1 : Nat) ∧ List.length (oddW { w := mw, h := mh, r := mr, n := mn, x := mx, y := my, d := md } 
  (Int.toNat a)) = List.length (oddW { w := mw, h := mh, r := mr, n := mn, x := mx, y := my, d := md } (Int.toNat (IntKind.wrap IntKind.i64 (a + (1 : Int)))))) ∧ (True ∧ IntKind.wrap 
  IntKind.i64 (a + (1 : Int)) = IntKind.wrap IntKind.i64 (a + (1 : Int))) ∧ True) ∧ ((True ∧ (True ∧ mw = mw) ∧ (True ∧ mh = mh) ∧ mr = mr ∧ mn = mn ∧ (True ∧ mx = mx) ∧ (True ∧ my = 
  my) ∧ (True ∧ md = md) ∧ True) ∧ (True ∧ IntKind.i64 = IntKind.i64 ∧ oddW { w := mw, h := mh, r := mr, n := mn, x := mx, y := my, d := md } (Int.toNat a) = oddW { w := mw, h := mh, r := mr, n := mn, x := mx, y := my, d := md } 
  (Int.toNat (IntKind.wrap IntKind.i64 (a + (1 : Int))))) ∧ True) ∧ True) ∧ At (odInv { w := mw, h := mh, r := mr, n := mn, x := mx, y := my, d := md } (IntKind.wrap IntKind.i64 (a + 
  (1 : Int))) ∧ Int.toNat ((↑(List.length mr) : Int) - IntKind.wrap IntKind.i64 (a + (1 : Int))) < Int.toNat ((↑(List.length mr) : Int) - a)))) ∧ (decide (a < (↑(List.length mr) : Int)) 
  = false → K (V.tup [V.row (1 : Nat) (List.length (oddW { w := mw, h := mh, r := mr, n := mn, x := mx, y := my, d := md } (Int.toNat a))), V.lit true]) [{ cs := Cells.vals [V.int IntKind.i64 mw, V.int IntKind.i64 mh, V.str mr, V.str mn, V.int IntKind.i64 mx, V.int IntKind.i64 my, V.int IntKind.i64 md], elem := 28, kind := Kind.box }, 
  { cs := Cells.ints IntKind.i64 (oddW { w := mw, h := mh, r := mr, n := mn, x := mx, y := my, d := md } (Int.toNat a)), elem := 3, kind := Kind.row }]))

def VC_impl_OddNodes (mw : Int) (mh : Int) (mr : List UInt8) (mn : List UInt8) (mx : Int) (my : Int) (md : Int) (K : V → List Blk → Prop) : Prop := At True ∧ ((!womB { w := mw, h := mh, r := mr, n := mn, x := mx, y := my, d := md }) 
  = true → K (V.tup [V.raw (Value.slice none (0 : Nat) (0 : Nat)), V.lit false]) [{ cs := Cells.vals [V.int IntKind.i64 mw, V.int IntKind.i64 mh, V.str mr, V.str mn, V.int IntKind.i64 mx, V.int IntKind.i64 my, V.int IntKind.i64 md], elem := 28, kind := Kind.box }]) 
  ∧ ((!womB { w := mw, h := mh, r := mr, n := mn, x := mx, y := my, d := md }) = false → At (womB { w := mw, h := mh, r := mr, n := mn, x := mx, y := my, d := md } = true) ∧ At (boxC 
  (crOf { w := mw, h := mh, r := mr, n := mn, x := mx, y := my, d := md }) = true) ∧ (True ∧ (((0 : Nat) = (0 : Nat) ∧ (0 : Nat) = (0 : Nat)) ∧ ((1 : Nat) = (1 : Nat) ∧ (0 : Nat) = (0 
  : Nat)) ∧ (True ∧ Cr.w (crOf { w := mw, h := mh, r := mr, n := mn, x := mx, y := my, d := md }) * Cr.h (crOf { w := mw, h := mh, r := mr, n := mn, x := mx, y := my, d := md }) = mw 
  * mh) ∧ (True ∧ (0 : Int) = (0 : Int)) ∧ True) ∧ ((True ∧ Cr.r (crOf { w := mw, h := mh, r := mr, n := mn, x := mx, y := my, d := md }) = Cr.r (crOf { w := mw, h := mh, r := mr, n := mn, x := mx, y := my, d := md }) 
  ∧ (True ∧ Cr.w (crOf { w := mw, h := mh, r := mr, n := mn, x := mx, y := my, d := md }) = Cr.w (crOf { w := mw, h := mh, r := mr, n := mn, x := mx, y := my, d := md })) ∧ (True ∧ Cr.h 
  (crOf { w := mw, h := mh, r := mr, n := mn, x := mx, y := my, d := md }) = Cr.h (crOf { w := mw, h := mh, r := mr, n := mn, x := mx, y := my, d := md })) ∧ Cr.c (crOf { w := mw, h := mh, r := mr, n := mn, x := mx, y := my, d := md }) 
  = Cr.c (crOf { w := mw, h := mh, r := mr, n := mn, x := mx, y := my, d := md }) ∧ (True ∧ Cr.x (crOf { w := mw, h := mh, r := mr, n := mn, x := mx, y := my, d := md }) = Cr.x (crOf 
  { w := mw, h := mh, r := mr, n := mn, x := mx, y := my, d := md })) ∧ (True ∧ Cr.y (crOf { w := mw, h := mh, r := mr, n := mn, x := mx, y := my, d := md }) = Cr.y (crOf { w := mw, h := mh, r := mr, n := mn, x := mx, y := my, d := md })) 
  ∧ (True ∧ Cr.d (crOf { w := mw, h := mh, r := mr, n := mn, x := mx, y := my, d := md }) = Cr.d (crOf { w := mw, h := mh, r := mr, n := mn, x := mx, y := my, d := md })) ∧ Cr.l (crOf 
  { w := mw, h := mh, r := mr, n := mn, x := mx, y := my, d := md }) = Cr.l (crOf { w := mw, h := mh, r := mr, n := mn, x := mx, y := my, d := md }) ∧ True) ∧ (True ∧ IntKind.i64 = IntKind.i64 
  ∧ nilI = oddW { w := mw, h := mh, r := mr, n := mn, x := mx, y := my, d := md } (Int.toNat (0 : Int))) ∧ True) ∧ True) ∧ At (odInv { w := mw, h := mh, r := mr, n := mn, x := mx, y := my, d := md } 
  (0 : Int)) ∧ ∀ (a : Int), odInv { w := mw, h := mh, r := mr, n := mn, x := mx, y := my, d := md } a → (decide (a < mw * mh) = true → At (crB (crOf { w := mw, h := mh, r := mr, n := mn, x := mx, y := my, d := md }) 
  = true ∧ (0 : Int) ≤ a ∧ a < Cr.w (crOf { w := mw, h := mh, r := mr, n := mn, x := mx, y := my, d := md }) * Cr.h (crOf { w := mw, h := mh, r := mr, n := mn, x := mx, y := my, d := md })) 
  ∧ At ((2 : Int) ≠ (0 : Int)) ∧ ((Int.tmod (cntA (crOf { w := mw, h := mh, r := mr, n := mn, x := mx, y := my, d := md }) a (4 : Nat)) (2 : Int) == (1 : Int)) = true → At ((List.length 
  (oddW { w := mw, h := mh, r := mr, n := mn, x := mx, y := my, d := md } (Int.toNat a)) = List.length (oddW { w := mw, h := mh, r := mr, n := mn, x := mx, y := my, d := md } (Int.toNat 
  a)) * (1 : Nat) ∧ (1 : Nat) * (1 : Nat) ≤ List.length [a]) ∧ (0 : Nat) < (1 : Nat) ∧ List.length (oddW { w := mw, h := mh, r := mr, n := mn, x := mx, y := my, d := md } (Int.toNat a)) 
  + (1 : Nat) ≤ (1000000000 : Nat)) ∧ (True ∧ (((0 : Nat) = (0 : Nat) ∧ (0 : Nat) = (0 : Nat)) ∧ ((1 : Nat) = (1 : Nat) ∧ List.length (oddW { w := mw, h := mh, r := mr, n := mn, x := mx, y := my, d := md } 
  (Int.toNat a)) + (1 : Nat) = List.length (oddW { w := mw, h := mh, r := mr, n := mn, x := mx, y := my, d := md } (Int.toNat (IntKind.wrap IntKind.i64 (a + (1 : Int)))))) ∧ (True ∧ mw 
  * mh = mw * mh) ∧ (True ∧ IntKind.wrap IntKind.i64 (a + (1 : Int)) = IntKind.wrap IntKind.i64 (a + (1 : Int))) ∧ True) ∧ ((True ∧ Cr.r (crOf { w := mw, h := mh, r := mr, n := mn, x := mx, y := my, d := md }) 
  = Cr.r (crOf { w := mw, h := mh, r := mr, n := mn, x := mx, y := my, d := md }) ∧ (True ∧ Cr.w (crOf { w := mw, h := mh, r := mr, n := mn, x := mx, y := my, d := md }) = Cr.w (crOf 
  { w := mw, h := mh, r := mr, n := mn, x := mx, y := my, d := md })) ∧ (True ∧ Cr.h (crOf { w := mw, h := mh, r := mr, n := mn, x := mx, y := my, d := md }) = Cr.h (crOf { w := mw, h := mh, r := mr, n := mn, x := mx, y := my, d := md })) 
  ∧ Cr.c (crOf { w := mw, h := mh, r := mr, n := mn, x := mx, y := my, d := md }) = Cr.c (crOf { w := mw, h := mh, r := mr, n := mn, x := mx, y := my, d := md }) ∧ (True ∧ Cr.x (crOf 
  { w := mw, h := mh, r := mr, n := mn, x := mx, y := my, d := md }) = Cr.x (crOf { w := mw, h := mh, r := mr, n := mn, x := mx, y := my, d := md })) ∧ (True ∧ Cr.y (crOf { w := mw, h := mh, r := mr, n := mn, x := mx, y := my, d := md }) 
  = Cr.y (crOf { w := mw, h := mh, r := mr, n := mn, x := mx, y := my, d := md })) ∧ (True ∧ Cr.d (crOf { w := mw, h := mh, r := mr, n := mn, x := mx, y := my, d := md }) = Cr.d (crOf 
  { w := mw, h := mh, r := mr, n := mn, x := mx, y := my, d := md })) ∧ Cr.l (crOf { w := mw, h := mh, r := mr, n := mn, x := mx, y := my, d := md }) = Cr.l (crOf { w := mw, h := mh, r := mr, n := mn, x := mx, y := my, d := md }) 
  ∧ True) ∧ (True ∧ IntKind.i64 = IntKind.i64 ∧ oddW { w := mw, h := mh, r := mr, n := mn, x := mx, y := my, d := md } (Int.toNat a) ++ List.take ((1 : Nat) * (1 : Nat)) [a] = oddW { w := mw, h := mh, r := mr, n := mn, x := mx, y := my, d := md } 
  (Int.toNat (IntKind.wrap IntKind.i64 (a + (1 : Int))))) ∧ True) ∧ True) ∧ At (odInv { w := mw, h := mh, r := mr, n := mn, x := mx, y := my, d := md } (IntKind.wrap IntKind.i64 (a + 
  (1 : Int))) ∧ Int.toNat (mw * mh - IntKind.wrap IntKind.i64 (a + (1 : Int))) < Int.toNat (mw * mh - a))) ∧ ((Int.tmod (cntA (crOf { w := mw, h := mh, r := mr, n := mn, x := mx, y := my, d := md }) 
  a (4 : Nat)) (2 : Int) == (1 : Int)) = false → (True ∧ (((0 : Nat) = (0 : Nat) ∧ (0 : Nat) = (0 : Nat)) ∧ ((1 : Nat) = (1 : Nat) ∧ List.length (oddW { w := mw, h := mh, r := mr, n := mn, x := mx, y := my, d := md } 
  (Int.toNat a)) = List.length (oddW { w := mw, h := mh, r := mr, n := mn, x := mx, y := my, d := md } (Int.toNat (IntKind.wrap IntKind.i64 (a + (1 : Int)))))) ∧ (True ∧ mw * mh = mw 
  * mh) ∧ (True ∧ IntKind.wrap IntKind.i64 (a + (1 : Int)) = IntKind.wrap IntKind.i64 (a + (1 : Int))) ∧ True) ∧ ((True ∧ Cr.r (crOf { w := mw, h := mh, r := mr, n := mn, x := mx, y := my, d := md }) 
  = Cr.r (crOf { w := mw, h := mh, r := mr, n := mn, x := mx, y := my, d := md }) ∧ (True ∧ Cr.w (crOf { w := mw, h := mh, r := mr, n := mn, x := mx, y := my, d := md }) = Cr.w (crOf 
  { w := mw, h := mh, r := mr, n := mn, x := mx, y := my, d := md })) ∧ (True ∧ Cr.h (crOf { w := mw, h := mh, r := mr, n := mn, x := mx, y := my, d := md }) = Cr.h (crOf { w := mw, h := mh, r := mr, n := mn, x := mx, y := my, d := md })) 
  ∧ Cr.c (crOf { w := mw, h := mh, r := mr, n := mn, x := mx, y := my, d := md }) = Cr.c (crOf { w := mw, h := mh, r := mr, n := mn, x := mx, y := my, d := md }) ∧ (True ∧ Cr.x (crOf 
  { w := mw, h := mh, r := mr, n := mn, x := mx, y := my, d := md }) = Cr.x (crOf { w := mw, h := mh, r := mr, n := mn, x := mx, y := my, d := md })) ∧ (True ∧ Cr.y (crOf { w := mw, h := mh, r := mr, n := mn, x := mx, y := my, d := md }) 
  = Cr.y (crOf { w := mw, h := mh, r := mr, n := mn, x := mx, y := my, d := md })) ∧ (True ∧ Cr.d (crOf { w := mw, h := mh, r := mr, n := mn, x := mx, y := my, d := md }) = Cr.d (crOf 
  { w := mw, h := mh, r := mr, n := mn, x := mx, y := my, d := md })) ∧ Cr.l (crOf { w := mw, h := mh, r := mr, n := mn, x := mx, y := my, d := md }) = Cr.l (crOf { w := mw, h := mh, r := mr, n := mn, x := mx, y := my, d := md }) 
  ∧ True) ∧ (True ∧ IntKind.i64 = IntKind.i64 ∧ oddW { w := mw, h := mh, r := mr, n := mn, x := mx, y := my, d := md } (Int.toNat a) = oddW { w := mw, h := mh, r := mr, n := mn, x := mx, y := my, d := md } 
  (Int.toNat (IntKind.wrap IntKind.i64 (a + (1 : Int))))) ∧ True) ∧ True) ∧ At (odInv { w := mw, h := mh, r := mr, n := mn, x := mx, y := my, d := md } (IntKind.wrap IntKind.i64 (a + 
  (1 : Int))) ∧ Int.toNat (mw * mh - IntKind.wrap IntKind.i64 (a + (1 : Int))) < Int.toNat (mw * mh - a)))) ∧ (decide (a < mw * mh) = false → K (V.tup [V.row (1 : Nat) (List.length (oddW 
  { w := mw, h := mh, r := mr, n := mn, x := mx, y := my, d := md } (Int.toNat a))), V.lit true]) [{ cs := Cells.vals [V.str (Cr.r (crOf { w := mw, h := mh, r := mr, n := mn, x := mx, y := my, d := md })), V.int IntKind.i64 (Cr.w (crOf { w := mw, h := mh, r := mr, n := mn, x := mx, y := my, d := md })), V.int IntKind.i64 (Cr.h (crOf { w := mw, h := mh, r := mr, n := mn, x := mx, y := my, d := md })), V.str (Cr.c (crOf { w := mw, h := mh, r := mr, n := mn, x := mx, y := my, d := md })), V.int IntKind.i64 (Cr.x (crOf { w := mw, h := mh, r := mr, n := mn, x := mx, y := my, d := md })), V.int IntKind.i64 (Cr.y (crOf { w := mw, h := mh, r := mr, n := mn, x := mx, y := my, d := md })), V.int IntKind.i64 (Cr.d (crOf { w := mw, h := mh, r := mr, n := mn, x := mx, y := my, d := md })), V.str (Cr.l (crOf { w := mw, h := mh, r := mr, n := mn, x := mx, y := my, d := md }))], elem := 61, kind := Kind.box }, 
  { cs := Cells.ints IntKind.i64 (oddW { w := mw, h := mh, r := mr, n := mn, x := mx, y := my, d := md } (Int.toNat a)), elem := 3, kind := Kind.row }]))

def VC_spec_LongestLife (mw : Int) (mh : Int) (mr : List UInt8) (mn : List UInt8) (mx : Int) (my : Int) (md : Int) (K : V → List Blk → Prop) : Prop := At True ∧ ((!womB { w := mw, h := mh, r := mr, n := mn, x := mx, y := my, d := md }) 
  = true → K (V.tup [V.raw (Value.slice none (0 : Nat) (0 : Nat)), V.int IntKind.i64 (0 : Int), V.lit false]) [{ cs := Cells.vals [V.int IntKind.i64 mw, V.int IntKind.i64 mh, V.str mr, V.str mn, V.int IntKind.i64 mx, V.int IntKind.i64 my, V.int IntKind.i64 md], elem := 28, kind := Kind.box }]) 
  ∧ ((!womB { w := mw, h := mh, r := mr, n := mn, x := mx, y := my, d := md }) = false → At True ∧ (True ∧ (((0 : Nat) = (0 : Nat) ∧ (0 : Nat) = (0 : Nat)) ∧ ((2 : Nat) = (2 : Nat) ∧ 
  (0 : Nat) = (0 : Nat)) ∧ (True ∧ (-1 : Int) = Prod.snd (llW { w := mw, h := mh, r := mr, n := mn, x := mx, y := my, d := md } (-1 : Int) (Int.toNat (0 : Int)))) ∧ ((1 : Nat) = (1 : 
  Nat) ∧ (6 : Nat) = (6 : Nat)) ∧ (True ∧ (↑(6 : Nat) : Int) = (6 : Int)) ∧ (True ∧ (0 : Int) = (0 : Int)) ∧ True) ∧ ((True ∧ (True ∧ mw = mw) ∧ (True ∧ mh = mh) ∧ mr = mr ∧ mn = mn ∧ 
  (True ∧ mx = mx) ∧ (True ∧ my = my) ∧ (True ∧ md = md) ∧ True) ∧ (True ∧ tastes = tastes) ∧ (True ∧ nilS = Prod.fst (llW { w := mw, h := mh, r := mr, n := mn, x := mx, y := my, d := md } 
  (-1 : Int) (Int.toNat (0 : Int)))) ∧ True) ∧ True) ∧ At (llInv { w := mw, h := mh, r := mr, n := mn, x := mx, y := my, d := md } (0 : Int)) ∧ ∀ (a : Int), llInv { w := mw, h := mh, r := mr, n := mn, x := mx, y := my, d := md } 
  a → (decide (a < (6 : Int)) = true → At ((0 : Int) ≤ a ∧ a < (↑(6 : Nat) : Int)) ∧ At (Int.toNat a < List.length tastes) ∧ At (womB { w := mw, h := mh, r := mr, n := mn, x := mx, y := my, d := md } 
  = true ∧ tasB (List.getD tastes (Int.toNat a) []) = true) ∧ (decide ((↑(List.length (mealsW (List.getD tastes (Int.toNat a) []) { w := mw, h := mh, r := mr, n := mn, x := mx, y := my, d := md } 
  (lifK (List.getD tastes (Int.toNat a) []) { w := mw, h := mh, r := mr, n := mn, x := mx, y := my, d := md }))) : Int) > Prod.snd (llW { w := mw, h := mh, r := mr, n := mn, x := mx, y := my, d := md } 
  (-1 : Int) (Int.toNat a))) = true → (((↑(List.length (mealsW (List.getD tastes (Int.toNat a) []) { w := mw, h := mh, r := mr, n := mn, x := mx, y := my, d := md } (lifK (List.getD tastes 
  (Int.toNat a) []) { w := mw, h := mh, r := mr, n := mn, x := mx, y := my, d := md }))) : Int) == (↑(List.length (mealsW (List.getD tastes (Int.toNat a) []) { w := mw, h := mh, r := mr, n := mn, x := mx, y := my, d := md } 
  (lifK (List.getD tastes (Int.toNat a) []) { w := mw, h := mh, r := mr, n := mn, x := mx, y := my, d := md }))) : Int)) = true → At ((List.length ([] : List (List UInt8)) = (0 : Nat) 
  * (1 : Nat) ∧ (1 : Nat) * (1 : Nat) ≤ List.length [List.getD tastes (Int.toNat a) []]) ∧ (0 : Nat) < (1 : Nat) ∧ (1 : Nat) ≤ (1000000000 : Nat)) ∧ (True ∧ (((0 : Nat) = (0 : Nat) ∧ 
  (0 : Nat) = (0 : Nat)) ∧ ((2 : Nat) = (2 : Nat) ∧ (1 : Nat) = List.length (Prod.fst (llW { w := mw, h := mh, r := mr, n := mn, x := mx, y := my, d := md } (-1 : Int) (Int.toNat (IntKind.wrap 
  IntKind.i64 (a + (1 : Int))))))) ∧ (True ∧ (↑(List.length (mealsW (List.getD tastes (Int.toNat a) []) { w := mw, h := mh, r := mr, n := mn, x := mx, y := my, d := md } (lifK (List.getD 
  tastes (Int.toNat a) []) { w := mw, h := mh, r := mr, n := mn, x := mx, y := my, d := md }))) : Int) = Prod.snd (llW { w := mw, h := mh, r := mr, n := mn, x := mx, y := my, d := md } 
  (-1 : Int) (Int.toNat (IntKind.wrap IntKind.i64 (a + (1 : Int)))))) ∧ ((1 : Nat) = (1 : Nat) ∧ (6 : Nat) = (6 : Nat)) ∧ (True ∧ (6 : Int) = (6 : Int)) ∧ (True ∧ IntKind.wrap IntKind.i64 
  (a + (1 : Int)) = IntKind.wrap IntKind.i64 (a + (1 : Int))) ∧ True) ∧ ((True ∧ (True ∧ mw = mw) ∧ (True ∧ mh = mh) ∧ mr = mr ∧ mn = mn ∧ (True ∧ mx = mx) ∧ (True ∧ my = my) ∧ (True 
  ∧ md = md) ∧ True) ∧ (True ∧ tastes = tastes) ∧ (True ∧ ([] : List (List UInt8)) ++ List.take ((1 : Nat) * (1 : Nat)) [List.getD tastes (Int.toNat a) []] = Prod.fst (llW { w := mw, h := mh, r := mr, n := mn, x := mx, y := my, d := md } 
  (-1 : Int) (Int.toNat (IntKind.wrap IntKind.i64 (a + (1 : Int)))))) ∧ True) ∧ True) ∧ At (llInv { w := mw, h := mh, r := mr, n := mn, x := mx, y := my, d := md } (IntKind.wrap IntKind.i64 
  (a + (1 : Int))) ∧ Int.toNat ((6 : Int) - IntKind.wrap IntKind.i64 (a + (1 : Int))) < Int.toNat ((6 : Int) - a))) ∧ (((↑(List.length (mealsW (List.getD tastes (Int.toNat a) []) { w := mw, h := mh, r := mr, n := mn, x := mx, y := my, d := md } 
  (lifK (List.getD tastes (Int.toNat a) []) { w := mw, h := mh, r := mr, n := mn, x := mx, y := my, d := md }))) : Int) == (↑(List.length (mealsW (List.getD tastes (Int.toNat a) []) { w := mw, h := mh, r := mr, n := mn, x := mx, y := my, d := md } 
  (lifK (List.getD tastes (Int.toNat a) []) { w := mw, h := mh, r := mr, n := mn, x := mx, y := my, d := md }))) : Int)) = false → (True ∧ (((0 : Nat) = (0 : Nat) ∧ (0 : Nat) = (0 : Nat)) 
  ∧ ((2 : Nat) = (2 : Nat) ∧ (0 : Nat) = List.length (Prod.fst (llW { w := mw, h := mh, r := mr, n := mn, x := mx, y := my, d := md } (-1 : Int) (Int.toNat (IntKind.wrap IntKind.i64 (a 
  + (1 : Int))))))) ∧ (True ∧ (↑(List.length (mealsW (List.getD tastes (Int.toNat a) []) { w := mw, h := mh, r := mr, n := mn, x := mx, y := my, d := md } (lifK (List.getD tastes (Int.toNat 
  a) []) { w := mw, h := mh, r := mr, n := mn, x := mx, y := my, d := md }))) : Int) = Prod.snd (llW { w := mw, h := mh, r := mr, n := mn, x := mx, y := my, d := md } (-1 : Int) (Int.toNat 
  (IntKind.wrap IntKind.i64 (a + (1 : Int)))))) ∧ ((1 : Nat) = (1 : Nat) ∧ (6 : Nat) = (6 : Nat)) ∧ (True ∧ (6 : Int) = (6 : Int)) ∧ (True ∧ IntKind.wrap IntKind.i64 (a + (1 : Int)) = 
  IntKind.wrap IntKind.i64 (a + (1 : Int))) ∧ True) ∧ ((True ∧ (True ∧ mw = mw) ∧ (True ∧ mh = mh) ∧ mr = mr ∧ mn = mn ∧ (True ∧ mx = mx) ∧ (True ∧ my = my) ∧ (True ∧ md = md) ∧ True) 
  ∧ (True ∧ tastes = tastes) ∧ (True ∧ nilS = Prod.fst (llW { w := mw, h := mh, r := mr, n := mn, x := mx, y := my, d := md } (-1 : Int) (Int.toNat (IntKind.wrap IntKind.i64 (a + (1 : 
  Int)))))) ∧ True) ∧ True) ∧ At (llInv { w := mw, h := mh, r := mr, n := mn, x := mx, y := my, d := md } (IntKind.wrap IntKind.i64 (a + (1 : Int))) ∧ Int.toNat ((6 : Int) - IntKind.wrap 
  IntKind.i64 (a + (1 : Int))) < Int.toNat ((6 : Int) - a)))) ∧ (decide ((↑(List.length (mealsW (List.getD tastes (Int.toNat a) []) { w := mw, h := mh, r := mr, n := mn, x := mx, y := my, d := md } 
  (lifK (List.getD tastes (Int.toNat a) []) { w := mw, h := mh, r := mr, n := mn, x := mx, y := my, d := md }))) : Int) > Prod.snd (llW { w := mw, h := mh, r := mr, n := mn, x := mx, y := my, d := md } 
  (-1 : Int) (Int.toNat a))) = false → (((↑(List.length (mealsW (List.getD tastes (Int.toNat a) []) { w := mw, h := mh, r := mr, n := mn, x := mx, y := my, d := md } (lifK (List.getD 
  tastes (Int.toNat a) []) { w := mw, h := mh, r := mr, n := mn, x := mx, y := my, d := md }))) : Int) == Prod.snd (llW { w := mw, h := mh, r := mr, n := mn, x := mx, y := my, d := md } 
  (-1 : Int) (Int.toNat a))) = true → At ((List.length (Prod.fst (llW { w := mw, h := mh, r := mr, n := mn, x := mx, y := my, d := md } (-1 : Int) (Int.toNat a))) = List.length (Prod.fst 
  (llW { w := mw, h := mh, r := mr, n := mn, x := mx, y := my, d := md } (-1 : Int) (Int.toNat a))) * (1 : Nat) ∧ (1 : Nat) * (1 : Nat) ≤ List.length [List.getD tastes (Int.toNat a) []]) 
  ∧ (0 : Nat) < (1 : Nat) ∧ List.length (Prod.fst (llW { w := mw, h := mh, r := mr, n := mn, x := mx, y := my, d := md } (-1 : Int) (Int.toNat a))) + (1 : Nat) ≤ (1000000000 : Nat)) ∧ 
  (True ∧ (((0 : Nat) = (0 : Nat) ∧ (0 : Nat) = (0 : Nat)) ∧ ((2 : Nat) = (2 : Nat) ∧ List.length (Prod.fst (llW { w := mw, h := mh, r := mr, n := mn, x := mx, y := my, d := md } (-1 
  : Int) (Int.toNat a))) + (1 : Nat) = List.length (Prod.fst (llW { w := mw, h := mh, r := mr, n := mn, x := mx, y := my, d := md } (-1 : Int) (Int.toNat (IntKind.wrap IntKind.i64 (a 
  + (1 : Int))))))) ∧ (True ∧ Prod.snd (llW { w := mw, h := mh, r := mr, n := mn, x := mx, y := my, d := md } (-1 : Int) (Int.toNat a)) = Prod.snd (llW { w := mw, h := mh, r := mr, n := mn, x := mx, y := my, d := md } 
  (-1 : Int) (Int.toNat (IntKind.wrap IntKind.i64 (a + (1 : Int)))))) ∧ ((1 : Nat) = (1 : Nat) ∧ (6 : Nat) = (6 : Nat)) ∧ (True ∧ (6 : Int) = (6 : Int)) ∧ (True ∧ IntKind.wrap IntKind.i64 
  (a + (1 : Int)) = IntKind.wrap IntKind.i64 (a + (1 : Int))) ∧ True) ∧ ((True ∧ (True ∧ mw = mw) ∧ (True ∧ mh = mh) ∧ mr = mr ∧ mn = mn ∧ (True ∧ mx = mx) ∧ (True ∧ my = my) ∧ (True 
  ∧ md = md) ∧ True) ∧ (True ∧ tastes = tastes) ∧ (True ∧ Prod.fst (llW { w := mw, h := mh, r := mr, n := mn, x := mx, y := my, d := md } (-1 : Int) (Int.toNat a)) ++ List.take ((1 : 
  Nat) * (1 : Nat)) [List.getD tastes (Int.toNat a) []] = Prod.fst (llW { w := mw, h := mh, r := mr, n := mn, x := mx, y := my, d := md } (-1 : Int) (Int.toNat (IntKind.wrap IntKind.i64 
  (a + (1 : Int)))))) ∧ True) ∧ True) ∧ At (llInv { w := mw, h := mh, r := mr, n := mn, x := mx, y := my, d := md } (IntKind.wrap IntKind.i64 (a + (1 : Int))) ∧ Int.toNat ((6 : Int) - 
  IntKind.wrap IntKind.i64 (a + (1 : Int))) < Int.toNat ((6 : Int) - a))) ∧ (((↑(List.length (mealsW (List.getD tastes (Int.toNat a) []) { w := mw, h := mh, r := mr, n := mn, x := mx, y := my, d := md } 
  (lifK (List.getD tastes (Int.toNat a) []) { w := mw, h := mh, r := mr, n := mn, x := mx, y := my, d := md }))) : Int) == Prod.snd (llW { w := mw, h := mh, r := mr, n := mn, x := mx, y := my, d := md } 
  (-1 : Int) (Int.toNat a))) = false → (True ∧ (((0 : Nat) = (0 : Nat) ∧ (0 : Nat) = (0 : Nat)) ∧ ((2 : Nat) = (2 : Nat) ∧ List.length (Prod.fst (llW { w := mw, h := mh, r := mr, n := mn, x := mx, y := my, d := md } 
  (-1 : Int) (Int.toNat a))) = List.length (Prod.fst (llW { w := mw, h := mh, r := mr, n := mn, x := mx, y := my, d := md } (-1 : Int) (Int.toNat (IntKind.wrap IntKind.i64 (a + (1 : Int))))))) 
  ∧ (True ∧ Prod.snd (llW { w := mw, h := mh, r := mr, n := mn, x := mx, y := my, d := md } (-1 : Int) (Int.toNat a)) = Prod.snd (llW { w := mw, h := mh, r := mr, n := mn, x := mx, y := my, d := md } 
  (-1 : Int) (Int.toNat (IntKind.wrap IntKind.i64 (a + (1 : Int)))))) ∧ ((1 : Nat) = (1 : Nat) ∧ (6 : Nat) = (6 : Nat)) ∧ (True ∧ (6 : Int) = (6 : Int)) ∧ (True ∧ IntKind.wrap IntKind.i64 
  (a + (1 : Int)) = IntKind.wrap IntKind.i64 (a + (1 : Int))) ∧ True) ∧ ((True ∧ (True ∧ mw = mw) ∧ (True ∧ mh = mh) ∧ mr = mr ∧ mn = mn ∧ (True ∧ mx = mx) ∧ (True ∧ my = my) ∧ (True 
  ∧ md = md) ∧ True) ∧ (True ∧ tastes = tastes) ∧ (True ∧ Prod.fst (llW { w := mw, h := mh, r := mr, n := mn, x := mx, y := my, d := md } (-1 : Int) (Int.toNat a)) = Prod.fst (llW { w := mw, h := mh, r := mr, n := mn, x := mx, y := my, d := md } 
  (-1 : Int) (Int.toNat (IntKind.wrap IntKind.i64 (a + (1 : Int)))))) ∧ True) ∧ True) ∧ At (llInv { w := mw, h := mh, r := mr, n := mn, x := mx, y := my, d := md } (IntKind.wrap IntKind.i64 
  (a + (1 : Int))) ∧ Int.toNat ((6 : Int) - IntKind.wrap IntKind.i64 (a + (1 : Int))) < Int.toNat ((6 : Int) - a))))) ∧ (decide (a < (6 : Int)) = false → K (V.tup [V.row (2 : Nat) (List.length 
  (Prod.fst (llW { w := mw, h := mh, r := mr, n := mn, x := mx, y := my, d := md } (-1 : Int) (Int.toNat a)))), V.int IntKind.i64 (Prod.snd (llW { w := mw, h := mh, r := mr, n := mn, x := mx, y := my, d := md } 
  (-1 : Int) (Int.toNat a))), V.lit true]) [{ cs := Cells.vals [V.int IntKind.i64 mw, V.int IntKind.i64 mh, V.str mr, V.str mn, V.int IntKind.i64 mx, V.int IntKind.i64 my, V.int IntKind.i64 md], elem := 28, kind := Kind.box }, 
  { cs := Cells.strs tastes, elem := 9, kind := Kind.row }, { cs := Cells.strs (Prod.fst (llW { w := mw, h := mh, r := mr, n := mn, x := mx, y := my, d := md } (-1 : Int) (Int.toNat a))), elem := 9, kind := Kind.row }]))

def VC_impl_LongestLife (mw : Int) (mh : Int) (mr : List UInt8) (mn : List UInt8) (mx : Int) (my : Int) (md : Int) (g0 : List UInt8) (g1 : List UInt8) (g2 : List UInt8) (g3 : List UInt8) 
  (g4 : List UInt8) (g5 : List UInt8) (K : V → List Blk → Prop) : Prop := At True ∧ ((!womB { w := mw, h := mh, r := mr, n := mn, x := mx, y := my, d := md }) = true → K (V.tup [V.raw 
  (Value.slice none (0 : Nat) (0 : Nat)), V.int IntKind.i64 (0 : Int), V.lit false]) [{ cs := Cells.vals [V.str g0, V.str g1, V.str g2, V.str g3, V.str g4, V.str g5], elem := 9, kind := Kind.gl 0 }, 
  { cs := Cells.vals [V.int IntKind.i64 mw, V.int IntKind.i64 mh, V.str mr, V.str mn, V.int IntKind.i64 mx, V.int IntKind.i64 my, V.int IntKind.i64 md], elem := 28, kind := Kind.box }]) 
  ∧ ((!womB { w := mw, h := mh, r := mr, n := mn, x := mx, y := my, d := md }) = false → (True ∧ (((1 : Nat) = (1 : Nat) ∧ (0 : Nat) = (0 : Nat)) ∧ ((2 : Nat) = (2 : Nat) ∧ (0 : Nat) 
  = (0 : Nat)) ∧ (True ∧ (0 : Int) = Prod.snd (llW { w := mw, h := mh, r := mr, n := mn, x := mx, y := my, d := md } (0 : Int) (Int.toNat (0 : Int)))) ∧ (g0 = g0 ∧ g1 = g1 ∧ g2 = g2 ∧ 
  g3 = g3 ∧ g4 = g4 ∧ g5 = g5 ∧ True) ∧ (True ∧ (0 : Int) = (0 : Int)) ∧ True) ∧ ((True ∧ g0 = g0 ∧ g1 = g1 ∧ g2 = g2 ∧ g3 = g3 ∧ g4 = g4 ∧ g5 = g5 ∧ True) ∧ (True ∧ (True ∧ mw = mw) 
  ∧ (True ∧ mh = mh) ∧ mr = mr ∧ mn = mn ∧ (True ∧ mx = mx) ∧ (True ∧ my = my) ∧ (True ∧ md = md) ∧ True) ∧ (True ∧ nilS = Prod.fst (llW { w := mw, h := mh, r := mr, n := mn, x := mx, y := my, d := md } 
  (0 : Int) (Int.toNat (0 : Int)))) ∧ True) ∧ True) ∧ At (llInv { w := mw, h := mh, r := mr, n := mn, x := mx, y := my, d := md } (0 : Int)) ∧ ∀ (a : Int), llInv { w := mw, h := mh, r := mr, n := mn, x := mx, y := my, d := md } 
  a → (decide (a < (6 : Int)) = true → At ((0 : Int) ≤ a ∧ a < (↑(6 : Nat) : Int)) ∧ At (isTs g0 g1 g2 g3 g4 g5) ∧ (decide ((↑(List.length (mlR (List.getD [g0, g1, g2, g3, g4, g5] (Int.toNat 
  a) []) { w := mw, h := mh, r := mr, n := mn, x := mx, y := my, d := md })) : Int) > Prod.snd (llW { w := mw, h := mh, r := mr, n := mn, x := mx, y := my, d := md } (0 : Int) (Int.toNat 
  a))) = true → (((↑(List.length (mlR (List.getD [g0, g1, g2, g3, g4, g5] (Int.toNat a) []) { w := mw, h := mh, r := mr, n := mn, x := mx, y := my, d := md })) : Int) == (↑(List.length 
  (mlR (List.getD [g0, g1, g2, g3, g4, g5] (Int.toNat a) []) { w := mw, h := mh, r := mr, n := mn, x := mx, y := my, d := md })) : Int)) = true → At ((List.length ([] : List (List UInt8)) 
  = (0 : Nat) * (1 : Nat) ∧ (1 : Nat) * (1 : Nat) ≤ List.length [List.getD [g0, g1, g2, g3, g4, g5] (Int.toNat a) []]) ∧ (0 : Nat) < (1 : Nat) ∧ (1 : Nat) ≤ (1000000000 : Nat)) ∧ (True 
  ∧ (((1 : Nat) = (1 : Nat) ∧ (0 : Nat) = (0 : Nat)) ∧ ((2 : Nat) = (2 : Nat) ∧ (1 : Nat) = List.length (Prod.fst (llW { w := mw, h := mh, r := mr, n := mn, x := mx, y := my, d := md } 
  (0 : Int) (Int.toNat (IntKind.wrap IntKind.i64 (a + (1 : Int))))))) ∧ (True ∧ (↑(List.length (mlR (List.getD [g0, g1, g2, g3, g4, g5] (Int.toNat a) []) { w := mw, h := mh, r := mr, n := mn, x := mx, y := my, d := md })) 
  : Int) = Prod.snd (llW { w := mw, h := mh, r := mr, n := mn, x := mx, y := my, d := md } (0 : Int) (Int.toNat (IntKind.wrap IntKind.i64 (a + (1 : Int)))))) ∧ (g0 = g0 ∧ g1 = g1 ∧ g2 
  = g2 ∧ g3 = g3 ∧ g4 = g4 ∧ g5 = g5 ∧ True) ∧ (True ∧ IntKind.wrap IntKind.i64 (a + (1 : Int)) = IntKind.wrap IntKind.i64 (a + (1 : Int))) ∧ True) ∧ ((True ∧ g0 = g0 ∧ g1 = g1 ∧ g2 = 
  g2 ∧ g3 = g3 ∧ g4 = g4 ∧ g5 = g5 ∧ True) ∧ (True ∧ (True ∧ mw = mw) ∧ (True ∧ mh = mh) ∧ mr = mr ∧ mn = mn ∧ (True ∧ mx = mx) ∧ (True ∧ my = my) ∧ (True ∧ md = md) ∧ True) ∧ (True ∧ 
  ([] : List (List UInt8)) ++ List.take ((1 : Nat) * (1 : Nat)) [List.getD [g0, g1, g2, g3, g4, g5] (Int.toNat a) []] = Prod.fst (llW { w := mw, h := mh, r := mr, n := mn, x := mx, y := my, d := md } 
  (0 : Int) (Int.toNat (IntKind.wrap IntKind.i64 (a + (1 : Int)))))) ∧ True) ∧ True) ∧ At (llInv { w := mw, h := mh, r := mr, n := mn, x := mx, y := my, d := md } (IntKind.wrap IntKind.i64 
  (a + (1 : Int))) ∧ Int.toNat ((6 : Int) - IntKind.wrap IntKind.i64 (a + (1 : Int))) < Int.toNat ((6 : Int) - a))) ∧ (((↑(List.length (mlR (List.getD [g0, g1, g2, g3, g4, g5] (Int.toNat 
  a) []) { w := mw, h := mh, r := mr, n := mn, x := mx, y := my, d := md })) : Int) == (↑(List.length (mlR (List.getD [g0, g1, g2, g3, g4, g5] (Int.toNat a) []) { w := mw, h := mh, r := mr, n := mn, x := mx, y := my, d := md })) 
  : Int)) = false → (True ∧ (((1 : Nat) = (1 : Nat) ∧ (0 : Nat) = (0 : Nat)) ∧ ((2 : Nat) = (2 : Nat) ∧ (0 : Nat) = List.length (Prod.fst (llW { w := mw, h := mh, r := mr, n := mn, x := mx, y := my, d := md } 
  (0 : Int) (Int.toNat (IntKind.wrap IntKind.i64 (a + (1 : Int))))))) ∧ (True ∧ (↑(List.length (mlR (List.getD [g0, g1, g2, g3, g4, g5] (Int.toNat a) []) { w := mw, h := mh, r := mr, n := mn, x := mx, y := my, d := md })) 
  : Int) = Prod.snd (llW { w := mw, h := mh, r := mr, n := mn, x := mx, y := my, d := md } (0 : Int) (Int.toNat (IntKind.wrap IntKind.i64 (a + (1 : Int)))))) ∧ (g0 = g0 ∧ g1 = g1 ∧ g2 
  = g2 ∧ g3 = g3 ∧ g4 = g4 ∧ g5 = g5 ∧ True) ∧ (True ∧ IntKind.wrap IntKind.i64 (a + (1 : Int)) = IntKind.wrap IntKind.i64 (a + (1 : Int))) ∧ True) ∧ ((True ∧ g0 = g0 ∧ g1 = g1 ∧ g2 = 
  g2 ∧ g3 = g3 ∧ g4 = g4 ∧ g5 = g5 ∧ True) ∧ (True ∧ (True ∧ mw = mw) ∧ (True ∧ mh = mh) ∧ mr = mr ∧ mn = mn ∧ (True ∧ mx = mx) ∧ (True ∧ my = my) ∧ (True ∧ md = md) ∧ True) ∧ (True ∧ 
  nilS = Prod.fst (llW { w := mw, h := mh, r := mr, n := mn, x := mx, y := my, d := md } (0 : Int) (Int.toNat (IntKind.wrap IntKind.i64 (a + (1 : Int)))))) ∧ True) ∧ True) ∧ At (llInv 
  { w := mw, h := mh, r := mr, n := mn, x := mx, y := my, d := md } (IntKind.wrap IntKind.i64 (a + (1 : Int))) ∧ Int.toNat ((6 : Int) - IntKind.wrap IntKind.i64 (a + (1 : Int))) < Int.toNat 
  ((6 : Int) - a)))) ∧ (decide ((↑(List.length (mlR (List.getD [g0, g1, g2, g3, g4, g5] (Int.toNat a) []) { w := mw, h := mh, r := mr, n := mn, x := mx, y := my, d := md })) : Int) > 
  Prod.snd (llW { w := mw, h := mh, r := mr, n := mn, x := mx, y := my, d := md } (0 : Int) (Int.toNat a))) = false → (((↑(List.length (mlR (List.getD [g0, g1, g2, g3, g4, g5] (Int.toNat 
  a) []) { w := mw, h := mh, r := mr, n := mn, x := mx, y := my, d := md })) : Int) == Prod.snd (llW { w := mw, h := mh, r := mr, n := mn, x := mx, y := my, d := md } (0 : Int) (Int.toNat 
  a))) = true → At ((List.length (Prod.fst (llW { w := mw, h := mh, r := mr, n := mn, x := mx, y := my, d := md } (0 : Int) (Int.toNat a))) = List.length (Prod.fst (llW { w := mw, h := mh, r := mr, n := mn, x := mx, y := my, d := md } 
  (0 : Int) (Int.toNat a))) * (1 : Nat) ∧ (1 : Nat) * (1 : Nat) ≤ List.length [List.getD [g0, g1, g2, g3, g4, g5] (Int.toNat a) []]) ∧ (0 : Nat) < (1 : Nat) ∧ List.length (Prod.fst (llW 
  { w := mw, h := mh, r := mr, n := mn, x := mx, y := my, d := md } (0 : Int) (Int.toNat a))) + (1 : Nat) ≤ (1000000000 : Nat)) ∧ (True ∧ (((1 : Nat) = (1 : Nat) ∧ (0 : Nat) = (0 : Nat)) 
  ∧ ((2 : Nat) = (2 : Nat) ∧ List.length (Prod.fst (llW { w := mw, h := mh, r := mr, n := mn, x := mx, y := my, d := md } (0 : Int) (Int.toNat a))) + (1 : Nat) = List.length (Prod.fst 
  (llW { w := mw, h := mh, r := mr, n := mn, x := mx, y := my, d := md } (0 : Int) (Int.toNat (IntKind.wrap IntKind.i64 (a + (1 : Int))))))) ∧ (True ∧ Prod.snd (llW { w := mw, h := mh, r := mr, n := mn, x := mx, y := my, d := md } 
  (0 : Int) (Int.toNat a)) = Prod.snd (llW { w := mw, h := mh, r := mr, n := mn, x := mx, y := my, d := md } (0 : Int) (Int.toNat (IntKind.wrap IntKind.i64 (a + (1 : Int)))))) ∧ (g0 = 
  g0 ∧ g1 = g1 ∧ g2 = g2 ∧ g3 = g3 ∧ g4 = g4 ∧ g5 = g5 ∧ True) ∧ (True ∧ IntKind.wrap IntKind.i64 (a + (1 : Int)) = IntKind.wrap IntKind.i64 (a + (1 : Int))) ∧ True) ∧ ((True ∧ g0 = g0 
  ∧ g1 = g1 ∧ g2 = g2 ∧ g3 = g3 ∧ g4 = g4 ∧ g5 = g5 ∧ True) ∧ (True ∧ (True ∧ mw = mw) ∧ (True ∧ mh = mh) ∧ mr = mr ∧ mn = mn ∧ (True ∧ mx = mx) ∧ (True ∧ my = my) ∧ (True ∧ md = md) 
  ∧ True) ∧ (True ∧ Prod.fst (llW { w := mw, h := mh, r := mr, n := mn, x := mx, y := my, d := md } (0 : Int) (Int.toNat a)) ++ List.take ((1 : Nat) * (1 : Nat)) [List.getD [g0, g1, g2, 
  g3, g4, g5] (Int.toNat a) []] = Prod.fst (llW { w := mw, h := mh, r := mr, n := mn, x := mx, y := my, d := md } (0 : Int) (Int.toNat (IntKind.wrap IntKind.i64 (a + (1 : Int)))))) ∧ 
  True) ∧ True) ∧ At (llInv { w := mw, h := mh, r := mr, n := mn, x := mx, y := my, d := md } (IntKind.wrap IntKind.i64 (a + (1 : Int))) ∧ Int.toNat ((6 : Int) - IntKind.wrap IntKind.i64 
  (a + (1 : Int))) < Int.toNat ((6 : Int) - a))) ∧ (((↑(List.length (mlR (List.getD [g0, g1, g2, g3, g4, g5] (Int.toNat a) []) { w := mw, h := mh, r := mr, n := mn, x := mx, y := my, d := md })) 
  : Int) == Prod.snd (llW { w := mw, h := mh, r := mr, n := mn, x := mx, y := my, d := md } (0 : Int) (Int.toNat a))) = false → (True ∧ (((1 : Nat) = (1 : Nat) ∧ (0 : Nat) = (0 : Nat)) 
  ∧ ((2 : Nat) = (2 : Nat) ∧ List.length (Prod.fst (llW { w := mw, h := mh, r := mr, n := mn, x := mx, y := my, d := md } (0 : Int) (Int.toNat a))) = List.length (Prod.fst (llW { w := mw, h := mh, r := mr, n := mn, x := mx, y := my, d := md } 
  (0 : Int) (Int.toNat (IntKind.wrap IntKind.i64 (a + (1 : Int))))))) ∧ (True ∧ Prod.snd (llW { w := mw, h := mh, r := mr, n := mn, x := mx, y := my, d := md } (0 : Int) (Int.toNat a)) 
  = Prod.snd (llW { w := mw, h := mh, r := mr, n := mn, x := mx, y := my, d := md } (0 : Int) (Int.toNat (IntKind.wrap IntKind.i64 (a + (1 : Int)))))) ∧ (g0 = g0 ∧ g1 = g1 ∧ g2 = g2 ∧ 
  g3 = g3 ∧ g4 = g4 ∧ g5 = g5 ∧ True) ∧ (True ∧ IntKind.wrap IntKind.i64 (a + (1 : Int)) = IntKind.wrap IntKind.i64 (a + (1 : Int))) ∧ True) ∧ ((True ∧ g0 = g0 ∧ g1 = g1 ∧ g2 = g2 ∧ g3 
  = g3 ∧ g4 = g4 ∧ g5 = g5 ∧ True) ∧ (True ∧ (True ∧ mw = mw) ∧ (True ∧ mh = mh) ∧ mr = mr ∧ mn = mn ∧ (True ∧ mx = mx) ∧ (True ∧ my = my) ∧ (True ∧ md = md) ∧ True) ∧ (True ∧ Prod.fst 
  (llW { w := mw, h := mh, r := mr, n := mn, x := mx, y := my, d := md } (0 : Int) (Int.toNat a)) = Prod.fst (llW { w := mw, h := mh, r := mr, n := mn, x := mx, y := my, d := md } (0 
  : Int) (Int.toNat (IntKind.wrap IntKind.i64 (a + (1 : Int)))))) ∧ True) ∧ True) ∧ At (llInv { w := mw, h := mh, r := mr, n := mn, x := mx, y := my, d := md } (IntKind.wrap IntKind.i64 
  (a + (1 : Int))) ∧ Int.toNat ((6 : Int) - IntKind.wrap IntKind.i64 (a + (1 : Int))) < Int.toNat ((6 : Int) - a))))) ∧ (decide (a < (6 : Int)) = false → K (V.tup [V.row (2 : Nat) (List.length 
  (Prod.fst (llW { w := mw, h := mh, r := mr, n := mn, x := mx, y := my, d := md } (0 : Int) (Int.toNat a)))), V.int IntKind.i64 (Prod.snd (llW { w := mw, h := mh, r := mr, n := mn, x := mx, y := my, d := md } 
  (0 : Int) (Int.toNat a))), V.lit true]) [{ cs := Cells.vals [V.str g0, V.str g1, V.str g2, V.str g3, V.str g4, V.str g5], elem := 9, kind := Kind.gl 0 }, { cs := Cells.vals [V.int IntKind.i64 mw, V.int IntKind.i64 mh, V.str mr, V.str mn, V.int IntKind.i64 mx, V.int IntKind.i64 my, V.int IntKind.i64 md], elem := 28, kind := Kind.box }, 
  { cs := Cells.strs (Prod.fst (llW { w := mw, h := mh, r := mr, n := mn, x := mx, y := my, d := md } (0 : Int) (Int.toNat a))), elem := 9, kind := Kind.row }]))

end Go.Vi
