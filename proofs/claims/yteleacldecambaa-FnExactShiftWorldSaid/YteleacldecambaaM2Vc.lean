/- The conditions, reckoned out by program: texts alone. -/
import Derived.Test.YteleacldecambaaM2Defs
namespace Go.Vi
set_option linter.unusedVariables false
def VC_spec_woZeros (n : Int) (K : V → Prop) : Prop :=
  (((True ∧ n = n) ∧ nilB = List.replicate (Int.toNat (n - n)) (48 : UInt8) ∧ True) ∧ True ∧ True) ∧
  At (zerInv n n) ∧
    ∀ (a : Int),
      zerInv n a →
        (decide (a > (0 : Int)) = true →
            At
                (List.length (List.replicate (Int.toNat (n - a)) (48 : UInt8)) +
                    List.length (Array.toList #[(48 : UInt8)]) ≤
                  (9223372036854775807 : Nat)) ∧
              (((True ∧ IntKind.wrap IntKind.i64 (a - (1 : Int)) = IntKind.wrap IntKind.i64 (a - (1 : Int))) ∧
                    List.replicate (Int.toNat (n - a)) (48 : UInt8) ++ Array.toList #[(48 : UInt8)] =
                        List.replicate (Int.toNat (n - IntKind.wrap IntKind.i64 (a - (1 : Int)))) (48 : UInt8) ∧
                      True) ∧
                  True ∧ True) ∧
                At
                  (zerInv n (IntKind.wrap IntKind.i64 (a - (1 : Int))) ∧
                    Int.toNat (IntKind.wrap IntKind.i64 (a - (1 : Int))) < Int.toNat a)) ∧
          (decide (a > (0 : Int)) = false → K (V.str (List.replicate (Int.toNat (n - a)) (48 : UInt8))))

def VC_spec_woMap (wr : List UInt8) (ww : Int) (wh : Int) (wc : List UInt8) (wx : Int) (wy : Int) (wd : Int) (width : Int) (height : Int) (b0 : Int) (b1 : Int) (b2 : Int) (b3 : Int) 
  (b4 : Int) (b5 : Int) (K : V → Prop) : Prop := (((At ((0 : Int) ≤ IntKind.wrap IntKind.i64 (width * height) ∧ IntKind.wrap IntKind.i64 (width * height) ≤ (1000 : Int)) ∧ (((True ∧ ((True 
  ∧ width = width) ∧ (True ∧ height = height) ∧ ((0 : Nat) = (0 : Nat) ∧ (0 : Nat) = (0 : Nat)) ∧ ((1 : Nat) = (1 : Nat) ∧ (0 : Nat) = (0 : Nat)) ∧ ((2 : Nat) = (2 : Nat) ∧ (0 : Nat) 
  = (0 : Nat)) ∧ ((3 : Nat) = (3 : Nat) ∧ (0 : Nat) = (0 : Nat)) ∧ True) ∧ ((True ∧ wr = wr ∧ (True ∧ ww = ww) ∧ (True ∧ wh = wh) ∧ wc = wc ∧ (True ∧ wx = wx) ∧ (True ∧ wy = wy) ∧ (True 
  ∧ wd = wd) ∧ True) ∧ (True ∧ (True ∧ b0 = b0) ∧ (True ∧ b1 = b1) ∧ (True ∧ b2 = b2) ∧ (True ∧ b3 = b3) ∧ (True ∧ b4 = b4) ∧ (True ∧ b5 = b5) ∧ True) ∧ (True ∧ nilB = nilB ∧ (True ∧ 
  (0 : Int) = (0 : Int)) ∧ (True ∧ (0 : Int) = (0 : Int)) ∧ nilB = nilB ∧ (True ∧ (0 : Int) = (0 : Int)) ∧ (True ∧ (0 : Int) = (0 : Int)) ∧ (True ∧ (0 : Int) = (0 : Int)) ∧ True) ∧ (True 
  ∧ wr = Wd.r (mapAt (plA b0 b1 b2 b3 b4 b5 width height) { r := wr, w := ww, h := wh, c := wc, x := wx, y := wy, d := wd } width height (0 : Nat)) ∧ (True ∧ width = Wd.w (mapAt (plA 
  b0 b1 b2 b3 b4 b5 width height) { r := wr, w := ww, h := wh, c := wc, x := wx, y := wy, d := wd } width height (0 : Nat))) ∧ (True ∧ height = Wd.h (mapAt (plA b0 b1 b2 b3 b4 b5 width 
  height) { r := wr, w := ww, h := wh, c := wc, x := wx, y := wy, d := wd } width height (0 : Nat))) ∧ List.replicate (Int.toNat (IntKind.wrap IntKind.i64 (width * height))) (48 : UInt8) 
  = Wd.c (mapAt (plA b0 b1 b2 b3 b4 b5 width height) { r := wr, w := ww, h := wh, c := wc, x := wx, y := wy, d := wd } width height (0 : Nat)) ∧ (True ∧ (0 : Int) = Wd.x (mapAt (plA b0 
  b1 b2 b3 b4 b5 width height) { r := wr, w := ww, h := wh, c := wc, x := wx, y := wy, d := wd } width height (0 : Nat))) ∧ (True ∧ (0 : Int) = Wd.y (mapAt (plA b0 b1 b2 b3 b4 b5 width 
  height) { r := wr, w := ww, h := wh, c := wc, x := wx, y := wy, d := wd } width height (0 : Nat))) ∧ (True ∧ wd = Wd.d (mapAt (plA b0 b1 b2 b3 b4 b5 width height) { r := wr, w := ww, h := wh, c := wc, x := wx, y := wy, d := wd } 
  width height (0 : Nat))) ∧ True) ∧ True) ∧ True) ∧ True) ∧ True) ∧ ((True ∧ ((True ∧ width = width) ∧ (True ∧ height = height) ∧ ((0 : Nat) = (0 : Nat) ∧ (0 : Nat) = (0 : Nat)) ∧ ((1 
  : Nat) = (1 : Nat) ∧ (0 : Nat) = (0 : Nat)) ∧ ((2 : Nat) = (2 : Nat) ∧ (0 : Nat) = (0 : Nat)) ∧ ((3 : Nat) = (3 : Nat) ∧ (0 : Nat) = (0 : Nat)) ∧ True) ∧ ((True ∧ wr = wr ∧ (True ∧ 
  ww = ww) ∧ (True ∧ wh = wh) ∧ wc = wc ∧ (True ∧ wx = wx) ∧ (True ∧ wy = wy) ∧ (True ∧ wd = wd) ∧ True) ∧ (True ∧ (True ∧ b0 = b0) ∧ (True ∧ b1 = b1) ∧ (True ∧ b2 = b2) ∧ (True ∧ b3 
  = b3) ∧ (True ∧ b4 = b4) ∧ (True ∧ b5 = b5) ∧ True) ∧ (True ∧ nilB = nilB ∧ (True ∧ (0 : Int) = (0 : Int)) ∧ (True ∧ (0 : Int) = (0 : Int)) ∧ nilB = nilB ∧ (True ∧ (0 : Int) = (0 : 
  Int)) ∧ (True ∧ (0 : Int) = (0 : Int)) ∧ (True ∧ (0 : Int) = (0 : Int)) ∧ True) ∧ (True ∧ wr = Wd.r (mapAt (plA b0 b1 b2 b3 b4 b5 width height) { r := wr, w := ww, h := wh, c := wc, x := wx, y := wy, d := wd } 
  width height (0 : Nat)) ∧ (True ∧ width = Wd.w (mapAt (plA b0 b1 b2 b3 b4 b5 width height) { r := wr, w := ww, h := wh, c := wc, x := wx, y := wy, d := wd } width height (0 : Nat))) 
  ∧ (True ∧ height = Wd.h (mapAt (plA b0 b1 b2 b3 b4 b5 width height) { r := wr, w := ww, h := wh, c := wc, x := wx, y := wy, d := wd } width height (0 : Nat))) ∧ List.replicate (Int.toNat 
  (IntKind.wrap IntKind.i64 (width * height))) (48 : UInt8) = Wd.c (mapAt (plA b0 b1 b2 b3 b4 b5 width height) { r := wr, w := ww, h := wh, c := wc, x := wx, y := wy, d := wd } width 
  height (0 : Nat)) ∧ (True ∧ (0 : Int) = Wd.x (mapAt (plA b0 b1 b2 b3 b4 b5 width height) { r := wr, w := ww, h := wh, c := wc, x := wx, y := wy, d := wd } width height (0 : Nat))) ∧ 
  (True ∧ (0 : Int) = Wd.y (mapAt (plA b0 b1 b2 b3 b4 b5 width height) { r := wr, w := ww, h := wh, c := wc, x := wx, y := wy, d := wd } width height (0 : Nat))) ∧ (True ∧ wd = Wd.d (mapAt 
  (plA b0 b1 b2 b3 b4 b5 width height) { r := wr, w := ww, h := wh, c := wc, x := wx, y := wy, d := wd } width height (0 : Nat))) ∧ True) ∧ True) ∧ True) ∧ True) ∧ True) ∧ ((At ((0 : 
  Int) ≤ IntKind.wrap IntKind.i64 (width * height) ∧ IntKind.wrap IntKind.i64 (width * height) ≤ (1000 : Int)) ∧ ((True ∧ ((True ∧ width = width) ∧ (True ∧ height = height) ∧ ((0 : Nat) 
  = (0 : Nat) ∧ (0 : Nat) = (0 : Nat)) ∧ ((1 : Nat) = (1 : Nat) ∧ (0 : Nat) = (0 : Nat)) ∧ ((2 : Nat) = (2 : Nat) ∧ (0 : Nat) = (0 : Nat)) ∧ ((3 : Nat) = (3 : Nat) ∧ (0 : Nat) = (0 : 
  Nat)) ∧ True) ∧ ((True ∧ wr = wr ∧ (True ∧ ww = ww) ∧ (True ∧ wh = wh) ∧ wc = wc ∧ (True ∧ wx = wx) ∧ (True ∧ wy = wy) ∧ (True ∧ wd = wd) ∧ True) ∧ (True ∧ (True ∧ b0 = b0) ∧ (True 
  ∧ b1 = b1) ∧ (True ∧ b2 = b2) ∧ (True ∧ b3 = b3) ∧ (True ∧ b4 = b4) ∧ (True ∧ b5 = b5) ∧ True) ∧ (True ∧ nilB = nilB ∧ (True ∧ (0 : Int) = (0 : Int)) ∧ (True ∧ (0 : Int) = (0 : Int)) 
  ∧ nilB = nilB ∧ (True ∧ (0 : Int) = (0 : Int)) ∧ (True ∧ (0 : Int) = (0 : Int)) ∧ (True ∧ (0 : Int) = (0 : Int)) ∧ True) ∧ (True ∧ wr = Wd.r (mapAt (plA b0 b1 b2 b3 b4 b5 width height) 
  { r := wr, w := ww, h := wh, c := wc, x := wx, y := wy, d := wd } width height (0 : Nat)) ∧ (True ∧ width = Wd.w (mapAt (plA b0 b1 b2 b3 b4 b5 width height) { r := wr, w := ww, h := wh, c := wc, x := wx, y := wy, d := wd } 
  width height (0 : Nat))) ∧ (True ∧ height = Wd.h (mapAt (plA b0 b1 b2 b3 b4 b5 width height) { r := wr, w := ww, h := wh, c := wc, x := wx, y := wy, d := wd } width height (0 : Nat))) 
  ∧ List.replicate (Int.toNat (IntKind.wrap IntKind.i64 (width * height))) (48 : UInt8) = Wd.c (mapAt (plA b0 b1 b2 b3 b4 b5 width height) { r := wr, w := ww, h := wh, c := wc, x := wx, y := wy, d := wd } 
  width height (0 : Nat)) ∧ (True ∧ (0 : Int) = Wd.x (mapAt (plA b0 b1 b2 b3 b4 b5 width height) { r := wr, w := ww, h := wh, c := wc, x := wx, y := wy, d := wd } width height (0 : Nat))) 
  ∧ (True ∧ (0 : Int) = Wd.y (mapAt (plA b0 b1 b2 b3 b4 b5 width height) { r := wr, w := ww, h := wh, c := wc, x := wx, y := wy, d := wd } width height (0 : Nat))) ∧ (True ∧ wd = Wd.d 
  (mapAt (plA b0 b1 b2 b3 b4 b5 width height) { r := wr, w := ww, h := wh, c := wc, x := wx, y := wy, d := wd } width height (0 : Nat))) ∧ True) ∧ True) ∧ True) ∧ True) ∧ True) ∧ ((At 
  ((0 : Int) ≤ IntKind.wrap IntKind.i64 (width * height) ∧ IntKind.wrap IntKind.i64 (width * height) ≤ (1000 : Int)) ∧ (True ∧ ((True ∧ width = width) ∧ (True ∧ height = height) ∧ ((0 
  : Nat) = (0 : Nat) ∧ (0 : Nat) = (0 : Nat)) ∧ ((1 : Nat) = (1 : Nat) ∧ (0 : Nat) = (0 : Nat)) ∧ ((2 : Nat) = (2 : Nat) ∧ (0 : Nat) = (0 : Nat)) ∧ ((3 : Nat) = (3 : Nat) ∧ (0 : Nat) 
  = (0 : Nat)) ∧ True) ∧ ((True ∧ wr = wr ∧ (True ∧ ww = ww) ∧ (True ∧ wh = wh) ∧ wc = wc ∧ (True ∧ wx = wx) ∧ (True ∧ wy = wy) ∧ (True ∧ wd = wd) ∧ True) ∧ (True ∧ (True ∧ b0 = b0) ∧ 
  (True ∧ b1 = b1) ∧ (True ∧ b2 = b2) ∧ (True ∧ b3 = b3) ∧ (True ∧ b4 = b4) ∧ (True ∧ b5 = b5) ∧ True) ∧ (True ∧ nilB = nilB ∧ (True ∧ (0 : Int) = (0 : Int)) ∧ (True ∧ (0 : Int) = (0 
  : Int)) ∧ nilB = nilB ∧ (True ∧ (0 : Int) = (0 : Int)) ∧ (True ∧ (0 : Int) = (0 : Int)) ∧ (True ∧ (0 : Int) = (0 : Int)) ∧ True) ∧ (True ∧ wr = Wd.r (mapAt (plA b0 b1 b2 b3 b4 b5 width 
  height) { r := wr, w := ww, h := wh, c := wc, x := wx, y := wy, d := wd } width height (0 : Nat)) ∧ (True ∧ width = Wd.w (mapAt (plA b0 b1 b2 b3 b4 b5 width height) { r := wr, w := ww, h := wh, c := wc, x := wx, y := wy, d := wd } 
  width height (0 : Nat))) ∧ (True ∧ height = Wd.h (mapAt (plA b0 b1 b2 b3 b4 b5 width height) { r := wr, w := ww, h := wh, c := wc, x := wx, y := wy, d := wd } width height (0 : Nat))) 
  ∧ List.replicate (Int.toNat (IntKind.wrap IntKind.i64 (width * height))) (48 : UInt8) = Wd.c (mapAt (plA b0 b1 b2 b3 b4 b5 width height) { r := wr, w := ww, h := wh, c := wc, x := wx, y := wy, d := wd } 
  width height (0 : Nat)) ∧ (True ∧ (0 : Int) = Wd.x (mapAt (plA b0 b1 b2 b3 b4 b5 width height) { r := wr, w := ww, h := wh, c := wc, x := wx, y := wy, d := wd } width height (0 : Nat))) 
  ∧ (True ∧ (0 : Int) = Wd.y (mapAt (plA b0 b1 b2 b3 b4 b5 width height) { r := wr, w := ww, h := wh, c := wc, x := wx, y := wy, d := wd } width height (0 : Nat))) ∧ (True ∧ wd = Wd.d 
  (mapAt (plA b0 b1 b2 b3 b4 b5 width height) { r := wr, w := ww, h := wh, c := wc, x := wx, y := wy, d := wd } width height (0 : Nat))) ∧ True) ∧ True) ∧ True) ∧ True) ∧ True) ∧ True) 
  ∧ ((At ((0 : Int) ≤ IntKind.wrap IntKind.i64 (width * height) ∧ IntKind.wrap IntKind.i64 (width * height) ≤ (1000 : Int)) ∧ (True ∧ ((True ∧ width = width) ∧ (True ∧ height = height) 
  ∧ ((0 : Nat) = (0 : Nat) ∧ (0 : Nat) = (0 : Nat)) ∧ ((1 : Nat) = (1 : Nat) ∧ (0 : Nat) = (0 : Nat)) ∧ ((2 : Nat) = (2 : Nat) ∧ (0 : Nat) = (0 : Nat)) ∧ ((3 : Nat) = (3 : Nat) ∧ (0 : 
  Nat) = (0 : Nat)) ∧ True) ∧ ((True ∧ wr = wr ∧ (True ∧ ww = ww) ∧ (True ∧ wh = wh) ∧ wc = wc ∧ (True ∧ wx = wx) ∧ (True ∧ wy = wy) ∧ (True ∧ wd = wd) ∧ True) ∧ (True ∧ (True ∧ b0 = 
  b0) ∧ (True ∧ b1 = b1) ∧ (True ∧ b2 = b2) ∧ (True ∧ b3 = b3) ∧ (True ∧ b4 = b4) ∧ (True ∧ b5 = b5) ∧ True) ∧ (True ∧ nilB = nilB ∧ (True ∧ (0 : Int) = (0 : Int)) ∧ (True ∧ (0 : Int) 
  = (0 : Int)) ∧ nilB = nilB ∧ (True ∧ (0 : Int) = (0 : Int)) ∧ (True ∧ (0 : Int) = (0 : Int)) ∧ (True ∧ (0 : Int) = (0 : Int)) ∧ True) ∧ (True ∧ wr = Wd.r (mapAt (plA b0 b1 b2 b3 b4 
  b5 width height) { r := wr, w := ww, h := wh, c := wc, x := wx, y := wy, d := wd } width height (0 : Nat)) ∧ (True ∧ width = Wd.w (mapAt (plA b0 b1 b2 b3 b4 b5 width height) { r := wr, w := ww, h := wh, c := wc, x := wx, y := wy, d := wd } 
  width height (0 : Nat))) ∧ (True ∧ height = Wd.h (mapAt (plA b0 b1 b2 b3 b4 b5 width height) { r := wr, w := ww, h := wh, c := wc, x := wx, y := wy, d := wd } width height (0 : Nat))) 
  ∧ List.replicate (Int.toNat (IntKind.wrap IntKind.i64 (width * height))) (48 : UInt8) = Wd.c (mapAt (plA b0 b1 b2 b3 b4 b5 width height) { r := wr, w := ww, h := wh, c := wc, x := wx, y := wy, d := wd } 
  width height (0 : Nat)) ∧ (True ∧ (0 : Int) = Wd.x (mapAt (plA b0 b1 b2 b3 b4 b5 width height) { r := wr, w := ww, h := wh, c := wc, x := wx, y := wy, d := wd } width height (0 : Nat))) 
  ∧ (True ∧ (0 : Int) = Wd.y (mapAt (plA b0 b1 b2 b3 b4 b5 width height) { r := wr, w := ww, h := wh, c := wc, x := wx, y := wy, d := wd } width height (0 : Nat))) ∧ (True ∧ wd = Wd.d 
  (mapAt (plA b0 b1 b2 b3 b4 b5 width height) { r := wr, w := ww, h := wh, c := wc, x := wx, y := wy, d := wd } width height (0 : Nat))) ∧ True) ∧ True) ∧ True) ∧ True) ∧ ((At ((0 : Int) 
  ≤ IntKind.wrap IntKind.i64 (width * height) ∧ IntKind.wrap IntKind.i64 (width * height) ≤ (1000 : Int)) ∧ (True ∧ ((True ∧ width = width) ∧ (True ∧ height = height) ∧ ((0 : Nat) = (0 
  : Nat) ∧ (0 : Nat) = (0 : Nat)) ∧ ((1 : Nat) = (1 : Nat) ∧ (0 : Nat) = (0 : Nat)) ∧ ((2 : Nat) = (2 : Nat) ∧ (0 : Nat) = (0 : Nat)) ∧ ((3 : Nat) = (3 : Nat) ∧ (0 : Nat) = (0 : Nat)) 
  ∧ True) ∧ ((True ∧ wr = wr ∧ (True ∧ ww = ww) ∧ (True ∧ wh = wh) ∧ wc = wc ∧ (True ∧ wx = wx) ∧ (True ∧ wy = wy) ∧ (True ∧ wd = wd) ∧ True) ∧ (True ∧ (True ∧ b0 = b0) ∧ (True ∧ b1 = 
  b1) ∧ (True ∧ b2 = b2) ∧ (True ∧ b3 = b3) ∧ (True ∧ b4 = b4) ∧ (True ∧ b5 = b5) ∧ True) ∧ (True ∧ nilB = nilB ∧ (True ∧ (0 : Int) = (0 : Int)) ∧ (True ∧ (0 : Int) = (0 : Int)) ∧ nilB 
  = nilB ∧ (True ∧ (0 : Int) = (0 : Int)) ∧ (True ∧ (0 : Int) = (0 : Int)) ∧ (True ∧ (0 : Int) = (0 : Int)) ∧ True) ∧ (True ∧ wr = Wd.r (mapAt (plA b0 b1 b2 b3 b4 b5 width height) { r := wr, w := ww, h := wh, c := wc, x := wx, y := wy, d := wd } 
  width height (0 : Nat)) ∧ (True ∧ width = Wd.w (mapAt (plA b0 b1 b2 b3 b4 b5 width height) { r := wr, w := ww, h := wh, c := wc, x := wx, y := wy, d := wd } width height (0 : Nat))) 
  ∧ (True ∧ height = Wd.h (mapAt (plA b0 b1 b2 b3 b4 b5 width height) { r := wr, w := ww, h := wh, c := wc, x := wx, y := wy, d := wd } width height (0 : Nat))) ∧ List.replicate (Int.toNat 
  (IntKind.wrap IntKind.i64 (width * height))) (48 : UInt8) = Wd.c (mapAt (plA b0 b1 b2 b3 b4 b5 width height) { r := wr, w := ww, h := wh, c := wc, x := wx, y := wy, d := wd } width 
  height (0 : Nat)) ∧ (True ∧ (0 : Int) = Wd.x (mapAt (plA b0 b1 b2 b3 b4 b5 width height) { r := wr, w := ww, h := wh, c := wc, x := wx, y := wy, d := wd } width height (0 : Nat))) ∧ 
  (True ∧ (0 : Int) = Wd.y (mapAt (plA b0 b1 b2 b3 b4 b5 width height) { r := wr, w := ww, h := wh, c := wc, x := wx, y := wy, d := wd } width height (0 : Nat))) ∧ (True ∧ wd = Wd.d (mapAt 
  (plA b0 b1 b2 b3 b4 b5 width height) { r := wr, w := ww, h := wh, c := wc, x := wx, y := wy, d := wd } width height (0 : Nat))) ∧ True) ∧ True) ∧ True) ∧ True) ∧ True) ∧ True) ∧ True) 
  ∧ (At ((0 : Int) ≤ IntKind.wrap IntKind.i64 (width * height) ∧ IntKind.wrap IntKind.i64 (width * height) ≤ (1000 : Int)) ∧ ((((True ∧ ((True ∧ width = width) ∧ (True ∧ height = height) 
  ∧ ((0 : Nat) = (0 : Nat) ∧ (0 : Nat) = (0 : Nat)) ∧ ((1 : Nat) = (1 : Nat) ∧ (0 : Nat) = (0 : Nat)) ∧ ((2 : Nat) = (2 : Nat) ∧ (0 : Nat) = (0 : Nat)) ∧ ((3 : Nat) = (3 : Nat) ∧ (0 : 
  Nat) = (0 : Nat)) ∧ True) ∧ ((True ∧ wr = wr ∧ (True ∧ ww = ww) ∧ (True ∧ wh = wh) ∧ wc = wc ∧ (True ∧ wx = wx) ∧ (True ∧ wy = wy) ∧ (True ∧ wd = wd) ∧ True) ∧ (True ∧ (True ∧ b0 = 
  b0) ∧ (True ∧ b1 = b1) ∧ (True ∧ b2 = b2) ∧ (True ∧ b3 = b3) ∧ (True ∧ b4 = b4) ∧ (True ∧ b5 = b5) ∧ True) ∧ (True ∧ nilB = nilB ∧ (True ∧ (0 : Int) = (0 : Int)) ∧ (True ∧ (0 : Int) 
  = (0 : Int)) ∧ nilB = nilB ∧ (True ∧ (0 : Int) = (0 : Int)) ∧ (True ∧ (0 : Int) = (0 : Int)) ∧ (True ∧ (0 : Int) = (0 : Int)) ∧ True) ∧ (True ∧ wr = Wd.r (mapAt (plA b0 b1 b2 b3 b4 
  b5 width height) { r := wr, w := ww, h := wh, c := wc, x := wx, y := wy, d := wd } width height (0 : Nat)) ∧ (True ∧ width = Wd.w (mapAt (plA b0 b1 b2 b3 b4 b5 width height) { r := wr, w := ww, h := wh, c := wc, x := wx, y := wy, d := wd } 
  width height (0 : Nat))) ∧ (True ∧ height = Wd.h (mapAt (plA b0 b1 b2 b3 b4 b5 width height) { r := wr, w := ww, h := wh, c := wc, x := wx, y := wy, d := wd } width height (0 : Nat))) 
  ∧ List.replicate (Int.toNat (IntKind.wrap IntKind.i64 (width * height))) (48 : UInt8) = Wd.c (mapAt (plA b0 b1 b2 b3 b4 b5 width height) { r := wr, w := ww, h := wh, c := wc, x := wx, y := wy, d := wd } 
  width height (0 : Nat)) ∧ (True ∧ (0 : Int) = Wd.x (mapAt (plA b0 b1 b2 b3 b4 b5 width height) { r := wr, w := ww, h := wh, c := wc, x := wx, y := wy, d := wd } width height (0 : Nat))) 
  ∧ (True ∧ (0 : Int) = Wd.y (mapAt (plA b0 b1 b2 b3 b4 b5 width height) { r := wr, w := ww, h := wh, c := wc, x := wx, y := wy, d := wd } width height (0 : Nat))) ∧ (True ∧ wd = Wd.d 
  (mapAt (plA b0 b1 b2 b3 b4 b5 width height) { r := wr, w := ww, h := wh, c := wc, x := wx, y := wy, d := wd } width height (0 : Nat))) ∧ True) ∧ True) ∧ True) ∧ True) ∧ True) ∧ ((True 
  ∧ ((True ∧ width = width) ∧ (True ∧ height = height) ∧ ((0 : Nat) = (0 : Nat) ∧ (0 : Nat) = (0 : Nat)) ∧ ((1 : Nat) = (1 : Nat) ∧ (0 : Nat) = (0 : Nat)) ∧ ((2 : Nat) = (2 : Nat) ∧ (0 
  : Nat) = (0 : Nat)) ∧ ((3 : Nat) = (3 : Nat) ∧ (0 : Nat) = (0 : Nat)) ∧ True) ∧ ((True ∧ wr = wr ∧ (True ∧ ww = ww) ∧ (True ∧ wh = wh) ∧ wc = wc ∧ (True ∧ wx = wx) ∧ (True ∧ wy = wy) 
  ∧ (True ∧ wd = wd) ∧ True) ∧ (True ∧ (True ∧ b0 = b0) ∧ (True ∧ b1 = b1) ∧ (True ∧ b2 = b2) ∧ (True ∧ b3 = b3) ∧ (True ∧ b4 = b4) ∧ (True ∧ b5 = b5) ∧ True) ∧ (True ∧ nilB = nilB ∧ 
  (True ∧ (0 : Int) = (0 : Int)) ∧ (True ∧ (0 : Int) = (0 : Int)) ∧ nilB = nilB ∧ (True ∧ (0 : Int) = (0 : Int)) ∧ (True ∧ (0 : Int) = (0 : Int)) ∧ (True ∧ (0 : Int) = (0 : Int)) ∧ True) 
  ∧ (True ∧ wr = Wd.r (mapAt (plA b0 b1 b2 b3 b4 b5 width height) { r := wr, w := ww, h := wh, c := wc, x := wx, y := wy, d := wd } width height (0 : Nat)) ∧ (True ∧ width = Wd.w (mapAt 
  (plA b0 b1 b2 b3 b4 b5 width height) { r := wr, w := ww, h := wh, c := wc, x := wx, y := wy, d := wd } width height (0 : Nat))) ∧ (True ∧ height = Wd.h (mapAt (plA b0 b1 b2 b3 b4 b5 
  width height) { r := wr, w := ww, h := wh, c := wc, x := wx, y := wy, d := wd } width height (0 : Nat))) ∧ List.replicate (Int.toNat (IntKind.wrap IntKind.i64 (width * height))) (48 
  : UInt8) = Wd.c (mapAt (plA b0 b1 b2 b3 b4 b5 width height) { r := wr, w := ww, h := wh, c := wc, x := wx, y := wy, d := wd } width height (0 : Nat)) ∧ (True ∧ (0 : Int) = Wd.x (mapAt 
  (plA b0 b1 b2 b3 b4 b5 width height) { r := wr, w := ww, h := wh, c := wc, x := wx, y := wy, d := wd } width height (0 : Nat))) ∧ (True ∧ (0 : Int) = Wd.y (mapAt (plA b0 b1 b2 b3 b4 
  b5 width height) { r := wr, w := ww, h := wh, c := wc, x := wx, y := wy, d := wd } width height (0 : Nat))) ∧ (True ∧ wd = Wd.d (mapAt (plA b0 b1 b2 b3 b4 b5 width height) { r := wr, w := ww, h := wh, c := wc, x := wx, y := wy, d := wd } 
  width height (0 : Nat))) ∧ True) ∧ True) ∧ True) ∧ True) ∧ True) ∧ ((((True ∧ ((True ∧ width = width) ∧ (True ∧ height = height) ∧ ((0 : Nat) = (0 : Nat) ∧ (0 : Nat) = (0 : Nat)) ∧ 
  ((1 : Nat) = (1 : Nat) ∧ (0 : Nat) = (0 : Nat)) ∧ ((2 : Nat) = (2 : Nat) ∧ (0 : Nat) = (0 : Nat)) ∧ ((3 : Nat) = (3 : Nat) ∧ (0 : Nat) = (0 : Nat)) ∧ True) ∧ ((True ∧ wr = wr ∧ (True 
  ∧ ww = ww) ∧ (True ∧ wh = wh) ∧ wc = wc ∧ (True ∧ wx = wx) ∧ (True ∧ wy = wy) ∧ (True ∧ wd = wd) ∧ True) ∧ (True ∧ (True ∧ b0 = b0) ∧ (True ∧ b1 = b1) ∧ (True ∧ b2 = b2) ∧ (True ∧ b3 
  = b3) ∧ (True ∧ b4 = b4) ∧ (True ∧ b5 = b5) ∧ True) ∧ (True ∧ nilB = nilB ∧ (True ∧ (0 : Int) = (0 : Int)) ∧ (True ∧ (0 : Int) = (0 : Int)) ∧ nilB = nilB ∧ (True ∧ (0 : Int) = (0 : 
  Int)) ∧ (True ∧ (0 : Int) = (0 : Int)) ∧ (True ∧ (0 : Int) = (0 : Int)) ∧ True) ∧ (True ∧ wr = Wd.r (mapAt (plA b0 b1 b2 b3 b4 b5 width height) { r := wr, w := ww, h := wh, c := wc, x := wx, y := wy, d := wd } 
  width height (0 : Nat)) ∧ (True ∧ width = Wd.w (mapAt (plA b0 b1 b2 b3 b4 b5 width height) { r := wr, w := ww, h := wh, c := wc, x := wx, y := wy, d := wd } width height (0 : Nat))) 
  ∧ (True ∧ height = Wd.h (mapAt (plA b0 b1 b2 b3 b4 b5 width height) { r := wr, w := ww, h := wh, c := wc, x := wx, y := wy, d := wd } width height (0 : Nat))) ∧ List.replicate (Int.toNat 
  (IntKind.wrap IntKind.i64 (width * height))) (48 : UInt8) = Wd.c (mapAt (plA b0 b1 b2 b3 b4 b5 width height) { r := wr, w := ww, h := wh, c := wc, x := wx, y := wy, d := wd } width 
  height (0 : Nat)) ∧ (True ∧ (0 : Int) = Wd.x (mapAt (plA b0 b1 b2 b3 b4 b5 width height) { r := wr, w := ww, h := wh, c := wc, x := wx, y := wy, d := wd } width height (0 : Nat))) ∧ 
  (True ∧ (0 : Int) = Wd.y (mapAt (plA b0 b1 b2 b3 b4 b5 width height) { r := wr, w := ww, h := wh, c := wc, x := wx, y := wy, d := wd } width height (0 : Nat))) ∧ (True ∧ wd = Wd.d (mapAt 
  (plA b0 b1 b2 b3 b4 b5 width height) { r := wr, w := ww, h := wh, c := wc, x := wx, y := wy, d := wd } width height (0 : Nat))) ∧ True) ∧ True) ∧ True) ∧ True) ∧ True) ∧ ((True ∧ ((True 
  ∧ width = width) ∧ (True ∧ height = height) ∧ ((0 : Nat) = (0 : Nat) ∧ (0 : Nat) = (0 : Nat)) ∧ ((1 : Nat) = (1 : Nat) ∧ (0 : Nat) = (0 : Nat)) ∧ ((2 : Nat) = (2 : Nat) ∧ (0 : Nat) 
  = (0 : Nat)) ∧ ((3 : Nat) = (3 : Nat) ∧ (0 : Nat) = (0 : Nat)) ∧ True) ∧ ((True ∧ wr = wr ∧ (True ∧ ww = ww) ∧ (True ∧ wh = wh) ∧ wc = wc ∧ (True ∧ wx = wx) ∧ (True ∧ wy = wy) ∧ (True 
  ∧ wd = wd) ∧ True) ∧ (True ∧ (True ∧ b0 = b0) ∧ (True ∧ b1 = b1) ∧ (True ∧ b2 = b2) ∧ (True ∧ b3 = b3) ∧ (True ∧ b4 = b4) ∧ (True ∧ b5 = b5) ∧ True) ∧ (True ∧ nilB = nilB ∧ (True ∧ 
  (0 : Int) = (0 : Int)) ∧ (True ∧ (0 : Int) = (0 : Int)) ∧ nilB = nilB ∧ (True ∧ (0 : Int) = (0 : Int)) ∧ (True ∧ (0 : Int) = (0 : Int)) ∧ (True ∧ (0 : Int) = (0 : Int)) ∧ True) ∧ (True 
  ∧ wr = Wd.r (mapAt (plA b0 b1 b2 b3 b4 b5 width height) { r := wr, w := ww, h := wh, c := wc, x := wx, y := wy, d := wd } width height (0 : Nat)) ∧ (True ∧ width = Wd.w (mapAt (plA 
  b0 b1 b2 b3 b4 b5 width height) { r := wr, w := ww, h := wh, c := wc, x := wx, y := wy, d := wd } width height (0 : Nat))) ∧ (True ∧ height = Wd.h (mapAt (plA b0 b1 b2 b3 b4 b5 width 
  height) { r := wr, w := ww, h := wh, c := wc, x := wx, y := wy, d := wd } width height (0 : Nat))) ∧ List.replicate (Int.toNat (IntKind.wrap IntKind.i64 (width * height))) (48 : UInt8) 
  = Wd.c (mapAt (plA b0 b1 b2 b3 b4 b5 width height) { r := wr, w := ww, h := wh, c := wc, x := wx, y := wy, d := wd } width height (0 : Nat)) ∧ (True ∧ (0 : Int) = Wd.x (mapAt (plA b0 
  b1 b2 b3 b4 b5 width height) { r := wr, w := ww, h := wh, c := wc, x := wx, y := wy, d := wd } width height (0 : Nat))) ∧ (True ∧ (0 : Int) = Wd.y (mapAt (plA b0 b1 b2 b3 b4 b5 width 
  height) { r := wr, w := ww, h := wh, c := wc, x := wx, y := wy, d := wd } width height (0 : Nat))) ∧ (True ∧ wd = Wd.d (mapAt (plA b0 b1 b2 b3 b4 b5 width height) { r := wr, w := ww, h := wh, c := wc, x := wx, y := wy, d := wd } 
  width height (0 : Nat))) ∧ True) ∧ True) ∧ True) ∧ True) ∧ True) ∧ ((True ∧ ((True ∧ width = width) ∧ (True ∧ height = height) ∧ ((0 : Nat) = (0 : Nat) ∧ (0 : Nat) = (0 : Nat)) ∧ ((1 
  : Nat) = (1 : Nat) ∧ (0 : Nat) = (0 : Nat)) ∧ ((2 : Nat) = (2 : Nat) ∧ (0 : Nat) = (0 : Nat)) ∧ ((3 : Nat) = (3 : Nat) ∧ (0 : Nat) = (0 : Nat)) ∧ True) ∧ ((True ∧ wr = wr ∧ (True ∧ 
  ww = ww) ∧ (True ∧ wh = wh) ∧ wc = wc ∧ (True ∧ wx = wx) ∧ (True ∧ wy = wy) ∧ (True ∧ wd = wd) ∧ True) ∧ (True ∧ (True ∧ b0 = b0) ∧ (True ∧ b1 = b1) ∧ (True ∧ b2 = b2) ∧ (True ∧ b3 
  = b3) ∧ (True ∧ b4 = b4) ∧ (True ∧ b5 = b5) ∧ True) ∧ (True ∧ nilB = nilB ∧ (True ∧ (0 : Int) = (0 : Int)) ∧ (True ∧ (0 : Int) = (0 : Int)) ∧ nilB = nilB ∧ (True ∧ (0 : Int) = (0 : 
  Int)) ∧ (True ∧ (0 : Int) = (0 : Int)) ∧ (True ∧ (0 : Int) = (0 : Int)) ∧ True) ∧ (True ∧ wr = Wd.r (mapAt (plA b0 b1 b2 b3 b4 b5 width height) { r := wr, w := ww, h := wh, c := wc, x := wx, y := wy, d := wd } 
  width height (0 : Nat)) ∧ (True ∧ width = Wd.w (mapAt (plA b0 b1 b2 b3 b4 b5 width height) { r := wr, w := ww, h := wh, c := wc, x := wx, y := wy, d := wd } width height (0 : Nat))) 
  ∧ (True ∧ height = Wd.h (mapAt (plA b0 b1 b2 b3 b4 b5 width height) { r := wr, w := ww, h := wh, c := wc, x := wx, y := wy, d := wd } width height (0 : Nat))) ∧ List.replicate (Int.toNat 
  (IntKind.wrap IntKind.i64 (width * height))) (48 : UInt8) = Wd.c (mapAt (plA b0 b1 b2 b3 b4 b5 width height) { r := wr, w := ww, h := wh, c := wc, x := wx, y := wy, d := wd } width 
  height (0 : Nat)) ∧ (True ∧ (0 : Int) = Wd.x (mapAt (plA b0 b1 b2 b3 b4 b5 width height) { r := wr, w := ww, h := wh, c := wc, x := wx, y := wy, d := wd } width height (0 : Nat))) ∧ 
  (True ∧ (0 : Int) = Wd.y (mapAt (plA b0 b1 b2 b3 b4 b5 width height) { r := wr, w := ww, h := wh, c := wc, x := wx, y := wy, d := wd } width height (0 : Nat))) ∧ (True ∧ wd = Wd.d (mapAt 
  (plA b0 b1 b2 b3 b4 b5 width height) { r := wr, w := ww, h := wh, c := wc, x := wx, y := wy, d := wd } width height (0 : Nat))) ∧ True) ∧ True) ∧ True) ∧ True) ∧ True) ∧ (((At ((0 : 
  Int) ≤ IntKind.wrap IntKind.i64 (width * height) ∧ IntKind.wrap IntKind.i64 (width * height) ≤ (1000 : Int)) ∧ ((True ∧ ((True ∧ width = width) ∧ (True ∧ height = height) ∧ ((0 : Nat) 
  = (0 : Nat) ∧ (0 : Nat) = (0 : Nat)) ∧ ((1 : Nat) = (1 : Nat) ∧ (0 : Nat) = (0 : Nat)) ∧ ((2 : Nat) = (2 : Nat) ∧ (0 : Nat) = (0 : Nat)) ∧ ((3 : Nat) = (3 : Nat) ∧ (0 : Nat) = (0 : 
  Nat)) ∧ True) ∧ ((True ∧ wr = wr ∧ (True ∧ ww = ww) ∧ (True ∧ wh = wh) ∧ wc = wc ∧ (True ∧ wx = wx) ∧ (True ∧ wy = wy) ∧ (True ∧ wd = wd) ∧ True) ∧ (True ∧ (True ∧ b0 = b0) ∧ (True 
  ∧ b1 = b1) ∧ (True ∧ b2 = b2) ∧ (True ∧ b3 = b3) ∧ (True ∧ b4 = b4) ∧ (True ∧ b5 = b5) ∧ True) ∧ (True ∧ nilB = nilB ∧ (True ∧ (0 : Int) = (0 : Int)) ∧ (True ∧ (0 : Int) = (0 : Int)) 
  ∧ nilB = nilB ∧ (True ∧ (0 : Int) = (0 : Int)) ∧ (True ∧ (0 : Int) = (0 : Int)) ∧ (True ∧ (0 : Int) = (0 : Int)) ∧ True) ∧ (True ∧ wr = Wd.r (mapAt (plA b0 b1 b2 b3 b4 b5 width height) 
  { r := wr, w := ww, h := wh, c := wc, x := wx, y := wy, d := wd } width height (0 : Nat)) ∧ (True ∧ width = Wd.w (mapAt (plA b0 b1 b2 b3 b4 b5 width height) { r := wr, w := ww, h := wh, c := wc, x := wx, y := wy, d := wd } 
  width height (0 : Nat))) ∧ (True ∧ height = Wd.h (mapAt (plA b0 b1 b2 b3 b4 b5 width height) { r := wr, w := ww, h := wh, c := wc, x := wx, y := wy, d := wd } width height (0 : Nat))) 
  ∧ List.replicate (Int.toNat (IntKind.wrap IntKind.i64 (width * height))) (48 : UInt8) = Wd.c (mapAt (plA b0 b1 b2 b3 b4 b5 width height) { r := wr, w := ww, h := wh, c := wc, x := wx, y := wy, d := wd } 
  width height (0 : Nat)) ∧ (True ∧ (0 : Int) = Wd.x (mapAt (plA b0 b1 b2 b3 b4 b5 width height) { r := wr, w := ww, h := wh, c := wc, x := wx, y := wy, d := wd } width height (0 : Nat))) 
  ∧ (True ∧ (0 : Int) = Wd.y (mapAt (plA b0 b1 b2 b3 b4 b5 width height) { r := wr, w := ww, h := wh, c := wc, x := wx, y := wy, d := wd } width height (0 : Nat))) ∧ (True ∧ wd = Wd.d 
  (mapAt (plA b0 b1 b2 b3 b4 b5 width height) { r := wr, w := ww, h := wh, c := wc, x := wx, y := wy, d := wd } width height (0 : Nat))) ∧ True) ∧ True) ∧ True) ∧ True) ∧ True) ∧ ((At 
  ((0 : Int) ≤ IntKind.wrap IntKind.i64 (width * height) ∧ IntKind.wrap IntKind.i64 (width * height) ≤ (1000 : Int)) ∧ (True ∧ ((True ∧ width = width) ∧ (True ∧ height = height) ∧ ((0 
  : Nat) = (0 : Nat) ∧ (0 : Nat) = (0 : Nat)) ∧ ((1 : Nat) = (1 : Nat) ∧ (0 : Nat) = (0 : Nat)) ∧ ((2 : Nat) = (2 : Nat) ∧ (0 : Nat) = (0 : Nat)) ∧ ((3 : Nat) = (3 : Nat) ∧ (0 : Nat) 
  = (0 : Nat)) ∧ True) ∧ ((True ∧ wr = wr ∧ (True ∧ ww = ww) ∧ (True ∧ wh = wh) ∧ wc = wc ∧ (True ∧ wx = wx) ∧ (True ∧ wy = wy) ∧ (True ∧ wd = wd) ∧ True) ∧ (True ∧ (True ∧ b0 = b0) ∧ 
  (True ∧ b1 = b1) ∧ (True ∧ b2 = b2) ∧ (True ∧ b3 = b3) ∧ (True ∧ b4 = b4) ∧ (True ∧ b5 = b5) ∧ True) ∧ (True ∧ nilB = nilB ∧ (True ∧ (0 : Int) = (0 : Int)) ∧ (True ∧ (0 : Int) = (0 
  : Int)) ∧ nilB = nilB ∧ (True ∧ (0 : Int) = (0 : Int)) ∧ (True ∧ (0 : Int) = (0 : Int)) ∧ (True ∧ (0 : Int) = (0 : Int)) ∧ True) ∧ (True ∧ wr = Wd.r (mapAt (plA b0 b1 b2 b3 b4 b5 width 
  height) { r := wr, w := ww, h := wh, c := wc, x := wx, y := wy, d := wd } width height (0 : Nat)) ∧ (True ∧ width = Wd.w (mapAt (plA b0 b1 b2 b3 b4 b5 width height) { r := wr, w := ww, h := wh, c := wc, x := wx, y := wy, d := wd } 
  width height (0 : Nat))) ∧ (True ∧ height = Wd.h (mapAt (plA b0 b1 b2 b3 b4 b5 width height) { r := wr, w := ww, h := wh, c := wc, x := wx, y := wy, d := wd } width height (0 : Nat))) 
  ∧ List.replicate (Int.toNat (IntKind.wrap IntKind.i64 (width * height))) (48 : UInt8) = Wd.c (mapAt (plA b0 b1 b2 b3 b4 b5 width height) { r := wr, w := ww, h := wh, c := wc, x := wx, y := wy, d := wd } 
  width height (0 : Nat)) ∧ (True ∧ (0 : Int) = Wd.x (mapAt (plA b0 b1 b2 b3 b4 b5 width height) { r := wr, w := ww, h := wh, c := wc, x := wx, y := wy, d := wd } width height (0 : Nat))) 
  ∧ (True ∧ (0 : Int) = Wd.y (mapAt (plA b0 b1 b2 b3 b4 b5 width height) { r := wr, w := ww, h := wh, c := wc, x := wx, y := wy, d := wd } width height (0 : Nat))) ∧ (True ∧ wd = Wd.d 
  (mapAt (plA b0 b1 b2 b3 b4 b5 width height) { r := wr, w := ww, h := wh, c := wc, x := wx, y := wy, d := wd } width height (0 : Nat))) ∧ True) ∧ True) ∧ True) ∧ True) ∧ True) ∧ True) 
  ∧ (At ((0 : Int) ≤ IntKind.wrap IntKind.i64 (width * height) ∧ IntKind.wrap IntKind.i64 (width * height) ≤ (1000 : Int)) ∧ (((True ∧ ((True ∧ width = width) ∧ (True ∧ height = height) 
  ∧ ((0 : Nat) = (0 : Nat) ∧ (0 : Nat) = (0 : Nat)) ∧ ((1 : Nat) = (1 : Nat) ∧ (0 : Nat) = (0 : Nat)) ∧ ((2 : Nat) = (2 : Nat) ∧ (0 : Nat) = (0 : Nat)) ∧ ((3 : Nat) = (3 : Nat) ∧ (0 : 
  Nat) = (0 : Nat)) ∧ True) ∧ ((True ∧ wr = wr ∧ (True ∧ ww = ww) ∧ (True ∧ wh = wh) ∧ wc = wc ∧ (True ∧ wx = wx) ∧ (True ∧ wy = wy) ∧ (True ∧ wd = wd) ∧ True) ∧ (True ∧ (True ∧ b0 = 
  b0) ∧ (True ∧ b1 = b1) ∧ (True ∧ b2 = b2) ∧ (True ∧ b3 = b3) ∧ (True ∧ b4 = b4) ∧ (True ∧ b5 = b5) ∧ True) ∧ (True ∧ nilB = nilB ∧ (True ∧ (0 : Int) = (0 : Int)) ∧ (True ∧ (0 : Int) 
  = (0 : Int)) ∧ nilB = nilB ∧ (True ∧ (0 : Int) = (0 : Int)) ∧ (True ∧ (0 : Int) = (0 : Int)) ∧ (True ∧ (0 : Int) = (0 : Int)) ∧ True) ∧ (True ∧ wr = Wd.r (mapAt (plA b0 b1 b2 b3 b4 
  b5 width height) { r := wr, w := ww, h := wh, c := wc, x := wx, y := wy, d := wd } width height (0 : Nat)) ∧ (True ∧ width = Wd.w (mapAt (plA b0 b1 b2 b3 b4 b5 width height) { r := wr, w := ww, h := wh, c := wc, x := wx, y := wy, d := wd } 
  width height (0 : Nat))) ∧ (True ∧ height = Wd.h (mapAt (plA b0 b1 b2 b3 b4 b5 width height) { r := wr, w := ww, h := wh, c := wc, x := wx, y := wy, d := wd } width height (0 : Nat))) 
  ∧ List.replicate (Int.toNat (IntKind.wrap IntKind.i64 (width * height))) (48 : UInt8) = Wd.c (mapAt (plA b0 b1 b2 b3 b4 b5 width height) { r := wr, w := ww, h := wh, c := wc, x := wx, y := wy, d := wd } 
  width height (0 : Nat)) ∧ (True ∧ (0 : Int) = Wd.x (mapAt (plA b0 b1 b2 b3 b4 b5 width height) { r := wr, w := ww, h := wh, c := wc, x := wx, y := wy, d := wd } width height (0 : Nat))) 
  ∧ (True ∧ (0 : Int) = Wd.y (mapAt (plA b0 b1 b2 b3 b4 b5 width height) { r := wr, w := ww, h := wh, c := wc, x := wx, y := wy, d := wd } width height (0 : Nat))) ∧ (True ∧ wd = Wd.d 
  (mapAt (plA b0 b1 b2 b3 b4 b5 width height) { r := wr, w := ww, h := wh, c := wc, x := wx, y := wy, d := wd } width height (0 : Nat))) ∧ True) ∧ True) ∧ True) ∧ True) ∧ True) ∧ ((True 
  ∧ ((True ∧ width = width) ∧ (True ∧ height = height) ∧ ((0 : Nat) = (0 : Nat) ∧ (0 : Nat) = (0 : Nat)) ∧ ((1 : Nat) = (1 : Nat) ∧ (0 : Nat) = (0 : Nat)) ∧ ((2 : Nat) = (2 : Nat) ∧ (0 
  : Nat) = (0 : Nat)) ∧ ((3 : Nat) = (3 : Nat) ∧ (0 : Nat) = (0 : Nat)) ∧ True) ∧ ((True ∧ wr = wr ∧ (True ∧ ww = ww) ∧ (True ∧ wh = wh) ∧ wc = wc ∧ (True ∧ wx = wx) ∧ (True ∧ wy = wy) 
  ∧ (True ∧ wd = wd) ∧ True) ∧ (True ∧ (True ∧ b0 = b0) ∧ (True ∧ b1 = b1) ∧ (True ∧ b2 = b2) ∧ (True ∧ b3 = b3) ∧ (True ∧ b4 = b4) ∧ (True ∧ b5 = b5) ∧ True) ∧ (True ∧ nilB = nilB ∧ 
  (True ∧ (0 : Int) = (0 : Int)) ∧ (True ∧ (0 : Int) = (0 : Int)) ∧ nilB = nilB ∧ (True ∧ (0 : Int) = (0 : Int)) ∧ (True ∧ (0 : Int) = (0 : Int)) ∧ (True ∧ (0 : Int) = (0 : Int)) ∧ True) 
  ∧ (True ∧ wr = Wd.r (mapAt (plA b0 b1 b2 b3 b4 b5 width height) { r := wr, w := ww, h := wh, c := wc, x := wx, y := wy, d := wd } width height (0 : Nat)) ∧ (True ∧ width = Wd.w (mapAt 
  (plA b0 b1 b2 b3 b4 b5 width height) { r := wr, w := ww, h := wh, c := wc, x := wx, y := wy, d := wd } width height (0 : Nat))) ∧ (True ∧ height = Wd.h (mapAt (plA b0 b1 b2 b3 b4 b5 
  width height) { r := wr, w := ww, h := wh, c := wc, x := wx, y := wy, d := wd } width height (0 : Nat))) ∧ List.replicate (Int.toNat (IntKind.wrap IntKind.i64 (width * height))) (48 
  : UInt8) = Wd.c (mapAt (plA b0 b1 b2 b3 b4 b5 width height) { r := wr, w := ww, h := wh, c := wc, x := wx, y := wy, d := wd } width height (0 : Nat)) ∧ (True ∧ (0 : Int) = Wd.x (mapAt 
  (plA b0 b1 b2 b3 b4 b5 width height) { r := wr, w := ww, h := wh, c := wc, x := wx, y := wy, d := wd } width height (0 : Nat))) ∧ (True ∧ (0 : Int) = Wd.y (mapAt (plA b0 b1 b2 b3 b4 
  b5 width height) { r := wr, w := ww, h := wh, c := wc, x := wx, y := wy, d := wd } width height (0 : Nat))) ∧ (True ∧ wd = Wd.d (mapAt (plA b0 b1 b2 b3 b4 b5 width height) { r := wr, w := ww, h := wh, c := wc, x := wx, y := wy, d := wd } 
  width height (0 : Nat))) ∧ True) ∧ True) ∧ True) ∧ True) ∧ True) ∧ (((At ((0 : Int) ≤ IntKind.wrap IntKind.i64 (width * height) ∧ IntKind.wrap IntKind.i64 (width * height) ≤ (1000 : 
  Int)) ∧ (True ∧ ((True ∧ width = width) ∧ (True ∧ height = height) ∧ ((0 : Nat) = (0 : Nat) ∧ (0 : Nat) = (0 : Nat)) ∧ ((1 : Nat) = (1 : Nat) ∧ (0 : Nat) = (0 : Nat)) ∧ ((2 : Nat) = 
  (2 : Nat) ∧ (0 : Nat) = (0 : Nat)) ∧ ((3 : Nat) = (3 : Nat) ∧ (0 : Nat) = (0 : Nat)) ∧ True) ∧ ((True ∧ wr = wr ∧ (True ∧ ww = ww) ∧ (True ∧ wh = wh) ∧ wc = wc ∧ (True ∧ wx = wx) ∧ 
  (True ∧ wy = wy) ∧ (True ∧ wd = wd) ∧ True) ∧ (True ∧ (True ∧ b0 = b0) ∧ (True ∧ b1 = b1) ∧ (True ∧ b2 = b2) ∧ (True ∧ b3 = b3) ∧ (True ∧ b4 = b4) ∧ (True ∧ b5 = b5) ∧ True) ∧ (True 
  ∧ nilB = nilB ∧ (True ∧ (0 : Int) = (0 : Int)) ∧ (True ∧ (0 : Int) = (0 : Int)) ∧ nilB = nilB ∧ (True ∧ (0 : Int) = (0 : Int)) ∧ (True ∧ (0 : Int) = (0 : Int)) ∧ (True ∧ (0 : Int) = 
  (0 : Int)) ∧ True) ∧ (True ∧ wr = Wd.r (mapAt (plA b0 b1 b2 b3 b4 b5 width height) { r := wr, w := ww, h := wh, c := wc, x := wx, y := wy, d := wd } width height (0 : Nat)) ∧ (True 
  ∧ width = Wd.w (mapAt (plA b0 b1 b2 b3 b4 b5 width height) { r := wr, w := ww, h := wh, c := wc, x := wx, y := wy, d := wd } width height (0 : Nat))) ∧ (True ∧ height = Wd.h (mapAt 
  (plA b0 b1 b2 b3 b4 b5 width height) { r := wr, w := ww, h := wh, c := wc, x := wx, y := wy, d := wd } width height (0 : Nat))) ∧ List.replicate (Int.toNat (IntKind.wrap IntKind.i64 
  (width * height))) (48 : UInt8) = Wd.c (mapAt (plA b0 b1 b2 b3 b4 b5 width height) { r := wr, w := ww, h := wh, c := wc, x := wx, y := wy, d := wd } width height (0 : Nat)) ∧ (True 
  ∧ (0 : Int) = Wd.x (mapAt (plA b0 b1 b2 b3 b4 b5 width height) { r := wr, w := ww, h := wh, c := wc, x := wx, y := wy, d := wd } width height (0 : Nat))) ∧ (True ∧ (0 : Int) = Wd.y 
  (mapAt (plA b0 b1 b2 b3 b4 b5 width height) { r := wr, w := ww, h := wh, c := wc, x := wx, y := wy, d := wd } width height (0 : Nat))) ∧ (True ∧ wd = Wd.d (mapAt (plA b0 b1 b2 b3 b4 
  b5 width height) { r := wr, w := ww, h := wh, c := wc, x := wx, y := wy, d := wd } width height (0 : Nat))) ∧ True) ∧ True) ∧ True) ∧ True) ∧ True) ∧ (At ((0 : Int) ≤ IntKind.wrap IntKind.i64 
  (width * height) ∧ IntKind.wrap IntKind.i64 (width * height) ≤ (1000 : Int)) ∧ (True ∧ ((True ∧ width = width) ∧ (True ∧ height = height) ∧ ((0 : Nat) = (0 : Nat) ∧ (0 : Nat) = (0 : 
  Nat)) ∧ ((1 : Nat) = (1 : Nat) ∧ (0 : Nat) = (0 : Nat)) ∧ ((2 : Nat) = (2 : Nat) ∧ (0 : Nat) = (0 : Nat)) ∧ ((3 : Nat) = (3 : Nat) ∧ (0 : Nat) = (0 : Nat)) ∧ True) ∧ ((True ∧ wr = wr 
  ∧ (True ∧ ww = ww) ∧ (True ∧ wh = wh) ∧ wc = wc ∧ (True ∧ wx = wx) ∧ (True ∧ wy = wy) ∧ (True ∧ wd = wd) ∧ True) ∧ (True ∧ (True ∧ b0 = b0) ∧ (True ∧ b1 = b1) ∧ (True ∧ b2 = b2) ∧ (True 
  ∧ b3 = b3) ∧ (True ∧ b4 = b4) ∧ (True ∧ b5 = b5) ∧ True) ∧ (True ∧ nilB = nilB ∧ (True ∧ (0 : Int) = (0 : Int)) ∧ (True ∧ (0 : Int) = (0 : Int)) ∧ nilB = nilB ∧ (True ∧ (0 : Int) = 
  (0 : Int)) ∧ (True ∧ (0 : Int) = (0 : Int)) ∧ (True ∧ (0 : Int) = (0 : Int)) ∧ True) ∧ (True ∧ wr = Wd.r (mapAt (plA b0 b1 b2 b3 b4 b5 width height) { r := wr, w := ww, h := wh, c := wc, x := wx, y := wy, d := wd } 
  width height (0 : Nat)) ∧ (True ∧ width = Wd.w (mapAt (plA b0 b1 b2 b3 b4 b5 width height) { r := wr, w := ww, h := wh, c := wc, x := wx, y := wy, d := wd } width height (0 : Nat))) 
  ∧ (True ∧ height = Wd.h (mapAt (plA b0 b1 b2 b3 b4 b5 width height) { r := wr, w := ww, h := wh, c := wc, x := wx, y := wy, d := wd } width height (0 : Nat))) ∧ List.replicate (Int.toNat 
  (IntKind.wrap IntKind.i64 (width * height))) (48 : UInt8) = Wd.c (mapAt (plA b0 b1 b2 b3 b4 b5 width height) { r := wr, w := ww, h := wh, c := wc, x := wx, y := wy, d := wd } width 
  height (0 : Nat)) ∧ (True ∧ (0 : Int) = Wd.x (mapAt (plA b0 b1 b2 b3 b4 b5 width height) { r := wr, w := ww, h := wh, c := wc, x := wx, y := wy, d := wd } width height (0 : Nat))) ∧ 
  (True ∧ (0 : Int) = Wd.y (mapAt (plA b0 b1 b2 b3 b4 b5 width height) { r := wr, w := ww, h := wh, c := wc, x := wx, y := wy, d := wd } width height (0 : Nat))) ∧ (True ∧ wd = Wd.d (mapAt 
  (plA b0 b1 b2 b3 b4 b5 width height) { r := wr, w := ww, h := wh, c := wc, x := wx, y := wy, d := wd } width height (0 : Nat))) ∧ True) ∧ True) ∧ True) ∧ True) ∧ True) ∧ True) ∧ (((At 
  ((0 : Int) ≤ IntKind.wrap IntKind.i64 (width * height) ∧ IntKind.wrap IntKind.i64 (width * height) ≤ (1000 : Int)) ∧ (True ∧ ((True ∧ width = width) ∧ (True ∧ height = height) ∧ ((0 
  : Nat) = (0 : Nat) ∧ (0 : Nat) = (0 : Nat)) ∧ ((1 : Nat) = (1 : Nat) ∧ (0 : Nat) = (0 : Nat)) ∧ ((2 : Nat) = (2 : Nat) ∧ (0 : Nat) = (0 : Nat)) ∧ ((3 : Nat) = (3 : Nat) ∧ (0 : Nat) 
  = (0 : Nat)) ∧ True) ∧ ((True ∧ wr = wr ∧ (True ∧ ww = ww) ∧ (True ∧ wh = wh) ∧ wc = wc ∧ (True ∧ wx = wx) ∧ (True ∧ wy = wy) ∧ (True ∧ wd = wd) ∧ True) ∧ (True ∧ (True ∧ b0 = b0) ∧ 
  (True ∧ b1 = b1) ∧ (True ∧ b2 = b2) ∧ (True ∧ b3 = b3) ∧ (True ∧ b4 = b4) ∧ (True ∧ b5 = b5) ∧ True) ∧ (True ∧ nilB = nilB ∧ (True ∧ (0 : Int) = (0 : Int)) ∧ (True ∧ (0 : Int) = (0 
  : Int)) ∧ nilB = nilB ∧ (True ∧ (0 : Int) = (0 : Int)) ∧ (True ∧ (0 : Int) = (0 : Int)) ∧ (True ∧ (0 : Int) = (0 : Int)) ∧ True) ∧ (True ∧ wr = Wd.r (mapAt (plA b0 b1 b2 b3 b4 b5 width 
  height) { r := wr, w := ww, h := wh, c := wc, x := wx, y := wy, d := wd } width height (0 : Nat)) ∧ (True ∧ width = Wd.w (mapAt (plA b0 b1 b2 b3 b4 b5 width height) { r := wr, w := ww, h := wh, c := wc, x := wx, y := wy, d := wd } 
  width height (0 : Nat))) ∧ (True ∧ height = Wd.h (mapAt (plA b0 b1 b2 b3 b4 b5 width height) { r := wr, w := ww, h := wh, c := wc, x := wx, y := wy, d := wd } width height (0 : Nat))) 
  ∧ List.replicate (Int.toNat (IntKind.wrap IntKind.i64 (width * height))) (48 : UInt8) = Wd.c (mapAt (plA b0 b1 b2 b3 b4 b5 width height) { r := wr, w := ww, h := wh, c := wc, x := wx, y := wy, d := wd } 
  width height (0 : Nat)) ∧ (True ∧ (0 : Int) = Wd.x (mapAt (plA b0 b1 b2 b3 b4 b5 width height) { r := wr, w := ww, h := wh, c := wc, x := wx, y := wy, d := wd } width height (0 : Nat))) 
  ∧ (True ∧ (0 : Int) = Wd.y (mapAt (plA b0 b1 b2 b3 b4 b5 width height) { r := wr, w := ww, h := wh, c := wc, x := wx, y := wy, d := wd } width height (0 : Nat))) ∧ (True ∧ wd = Wd.d 
  (mapAt (plA b0 b1 b2 b3 b4 b5 width height) { r := wr, w := ww, h := wh, c := wc, x := wx, y := wy, d := wd } width height (0 : Nat))) ∧ True) ∧ True) ∧ True) ∧ True) ∧ ((At ((0 : Int) 
  ≤ IntKind.wrap IntKind.i64 (width * height) ∧ IntKind.wrap IntKind.i64 (width * height) ≤ (1000 : Int)) ∧ (True ∧ ((True ∧ width = width) ∧ (True ∧ height = height) ∧ ((0 : Nat) = (0 
  : Nat) ∧ (0 : Nat) = (0 : Nat)) ∧ ((1 : Nat) = (1 : Nat) ∧ (0 : Nat) = (0 : Nat)) ∧ ((2 : Nat) = (2 : Nat) ∧ (0 : Nat) = (0 : Nat)) ∧ ((3 : Nat) = (3 : Nat) ∧ (0 : Nat) = (0 : Nat)) 
  ∧ True) ∧ ((True ∧ wr = wr ∧ (True ∧ ww = ww) ∧ (True ∧ wh = wh) ∧ wc = wc ∧ (True ∧ wx = wx) ∧ (True ∧ wy = wy) ∧ (True ∧ wd = wd) ∧ True) ∧ (True ∧ (True ∧ b0 = b0) ∧ (True ∧ b1 = 
  b1) ∧ (True ∧ b2 = b2) ∧ (True ∧ b3 = b3) ∧ (True ∧ b4 = b4) ∧ (True ∧ b5 = b5) ∧ True) ∧ (True ∧ nilB = nilB ∧ (True ∧ (0 : Int) = (0 : Int)) ∧ (True ∧ (0 : Int) = (0 : Int)) ∧ nilB 
  = nilB ∧ (True ∧ (0 : Int) = (0 : Int)) ∧ (True ∧ (0 : Int) = (0 : Int)) ∧ (True ∧ (0 : Int) = (0 : Int)) ∧ True) ∧ (True ∧ wr = Wd.r (mapAt (plA b0 b1 b2 b3 b4 b5 width height) { r := wr, w := ww, h := wh, c := wc, x := wx, y := wy, d := wd } 
  width height (0 : Nat)) ∧ (True ∧ width = Wd.w (mapAt (plA b0 b1 b2 b3 b4 b5 width height) { r := wr, w := ww, h := wh, c := wc, x := wx, y := wy, d := wd } width height (0 : Nat))) 
  ∧ (True ∧ height = Wd.h (mapAt (plA b0 b1 b2 b3 b4 b5 width height) { r := wr, w := ww, h := wh, c := wc, x := wx, y := wy, d := wd } width height (0 : Nat))) ∧ List.replicate (Int.toNat 
  (IntKind.wrap IntKind.i64 (width * height))) (48 : UInt8) = Wd.c (mapAt (plA b0 b1 b2 b3 b4 b5 width height) { r := wr, w := ww, h := wh, c := wc, x := wx, y := wy, d := wd } width 
  height (0 : Nat)) ∧ (True ∧ (0 : Int) = Wd.x (mapAt (plA b0 b1 b2 b3 b4 b5 width height) { r := wr, w := ww, h := wh, c := wc, x := wx, y := wy, d := wd } width height (0 : Nat))) ∧ 
  (True ∧ (0 : Int) = Wd.y (mapAt (plA b0 b1 b2 b3 b4 b5 width height) { r := wr, w := ww, h := wh, c := wc, x := wx, y := wy, d := wd } width height (0 : Nat))) ∧ (True ∧ wd = Wd.d (mapAt 
  (plA b0 b1 b2 b3 b4 b5 width height) { r := wr, w := ww, h := wh, c := wc, x := wx, y := wy, d := wd } width height (0 : Nat))) ∧ True) ∧ True) ∧ True) ∧ True) ∧ True) ∧ True) ∧ (At 
  ((0 : Int) ≤ IntKind.wrap IntKind.i64 (width * height) ∧ IntKind.wrap IntKind.i64 (width * height) ≤ (1000 : Int)) ∧ (True ∧ ((True ∧ width = width) ∧ (True ∧ height = height) ∧ ((0 
  : Nat) = (0 : Nat) ∧ (0 : Nat) = (0 : Nat)) ∧ ((1 : Nat) = (1 : Nat) ∧ (0 : Nat) = (0 : Nat)) ∧ ((2 : Nat) = (2 : Nat) ∧ (0 : Nat) = (0 : Nat)) ∧ ((3 : Nat) = (3 : Nat) ∧ (0 : Nat) 
  = (0 : Nat)) ∧ True) ∧ ((True ∧ wr = wr ∧ (True ∧ ww = ww) ∧ (True ∧ wh = wh) ∧ wc = wc ∧ (True ∧ wx = wx) ∧ (True ∧ wy = wy) ∧ (True ∧ wd = wd) ∧ True) ∧ (True ∧ (True ∧ b0 = b0) ∧ 
  (True ∧ b1 = b1) ∧ (True ∧ b2 = b2) ∧ (True ∧ b3 = b3) ∧ (True ∧ b4 = b4) ∧ (True ∧ b5 = b5) ∧ True) ∧ (True ∧ nilB = nilB ∧ (True ∧ (0 : Int) = (0 : Int)) ∧ (True ∧ (0 : Int) = (0 
  : Int)) ∧ nilB = nilB ∧ (True ∧ (0 : Int) = (0 : Int)) ∧ (True ∧ (0 : Int) = (0 : Int)) ∧ (True ∧ (0 : Int) = (0 : Int)) ∧ True) ∧ (True ∧ wr = Wd.r (mapAt (plA b0 b1 b2 b3 b4 b5 width 
  height) { r := wr, w := ww, h := wh, c := wc, x := wx, y := wy, d := wd } width height (0 : Nat)) ∧ (True ∧ width = Wd.w (mapAt (plA b0 b1 b2 b3 b4 b5 width height) { r := wr, w := ww, h := wh, c := wc, x := wx, y := wy, d := wd } 
  width height (0 : Nat))) ∧ (True ∧ height = Wd.h (mapAt (plA b0 b1 b2 b3 b4 b5 width height) { r := wr, w := ww, h := wh, c := wc, x := wx, y := wy, d := wd } width height (0 : Nat))) 
  ∧ List.replicate (Int.toNat (IntKind.wrap IntKind.i64 (width * height))) (48 : UInt8) = Wd.c (mapAt (plA b0 b1 b2 b3 b4 b5 width height) { r := wr, w := ww, h := wh, c := wc, x := wx, y := wy, d := wd } 
  width height (0 : Nat)) ∧ (True ∧ (0 : Int) = Wd.x (mapAt (plA b0 b1 b2 b3 b4 b5 width height) { r := wr, w := ww, h := wh, c := wc, x := wx, y := wy, d := wd } width height (0 : Nat))) 
  ∧ (True ∧ (0 : Int) = Wd.y (mapAt (plA b0 b1 b2 b3 b4 b5 width height) { r := wr, w := ww, h := wh, c := wc, x := wx, y := wy, d := wd } width height (0 : Nat))) ∧ (True ∧ wd = Wd.d 
  (mapAt (plA b0 b1 b2 b3 b4 b5 width height) { r := wr, w := ww, h := wh, c := wc, x := wx, y := wy, d := wd } width height (0 : Nat))) ∧ True) ∧ True) ∧ True) ∧ True) ∧ (((At ((0 : 
  Int) ≤ IntKind.wrap IntKind.i64 (width * height) ∧ IntKind.wrap IntKind.i64 (width * height) ≤ (1000 : Int)) ∧ (True ∧ ((True ∧ width = width) ∧ (True ∧ height = height) ∧ ((0 : Nat) 
  = (0 : Nat) ∧ (0 : Nat) = (0 : Nat)) ∧ ((1 : Nat) = (1 : Nat) ∧ (0 : Nat) = (0 : Nat)) ∧ ((2 : Nat) = (2 : Nat) ∧ (0 : Nat) = (0 : Nat)) ∧ ((3 : Nat) = (3 : Nat) ∧ (0 : Nat) = (0 : 
  Nat)) ∧ True) ∧ ((True ∧ wr = wr ∧ (True ∧ ww = ww) ∧ (True ∧ wh = wh) ∧ wc = wc ∧ (True ∧ wx = wx) ∧ (True ∧ wy = wy) ∧ (True ∧ wd = wd) ∧ True) ∧ (True ∧ (True ∧ b0 = b0) ∧ (True 
  ∧ b1 = b1) ∧ (True ∧ b2 = b2) ∧ (True ∧ b3 = b3) ∧ (True ∧ b4 = b4) ∧ (True ∧ b5 = b5) ∧ True) ∧ (True ∧ nilB = nilB ∧ (True ∧ (0 : Int) = (0 : Int)) ∧ (True ∧ (0 : Int) = (0 : Int)) 
  ∧ nilB = nilB ∧ (True ∧ (0 : Int) = (0 : Int)) ∧ (True ∧ (0 : Int) = (0 : Int)) ∧ (True ∧ (0 : Int) = (0 : Int)) ∧ True) ∧ (True ∧ wr = Wd.r (mapAt (plA b0 b1 b2 b3 b4 b5 width height) 
  { r := wr, w := ww, h := wh, c := wc, x := wx, y := wy, d := wd } width height (0 : Nat)) ∧ (True ∧ width = Wd.w (mapAt (plA b0 b1 b2 b3 b4 b5 width height) { r := wr, w := ww, h := wh, c := wc, x := wx, y := wy, d := wd } 
  width height (0 : Nat))) ∧ (True ∧ height = Wd.h (mapAt (plA b0 b1 b2 b3 b4 b5 width height) { r := wr, w := ww, h := wh, c := wc, x := wx, y := wy, d := wd } width height (0 : Nat))) 
  ∧ List.replicate (Int.toNat (IntKind.wrap IntKind.i64 (width * height))) (48 : UInt8) = Wd.c (mapAt (plA b0 b1 b2 b3 b4 b5 width height) { r := wr, w := ww, h := wh, c := wc, x := wx, y := wy, d := wd } 
  width height (0 : Nat)) ∧ (True ∧ (0 : Int) = Wd.x (mapAt (plA b0 b1 b2 b3 b4 b5 width height) { r := wr, w := ww, h := wh, c := wc, x := wx, y := wy, d := wd } width height (0 : Nat))) 
  ∧ (True ∧ (0 : Int) = Wd.y (mapAt (plA b0 b1 b2 b3 b4 b5 width height) { r := wr, w := ww, h := wh, c := wc, x := wx, y := wy, d := wd } width height (0 : Nat))) ∧ (True ∧ wd = Wd.d 
  (mapAt (plA b0 b1 b2 b3 b4 b5 width height) { r := wr, w := ww, h := wh, c := wc, x := wx, y := wy, d := wd } width height (0 : Nat))) ∧ True) ∧ True) ∧ True) ∧ True) ∧ True) ∧ (At 
  ((0 : Int) ≤ IntKind.wrap IntKind.i64 (width * height) ∧ IntKind.wrap IntKind.i64 (width * height) ≤ (1000 : Int)) ∧ (True ∧ ((True ∧ width = width) ∧ (True ∧ height = height) ∧ ((0 
  : Nat) = (0 : Nat) ∧ (0 : Nat) = (0 : Nat)) ∧ ((1 : Nat) = (1 : Nat) ∧ (0 : Nat) = (0 : Nat)) ∧ ((2 : Nat) = (2 : Nat) ∧ (0 : Nat) = (0 : Nat)) ∧ ((3 : Nat) = (3 : Nat) ∧ (0 : Nat) 
  = (0 : Nat)) ∧ True) ∧ ((True ∧ wr = wr ∧ (True ∧ ww = ww) ∧ (True ∧ wh = wh) ∧ wc = wc ∧ (True ∧ wx = wx) ∧ (True ∧ wy = wy) ∧ (True ∧ wd = wd) ∧ True) ∧ (True ∧ (True ∧ b0 = b0) ∧ 
  (True ∧ b1 = b1) ∧ (True ∧ b2 = b2) ∧ (True ∧ b3 = b3) ∧ (True ∧ b4 = b4) ∧ (True ∧ b5 = b5) ∧ True) ∧ (True ∧ nilB = nilB ∧ (True ∧ (0 : Int) = (0 : Int)) ∧ (True ∧ (0 : Int) = (0 
  : Int)) ∧ nilB = nilB ∧ (True ∧ (0 : Int) = (0 : Int)) ∧ (True ∧ (0 : Int) = (0 : Int)) ∧ (True ∧ (0 : Int) = (0 : Int)) ∧ True) ∧ (True ∧ wr = Wd.r (mapAt (plA b0 b1 b2 b3 b4 b5 width 
  height) { r := wr, w := ww, h := wh, c := wc, x := wx, y := wy, d := wd } width height (0 : Nat)) ∧ (True ∧ width = Wd.w (mapAt (plA b0 b1 b2 b3 b4 b5 width height) { r := wr, w := ww, h := wh, c := wc, x := wx, y := wy, d := wd } 
  width height (0 : Nat))) ∧ (True ∧ height = Wd.h (mapAt (plA b0 b1 b2 b3 b4 b5 width height) { r := wr, w := ww, h := wh, c := wc, x := wx, y := wy, d := wd } width height (0 : Nat))) 
  ∧ List.replicate (Int.toNat (IntKind.wrap IntKind.i64 (width * height))) (48 : UInt8) = Wd.c (mapAt (plA b0 b1 b2 b3 b4 b5 width height) { r := wr, w := ww, h := wh, c := wc, x := wx, y := wy, d := wd } 
  width height (0 : Nat)) ∧ (True ∧ (0 : Int) = Wd.x (mapAt (plA b0 b1 b2 b3 b4 b5 width height) { r := wr, w := ww, h := wh, c := wc, x := wx, y := wy, d := wd } width height (0 : Nat))) 
  ∧ (True ∧ (0 : Int) = Wd.y (mapAt (plA b0 b1 b2 b3 b4 b5 width height) { r := wr, w := ww, h := wh, c := wc, x := wx, y := wy, d := wd } width height (0 : Nat))) ∧ (True ∧ wd = Wd.d 
  (mapAt (plA b0 b1 b2 b3 b4 b5 width height) { r := wr, w := ww, h := wh, c := wc, x := wx, y := wy, d := wd } width height (0 : Nat))) ∧ True) ∧ True) ∧ True) ∧ True) ∧ True) ∧ True) 
  ∧ True) ∧ (((True ∧ width = width) ∧ (True ∧ height = height) ∧ ((0 : Nat) = (0 : Nat) ∧ (0 : Nat) = (0 : Nat)) ∧ ((1 : Nat) = (1 : Nat) ∧ (0 : Nat) = (0 : Nat)) ∧ ((2 : Nat) = (2 : 
  Nat) ∧ (0 : Nat) = (0 : Nat)) ∧ ((3 : Nat) = (3 : Nat) ∧ (0 : Nat) = (0 : Nat)) ∧ (True ∧ (0 : Int) = (0 : Int)) ∧ True) ∧ ((True ∧ wr = wr ∧ (True ∧ ww = ww) ∧ (True ∧ wh = wh) ∧ wc 
  = wc ∧ (True ∧ wx = wx) ∧ (True ∧ wy = wy) ∧ (True ∧ wd = wd) ∧ True) ∧ (True ∧ (True ∧ b0 = b0) ∧ (True ∧ b1 = b1) ∧ (True ∧ b2 = b2) ∧ (True ∧ b3 = b3) ∧ (True ∧ b4 = b4) ∧ (True 
  ∧ b5 = b5) ∧ True) ∧ (True ∧ nilB = nilB ∧ (True ∧ (0 : Int) = (0 : Int)) ∧ (True ∧ (0 : Int) = (0 : Int)) ∧ nilB = nilB ∧ (True ∧ (0 : Int) = (0 : Int)) ∧ (True ∧ (0 : Int) = (0 : 
  Int)) ∧ (True ∧ (0 : Int) = (0 : Int)) ∧ True) ∧ (True ∧ Wd.r (mapAt (plA b0 b1 b2 b3 b4 b5 width height) { r := wr, w := ww, h := wh, c := wc, x := wx, y := wy, d := wd } width height 
  (0 : Nat)) = Wd.r (mapAt (plA b0 b1 b2 b3 b4 b5 width height) { r := wr, w := ww, h := wh, c := wc, x := wx, y := wy, d := wd } width height (Int.toNat ((0 : Int) * ww))) ∧ (True ∧ 
  Wd.w (mapAt (plA b0 b1 b2 b3 b4 b5 width height) { r := wr, w := ww, h := wh, c := wc, x := wx, y := wy, d := wd } width height (0 : Nat)) = Wd.w (mapAt (plA b0 b1 b2 b3 b4 b5 width 
  height) { r := wr, w := ww, h := wh, c := wc, x := wx, y := wy, d := wd } width height (Int.toNat ((0 : Int) * ww)))) ∧ (True ∧ Wd.h (mapAt (plA b0 b1 b2 b3 b4 b5 width height) { r := wr, w := ww, h := wh, c := wc, x := wx, y := wy, d := wd } 
  width height (0 : Nat)) = Wd.h (mapAt (plA b0 b1 b2 b3 b4 b5 width height) { r := wr, w := ww, h := wh, c := wc, x := wx, y := wy, d := wd } width height (Int.toNat ((0 : Int) * ww)))) 
  ∧ Wd.c (mapAt (plA b0 b1 b2 b3 b4 b5 width height) { r := wr, w := ww, h := wh, c := wc, x := wx, y := wy, d := wd } width height (0 : Nat)) = Wd.c (mapAt (plA b0 b1 b2 b3 b4 b5 width 
  height) { r := wr, w := ww, h := wh, c := wc, x := wx, y := wy, d := wd } width height (Int.toNat ((0 : Int) * ww))) ∧ (True ∧ Wd.x (mapAt (plA b0 b1 b2 b3 b4 b5 width height) { r := wr, w := ww, h := wh, c := wc, x := wx, y := wy, d := wd } 
  width height (0 : Nat)) = Wd.x (mapAt (plA b0 b1 b2 b3 b4 b5 width height) { r := wr, w := ww, h := wh, c := wc, x := wx, y := wy, d := wd } width height (Int.toNat ((0 : Int) * ww)))) 
  ∧ (True ∧ Wd.y (mapAt (plA b0 b1 b2 b3 b4 b5 width height) { r := wr, w := ww, h := wh, c := wc, x := wx, y := wy, d := wd } width height (0 : Nat)) = Wd.y (mapAt (plA b0 b1 b2 b3 b4 
  b5 width height) { r := wr, w := ww, h := wh, c := wc, x := wx, y := wy, d := wd } width height (Int.toNat ((0 : Int) * ww)))) ∧ (True ∧ Wd.d (mapAt (plA b0 b1 b2 b3 b4 b5 width height) 
  { r := wr, w := ww, h := wh, c := wc, x := wx, y := wy, d := wd } width height (0 : Nat)) = Wd.d (mapAt (plA b0 b1 b2 b3 b4 b5 width height) { r := wr, w := ww, h := wh, c := wc, x := wx, y := wy, d := wd } 
  width height (Int.toNat ((0 : Int) * ww)))) ∧ True) ∧ True) ∧ True) ∧ At (outInv { r := wr, w := ww, h := wh, c := wc, x := wx, y := wy, d := wd } (0 : Int)) ∧ ∀ (a : Int), outInv { r := wr, w := ww, h := wh, c := wc, x := wx, y := wy, d := wd } 
  a → (decide (a < wh) = true → (((True ∧ width = width) ∧ (True ∧ height = height) ∧ ((0 : Nat) = (0 : Nat) ∧ (0 : Nat) = (0 : Nat)) ∧ ((1 : Nat) = (1 : Nat) ∧ (0 : Nat) = (0 : Nat)) 
  ∧ ((2 : Nat) = (2 : Nat) ∧ (0 : Nat) = (0 : Nat)) ∧ ((3 : Nat) = (3 : Nat) ∧ (0 : Nat) = (0 : Nat)) ∧ (True ∧ a = a) ∧ (True ∧ (0 : Int) = (0 : Int)) ∧ True) ∧ ((True ∧ wr = wr ∧ (True 
  ∧ ww = ww) ∧ (True ∧ wh = wh) ∧ wc = wc ∧ (True ∧ wx = wx) ∧ (True ∧ wy = wy) ∧ (True ∧ wd = wd) ∧ True) ∧ (True ∧ (True ∧ b0 = b0) ∧ (True ∧ b1 = b1) ∧ (True ∧ b2 = b2) ∧ (True ∧ b3 
  = b3) ∧ (True ∧ b4 = b4) ∧ (True ∧ b5 = b5) ∧ True) ∧ (True ∧ nilB = nilB ∧ (True ∧ (0 : Int) = (0 : Int)) ∧ (True ∧ (0 : Int) = (0 : Int)) ∧ nilB = nilB ∧ (True ∧ (0 : Int) = (0 : 
  Int)) ∧ (True ∧ (0 : Int) = (0 : Int)) ∧ (True ∧ (0 : Int) = (0 : Int)) ∧ True) ∧ (True ∧ Wd.r (mapAt (plA b0 b1 b2 b3 b4 b5 width height) { r := wr, w := ww, h := wh, c := wc, x := wx, y := wy, d := wd } 
  width height (Int.toNat (a * ww))) = Wd.r (mapAt (plA b0 b1 b2 b3 b4 b5 width height) { r := wr, w := ww, h := wh, c := wc, x := wx, y := wy, d := wd } width height (Int.toNat (a * 
  ww + (0 : Int)))) ∧ (True ∧ Wd.w (mapAt (plA b0 b1 b2 b3 b4 b5 width height) { r := wr, w := ww, h := wh, c := wc, x := wx, y := wy, d := wd } width height (Int.toNat (a * ww))) = Wd.w 
  (mapAt (plA b0 b1 b2 b3 b4 b5 width height) { r := wr, w := ww, h := wh, c := wc, x := wx, y := wy, d := wd } width height (Int.toNat (a * ww + (0 : Int))))) ∧ (True ∧ Wd.h (mapAt (plA 
  b0 b1 b2 b3 b4 b5 width height) { r := wr, w := ww, h := wh, c := wc, x := wx, y := wy, d := wd } width height (Int.toNat (a * ww))) = Wd.h (mapAt (plA b0 b1 b2 b3 b4 b5 width height) 
  { r := wr, w := ww, h := wh, c := wc, x := wx, y := wy, d := wd } width height (Int.toNat (a * ww + (0 : Int))))) ∧ Wd.c (mapAt (plA b0 b1 b2 b3 b4 b5 width height) { r := wr, w := ww, h := wh, c := wc, x := wx, y := wy, d := wd } 
  width height (Int.toNat (a * ww))) = Wd.c (mapAt (plA b0 b1 b2 b3 b4 b5 width height) { r := wr, w := ww, h := wh, c := wc, x := wx, y := wy, d := wd } width height (Int.toNat (a * 
  ww + (0 : Int)))) ∧ (True ∧ Wd.x (mapAt (plA b0 b1 b2 b3 b4 b5 width height) { r := wr, w := ww, h := wh, c := wc, x := wx, y := wy, d := wd } width height (Int.toNat (a * ww))) = Wd.x 
  (mapAt (plA b0 b1 b2 b3 b4 b5 width height) { r := wr, w := ww, h := wh, c := wc, x := wx, y := wy, d := wd } width height (Int.toNat (a * ww + (0 : Int))))) ∧ (True ∧ Wd.y (mapAt (plA 
  b0 b1 b2 b3 b4 b5 width height) { r := wr, w := ww, h := wh, c := wc, x := wx, y := wy, d := wd } width height (Int.toNat (a * ww))) = Wd.y (mapAt (plA b0 b1 b2 b3 b4 b5 width height) 
  { r := wr, w := ww, h := wh, c := wc, x := wx, y := wy, d := wd } width height (Int.toNat (a * ww + (0 : Int))))) ∧ (True ∧ Wd.d (mapAt (plA b0 b1 b2 b3 b4 b5 width height) { r := wr, w := ww, h := wh, c := wc, x := wx, y := wy, d := wd } 
  width height (Int.toNat (a * ww))) = Wd.d (mapAt (plA b0 b1 b2 b3 b4 b5 width height) { r := wr, w := ww, h := wh, c := wc, x := wx, y := wy, d := wd } width height (Int.toNat (a * 
  ww + (0 : Int))))) ∧ True) ∧ True) ∧ True) ∧ At (inInv { r := wr, w := ww, h := wh, c := wc, x := wx, y := wy, d := wd } a (0 : Int)) ∧ ∀ (a_3 : Int), inInv { r := wr, w := ww, h := wh, c := wc, x := wx, y := wy, d := wd } 
  a a_3 → (decide (a_3 < ww) = true → True ∧ At ((0 : Int) ≤ (0 : Int) ∧ (0 : Int) < (↑(6 : Nat) : Int)) ∧ At ((0 : Int) ≤ (1 : Int) ∧ (1 : Int) < (↑(6 : Nat) : Int)) ∧ At ((0 : Int) 
  ≤ (2 : Int) ∧ (2 : Int) < (↑(6 : Nat) : Int)) ∧ At ((1 : Int) ≤ width ∧ width ≤ (1000 : Int) ∧ (-1000000 : Int) ≤ IntKind.wrap IntKind.i64 (IntKind.wrap IntKind.i64 (IntKind.wrap IntKind.i64 
  (b0 * a_3) + IntKind.wrap IntKind.i64 (b1 * a)) + b2) ∧ IntKind.wrap IntKind.i64 (IntKind.wrap IntKind.i64 (IntKind.wrap IntKind.i64 (b0 * a_3) + IntKind.wrap IntKind.i64 (b1 * a)) 
  + b2) ≤ (1000000 : Int)) ∧ At ((0 : Int) ≤ (3 : Int) ∧ (3 : Int) < (↑(6 : Nat) : Int)) ∧ At ((0 : Int) ≤ (4 : Int) ∧ (4 : Int) < (↑(6 : Nat) : Int)) ∧ At ((0 : Int) ≤ (5 : Int) ∧ (5 
  : Int) < (↑(6 : Nat) : Int)) ∧ At ((1 : Int) ≤ height ∧ height ≤ (1000 : Int) ∧ (-1000000 : Int) ≤ IntKind.wrap IntKind.i64 (IntKind.wrap IntKind.i64 (IntKind.wrap IntKind.i64 (b3 * 
  a_3) + IntKind.wrap IntKind.i64 (b4 * a)) + b5) ∧ IntKind.wrap IntKind.i64 (IntKind.wrap IntKind.i64 (IntKind.wrap IntKind.i64 (b3 * a_3) + IntKind.wrap IntKind.i64 (b4 * a)) + b5) 
  ≤ (1000000 : Int)) ∧ At (goodB { r := wr, w := ww, h := wh, c := wc, x := wx, y := wy, d := wd } = true ∧ hasB { r := wr, w := ww, h := wh, c := wc, x := wx, y := wy, d := wd } a_3 
  a = true) ∧ At (goodB (mapAt (plA b0 b1 b2 b3 b4 b5 width height) { r := wr, w := ww, h := wh, c := wc, x := wx, y := wy, d := wd } width height (Int.toNat (a * ww + a_3))) = true ∧ 
  hasB (mapAt (plA b0 b1 b2 b3 b4 b5 width height) { r := wr, w := ww, h := wh, c := wc, x := wx, y := wy, d := wd } width height (Int.toNat (a * ww + a_3))) (IntKind.wrap IntKind.i64 
  (IntKind.wrap IntKind.i64 (IntKind.wrap IntKind.i64 (b0 * a_3) + IntKind.wrap IntKind.i64 (b1 * a)) + b2) % width) (IntKind.wrap IntKind.i64 (IntKind.wrap IntKind.i64 (IntKind.wrap 
  IntKind.i64 (b3 * a_3) + IntKind.wrap IntKind.i64 (b4 * a)) + b5) % height) = true ∧ (0 : Int) ≤ colAt { r := wr, w := ww, h := wh, c := wc, x := wx, y := wy, d := wd } a_3 a ∧ colAt 
  { r := wr, w := ww, h := wh, c := wc, x := wx, y := wy, d := wd } a_3 a ≤ (9 : Int)) ∧ ((a_3 == wx) = true → ((a == wy) = true → (((True ∧ width = width) ∧ (True ∧ height = height) 
  ∧ ((0 : Nat) = (0 : Nat) ∧ (0 : Nat) = (0 : Nat)) ∧ ((1 : Nat) = (1 : Nat) ∧ (0 : Nat) = (0 : Nat)) ∧ ((2 : Nat) = (2 : Nat) ∧ (0 : Nat) = (0 : Nat)) ∧ ((3 : Nat) = (3 : Nat) ∧ (0 : 
  Nat) = (0 : Nat)) ∧ (True ∧ a = a) ∧ (True ∧ IntKind.wrap IntKind.i64 (a_3 + (1 : Int)) = IntKind.wrap IntKind.i64 (a_3 + (1 : Int))) ∧ True) ∧ ((True ∧ wr = wr ∧ (True ∧ ww = ww) ∧ 
  (True ∧ wh = wh) ∧ wc = wc ∧ (True ∧ wx = wx) ∧ (True ∧ wy = wy) ∧ (True ∧ wd = wd) ∧ True) ∧ (True ∧ (True ∧ b0 = b0) ∧ (True ∧ b1 = b1) ∧ (True ∧ b2 = b2) ∧ (True ∧ b3 = b3) ∧ (True 
  ∧ b4 = b4) ∧ (True ∧ b5 = b5) ∧ True) ∧ (True ∧ nilB = nilB ∧ (True ∧ (0 : Int) = (0 : Int)) ∧ (True ∧ (0 : Int) = (0 : Int)) ∧ nilB = nilB ∧ (True ∧ (0 : Int) = (0 : Int)) ∧ (True 
  ∧ (0 : Int) = (0 : Int)) ∧ (True ∧ (0 : Int) = (0 : Int)) ∧ True) ∧ (True ∧ Wd.r (pntW (mapAt (plA b0 b1 b2 b3 b4 b5 width height) { r := wr, w := ww, h := wh, c := wc, x := wx, y := wy, d := wd } 
  width height (Int.toNat (a * ww + a_3))) (IntKind.wrap IntKind.i64 (IntKind.wrap IntKind.i64 (IntKind.wrap IntKind.i64 (b0 * a_3) + IntKind.wrap IntKind.i64 (b1 * a)) + b2) % width) 
  (IntKind.wrap IntKind.i64 (IntKind.wrap IntKind.i64 (IntKind.wrap IntKind.i64 (b3 * a_3) + IntKind.wrap IntKind.i64 (b4 * a)) + b5) % height) (colAt { r := wr, w := ww, h := wh, c := wc, x := wx, y := wy, d := wd } 
  a_3 a)) = Wd.r (mapAt (plA b0 b1 b2 b3 b4 b5 width height) { r := wr, w := ww, h := wh, c := wc, x := wx, y := wy, d := wd } width height (Int.toNat (a * ww + IntKind.wrap IntKind.i64 
  (a_3 + (1 : Int))))) ∧ (True ∧ Wd.w (pntW (mapAt (plA b0 b1 b2 b3 b4 b5 width height) { r := wr, w := ww, h := wh, c := wc, x := wx, y := wy, d := wd } width height (Int.toNat (a * 
  ww + a_3))) (IntKind.wrap IntKind.i64 (IntKind.wrap IntKind.i64 (IntKind.wrap IntKind.i64 (b0 * a_3) + IntKind.wrap IntKind.i64 (b1 * a)) + b2) % width) (IntKind.wrap IntKind.i64 (IntKind.wrap 
  IntKind.i64 (IntKind.wrap IntKind.i64 (b3 * a_3) + IntKind.wrap IntKind.i64 (b4 * a)) + b5) % height) (colAt { r := wr, w := ww, h := wh, c := wc, x := wx, y := wy, d := wd } a_3 a)) 
  = Wd.w (mapAt (plA b0 b1 b2 b3 b4 b5 width height) { r := wr, w := ww, h := wh, c := wc, x := wx, y := wy, d := wd } width height (Int.toNat (a * ww + IntKind.wrap IntKind.i64 (a_3 
  + (1 : Int)))))) ∧ (True ∧ Wd.h (pntW (mapAt (plA b0 b1 b2 b3 b4 b5 width height) { r := wr, w := ww, h := wh, c := wc, x := wx, y := wy, d := wd } width height (Int.toNat (a * ww + 
  a_3))) (IntKind.wrap IntKind.i64 (IntKind.wrap IntKind.i64 (IntKind.wrap IntKind.i64 (b0 * a_3) + IntKind.wrap IntKind.i64 (b1 * a)) + b2) % width) (IntKind.wrap IntKind.i64 (IntKind.wrap 
  IntKind.i64 (IntKind.wrap IntKind.i64 (b3 * a_3) + IntKind.wrap IntKind.i64 (b4 * a)) + b5) % height) (colAt { r := wr, w := ww, h := wh, c := wc, x := wx, y := wy, d := wd } a_3 a)) 
  = Wd.h (mapAt (plA b0 b1 b2 b3 b4 b5 width height) { r := wr, w := ww, h := wh, c := wc, x := wx, y := wy, d := wd } width height (Int.toNat (a * ww + IntKind.wrap IntKind.i64 (a_3 
  + (1 : Int)))))) ∧ Wd.c (pntW (mapAt (plA b0 b1 b2 b3 b4 b5 width height) { r := wr, w := ww, h := wh, c := wc, x := wx, y := wy, d := wd } width height (Int.toNat (a * ww + a_3))) 
  (IntKind.wrap IntKind.i64 (IntKind.wrap IntKind.i64 (IntKind.wrap IntKind.i64 (b0 * a_3) + IntKind.wrap IntKind.i64 (b1 * a)) + b2) % width) (IntKind.wrap IntKind.i64 (IntKind.wrap 
  IntKind.i64 (IntKind.wrap IntKind.i64 (b3 * a_3) + IntKind.wrap IntKind.i64 (b4 * a)) + b5) % height) (colAt { r := wr, w := ww, h := wh, c := wc, x := wx, y := wy, d := wd } a_3 a)) 
  = Wd.c (mapAt (plA b0 b1 b2 b3 b4 b5 width height) { r := wr, w := ww, h := wh, c := wc, x := wx, y := wy, d := wd } width height (Int.toNat (a * ww + IntKind.wrap IntKind.i64 (a_3 
  + (1 : Int))))) ∧ (True ∧ IntKind.wrap IntKind.i64 (IntKind.wrap IntKind.i64 (IntKind.wrap IntKind.i64 (b0 * a_3) + IntKind.wrap IntKind.i64 (b1 * a)) + b2) % width = Wd.x (mapAt (plA 
  b0 b1 b2 b3 b4 b5 width height) { r := wr, w := ww, h := wh, c := wc, x := wx, y := wy, d := wd } width height (Int.toNat (a * ww + IntKind.wrap IntKind.i64 (a_3 + (1 : Int)))))) ∧ 
  (True ∧ IntKind.wrap IntKind.i64 (IntKind.wrap IntKind.i64 (IntKind.wrap IntKind.i64 (b3 * a_3) + IntKind.wrap IntKind.i64 (b4 * a)) + b5) % height = Wd.y (mapAt (plA b0 b1 b2 b3 b4 
  b5 width height) { r := wr, w := ww, h := wh, c := wc, x := wx, y := wy, d := wd } width height (Int.toNat (a * ww + IntKind.wrap IntKind.i64 (a_3 + (1 : Int)))))) ∧ (True ∧ Wd.d (pntW 
  (mapAt (plA b0 b1 b2 b3 b4 b5 width height) { r := wr, w := ww, h := wh, c := wc, x := wx, y := wy, d := wd } width height (Int.toNat (a * ww + a_3))) (IntKind.wrap IntKind.i64 (IntKind.wrap 
  IntKind.i64 (IntKind.wrap IntKind.i64 (b0 * a_3) + IntKind.wrap IntKind.i64 (b1 * a)) + b2) % width) (IntKind.wrap IntKind.i64 (IntKind.wrap IntKind.i64 (IntKind.wrap IntKind.i64 (b3 
  * a_3) + IntKind.wrap IntKind.i64 (b4 * a)) + b5) % height) (colAt { r := wr, w := ww, h := wh, c := wc, x := wx, y := wy, d := wd } a_3 a)) = Wd.d (mapAt (plA b0 b1 b2 b3 b4 b5 width 
  height) { r := wr, w := ww, h := wh, c := wc, x := wx, y := wy, d := wd } width height (Int.toNat (a * ww + IntKind.wrap IntKind.i64 (a_3 + (1 : Int)))))) ∧ True) ∧ True) ∧ True) ∧ 
  At (inInv { r := wr, w := ww, h := wh, c := wc, x := wx, y := wy, d := wd } a (IntKind.wrap IntKind.i64 (a_3 + (1 : Int))) ∧ Int.toNat (ww - IntKind.wrap IntKind.i64 (a_3 + (1 : Int))) 
  < Int.toNat (ww - a_3))) ∧ ((a == wy) = false → (((True ∧ width = width) ∧ (True ∧ height = height) ∧ ((0 : Nat) = (0 : Nat) ∧ (0 : Nat) = (0 : Nat)) ∧ ((1 : Nat) = (1 : Nat) ∧ (0 : 
  Nat) = (0 : Nat)) ∧ ((2 : Nat) = (2 : Nat) ∧ (0 : Nat) = (0 : Nat)) ∧ ((3 : Nat) = (3 : Nat) ∧ (0 : Nat) = (0 : Nat)) ∧ (True ∧ a = a) ∧ (True ∧ IntKind.wrap IntKind.i64 (a_3 + (1 : 
  Int)) = IntKind.wrap IntKind.i64 (a_3 + (1 : Int))) ∧ True) ∧ ((True ∧ wr = wr ∧ (True ∧ ww = ww) ∧ (True ∧ wh = wh) ∧ wc = wc ∧ (True ∧ wx = wx) ∧ (True ∧ wy = wy) ∧ (True ∧ wd = wd) 
  ∧ True) ∧ (True ∧ (True ∧ b0 = b0) ∧ (True ∧ b1 = b1) ∧ (True ∧ b2 = b2) ∧ (True ∧ b3 = b3) ∧ (True ∧ b4 = b4) ∧ (True ∧ b5 = b5) ∧ True) ∧ (True ∧ nilB = nilB ∧ (True ∧ (0 : Int) = 
  (0 : Int)) ∧ (True ∧ (0 : Int) = (0 : Int)) ∧ nilB = nilB ∧ (True ∧ (0 : Int) = (0 : Int)) ∧ (True ∧ (0 : Int) = (0 : Int)) ∧ (True ∧ (0 : Int) = (0 : Int)) ∧ True) ∧ (True ∧ Wd.r (pntW 
  (mapAt (plA b0 b1 b2 b3 b4 b5 width height) { r := wr, w := ww, h := wh, c := wc, x := wx, y := wy, d := wd } width height (Int.toNat (a * ww + a_3))) (IntKind.wrap IntKind.i64 (IntKind.wrap 
  IntKind.i64 (IntKind.wrap IntKind.i64 (b0 * a_3) + IntKind.wrap IntKind.i64 (b1 * a)) + b2) % width) (IntKind.wrap IntKind.i64 (IntKind.wrap IntKind.i64 (IntKind.wrap IntKind.i64 (b3 
  * a_3) + IntKind.wrap IntKind.i64 (b4 * a)) + b5) % height) (colAt { r := wr, w := ww, h := wh, c := wc, x := wx, y := wy, d := wd } a_3 a)) = Wd.r (mapAt (plA b0 b1 b2 b3 b4 b5 width 
  height) { r := wr, w := ww, h := wh, c := wc, x := wx, y := wy, d := wd } width height (Int.toNat (a * ww + IntKind.wrap IntKind.i64 (a_3 + (1 : Int))))) ∧ (True ∧ Wd.w (pntW (mapAt 
  (plA b0 b1 b2 b3 b4 b5 width height) { r := wr, w := ww, h := wh, c := wc, x := wx, y := wy, d := wd } width height (Int.toNat (a * ww + a_3))) (IntKind.wrap IntKind.i64 (IntKind.wrap 
  IntKind.i64 (IntKind.wrap IntKind.i64 (b0 * a_3) + IntKind.wrap IntKind.i64 (b1 * a)) + b2) % width) (IntKind.wrap IntKind.i64 (IntKind.wrap IntKind.i64 (IntKind.wrap IntKind.i64 (b3 
  * a_3) + IntKind.wrap IntKind.i64 (b4 * a)) + b5) % height) (colAt { r := wr, w := ww, h := wh, c := wc, x := wx, y := wy, d := wd } a_3 a)) = Wd.w (mapAt (plA b0 b1 b2 b3 b4 b5 width 
  height) { r := wr, w := ww, h := wh, c := wc, x := wx, y := wy, d := wd } width height (Int.toNat (a * ww + IntKind.wrap IntKind.i64 (a_3 + (1 : Int)))))) ∧ (True ∧ Wd.h (pntW (mapAt 
  (plA b0 b1 b2 b3 b4 b5 width height) { r := wr, w := ww, h := wh, c := wc, x := wx, y := wy, d := wd } width height (Int.toNat (a * ww + a_3))) (IntKind.wrap IntKind.i64 (IntKind.wrap 
  IntKind.i64 (IntKind.wrap IntKind.i64 (b0 * a_3) + IntKind.wrap IntKind.i64 (b1 * a)) + b2) % width) (IntKind.wrap IntKind.i64 (IntKind.wrap IntKind.i64 (IntKind.wrap IntKind.i64 (b3 
  * a_3) + IntKind.wrap IntKind.i64 (b4 * a)) + b5) % height) (colAt { r := wr, w := ww, h := wh, c := wc, x := wx, y := wy, d := wd } a_3 a)) = Wd.h (mapAt (plA b0 b1 b2 b3 b4 b5 width 
  height) { r := wr, w := ww, h := wh, c := wc, x := wx, y := wy, d := wd } width height (Int.toNat (a * ww + IntKind.wrap IntKind.i64 (a_3 + (1 : Int)))))) ∧ Wd.c (pntW (mapAt (plA b0 
  b1 b2 b3 b4 b5 width height) { r := wr, w := ww, h := wh, c := wc, x := wx, y := wy, d := wd } width height (Int.toNat (a * ww + a_3))) (IntKind.wrap IntKind.i64 (IntKind.wrap IntKind.i64 
  (IntKind.wrap IntKind.i64 (b0 * a_3) + IntKind.wrap IntKind.i64 (b1 * a)) + b2) % width) (IntKind.wrap IntKind.i64 (IntKind.wrap IntKind.i64 (IntKind.wrap IntKind.i64 (b3 * a_3) + IntKind.wrap 
  IntKind.i64 (b4 * a)) + b5) % height) (colAt { r := wr, w := ww, h := wh, c := wc, x := wx, y := wy, d := wd } a_3 a)) = Wd.c (mapAt (plA b0 b1 b2 b3 b4 b5 width height) { r := wr, w := ww, h := wh, c := wc, x := wx, y := wy, d := wd } 
  width height (Int.toNat (a * ww + IntKind.wrap IntKind.i64 (a_3 + (1 : Int))))) ∧ (True ∧ Wd.x (pntW (mapAt (plA b0 b1 b2 b3 b4 b5 width height) { r := wr, w := ww, h := wh, c := wc, x := wx, y := wy, d := wd } 
  width height (Int.toNat (a * ww + a_3))) (IntKind.wrap IntKind.i64 (IntKind.wrap IntKind.i64 (IntKind.wrap IntKind.i64 (b0 * a_3) + IntKind.wrap IntKind.i64 (b1 * a)) + b2) % width) 
  (IntKind.wrap IntKind.i64 (IntKind.wrap IntKind.i64 (IntKind.wrap IntKind.i64 (b3 * a_3) + IntKind.wrap IntKind.i64 (b4 * a)) + b5) % height) (colAt { r := wr, w := ww, h := wh, c := wc, x := wx, y := wy, d := wd } 
  a_3 a)) = Wd.x (mapAt (plA b0 b1 b2 b3 b4 b5 width height) { r := wr, w := ww, h := wh, c := wc, x := wx, y := wy, d := wd } width height (Int.toNat (a * ww + IntKind.wrap IntKind.i64 
  (a_3 + (1 : Int)))))) ∧ (True ∧ Wd.y (pntW (mapAt (plA b0 b1 b2 b3 b4 b5 width height) { r := wr, w := ww, h := wh, c := wc, x := wx, y := wy, d := wd } width height (Int.toNat (a * 
  ww + a_3))) (IntKind.wrap IntKind.i64 (IntKind.wrap IntKind.i64 (IntKind.wrap IntKind.i64 (b0 * a_3) + IntKind.wrap IntKind.i64 (b1 * a)) + b2) % width) (IntKind.wrap IntKind.i64 (IntKind.wrap 
  IntKind.i64 (IntKind.wrap IntKind.i64 (b3 * a_3) + IntKind.wrap IntKind.i64 (b4 * a)) + b5) % height) (colAt { r := wr, w := ww, h := wh, c := wc, x := wx, y := wy, d := wd } a_3 a)) 
  = Wd.y (mapAt (plA b0 b1 b2 b3 b4 b5 width height) { r := wr, w := ww, h := wh, c := wc, x := wx, y := wy, d := wd } width height (Int.toNat (a * ww + IntKind.wrap IntKind.i64 (a_3 
  + (1 : Int)))))) ∧ (True ∧ Wd.d (pntW (mapAt (plA b0 b1 b2 b3 b4 b5 width height) { r := wr, w := ww, h := wh, c := wc, x := wx, y := wy, d := wd } width height (Int.toNat (a * ww + 
  a_3))) (IntKind.wrap IntKind.i64 (IntKind.wrap IntKind.i64 (IntKind.wrap IntKind.i64 (b0 * a_3) + IntKind.wrap IntKind.i64 (b1 * a)) + b2) % width) (IntKind.wrap IntKind.i64 (IntKind.wrap 
  IntKind.i64 (IntKind.wrap IntKind.i64 (b3 * a_3) + IntKind.wrap IntKind.i64 (b4 * a)) + b5) % height) (colAt { r := wr, w := ww, h := wh, c := wc, x := wx, y := wy, d := wd } a_3 a)) 
  = Wd.d (mapAt (plA b0 b1 b2 b3 b4 b5 width height) { r := wr, w := ww, h := wh, c := wc, x := wx, y := wy, d := wd } width height (Int.toNat (a * ww + IntKind.wrap IntKind.i64 (a_3 
  + (1 : Int)))))) ∧ True) ∧ True) ∧ True) ∧ At (inInv { r := wr, w := ww, h := wh, c := wc, x := wx, y := wy, d := wd } a (IntKind.wrap IntKind.i64 (a_3 + (1 : Int))) ∧ Int.toNat (ww 
  - IntKind.wrap IntKind.i64 (a_3 + (1 : Int))) < Int.toNat (ww - a_3)))) ∧ ((a_3 == wx) = false → (((True ∧ width = width) ∧ (True ∧ height = height) ∧ ((0 : Nat) = (0 : Nat) ∧ (0 : 
  Nat) = (0 : Nat)) ∧ ((1 : Nat) = (1 : Nat) ∧ (0 : Nat) = (0 : Nat)) ∧ ((2 : Nat) = (2 : Nat) ∧ (0 : Nat) = (0 : Nat)) ∧ ((3 : Nat) = (3 : Nat) ∧ (0 : Nat) = (0 : Nat)) ∧ (True ∧ a = 
  a) ∧ (True ∧ IntKind.wrap IntKind.i64 (a_3 + (1 : Int)) = IntKind.wrap IntKind.i64 (a_3 + (1 : Int))) ∧ True) ∧ ((True ∧ wr = wr ∧ (True ∧ ww = ww) ∧ (True ∧ wh = wh) ∧ wc = wc ∧ (True 
  ∧ wx = wx) ∧ (True ∧ wy = wy) ∧ (True ∧ wd = wd) ∧ True) ∧ (True ∧ (True ∧ b0 = b0) ∧ (True ∧ b1 = b1) ∧ (True ∧ b2 = b2) ∧ (True ∧ b3 = b3) ∧ (True ∧ b4 = b4) ∧ (True ∧ b5 = b5) ∧ 
  True) ∧ (True ∧ nilB = nilB ∧ (True ∧ (0 : Int) = (0 : Int)) ∧ (True ∧ (0 : Int) = (0 : Int)) ∧ nilB = nilB ∧ (True ∧ (0 : Int) = (0 : Int)) ∧ (True ∧ (0 : Int) = (0 : Int)) ∧ (True 
  ∧ (0 : Int) = (0 : Int)) ∧ True) ∧ (True ∧ Wd.r (pntW (mapAt (plA b0 b1 b2 b3 b4 b5 width height) { r := wr, w := ww, h := wh, c := wc, x := wx, y := wy, d := wd } width height (Int.toNat 
  (a * ww + a_3))) (IntKind.wrap IntKind.i64 (IntKind.wrap IntKind.i64 (IntKind.wrap IntKind.i64 (b0 * a_3) + IntKind.wrap IntKind.i64 (b1 * a)) + b2) % width) (IntKind.wrap IntKind.i64 
  (IntKind.wrap IntKind.i64 (IntKind.wrap IntKind.i64 (b3 * a_3) + IntKind.wrap IntKind.i64 (b4 * a)) + b5) % height) (colAt { r := wr, w := ww, h := wh, c := wc, x := wx, y := wy, d := wd } 
  a_3 a)) = Wd.r (mapAt (plA b0 b1 b2 b3 b4 b5 width height) { r := wr, w := ww, h := wh, c := wc, x := wx, y := wy, d := wd } width height (Int.toNat (a * ww + IntKind.wrap IntKind.i64 
  (a_3 + (1 : Int))))) ∧ (True ∧ Wd.w (pntW (mapAt (plA b0 b1 b2 b3 b4 b5 width height) { r := wr, w := ww, h := wh, c := wc, x := wx, y := wy, d := wd } width height (Int.toNat (a * 
  ww + a_3))) (IntKind.wrap IntKind.i64 (IntKind.wrap IntKind.i64 (IntKind.wrap IntKind.i64 (b0 * a_3) + IntKind.wrap IntKind.i64 (b1 * a)) + b2) % width) (IntKind.wrap IntKind.i64 (IntKind.wrap 
  IntKind.i64 (IntKind.wrap IntKind.i64 (b3 * a_3) + IntKind.wrap IntKind.i64 (b4 * a)) + b5) % height) (colAt { r := wr, w := ww, h := wh, c := wc, x := wx, y := wy, d := wd } a_3 a)) 
  = Wd.w (mapAt (plA b0 b1 b2 b3 b4 b5 width height) { r := wr, w := ww, h := wh, c := wc, x := wx, y := wy, d := wd } width height (Int.toNat (a * ww + IntKind.wrap IntKind.i64 (a_3 
  + (1 : Int)))))) ∧ (True ∧ Wd.h (pntW (mapAt (plA b0 b1 b2 b3 b4 b5 width height) { r := wr, w := ww, h := wh, c := wc, x := wx, y := wy, d := wd } width height (Int.toNat (a * ww + 
  a_3))) (IntKind.wrap IntKind.i64 (IntKind.wrap IntKind.i64 (IntKind.wrap IntKind.i64 (b0 * a_3) + IntKind.wrap IntKind.i64 (b1 * a)) + b2) % width) (IntKind.wrap IntKind.i64 (IntKind.wrap 
  IntKind.i64 (IntKind.wrap IntKind.i64 (b3 * a_3) + IntKind.wrap IntKind.i64 (b4 * a)) + b5) % height) (colAt { r := wr, w := ww, h := wh, c := wc, x := wx, y := wy, d := wd } a_3 a)) 
  = Wd.h (mapAt (plA b0 b1 b2 b3 b4 b5 width height) { r := wr, w := ww, h := wh, c := wc, x := wx, y := wy, d := wd } width height (Int.toNat (a * ww + IntKind.wrap IntKind.i64 (a_3 
  + (1 : Int)))))) ∧ Wd.c (pntW (mapAt (plA b0 b1 b2 b3 b4 b5 width height) { r := wr, w := ww, h := wh, c := wc, x := wx, y := wy, d := wd } width height (Int.toNat (a * ww + a_3))) 
  (IntKind.wrap IntKind.i64 (IntKind.wrap IntKind.i64 (IntKind.wrap IntKind.i64 (b0 * a_3) + IntKind.wrap IntKind.i64 (b1 * a)) + b2) % width) (IntKind.wrap IntKind.i64 (IntKind.wrap 
  IntKind.i64 (IntKind.wrap IntKind.i64 (b3 * a_3) + IntKind.wrap IntKind.i64 (b4 * a)) + b5) % height) (colAt { r := wr, w := ww, h := wh, c := wc, x := wx, y := wy, d := wd } a_3 a)) 
  = Wd.c (mapAt (plA b0 b1 b2 b3 b4 b5 width height) { r := wr, w := ww, h := wh, c := wc, x := wx, y := wy, d := wd } width height (Int.toNat (a * ww + IntKind.wrap IntKind.i64 (a_3 
  + (1 : Int))))) ∧ (True ∧ Wd.x (pntW (mapAt (plA b0 b1 b2 b3 b4 b5 width height) { r := wr, w := ww, h := wh, c := wc, x := wx, y := wy, d := wd } width height (Int.toNat (a * ww + 
  a_3))) (IntKind.wrap IntKind.i64 (IntKind.wrap IntKind.i64 (IntKind.wrap IntKind.i64 (b0 * a_3) + IntKind.wrap IntKind.i64 (b1 * a)) + b2) % width) (IntKind.wrap IntKind.i64 (IntKind.wrap 
  IntKind.i64 (IntKind.wrap IntKind.i64 (b3 * a_3) + IntKind.wrap IntKind.i64 (b4 * a)) + b5) % height) (colAt { r := wr, w := ww, h := wh, c := wc, x := wx, y := wy, d := wd } a_3 a)) 
  = Wd.x (mapAt (plA b0 b1 b2 b3 b4 b5 width height) { r := wr, w := ww, h := wh, c := wc, x := wx, y := wy, d := wd } width height (Int.toNat (a * ww + IntKind.wrap IntKind.i64 (a_3 
  + (1 : Int)))))) ∧ (True ∧ Wd.y (pntW (mapAt (plA b0 b1 b2 b3 b4 b5 width height) { r := wr, w := ww, h := wh, c := wc, x := wx, y := wy, d := wd } width height (Int.toNat (a * ww + 
  a_3))) (IntKind.wrap IntKind.i64 (IntKind.wrap IntKind.i64 (IntKind.wrap IntKind.i64 (b0 * a_3) + IntKind.wrap IntKind.i64 (b1 * a)) + b2) % width) (IntKind.wrap IntKind.i64 (IntKind.wrap 
  IntKind.i64 (IntKind.wrap IntKind.i64 (b3 * a_3) + IntKind.wrap IntKind.i64 (b4 * a)) + b5) % height) (colAt { r := wr, w := ww, h := wh, c := wc, x := wx, y := wy, d := wd } a_3 a)) 
  = Wd.y (mapAt (plA b0 b1 b2 b3 b4 b5 width height) { r := wr, w := ww, h := wh, c := wc, x := wx, y := wy, d := wd } width height (Int.toNat (a * ww + IntKind.wrap IntKind.i64 (a_3 
  + (1 : Int)))))) ∧ (True ∧ Wd.d (pntW (mapAt (plA b0 b1 b2 b3 b4 b5 width height) { r := wr, w := ww, h := wh, c := wc, x := wx, y := wy, d := wd } width height (Int.toNat (a * ww + 
  a_3))) (IntKind.wrap IntKind.i64 (IntKind.wrap IntKind.i64 (IntKind.wrap IntKind.i64 (b0 * a_3) + IntKind.wrap IntKind.i64 (b1 * a)) + b2) % width) (IntKind.wrap IntKind.i64 (IntKind.wrap 
  IntKind.i64 (IntKind.wrap IntKind.i64 (b3 * a_3) + IntKind.wrap IntKind.i64 (b4 * a)) + b5) % height) (colAt { r := wr, w := ww, h := wh, c := wc, x := wx, y := wy, d := wd } a_3 a)) 
  = Wd.d (mapAt (plA b0 b1 b2 b3 b4 b5 width height) { r := wr, w := ww, h := wh, c := wc, x := wx, y := wy, d := wd } width height (Int.toNat (a * ww + IntKind.wrap IntKind.i64 (a_3 
  + (1 : Int)))))) ∧ True) ∧ True) ∧ True) ∧ At (inInv { r := wr, w := ww, h := wh, c := wc, x := wx, y := wy, d := wd } a (IntKind.wrap IntKind.i64 (a_3 + (1 : Int))) ∧ Int.toNat (ww 
  - IntKind.wrap IntKind.i64 (a_3 + (1 : Int))) < Int.toNat (ww - a_3)))) ∧ (decide (a_3 < ww) = false → (((True ∧ width = width) ∧ (True ∧ height = height) ∧ ((0 : Nat) = (0 : Nat) ∧ 
  (0 : Nat) = (0 : Nat)) ∧ ((1 : Nat) = (1 : Nat) ∧ (0 : Nat) = (0 : Nat)) ∧ ((2 : Nat) = (2 : Nat) ∧ (0 : Nat) = (0 : Nat)) ∧ ((3 : Nat) = (3 : Nat) ∧ (0 : Nat) = (0 : Nat)) ∧ (True 
  ∧ IntKind.wrap IntKind.i64 (a + (1 : Int)) = IntKind.wrap IntKind.i64 (a + (1 : Int))) ∧ True) ∧ ((True ∧ wr = wr ∧ (True ∧ ww = ww) ∧ (True ∧ wh = wh) ∧ wc = wc ∧ (True ∧ wx = wx) 
  ∧ (True ∧ wy = wy) ∧ (True ∧ wd = wd) ∧ True) ∧ (True ∧ (True ∧ b0 = b0) ∧ (True ∧ b1 = b1) ∧ (True ∧ b2 = b2) ∧ (True ∧ b3 = b3) ∧ (True ∧ b4 = b4) ∧ (True ∧ b5 = b5) ∧ True) ∧ (True 
  ∧ nilB = nilB ∧ (True ∧ (0 : Int) = (0 : Int)) ∧ (True ∧ (0 : Int) = (0 : Int)) ∧ nilB = nilB ∧ (True ∧ (0 : Int) = (0 : Int)) ∧ (True ∧ (0 : Int) = (0 : Int)) ∧ (True ∧ (0 : Int) = 
  (0 : Int)) ∧ True) ∧ (True ∧ Wd.r (mapAt (plA b0 b1 b2 b3 b4 b5 width height) { r := wr, w := ww, h := wh, c := wc, x := wx, y := wy, d := wd } width height (Int.toNat (a * ww + a_3))) 
  = Wd.r (mapAt (plA b0 b1 b2 b3 b4 b5 width height) { r := wr, w := ww, h := wh, c := wc, x := wx, y := wy, d := wd } width height (Int.toNat (IntKind.wrap IntKind.i64 (a + (1 : Int)) 
  * ww))) ∧ (True ∧ Wd.w (mapAt (plA b0 b1 b2 b3 b4 b5 width height) { r := wr, w := ww, h := wh, c := wc, x := wx, y := wy, d := wd } width height (Int.toNat (a * ww + a_3))) = Wd.w 
  (mapAt (plA b0 b1 b2 b3 b4 b5 width height) { r := wr, w := ww, h := wh, c := wc, x := wx, y := wy, d := wd } width height (Int.toNat (IntKind.wrap IntKind.i64 (a + (1 : Int)) * ww)))) 
  ∧ (True ∧ Wd.h (mapAt (plA b0 b1 b2 b3 b4 b5 width height) { r := wr, w := ww, h := wh, c := wc, x := wx, y := wy, d := wd } width height (Int.toNat (a * ww + a_3))) = Wd.h (mapAt (plA 
  b0 b1 b2 b3 b4 b5 width height) { r := wr, w := ww, h := wh, c := wc, x := wx, y := wy, d := wd } width height (Int.toNat (IntKind.wrap IntKind.i64 (a + (1 : Int)) * ww)))) ∧ Wd.c (mapAt 
  (plA b0 b1 b2 b3 b4 b5 width height) { r := wr, w := ww, h := wh, c := wc, x := wx, y := wy, d := wd } width height (Int.toNat (a * ww + a_3))) = Wd.c (mapAt (plA b0 b1 b2 b3 b4 b5 
  width height) { r := wr, w := ww, h := wh, c := wc, x := wx, y := wy, d := wd } width height (Int.toNat (IntKind.wrap IntKind.i64 (a + (1 : Int)) * ww))) ∧ (True ∧ Wd.x (mapAt (plA 
  b0 b1 b2 b3 b4 b5 width height) { r := wr, w := ww, h := wh, c := wc, x := wx, y := wy, d := wd } width height (Int.toNat (a * ww + a_3))) = Wd.x (mapAt (plA b0 b1 b2 b3 b4 b5 width 
  height) { r := wr, w := ww, h := wh, c := wc, x := wx, y := wy, d := wd } width height (Int.toNat (IntKind.wrap IntKind.i64 (a + (1 : Int)) * ww)))) ∧ (True ∧ Wd.y (mapAt (plA b0 b1 
  b2 b3 b4 b5 width height) { r := wr, w := ww, h := wh, c := wc, x := wx, y := wy, d := wd } width height (Int.toNat (a * ww + a_3))) = Wd.y (mapAt (plA b0 b1 b2 b3 b4 b5 width height) 
  { r := wr, w := ww, h := wh, c := wc, x := wx, y := wy, d := wd } width height (Int.toNat (IntKind.wrap IntKind.i64 (a + (1 : Int)) * ww)))) ∧ (True ∧ Wd.d (mapAt (plA b0 b1 b2 b3 b4 
  b5 width height) { r := wr, w := ww, h := wh, c := wc, x := wx, y := wy, d := wd } width height (Int.toNat (a * ww + a_3))) = Wd.d (mapAt (plA b0 b1 b2 b3 b4 b5 width height) { r := wr, w := ww, h := wh, c := wc, x := wx, y := wy, d := wd } 
  width height (Int.toNat (IntKind.wrap IntKind.i64 (a + (1 : Int)) * ww)))) ∧ True) ∧ True) ∧ True) ∧ At (outInv { r := wr, w := ww, h := wh, c := wc, x := wx, y := wy, d := wd } (IntKind.wrap 
  IntKind.i64 (a + (1 : Int))) ∧ Int.toNat (wh - IntKind.wrap IntKind.i64 (a + (1 : Int))) < Int.toNat (wh - a)))) ∧ (decide (a < wh) = false → K (V.agg [V.str (Wd.r (mapAt (plA b0 b1 
  b2 b3 b4 b5 width height) { r := wr, w := ww, h := wh, c := wc, x := wx, y := wy, d := wd } width height (Int.toNat (a * ww)))), V.int IntKind.i64 (Wd.w (mapAt (plA b0 b1 b2 b3 b4 b5 
  width height) { r := wr, w := ww, h := wh, c := wc, x := wx, y := wy, d := wd } width height (Int.toNat (a * ww)))), V.int IntKind.i64 (Wd.h (mapAt (plA b0 b1 b2 b3 b4 b5 width height) 
  { r := wr, w := ww, h := wh, c := wc, x := wx, y := wy, d := wd } width height (Int.toNat (a * ww)))), V.str (Wd.c (mapAt (plA b0 b1 b2 b3 b4 b5 width height) { r := wr, w := ww, h := wh, c := wc, x := wx, y := wy, d := wd } 
  width height (Int.toNat (a * ww)))), V.int IntKind.i64 (Wd.x (mapAt (plA b0 b1 b2 b3 b4 b5 width height) { r := wr, w := ww, h := wh, c := wc, x := wx, y := wy, d := wd } width height 
  (Int.toNat (a * ww)))), V.int IntKind.i64 (Wd.y (mapAt (plA b0 b1 b2 b3 b4 b5 width height) { r := wr, w := ww, h := wh, c := wc, x := wx, y := wy, d := wd } width height (Int.toNat 
  (a * ww)))), V.int IntKind.i64 (Wd.d (mapAt (plA b0 b1 b2 b3 b4 b5 width height) { r := wr, w := ww, h := wh, c := wc, x := wx, y := wy, d := wd } width height (Int.toNat (a * ww))))]))

def VC_spec_TurnWorld (wr : List UInt8) (ww : Int) (wh : Int) (wc : List UInt8) (wx : Int) (wy : Int) (wd : Int) (K : V → Prop) : Prop :=
  At True ∧
  ((!goodB { r := wr, w := ww, h := wh, c := wc, x := wx, y := wy, d := wd }) = true →
      K
        (V.tup
          [V.agg
              [V.str (Array.toList #[]), V.int IntKind.i64 (0 : Int), V.int IntKind.i64 (0 : Int),
                V.str (Array.toList #[]), V.int IntKind.i64 (0 : Int), V.int IntKind.i64 (0 : Int),
                V.int IntKind.i64 (0 : Int)],
            V.lit false])) ∧
    ((!goodB { r := wr, w := ww, h := wh, c := wc, x := wx, y := wy, d := wd }) = false →
      At
          (mapPre { r := wr, w := ww, h := wh, c := wc, x := wx, y := wy, d := wd } wh ww (0 : Int) (-1 : Int)
            (IntKind.wrap IntKind.i64 (wh - (1 : Int))) (1 : Int) (0 : Int) (0 : Int)) ∧
        At ((4 : Int) ≠ (0 : Int)) ∧
          K
            (V.tup
              [V.agg
                  [V.str
                      (Wd.r
                        (mapW
                          (plA (0 : Int) (-1 : Int) (IntKind.wrap IntKind.i64 (wh - (1 : Int))) (1 : Int) (0 : Int)
                            (0 : Int) wh ww)
                          { r := wr, w := ww, h := wh, c := wc, x := wx, y := wy, d := wd } wh ww)),
                    V.int IntKind.i64
                      (Wd.w
                        (mapW
                          (plA (0 : Int) (-1 : Int) (IntKind.wrap IntKind.i64 (wh - (1 : Int))) (1 : Int) (0 : Int)
                            (0 : Int) wh ww)
                          { r := wr, w := ww, h := wh, c := wc, x := wx, y := wy, d := wd } wh ww)),
                    V.int IntKind.i64
                      (Wd.h
                        (mapW
                          (plA (0 : Int) (-1 : Int) (IntKind.wrap IntKind.i64 (wh - (1 : Int))) (1 : Int) (0 : Int)
                            (0 : Int) wh ww)
                          { r := wr, w := ww, h := wh, c := wc, x := wx, y := wy, d := wd } wh ww)),
                    V.str
                      (Wd.c
                        (mapW
                          (plA (0 : Int) (-1 : Int) (IntKind.wrap IntKind.i64 (wh - (1 : Int))) (1 : Int) (0 : Int)
                            (0 : Int) wh ww)
                          { r := wr, w := ww, h := wh, c := wc, x := wx, y := wy, d := wd } wh ww)),
                    V.int IntKind.i64
                      (Wd.x
                        (mapW
                          (plA (0 : Int) (-1 : Int) (IntKind.wrap IntKind.i64 (wh - (1 : Int))) (1 : Int) (0 : Int)
                            (0 : Int) wh ww)
                          { r := wr, w := ww, h := wh, c := wc, x := wx, y := wy, d := wd } wh ww)),
                    V.int IntKind.i64
                      (Wd.y
                        (mapW
                          (plA (0 : Int) (-1 : Int) (IntKind.wrap IntKind.i64 (wh - (1 : Int))) (1 : Int) (0 : Int)
                            (0 : Int) wh ww)
                          { r := wr, w := ww, h := wh, c := wc, x := wx, y := wy, d := wd } wh ww)),
                    V.int IntKind.i64 (Int.tmod (IntKind.wrap IntKind.i64 (wd + (1 : Int))) (4 : Int))],
                V.lit true]))

def VC_spec_MirrorWorld (wr : List UInt8) (ww : Int) (wh : Int) (wc : List UInt8) (wx : Int) (wy : Int) (wd : Int) (K : V → Prop) : Prop :=
  At True ∧
  ((!goodB { r := wr, w := ww, h := wh, c := wc, x := wx, y := wy, d := wd }) = true →
      K
        (V.tup
          [V.agg
              [V.str (Array.toList #[]), V.int IntKind.i64 (0 : Int), V.int IntKind.i64 (0 : Int),
                V.str (Array.toList #[]), V.int IntKind.i64 (0 : Int), V.int IntKind.i64 (0 : Int),
                V.int IntKind.i64 (0 : Int)],
            V.lit false])) ∧
    ((!goodB { r := wr, w := ww, h := wh, c := wc, x := wx, y := wy, d := wd }) = false →
      At
          (mapPre { r := wr, w := ww, h := wh, c := wc, x := wx, y := wy, d := wd } ww wh (-1 : Int) (0 : Int)
            (IntKind.wrap IntKind.i64 (ww - (1 : Int))) (0 : Int) (1 : Int) (0 : Int)) ∧
        At (List.length wr ≤ (1000 : Nat)) ∧
          At ((4 : Int) ≠ (0 : Int)) ∧
            K
              (V.tup
                [V.agg
                    [V.str (othR wr),
                      V.int IntKind.i64
                        (Wd.w
                          (mapW
                            (plA (-1 : Int) (0 : Int) (IntKind.wrap IntKind.i64 (ww - (1 : Int))) (0 : Int) (1 : Int)
                              (0 : Int) ww wh)
                            { r := wr, w := ww, h := wh, c := wc, x := wx, y := wy, d := wd } ww wh)),
                      V.int IntKind.i64
                        (Wd.h
                          (mapW
                            (plA (-1 : Int) (0 : Int) (IntKind.wrap IntKind.i64 (ww - (1 : Int))) (0 : Int) (1 : Int)
                              (0 : Int) ww wh)
                            { r := wr, w := ww, h := wh, c := wc, x := wx, y := wy, d := wd } ww wh)),
                      V.str
                        (Wd.c
                          (mapW
                            (plA (-1 : Int) (0 : Int) (IntKind.wrap IntKind.i64 (ww - (1 : Int))) (0 : Int) (1 : Int)
                              (0 : Int) ww wh)
                            { r := wr, w := ww, h := wh, c := wc, x := wx, y := wy, d := wd } ww wh)),
                      V.int IntKind.i64
                        (Wd.x
                          (mapW
                            (plA (-1 : Int) (0 : Int) (IntKind.wrap IntKind.i64 (ww - (1 : Int))) (0 : Int) (1 : Int)
                              (0 : Int) ww wh)
                            { r := wr, w := ww, h := wh, c := wc, x := wx, y := wy, d := wd } ww wh)),
                      V.int IntKind.i64
                        (Wd.y
                          (mapW
                            (plA (-1 : Int) (0 : Int) (IntKind.wrap IntKind.i64 (ww - (1 : Int))) (0 : Int) (1 : Int)
                              (0 : Int) ww wh)
                            { r := wr, w := ww, h := wh, c := wc, x := wx, y := wy, d := wd } ww wh)),
                      V.int IntKind.i64 (Int.tmod (IntKind.wrap IntKind.i64 ((4 : Int) - wd)) (4 : Int))],
                  V.lit true]))

def VC_impl_TurnWorld_1 (x : Int) (y : Int) (wr : List UInt8) (ww : Int) (wh : Int) (wc : List UInt8) (wx : Int) (wy : Int) (wd : Int) (K : V → List Blk → Prop) : Prop :=
  K
  (V.tup
    [V.int IntKind.i64 (IntKind.wrap IntKind.i64 (IntKind.wrap IntKind.i64 (wh - (1 : Int)) - y)), V.int IntKind.i64 x])
  [{
      cs :=
        Cells.vals
          [V.str wr, V.int IntKind.i64 ww, V.int IntKind.i64 wh, V.str wc, V.int IntKind.i64 wx, V.int IntKind.i64 wy,
            V.int IntKind.i64 wd],
      elem := 25, kind := Kind.box }]

def VC_impl_MirrorWorld_1 (x : Int) (y : Int) (wr : List UInt8) (ww : Int) (wh : Int) (wc : List UInt8) (wx : Int) (wy : Int) (wd : Int) (K : V → List Blk → Prop) : Prop :=
  K
  (V.tup
    [V.int IntKind.i64 (IntKind.wrap IntKind.i64 (IntKind.wrap IntKind.i64 (ww - (1 : Int)) - x)), V.int IntKind.i64 y])
  [{
      cs :=
        Cells.vals
          [V.str wr, V.int IntKind.i64 ww, V.int IntKind.i64 wh, V.str wc, V.int IntKind.i64 wx, V.int IntKind.i64 wy,
            V.int IntKind.i64 wd],
      elem := 25, kind := Kind.box }]

def VC_impl_TurnWorld (wr : List UInt8) (ww : Int) (wh : Int) (wc : List UInt8) (wx : Int) (wy : Int) (wd : Int) (K : V → Prop) : Prop :=
  At True ∧
  ((!goodB { r := wr, w := ww, h := wh, c := wc, x := wx, y := wy, d := wd }) = true →
      K
        (V.tup
          [V.agg
              [V.str (Array.toList #[]), V.int IntKind.i64 (0 : Int), V.int IntKind.i64 (0 : Int),
                V.str (Array.toList #[]), V.int IntKind.i64 (0 : Int), V.int IntKind.i64 (0 : Int),
                V.int IntKind.i64 (0 : Int)],
            V.lit false])) ∧
    ((!goodB { r := wr, w := ww, h := wh, c := wc, x := wx, y := wy, d := wd }) = false →
      At
          ((0 : Int) ≤ (↑(List.length wc) : Int) ∧
            (↑(List.length wc) : Int) ≤ (↑(List.length wc) : Int) ∧ (↑(List.length wc) : Int) ≤ (1000000000 : Int)) ∧
        ((wc = wc ∧
              (True ∧ ww = ww) ∧
                (True ∧ wh = wh) ∧
                  ((39 : Nat) = (39 : Nat) ∧ [(0 : Nat)] = [(0 : Nat)]) ∧
                    ((1 : Nat) = (1 : Nat) ∧
                        Int.toNat (↑(List.length wc) : Int) = Int.toNat (↑(List.length wc) : Int)) ∧
                      (True ∧ (↑(Int.toNat (↑(List.length wc) : Int)) : Int) = (↑(List.length wc) : Int)) ∧
                        (True ∧ (0 : Int) = (0 : Int)) ∧ True) ∧
            ((True ∧
                  wr = wr ∧
                    (True ∧ ww = ww) ∧
                      (True ∧ wh = wh) ∧ wc = wc ∧ (True ∧ wx = wx) ∧ (True ∧ wy = wy) ∧ (True ∧ wd = wd) ∧ True) ∧
                (True ∧
                    List.replicate (Int.toNat (↑(List.length wc) : Int)) (0 : UInt8) =
                      rlF (plA (0 : Int) (-1 : Int) (wh - (1 : Int)) (1 : Int) (0 : Int) (0 : Int) wh ww) ww wh wc
                        (List.replicate (List.length wc) (0 : UInt8)) (Int.toNat (0 : Int))) ∧
                  True) ∧
              True) ∧
          At (relInv wc (0 : Int)) ∧
            ∀ (a : Int),
              relInv wc a →
                (decide (a < (↑(List.length wc) : Int)) = true →
                    True ∧
                      At (ww ≠ (0 : Int)) ∧
                        At (ww ≠ (0 : Int)) ∧
                          At
                              (goodB { r := wr, w := ww, h := wh, c := wc, x := wx, y := wy, d := wd } = true ∧
                                (0 : Int) ≤ Int.tmod a ww ∧
                                  Int.tmod a ww ≤ (9 : Int) ∧
                                    (0 : Int) ≤ IntKind.wrap IntKind.i64 (Int.tdiv a ww) ∧
                                      IntKind.wrap IntKind.i64 (Int.tdiv a ww) ≤ (9 : Int)) ∧
                            At ((0 : Int) ≤ a ∧ a < (↑(List.length wc) : Int)) ∧
                              At
                                  ((0 : Int) ≤
                                      IntKind.wrap IntKind.i64
                                        (IntKind.wrap IntKind.i64 (Int.tmod a ww * wh) +
                                          (wh - (1 : Int) - IntKind.wrap IntKind.i64 (Int.tdiv a ww))) ∧
                                    IntKind.wrap IntKind.i64
                                        (IntKind.wrap IntKind.i64 (Int.tmod a ww * wh) +
                                          (wh - (1 : Int) - IntKind.wrap IntKind.i64 (Int.tdiv a ww))) <
                                      (↑(Int.toNat (↑(List.length wc) : Int)) : Int)) ∧
                                At
                                    (Int.toNat
                                          (IntKind.wrap IntKind.i64
                                            (IntKind.wrap IntKind.i64 (Int.tmod a ww * wh) +
                                              (wh - (1 : Int) - IntKind.wrap IntKind.i64 (Int.tdiv a ww)))) <
                                        List.length
                                          (rlF
                                            (plA (0 : Int) (-1 : Int) (wh - (1 : Int)) (1 : Int) (0 : Int) (0 : Int) wh
                                              ww)
                                            ww wh wc (List.replicate (List.length wc) (0 : UInt8)) (Int.toNat a)) ∧
                                      (0 : Int) ≤ (↑(UInt8.toNat (List.getD wc (Int.toNat a) (0 : UInt8))) : Int) ∧
                                        (↑(UInt8.toNat (List.getD wc (Int.toNat a) (0 : UInt8))) : Int) < (256 : Int)) ∧
                                  ((wc = wc ∧
                                        (True ∧ ww = ww) ∧
                                          (True ∧ wh = wh) ∧
                                            ((39 : Nat) = (39 : Nat) ∧ [(0 : Nat)] = [(0 : Nat)]) ∧
                                              ((1 : Nat) = (1 : Nat) ∧
                                                  Int.toNat (↑(List.length wc) : Int) =
                                                    Int.toNat (↑(List.length wc) : Int)) ∧
                                                (True ∧ (↑(List.length wc) : Int) = (↑(List.length wc) : Int)) ∧
                                                  (True ∧
                                                      IntKind.wrap IntKind.i64 (a + (1 : Int)) =
                                                        IntKind.wrap IntKind.i64 (a + (1 : Int))) ∧
                                                    True) ∧
                                      ((True ∧
                                            wr = wr ∧
                                              (True ∧ ww = ww) ∧
                                                (True ∧ wh = wh) ∧
                                                  wc = wc ∧
                                                    (True ∧ wx = wx) ∧ (True ∧ wy = wy) ∧ (True ∧ wd = wd) ∧ True) ∧
                                          (True ∧
                                              List.set
                                                  (rlF
                                                    (plA (0 : Int) (-1 : Int) (wh - (1 : Int)) (1 : Int) (0 : Int)
                                                      (0 : Int) wh ww)
                                                    ww wh wc (List.replicate (List.length wc) (0 : UInt8))
                                                    (Int.toNat a))
                                                  (Int.toNat
                                                    (IntKind.wrap IntKind.i64
                                                      (IntKind.wrap IntKind.i64 (Int.tmod a ww * wh) +
                                                        (wh - (1 : Int) - IntKind.wrap IntKind.i64 (Int.tdiv a ww)))))
                                                  (UInt8.ofNat
                                                    (Int.toNat
                                                      (↑(UInt8.toNat (List.getD wc (Int.toNat a) (0 : UInt8))) :
                                                        Int))) =
                                                rlF
                                                  (plA (0 : Int) (-1 : Int) (wh - (1 : Int)) (1 : Int) (0 : Int)
                                                    (0 : Int) wh ww)
                                                  ww wh wc (List.replicate (List.length wc) (0 : UInt8))
                                                  (Int.toNat (IntKind.wrap IntKind.i64 (a + (1 : Int))))) ∧
                                            True) ∧
                                        True) ∧
                                    At
                                      (relInv wc (IntKind.wrap IntKind.i64 (a + (1 : Int))) ∧
                                        Int.toNat
                                            ((↑(List.length wc) : Int) - IntKind.wrap IntKind.i64 (a + (1 : Int))) <
                                          Int.toNat ((↑(List.length wc) : Int) - a))) ∧
                  (decide (a < (↑(List.length wc) : Int)) = false →
                    At
                        (Int.toNat (↑(List.length wc) : Int) ≤
                          List.length
                            (rlF (plA (0 : Int) (-1 : Int) (wh - (1 : Int)) (1 : Int) (0 : Int) (0 : Int) wh ww) ww wh
                              wc (List.replicate (List.length wc) (0 : UInt8)) (Int.toNat a))) ∧
                      At
                          (goodB { r := wr, w := ww, h := wh, c := wc, x := wx, y := wy, d := wd } = true ∧
                            (0 : Int) ≤ wx ∧ wx ≤ (9 : Int) ∧ (0 : Int) ≤ wy ∧ wy ≤ (9 : Int)) ∧
                        At ((0 : Int) ≤ wd ∧ wd ≤ (3 : Int) ∧ (0 : Int) ≤ (1 : Int) ∧ (1 : Int) ≤ (4 : Int)) ∧
                          K
                            (V.tup
                              [V.agg
                                  [V.str
                                      (Wd.r
                                        (trnW
                                          { r := wr, w := wh, h := ww,
                                            c :=
                                              List.take (Int.toNat (↑(List.length wc) : Int))
                                                (rlF
                                                  (plA (0 : Int) (-1 : Int) (wh - (1 : Int)) (1 : Int) (0 : Int)
                                                    (0 : Int) wh ww)
                                                  ww wh wc (List.replicate (List.length wc) (0 : UInt8)) (Int.toNat a)),
                                            x := wh - (1 : Int) - wy, y := wx, d := wd }
                                          (1 : Int))),
                                    V.int IntKind.i64
                                      (Wd.w
                                        (trnW
                                          { r := wr, w := wh, h := ww,
                                            c :=
                                              List.take (Int.toNat (↑(List.length wc) : Int))
                                                (rlF
                                                  (plA (0 : Int) (-1 : Int) (wh - (1 : Int)) (1 : Int) (0 : Int)
                                                    (0 : Int) wh ww)
                                                  ww wh wc (List.replicate (List.length wc) (0 : UInt8)) (Int.toNat a)),
                                            x := wh - (1 : Int) - wy, y := wx, d := wd }
                                          (1 : Int))),
                                    V.int IntKind.i64
                                      (Wd.h
                                        (trnW
                                          { r := wr, w := wh, h := ww,
                                            c :=
                                              List.take (Int.toNat (↑(List.length wc) : Int))
                                                (rlF
                                                  (plA (0 : Int) (-1 : Int) (wh - (1 : Int)) (1 : Int) (0 : Int)
                                                    (0 : Int) wh ww)
                                                  ww wh wc (List.replicate (List.length wc) (0 : UInt8)) (Int.toNat a)),
                                            x := wh - (1 : Int) - wy, y := wx, d := wd }
                                          (1 : Int))),
                                    V.str
                                      (Wd.c
                                        (trnW
                                          { r := wr, w := wh, h := ww,
                                            c :=
                                              List.take (Int.toNat (↑(List.length wc) : Int))
                                                (rlF
                                                  (plA (0 : Int) (-1 : Int) (wh - (1 : Int)) (1 : Int) (0 : Int)
                                                    (0 : Int) wh ww)
                                                  ww wh wc (List.replicate (List.length wc) (0 : UInt8)) (Int.toNat a)),
                                            x := wh - (1 : Int) - wy, y := wx, d := wd }
                                          (1 : Int))),
                                    V.int IntKind.i64
                                      (Wd.x
                                        (trnW
                                          { r := wr, w := wh, h := ww,
                                            c :=
                                              List.take (Int.toNat (↑(List.length wc) : Int))
                                                (rlF
                                                  (plA (0 : Int) (-1 : Int) (wh - (1 : Int)) (1 : Int) (0 : Int)
                                                    (0 : Int) wh ww)
                                                  ww wh wc (List.replicate (List.length wc) (0 : UInt8)) (Int.toNat a)),
                                            x := wh - (1 : Int) - wy, y := wx, d := wd }
                                          (1 : Int))),
                                    V.int IntKind.i64
                                      (Wd.y
                                        (trnW
                                          { r := wr, w := wh, h := ww,
                                            c :=
                                              List.take (Int.toNat (↑(List.length wc) : Int))
                                                (rlF
                                                  (plA (0 : Int) (-1 : Int) (wh - (1 : Int)) (1 : Int) (0 : Int)
                                                    (0 : Int) wh ww)
                                                  ww wh wc (List.replicate (List.length wc) (0 : UInt8)) (Int.toNat a)),
                                            x := wh - (1 : Int) - wy, y := wx, d := wd }
                                          (1 : Int))),
                                    V.int IntKind.i64
                                      (Wd.d
                                        (trnW
                                          { r := wr, w := wh, h := ww,
                                            c :=
                                              List.take (Int.toNat (↑(List.length wc) : Int))
                                                (rlF
                                                  (plA (0 : Int) (-1 : Int) (wh - (1 : Int)) (1 : Int) (0 : Int)
                                                    (0 : Int) wh ww)
                                                  ww wh wc (List.replicate (List.length wc) (0 : UInt8)) (Int.toNat a)),
                                            x := wh - (1 : Int) - wy, y := wx, d := wd }
                                          (1 : Int)))],
                                V.lit true])))

def VC_impl_MirrorWorld (wr : List UInt8) (ww : Int) (wh : Int) (wc : List UInt8) (wx : Int) (wy : Int) (wd : Int) (K : V → Prop) : Prop :=
  At True ∧
  ((!goodB { r := wr, w := ww, h := wh, c := wc, x := wx, y := wy, d := wd }) = true →
      K
        (V.tup
          [V.agg
              [V.str (Array.toList #[]), V.int IntKind.i64 (0 : Int), V.int IntKind.i64 (0 : Int),
                V.str (Array.toList #[]), V.int IntKind.i64 (0 : Int), V.int IntKind.i64 (0 : Int),
                V.int IntKind.i64 (0 : Int)],
            V.lit false])) ∧
    ((!goodB { r := wr, w := ww, h := wh, c := wc, x := wx, y := wy, d := wd }) = false →
      At
          ((0 : Int) ≤ (↑(List.length wc) : Int) ∧
            (↑(List.length wc) : Int) ≤ (↑(List.length wc) : Int) ∧ (↑(List.length wc) : Int) ≤ (1000000000 : Int)) ∧
        ((wc = wc ∧
              (True ∧ ww = ww) ∧
                (True ∧ ww = ww) ∧
                  ((42 : Nat) = (42 : Nat) ∧ [(0 : Nat)] = [(0 : Nat)]) ∧
                    ((1 : Nat) = (1 : Nat) ∧
                        Int.toNat (↑(List.length wc) : Int) = Int.toNat (↑(List.length wc) : Int)) ∧
                      (True ∧ (↑(Int.toNat (↑(List.length wc) : Int)) : Int) = (↑(List.length wc) : Int)) ∧
                        (True ∧ (0 : Int) = (0 : Int)) ∧ True) ∧
            ((True ∧
                  wr = wr ∧
                    (True ∧ ww = ww) ∧
                      (True ∧ wh = wh) ∧ wc = wc ∧ (True ∧ wx = wx) ∧ (True ∧ wy = wy) ∧ (True ∧ wd = wd) ∧ True) ∧
                (True ∧
                    List.replicate (Int.toNat (↑(List.length wc) : Int)) (0 : UInt8) =
                      rlF (plA (-1 : Int) (0 : Int) (ww - (1 : Int)) (0 : Int) (1 : Int) (0 : Int) ww wh) ww ww wc
                        (List.replicate (List.length wc) (0 : UInt8)) (Int.toNat (0 : Int))) ∧
                  True) ∧
              True) ∧
          At (relInv wc (0 : Int)) ∧
            ∀ (a : Int),
              relInv wc a →
                (decide (a < (↑(List.length wc) : Int)) = true →
                    True ∧
                      At (ww ≠ (0 : Int)) ∧
                        At (ww ≠ (0 : Int)) ∧
                          At
                              (goodB { r := wr, w := ww, h := wh, c := wc, x := wx, y := wy, d := wd } = true ∧
                                (0 : Int) ≤ Int.tmod a ww ∧
                                  Int.tmod a ww ≤ (9 : Int) ∧
                                    (0 : Int) ≤ IntKind.wrap IntKind.i64 (Int.tdiv a ww) ∧
                                      IntKind.wrap IntKind.i64 (Int.tdiv a ww) ≤ (9 : Int)) ∧
                            At ((0 : Int) ≤ a ∧ a < (↑(List.length wc) : Int)) ∧
                              At
                                  ((0 : Int) ≤
                                      IntKind.wrap IntKind.i64
                                        (IntKind.wrap IntKind.i64 (IntKind.wrap IntKind.i64 (Int.tdiv a ww) * ww) +
                                          (ww - (1 : Int) - Int.tmod a ww)) ∧
                                    IntKind.wrap IntKind.i64
                                        (IntKind.wrap IntKind.i64 (IntKind.wrap IntKind.i64 (Int.tdiv a ww) * ww) +
                                          (ww - (1 : Int) - Int.tmod a ww)) <
                                      (↑(Int.toNat (↑(List.length wc) : Int)) : Int)) ∧
                                At
                                    (Int.toNat
                                          (IntKind.wrap IntKind.i64
                                            (IntKind.wrap IntKind.i64 (IntKind.wrap IntKind.i64 (Int.tdiv a ww) * ww) +
                                              (ww - (1 : Int) - Int.tmod a ww))) <
                                        List.length
                                          (rlF
                                            (plA (-1 : Int) (0 : Int) (ww - (1 : Int)) (0 : Int) (1 : Int) (0 : Int) ww
                                              wh)
                                            ww ww wc (List.replicate (List.length wc) (0 : UInt8)) (Int.toNat a)) ∧
                                      (0 : Int) ≤ (↑(UInt8.toNat (List.getD wc (Int.toNat a) (0 : UInt8))) : Int) ∧
                                        (↑(UInt8.toNat (List.getD wc (Int.toNat a) (0 : UInt8))) : Int) < (256 : Int)) ∧
                                  ((wc = wc ∧
                                        (True ∧ ww = ww) ∧
                                          (True ∧ ww = ww) ∧
                                            ((42 : Nat) = (42 : Nat) ∧ [(0 : Nat)] = [(0 : Nat)]) ∧
                                              ((1 : Nat) = (1 : Nat) ∧
                                                  Int.toNat (↑(List.length wc) : Int) =
                                                    Int.toNat (↑(List.length wc) : Int)) ∧
                                                (True ∧ (↑(List.length wc) : Int) = (↑(List.length wc) : Int)) ∧
                                                  (True ∧
                                                      IntKind.wrap IntKind.i64 (a + (1 : Int)) =
                                                        IntKind.wrap IntKind.i64 (a + (1 : Int))) ∧
                                                    True) ∧
                                      ((True ∧
                                            wr = wr ∧
                                              (True ∧ ww = ww) ∧
                                                (True ∧ wh = wh) ∧
                                                  wc = wc ∧
                                                    (True ∧ wx = wx) ∧ (True ∧ wy = wy) ∧ (True ∧ wd = wd) ∧ True) ∧
                                          (True ∧
                                              List.set
                                                  (rlF
                                                    (plA (-1 : Int) (0 : Int) (ww - (1 : Int)) (0 : Int) (1 : Int)
                                                      (0 : Int) ww wh)
                                                    ww ww wc (List.replicate (List.length wc) (0 : UInt8))
                                                    (Int.toNat a))
                                                  (Int.toNat
                                                    (IntKind.wrap IntKind.i64
                                                      (IntKind.wrap IntKind.i64
                                                          (IntKind.wrap IntKind.i64 (Int.tdiv a ww) * ww) +
                                                        (ww - (1 : Int) - Int.tmod a ww))))
                                                  (UInt8.ofNat
                                                    (Int.toNat
                                                      (↑(UInt8.toNat (List.getD wc (Int.toNat a) (0 : UInt8))) :
                                                        Int))) =
                                                rlF
                                                  (plA (-1 : Int) (0 : Int) (ww - (1 : Int)) (0 : Int) (1 : Int)
                                                    (0 : Int) ww wh)
                                                  ww ww wc (List.replicate (List.length wc) (0 : UInt8))
                                                  (Int.toNat (IntKind.wrap IntKind.i64 (a + (1 : Int))))) ∧
                                            True) ∧
                                        True) ∧
                                    At
                                      (relInv wc (IntKind.wrap IntKind.i64 (a + (1 : Int))) ∧
                                        Int.toNat
                                            ((↑(List.length wc) : Int) - IntKind.wrap IntKind.i64 (a + (1 : Int))) <
                                          Int.toNat ((↑(List.length wc) : Int) - a))) ∧
                  (decide (a < (↑(List.length wc) : Int)) = false →
                    At
                        (Int.toNat (↑(List.length wc) : Int) ≤
                          List.length
                            (rlF (plA (-1 : Int) (0 : Int) (ww - (1 : Int)) (0 : Int) (1 : Int) (0 : Int) ww wh) ww ww
                              wc (List.replicate (List.length wc) (0 : UInt8)) (Int.toNat a))) ∧
                      At
                          (goodB { r := wr, w := ww, h := wh, c := wc, x := wx, y := wy, d := wd } = true ∧
                            (0 : Int) ≤ wx ∧ wx ≤ (9 : Int) ∧ (0 : Int) ≤ wy ∧ wy ≤ (9 : Int)) ∧
                        At (List.length wr ≤ (1000 : Nat)) ∧
                          At ((4 : Int) ≠ (0 : Int)) ∧
                            K
                              (V.tup
                                [V.agg
                                    [V.str (othR wr), V.int IntKind.i64 ww, V.int IntKind.i64 wh,
                                      V.str
                                        (List.take (Int.toNat (↑(List.length wc) : Int))
                                          (rlF
                                            (plA (-1 : Int) (0 : Int) (ww - (1 : Int)) (0 : Int) (1 : Int) (0 : Int) ww
                                              wh)
                                            ww ww wc (List.replicate (List.length wc) (0 : UInt8)) (Int.toNat a))),
                                      V.int IntKind.i64 (ww - (1 : Int) - wx), V.int IntKind.i64 wy,
                                      V.int IntKind.i64
                                        (Int.tmod (IntKind.wrap IntKind.i64 ((4 : Int) - wd)) (4 : Int))],
                                  V.lit true])))

end Go.Vi
