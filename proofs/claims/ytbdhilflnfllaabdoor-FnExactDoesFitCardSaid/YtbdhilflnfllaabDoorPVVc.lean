/- The conditions, reckoned out by program: texts alone. -/
import Derived.Test.YtbdhilflnfllaabDoorPVDefs
namespace Go.Vi
set_option linter.unusedVariables false
def VC_impl_led (wr : List UInt8) (ww : Int) (wh : Int) (wc : List UInt8) (wx : Int) (wy : Int) (wd : Int) (s : Int) (K : V → Prop) : Prop := (((True ∧ s = s) ∧ ((81 : Nat) = (81 : 
  Nat) ∧ nilN = nilN) ∧ ((0 : Nat) = (0 : Nat) ∧ (0 : Nat) = (0 : Nat)) ∧ ((1 : Nat) = (1 : Nat) ∧ (0 : Nat) = (0 : Nat)) ∧ ((2 : Nat) = (2 : Nat) ∧ (0 : Nat) = (0 : Nat)) ∧ (True ∧ (1 
  : Int) = (1 : Int)) ∧ True) ∧ ((True ∧ wr = wr ∧ (True ∧ ww = ww) ∧ (True ∧ wh = wh) ∧ wc = wc ∧ (True ∧ wx = wx) ∧ (True ∧ wy = wy) ∧ (True ∧ wd = wd) ∧ True) ∧ (True ∧ nilB = nilB 
  ∧ (True ∧ (0 : Int) = (0 : Int)) ∧ (True ∧ (0 : Int) = (0 : Int)) ∧ nilB = nilB ∧ (True ∧ (0 : Int) = (0 : Int)) ∧ (True ∧ (0 : Int) = (0 : Int)) ∧ (True ∧ (0 : Int) = (0 : Int)) ∧ 
  True) ∧ (True ∧ wr = Wd.r { r := wr, w := ww, h := wh, c := wc, x := wx, y := wy, d := wd } ∧ (True ∧ ww = Wd.w { r := wr, w := ww, h := wh, c := wc, x := wx, y := wy, d := wd }) ∧ 
  (True ∧ wh = Wd.h { r := wr, w := ww, h := wh, c := wc, x := wx, y := wy, d := wd }) ∧ wc = Wd.c { r := wr, w := ww, h := wh, c := wc, x := wx, y := wy, d := wd } ∧ (True ∧ wx = Wd.x 
  { r := wr, w := ww, h := wh, c := wc, x := wx, y := wy, d := wd }) ∧ (True ∧ wy = Wd.y { r := wr, w := ww, h := wh, c := wc, x := wx, y := wy, d := wd }) ∧ (True ∧ wd = Wd.d { r := wr, w := ww, h := wh, c := wc, x := wx, y := wy, d := wd }) 
  ∧ True) ∧ True) ∧ True) ∧ At (ledInv stepW s { r := wr, w := ww, h := wh, c := wc, x := wx, y := wy, d := wd } { s := s, k := (1 : Int), v := { r := wr, w := ww, h := wh, c := wc, x := wx, y := wy, d := wd } }) 
  ∧ ∀ (a : Led), ledInv stepW s { r := wr, w := ww, h := wh, c := wc, x := wx, y := wy, d := wd } a → (decide (Led.k a ≤ Led.s a) = true → At (goodB (Led.v a) = true) ∧ ((Wd.r (stepW 
  (Led.v a)) == wr && (Wd.w (stepW (Led.v a)) == ww && (Wd.h (stepW (Led.v a)) == wh && (Wd.c (stepW (Led.v a)) == wc && (Wd.x (stepW (Led.v a)) == wx && (Wd.y (stepW (Led.v a)) == wy 
  && (Wd.d (stepW (Led.v a)) == wd && true))))))) = true → At (Led.k a ≠ (0 : Int)) ∧ (((True ∧ IntKind.wrap IntKind.i64 (Led.k a + Int.tmod (IntKind.wrap IntKind.i64 (Led.s a - Led.k 
  a)) (Led.k a)) = IntKind.wrap IntKind.i64 (Led.k a + Int.tmod (IntKind.wrap IntKind.i64 (Led.s a - Led.k a)) (Led.k a))) ∧ ((81 : Nat) = (81 : Nat) ∧ nilN = nilN) ∧ ((0 : Nat) = (0 
  : Nat) ∧ (0 : Nat) = (0 : Nat)) ∧ ((1 : Nat) = (1 : Nat) ∧ (0 : Nat) = (0 : Nat)) ∧ ((2 : Nat) = (2 : Nat) ∧ (0 : Nat) = (0 : Nat)) ∧ (True ∧ IntKind.wrap IntKind.i64 (Led.k a + (1 
  : Int)) = IntKind.wrap IntKind.i64 (Led.k a + (1 : Int))) ∧ True) ∧ ((True ∧ wr = wr ∧ (True ∧ ww = ww) ∧ (True ∧ wh = wh) ∧ wc = wc ∧ (True ∧ wx = wx) ∧ (True ∧ wy = wy) ∧ (True ∧ 
  wd = wd) ∧ True) ∧ (True ∧ nilB = nilB ∧ (True ∧ (0 : Int) = (0 : Int)) ∧ (True ∧ (0 : Int) = (0 : Int)) ∧ nilB = nilB ∧ (True ∧ (0 : Int) = (0 : Int)) ∧ (True ∧ (0 : Int) = (0 : Int)) 
  ∧ (True ∧ (0 : Int) = (0 : Int)) ∧ True) ∧ (True ∧ Wd.r (stepW (Led.v a)) = Wd.r (stepW (Led.v a)) ∧ (True ∧ Wd.w (stepW (Led.v a)) = Wd.w (stepW (Led.v a))) ∧ (True ∧ Wd.h (stepW (Led.v 
  a)) = Wd.h (stepW (Led.v a))) ∧ Wd.c (stepW (Led.v a)) = Wd.c (stepW (Led.v a)) ∧ (True ∧ Wd.x (stepW (Led.v a)) = Wd.x (stepW (Led.v a))) ∧ (True ∧ Wd.y (stepW (Led.v a)) = Wd.y (stepW 
  (Led.v a))) ∧ (True ∧ Wd.d (stepW (Led.v a)) = Wd.d (stepW (Led.v a))) ∧ True) ∧ True) ∧ True) ∧ At (ledInv stepW s { r := wr, w := ww, h := wh, c := wc, x := wx, y := wy, d := wd } 
  { s := IntKind.wrap IntKind.i64 (Led.k a + Int.tmod (IntKind.wrap IntKind.i64 (Led.s a - Led.k a)) (Led.k a)), k := IntKind.wrap IntKind.i64 (Led.k a + (1 : Int)), v := stepW (Led.v a) } 
  ∧ Int.toNat (IntKind.wrap IntKind.i64 (Led.k a + Int.tmod (IntKind.wrap IntKind.i64 (Led.s a - Led.k a)) (Led.k a)) - IntKind.wrap IntKind.i64 (Led.k a + (1 : Int)) + (1 : Int)) < Int.toNat 
  (Led.s a - Led.k a + (1 : Int)))) ∧ ((Wd.r (stepW (Led.v a)) == wr && (Wd.w (stepW (Led.v a)) == ww && (Wd.h (stepW (Led.v a)) == wh && (Wd.c (stepW (Led.v a)) == wc && (Wd.x (stepW 
  (Led.v a)) == wx && (Wd.y (stepW (Led.v a)) == wy && (Wd.d (stepW (Led.v a)) == wd && true))))))) = false → (((True ∧ Led.s a = Led.s a) ∧ ((81 : Nat) = (81 : Nat) ∧ nilN = nilN) ∧ 
  ((0 : Nat) = (0 : Nat) ∧ (0 : Nat) = (0 : Nat)) ∧ ((1 : Nat) = (1 : Nat) ∧ (0 : Nat) = (0 : Nat)) ∧ ((2 : Nat) = (2 : Nat) ∧ (0 : Nat) = (0 : Nat)) ∧ (True ∧ IntKind.wrap IntKind.i64 
  (Led.k a + (1 : Int)) = IntKind.wrap IntKind.i64 (Led.k a + (1 : Int))) ∧ True) ∧ ((True ∧ wr = wr ∧ (True ∧ ww = ww) ∧ (True ∧ wh = wh) ∧ wc = wc ∧ (True ∧ wx = wx) ∧ (True ∧ wy = 
  wy) ∧ (True ∧ wd = wd) ∧ True) ∧ (True ∧ nilB = nilB ∧ (True ∧ (0 : Int) = (0 : Int)) ∧ (True ∧ (0 : Int) = (0 : Int)) ∧ nilB = nilB ∧ (True ∧ (0 : Int) = (0 : Int)) ∧ (True ∧ (0 : 
  Int) = (0 : Int)) ∧ (True ∧ (0 : Int) = (0 : Int)) ∧ True) ∧ (True ∧ Wd.r (stepW (Led.v a)) = Wd.r (stepW (Led.v a)) ∧ (True ∧ Wd.w (stepW (Led.v a)) = Wd.w (stepW (Led.v a))) ∧ (True 
  ∧ Wd.h (stepW (Led.v a)) = Wd.h (stepW (Led.v a))) ∧ Wd.c (stepW (Led.v a)) = Wd.c (stepW (Led.v a)) ∧ (True ∧ Wd.x (stepW (Led.v a)) = Wd.x (stepW (Led.v a))) ∧ (True ∧ Wd.y (stepW 
  (Led.v a)) = Wd.y (stepW (Led.v a))) ∧ (True ∧ Wd.d (stepW (Led.v a)) = Wd.d (stepW (Led.v a))) ∧ True) ∧ True) ∧ True) ∧ At (ledInv stepW s { r := wr, w := ww, h := wh, c := wc, x := wx, y := wy, d := wd } 
  { s := Led.s a, k := IntKind.wrap IntKind.i64 (Led.k a + (1 : Int)), v := stepW (Led.v a) } ∧ Int.toNat (Led.s a - IntKind.wrap IntKind.i64 (Led.k a + (1 : Int)) + (1 : Int)) < Int.toNat 
  (Led.s a - Led.k a + (1 : Int))))) ∧ (decide (Led.k a ≤ Led.s a) = false → K (V.agg [V.str (Wd.r (Led.v a)), V.int IntKind.i64 (Wd.w (Led.v a)), V.int IntKind.i64 (Wd.h (Led.v a)), 
  V.str (Wd.c (Led.v a)), V.int IntKind.i64 (Wd.x (Led.v a)), V.int IntKind.i64 (Wd.y (Led.v a)), V.int IntKind.i64 (Wd.d (Led.v a))]))

def VC_impl_sumOf (s : List UInt8) (K : V → Prop) : Prop :=
  ((s = s ∧
      (True ∧ (0 : Int) = (0 : Int)) ∧
        (True ∧ (0 : Int) = sumC (List.take (Int.toNat (0 : Int)) s)) ∧
          (True ∧ (↑(List.length s) : Int) = (↑(List.length s) : Int)) ∧ (True ∧ (0 : Int) = (0 : Int)) ∧ True) ∧
    True ∧ True) ∧
  At (smInv s (0 : Int)) ∧
    ∀ (a : Int),
      smInv s a →
        (decide (a < (↑(List.length s) : Int)) = true →
            At ((0 : Int) ≤ a ∧ a < (↑(List.length s) : Int)) ∧
              At
                  ((0 : Int) ≤ (↑(UInt8.toNat (List.getD s (Int.toNat a) (0 : UInt8))) : Int) ∧
                    (↑(UInt8.toNat (List.getD s (Int.toNat a) (0 : UInt8))) : Int) < (256 : Int)) ∧
                ((s = s ∧
                      (True ∧ (0 : Int) = (0 : Int)) ∧
                        (True ∧
                            IntKind.wrap IntKind.i64
                                (sumC (List.take (Int.toNat a) s) +
                                  ((↑(UInt8.toNat (List.getD s (Int.toNat a) (0 : UInt8))) : Int) - (48 : Int))) =
                              sumC (List.take (Int.toNat (IntKind.wrap IntKind.i64 (a + (1 : Int)))) s)) ∧
                          (True ∧ (↑(List.length s) : Int) = (↑(List.length s) : Int)) ∧
                            (True ∧
                                IntKind.wrap IntKind.i64 (a + (1 : Int)) = IntKind.wrap IntKind.i64 (a + (1 : Int))) ∧
                              True) ∧
                    True ∧ True) ∧
                  At
                    (smInv s (IntKind.wrap IntKind.i64 (a + (1 : Int))) ∧
                      Int.toNat ((↑(List.length s) : Int) - IntKind.wrap IntKind.i64 (a + (1 : Int))) <
                        Int.toNat ((↑(List.length s) : Int) - a))) ∧
          (decide (a < (↑(List.length s) : Int)) = false → K (V.int IntKind.i64 (sumC (List.take (Int.toNat a) s))))

def VC_spec_pzValue (k : Int) (a : Int) (wr : List UInt8) (ww : Int) (wh : Int) (wc : List UInt8) (wx : Int) (wy : Int) (wd : Int) (K : V → Prop) : Prop := (decide (k > (0 : Int)) = 
  true → (decide (k < (4 : Int)) = true → (((True ∧ k = k) ∧ (True ∧ a = a) ∧ ((0 : Nat) = (0 : Nat) ∧ (0 : Nat) = (0 : Nat)) ∧ (True ∧ (0 : Int) = (0 : Int)) ∧ (True ∧ (0 : Int) = (0 
  : Int)) ∧ (True ∧ (0 : Int) = (0 : Int)) ∧ True) ∧ ((True ∧ wr = Wd.r { r := wr, w := ww, h := wh, c := wc, x := wx, y := wy, d := wd } ∧ (True ∧ ww = Wd.w { r := wr, w := ww, h := wh, c := wc, x := wx, y := wy, d := wd }) 
  ∧ (True ∧ wh = Wd.h { r := wr, w := ww, h := wh, c := wc, x := wx, y := wy, d := wd }) ∧ wc = Wd.c { r := wr, w := ww, h := wh, c := wc, x := wx, y := wy, d := wd } ∧ (True ∧ wx = Wd.x 
  { r := wr, w := ww, h := wh, c := wc, x := wx, y := wy, d := wd }) ∧ (True ∧ wy = Wd.y { r := wr, w := ww, h := wh, c := wc, x := wx, y := wy, d := wd }) ∧ (True ∧ wd = Wd.d { r := wr, w := ww, h := wh, c := wc, x := wx, y := wy, d := wd }) 
  ∧ True) ∧ True) ∧ True) ∧ At (pvInv { r := wr, w := ww, h := wh, c := wc, x := wx, y := wy, d := wd } a (a, { r := wr, w := ww, h := wh, c := wc, x := wx, y := wy, d := wd })) ∧ ∀ (a_3 
  : Int × Wd), pvInv { r := wr, w := ww, h := wh, c := wc, x := wx, y := wy, d := wd } a a_3 → (decide (Prod.fst a_3 > (0 : Int)) = true → At (goodB (Prod.snd a_3) = true) ∧ (((True ∧ 
  k = k) ∧ (True ∧ IntKind.wrap IntKind.i64 (Prod.fst a_3 - (1 : Int)) = IntKind.wrap IntKind.i64 (Prod.fst a_3 - (1 : Int))) ∧ ((0 : Nat) = (0 : Nat) ∧ (0 : Nat) = (0 : Nat)) ∧ (True 
  ∧ (0 : Int) = (0 : Int)) ∧ (True ∧ (0 : Int) = (0 : Int)) ∧ (True ∧ (0 : Int) = (0 : Int)) ∧ True) ∧ ((True ∧ Wd.r (stepW (Prod.snd a_3)) = Wd.r (stepW (Prod.snd a_3)) ∧ (True ∧ Wd.w 
  (stepW (Prod.snd a_3)) = Wd.w (stepW (Prod.snd a_3))) ∧ (True ∧ Wd.h (stepW (Prod.snd a_3)) = Wd.h (stepW (Prod.snd a_3))) ∧ Wd.c (stepW (Prod.snd a_3)) = Wd.c (stepW (Prod.snd a_3)) 
  ∧ (True ∧ Wd.x (stepW (Prod.snd a_3)) = Wd.x (stepW (Prod.snd a_3))) ∧ (True ∧ Wd.y (stepW (Prod.snd a_3)) = Wd.y (stepW (Prod.snd a_3))) ∧ (True ∧ Wd.d (stepW (Prod.snd a_3)) = Wd.d 
  (stepW (Prod.snd a_3))) ∧ True) ∧ True) ∧ True) ∧ At (pvInv { r := wr, w := ww, h := wh, c := wc, x := wx, y := wy, d := wd } a (IntKind.wrap IntKind.i64 (Prod.fst a_3 - (1 : Int)), 
  stepW (Prod.snd a_3)) ∧ Int.toNat (IntKind.wrap IntKind.i64 (Prod.fst a_3 - (1 : Int))) < Int.toNat (Prod.fst a_3))) ∧ (decide (Prod.fst a_3 > (0 : Int)) = false → (((True ∧ k = k) 
  ∧ (True ∧ Prod.fst a_3 = Prod.fst a_3) ∧ ((0 : Nat) = (0 : Nat) ∧ (0 : Nat) = (0 : Nat)) ∧ (True ∧ (0 : Int) = (0 : Int)) ∧ (True ∧ (0 : Int) = sumC (List.take (Int.toNat (0 : Int)) 
  (Wd.c (Prod.snd a_3)))) ∧ (True ∧ (0 : Int) = cntC (48 : UInt8) (List.take (Int.toNat (0 : Int)) (Wd.c (Prod.snd a_3)))) ∧ (True ∧ (0 : Int) = (0 : Int)) ∧ True) ∧ ((True ∧ Wd.r (Prod.snd 
  a_3) = Wd.r (Prod.snd a_3) ∧ (True ∧ Wd.w (Prod.snd a_3) = Wd.w (Prod.snd a_3)) ∧ (True ∧ Wd.h (Prod.snd a_3) = Wd.h (Prod.snd a_3)) ∧ Wd.c (Prod.snd a_3) = Wd.c (Prod.snd a_3) ∧ (True 
  ∧ Wd.x (Prod.snd a_3) = Wd.x (Prod.snd a_3)) ∧ (True ∧ Wd.y (Prod.snd a_3) = Wd.y (Prod.snd a_3)) ∧ (True ∧ Wd.d (Prod.snd a_3) = Wd.d (Prod.snd a_3)) ∧ True) ∧ True) ∧ True) ∧ At (pvsInv 
  (Wd.c (Prod.snd a_3)) (0 : Int)) ∧ ∀ (a : Int), pvsInv (Wd.c (Prod.snd a_3)) a → (decide (a < (↑(List.length (Wd.c (Prod.snd a_3))) : Int)) = true → At ((0 : Int) ≤ a ∧ a < (↑(List.length 
  (Wd.c (Prod.snd a_3))) : Int)) ∧ At ((0 : Int) ≤ a ∧ a < (↑(List.length (Wd.c (Prod.snd a_3))) : Int)) ∧ (((↑(UInt8.toNat (List.getD (Wd.c (Prod.snd a_3)) (Int.toNat a) (0 : UInt8))) 
  : Int) == (48 : Int)) = true → (((True ∧ k = k) ∧ (True ∧ Prod.fst a_3 = Prod.fst a_3) ∧ ((0 : Nat) = (0 : Nat) ∧ (0 : Nat) = (0 : Nat)) ∧ (True ∧ (0 : Int) = (0 : Int)) ∧ (True ∧ IntKind.wrap 
  IntKind.i64 (sumC (List.take (Int.toNat a) (Wd.c (Prod.snd a_3))) + IntKind.wrap IntKind.i64 (IntKind.wrap IntKind.u8 ((↑(UInt8.toNat (List.getD (Wd.c (Prod.snd a_3)) (Int.toNat a) 
  (0 : UInt8))) : Int) - (48 : Int)))) = sumC (List.take (Int.toNat (IntKind.wrap IntKind.i64 (a + (1 : Int)))) (Wd.c (Prod.snd a_3)))) ∧ (True ∧ IntKind.wrap IntKind.i64 (cntC (48 : 
  UInt8) (List.take (Int.toNat a) (Wd.c (Prod.snd a_3))) + (1 : Int)) = cntC (48 : UInt8) (List.take (Int.toNat (IntKind.wrap IntKind.i64 (a + (1 : Int)))) (Wd.c (Prod.snd a_3)))) ∧ (True 
  ∧ IntKind.wrap IntKind.i64 (a + (1 : Int)) = IntKind.wrap IntKind.i64 (a + (1 : Int))) ∧ True) ∧ ((True ∧ Wd.r (Prod.snd a_3) = Wd.r (Prod.snd a_3) ∧ (True ∧ Wd.w (Prod.snd a_3) = Wd.w 
  (Prod.snd a_3)) ∧ (True ∧ Wd.h (Prod.snd a_3) = Wd.h (Prod.snd a_3)) ∧ Wd.c (Prod.snd a_3) = Wd.c (Prod.snd a_3) ∧ (True ∧ Wd.x (Prod.snd a_3) = Wd.x (Prod.snd a_3)) ∧ (True ∧ Wd.y 
  (Prod.snd a_3) = Wd.y (Prod.snd a_3)) ∧ (True ∧ Wd.d (Prod.snd a_3) = Wd.d (Prod.snd a_3)) ∧ True) ∧ True) ∧ True) ∧ At (pvsInv (Wd.c (Prod.snd a_3)) (IntKind.wrap IntKind.i64 (a + 
  (1 : Int))) ∧ Int.toNat ((↑(List.length (Wd.c (Prod.snd a_3))) : Int) - IntKind.wrap IntKind.i64 (a + (1 : Int))) < Int.toNat ((↑(List.length (Wd.c (Prod.snd a_3))) : Int) - a))) ∧ 
  (((↑(UInt8.toNat (List.getD (Wd.c (Prod.snd a_3)) (Int.toNat a) (0 : UInt8))) : Int) == (48 : Int)) = false → (((True ∧ k = k) ∧ (True ∧ Prod.fst a_3 = Prod.fst a_3) ∧ ((0 : Nat) = 
  (0 : Nat) ∧ (0 : Nat) = (0 : Nat)) ∧ (True ∧ (0 : Int) = (0 : Int)) ∧ (True ∧ IntKind.wrap IntKind.i64 (sumC (List.take (Int.toNat a) (Wd.c (Prod.snd a_3))) + IntKind.wrap IntKind.i64 
  (IntKind.wrap IntKind.u8 ((↑(UInt8.toNat (List.getD (Wd.c (Prod.snd a_3)) (Int.toNat a) (0 : UInt8))) : Int) - (48 : Int)))) = sumC (List.take (Int.toNat (IntKind.wrap IntKind.i64 (a 
  + (1 : Int)))) (Wd.c (Prod.snd a_3)))) ∧ (True ∧ cntC (48 : UInt8) (List.take (Int.toNat a) (Wd.c (Prod.snd a_3))) = cntC (48 : UInt8) (List.take (Int.toNat (IntKind.wrap IntKind.i64 
  (a + (1 : Int)))) (Wd.c (Prod.snd a_3)))) ∧ (True ∧ IntKind.wrap IntKind.i64 (a + (1 : Int)) = IntKind.wrap IntKind.i64 (a + (1 : Int))) ∧ True) ∧ ((True ∧ Wd.r (Prod.snd a_3) = Wd.r 
  (Prod.snd a_3) ∧ (True ∧ Wd.w (Prod.snd a_3) = Wd.w (Prod.snd a_3)) ∧ (True ∧ Wd.h (Prod.snd a_3) = Wd.h (Prod.snd a_3)) ∧ Wd.c (Prod.snd a_3) = Wd.c (Prod.snd a_3) ∧ (True ∧ Wd.x (Prod.snd 
  a_3) = Wd.x (Prod.snd a_3)) ∧ (True ∧ Wd.y (Prod.snd a_3) = Wd.y (Prod.snd a_3)) ∧ (True ∧ Wd.d (Prod.snd a_3) = Wd.d (Prod.snd a_3)) ∧ True) ∧ True) ∧ True) ∧ At (pvsInv (Wd.c (Prod.snd 
  a_3)) (IntKind.wrap IntKind.i64 (a + (1 : Int))) ∧ Int.toNat ((↑(List.length (Wd.c (Prod.snd a_3))) : Int) - IntKind.wrap IntKind.i64 (a + (1 : Int))) < Int.toNat ((↑(List.length (Wd.c 
  (Prod.snd a_3))) : Int) - a)))) ∧ (decide (a < (↑(List.length (Wd.c (Prod.snd a_3))) : Int)) = false → ((k == (0 : Int)) = true → At ((0 : Int) ≤ Prod.fst a_3 ∧ Prod.fst a_3 < (↑(List.length 
  (Wd.c (Prod.snd a_3))) : Int)) ∧ K (V.int IntKind.i64 (IntKind.wrap IntKind.i64 (IntKind.wrap IntKind.u8 ((↑(UInt8.toNat (List.getD (Wd.c (Prod.snd a_3)) (Int.toNat (Prod.fst a_3)) 
  (0 : UInt8))) : Int) - (48 : Int)))))) ∧ ((k == (0 : Int)) = false → ((k == (1 : Int)) = true → K (V.int IntKind.i64 (IntKind.wrap IntKind.i64 (IntKind.wrap IntKind.i64 (Wd.y (Prod.snd 
  a_3) * Wd.w (Prod.snd a_3)) + Wd.x (Prod.snd a_3))))) ∧ ((k == (1 : Int)) = false → ((k == (2 : Int)) = true → K (V.int IntKind.i64 (Wd.d (Prod.snd a_3)))) ∧ ((k == (2 : Int)) = false 
  → ((k == (3 : Int)) = true → K (V.int IntKind.i64 (cntC (48 : UInt8) (List.take (Int.toNat a) (Wd.c (Prod.snd a_3)))))) ∧ ((k == (3 : Int)) = false → K (V.int IntKind.i64 (sumC (List.take 
  (Int.toNat a) (Wd.c (Prod.snd a_3)))))))))))) ∧ (decide (k < (4 : Int)) = false → (((True ∧ k = k) ∧ (True ∧ a = a) ∧ ((0 : Nat) = (0 : Nat) ∧ (0 : Nat) = (0 : Nat)) ∧ (True ∧ (0 : 
  Int) = (0 : Int)) ∧ (True ∧ (0 : Int) = sumC (List.take (Int.toNat (0 : Int)) wc)) ∧ (True ∧ (0 : Int) = cntC (48 : UInt8) (List.take (Int.toNat (0 : Int)) wc)) ∧ (True ∧ (0 : Int) 
  = (0 : Int)) ∧ True) ∧ ((True ∧ wr = wr ∧ (True ∧ ww = ww) ∧ (True ∧ wh = wh) ∧ wc = wc ∧ (True ∧ wx = wx) ∧ (True ∧ wy = wy) ∧ (True ∧ wd = wd) ∧ True) ∧ True) ∧ True) ∧ At (pvsInv 
  wc (0 : Int)) ∧ ∀ (a_3 : Int), pvsInv wc a_3 → (decide (a_3 < (↑(List.length wc) : Int)) = true → At ((0 : Int) ≤ a_3 ∧ a_3 < (↑(List.length wc) : Int)) ∧ At ((0 : Int) ≤ a_3 ∧ a_3 
  < (↑(List.length wc) : Int)) ∧ (((↑(UInt8.toNat (List.getD wc (Int.toNat a_3) (0 : UInt8))) : Int) == (48 : Int)) = true → (((True ∧ k = k) ∧ (True ∧ a = a) ∧ ((0 : Nat) = (0 : Nat) 
  ∧ (0 : Nat) = (0 : Nat)) ∧ (True ∧ (0 : Int) = (0 : Int)) ∧ (True ∧ IntKind.wrap IntKind.i64 (sumC (List.take (Int.toNat a_3) wc) + IntKind.wrap IntKind.i64 (IntKind.wrap IntKind.u8 
  ((↑(UInt8.toNat (List.getD wc (Int.toNat a_3) (0 : UInt8))) : Int) - (48 : Int)))) = sumC (List.take (Int.toNat (IntKind.wrap IntKind.i64 (a_3 + (1 : Int)))) wc)) ∧ (True ∧ IntKind.wrap 
  IntKind.i64 (cntC (48 : UInt8) (List.take (Int.toNat a_3) wc) + (1 : Int)) = cntC (48 : UInt8) (List.take (Int.toNat (IntKind.wrap IntKind.i64 (a_3 + (1 : Int)))) wc)) ∧ (True ∧ IntKind.wrap 
  IntKind.i64 (a_3 + (1 : Int)) = IntKind.wrap IntKind.i64 (a_3 + (1 : Int))) ∧ True) ∧ ((True ∧ wr = wr ∧ (True ∧ ww = ww) ∧ (True ∧ wh = wh) ∧ wc = wc ∧ (True ∧ wx = wx) ∧ (True ∧ wy 
  = wy) ∧ (True ∧ wd = wd) ∧ True) ∧ True) ∧ True) ∧ At (pvsInv wc (IntKind.wrap IntKind.i64 (a_3 + (1 : Int))) ∧ Int.toNat ((↑(List.length wc) : Int) - IntKind.wrap IntKind.i64 (a_3 
  + (1 : Int))) < Int.toNat ((↑(List.length wc) : Int) - a_3))) ∧ (((↑(UInt8.toNat (List.getD wc (Int.toNat a_3) (0 : UInt8))) : Int) == (48 : Int)) = false → (((True ∧ k = k) ∧ (True 
  ∧ a = a) ∧ ((0 : Nat) = (0 : Nat) ∧ (0 : Nat) = (0 : Nat)) ∧ (True ∧ (0 : Int) = (0 : Int)) ∧ (True ∧ IntKind.wrap IntKind.i64 (sumC (List.take (Int.toNat a_3) wc) + IntKind.wrap IntKind.i64 
  (IntKind.wrap IntKind.u8 ((↑(UInt8.toNat (List.getD wc (Int.toNat a_3) (0 : UInt8))) : Int) - (48 : Int)))) = sumC (List.take (Int.toNat (IntKind.wrap IntKind.i64 (a_3 + (1 : Int)))) 
  wc)) ∧ (True ∧ cntC (48 : UInt8) (List.take (Int.toNat a_3) wc) = cntC (48 : UInt8) (List.take (Int.toNat (IntKind.wrap IntKind.i64 (a_3 + (1 : Int)))) wc)) ∧ (True ∧ IntKind.wrap IntKind.i64 
  (a_3 + (1 : Int)) = IntKind.wrap IntKind.i64 (a_3 + (1 : Int))) ∧ True) ∧ ((True ∧ wr = wr ∧ (True ∧ ww = ww) ∧ (True ∧ wh = wh) ∧ wc = wc ∧ (True ∧ wx = wx) ∧ (True ∧ wy = wy) ∧ (True 
  ∧ wd = wd) ∧ True) ∧ True) ∧ True) ∧ At (pvsInv wc (IntKind.wrap IntKind.i64 (a_3 + (1 : Int))) ∧ Int.toNat ((↑(List.length wc) : Int) - IntKind.wrap IntKind.i64 (a_3 + (1 : Int))) 
  < Int.toNat ((↑(List.length wc) : Int) - a_3)))) ∧ (decide (a_3 < (↑(List.length wc) : Int)) = false → ((k == (0 : Int)) = true → At ((0 : Int) ≤ a ∧ a < (↑(List.length wc) : Int)) 
  ∧ K (V.int IntKind.i64 (IntKind.wrap IntKind.i64 (IntKind.wrap IntKind.u8 ((↑(UInt8.toNat (List.getD wc (Int.toNat a) (0 : UInt8))) : Int) - (48 : Int)))))) ∧ ((k == (0 : Int)) = false 
  → ((k == (1 : Int)) = true → K (V.int IntKind.i64 (IntKind.wrap IntKind.i64 (IntKind.wrap IntKind.i64 (wy * ww) + wx)))) ∧ ((k == (1 : Int)) = false → ((k == (2 : Int)) = true → K (V.int 
  IntKind.i64 wd)) ∧ ((k == (2 : Int)) = false → ((k == (3 : Int)) = true → K (V.int IntKind.i64 (cntC (48 : UInt8) (List.take (Int.toNat a_3) wc)))) ∧ ((k == (3 : Int)) = false → K (V.int 
  IntKind.i64 (sumC (List.take (Int.toNat a_3) wc)))))))))) ∧ (decide (k > (0 : Int)) = false → (((True ∧ k = k) ∧ (True ∧ a = a) ∧ ((0 : Nat) = (0 : Nat) ∧ (0 : Nat) = (0 : Nat)) ∧ (True 
  ∧ (0 : Int) = (0 : Int)) ∧ (True ∧ (0 : Int) = sumC (List.take (Int.toNat (0 : Int)) wc)) ∧ (True ∧ (0 : Int) = cntC (48 : UInt8) (List.take (Int.toNat (0 : Int)) wc)) ∧ (True ∧ (0 
  : Int) = (0 : Int)) ∧ True) ∧ ((True ∧ wr = wr ∧ (True ∧ ww = ww) ∧ (True ∧ wh = wh) ∧ wc = wc ∧ (True ∧ wx = wx) ∧ (True ∧ wy = wy) ∧ (True ∧ wd = wd) ∧ True) ∧ True) ∧ True) ∧ At 
  (pvsInv wc (0 : Int)) ∧ ∀ (a_2 : Int), pvsInv wc a_2 → (decide (a_2 < (↑(List.length wc) : Int)) = true → At ((0 : Int) ≤ a_2 ∧ a_2 < (↑(List.length wc) : Int)) ∧ At ((0 : Int) ≤ a_2 
  ∧ a_2 < (↑(List.length wc) : Int)) ∧ (((↑(UInt8.toNat (List.getD wc (Int.toNat a_2) (0 : UInt8))) : Int) == (48 : Int)) = true → (((True ∧ k = k) ∧ (True ∧ a = a) ∧ ((0 : Nat) = (0 
  : Nat) ∧ (0 : Nat) = (0 : Nat)) ∧ (True ∧ (0 : Int) = (0 : Int)) ∧ (True ∧ IntKind.wrap IntKind.i64 (sumC (List.take (Int.toNat a_2) wc) + IntKind.wrap IntKind.i64 (IntKind.wrap IntKind.u8 
  ((↑(UInt8.toNat (List.getD wc (Int.toNat a_2) (0 : UInt8))) : Int) - (48 : Int)))) = sumC (List.take (Int.toNat (IntKind.wrap IntKind.i64 (a_2 + (1 : Int)))) wc)) ∧ (True ∧ IntKind.wrap 
  IntKind.i64 (cntC (48 : UInt8) (List.take (Int.toNat a_2) wc) + (1 : Int)) = cntC (48 : UInt8) (List.take (Int.toNat (IntKind.wrap IntKind.i64 (a_2 + (1 : Int)))) wc)) ∧ (True ∧ IntKind.wrap 
  IntKind.i64 (a_2 + (1 : Int)) = IntKind.wrap IntKind.i64 (a_2 + (1 : Int))) ∧ True) ∧ ((True ∧ wr = wr ∧ (True ∧ ww = ww) ∧ (True ∧ wh = wh) ∧ wc = wc ∧ (True ∧ wx = wx) ∧ (True ∧ wy 
  = wy) ∧ (True ∧ wd = wd) ∧ True) ∧ True) ∧ True) ∧ At (pvsInv wc (IntKind.wrap IntKind.i64 (a_2 + (1 : Int))) ∧ Int.toNat ((↑(List.length wc) : Int) - IntKind.wrap IntKind.i64 (a_2 
  + (1 : Int))) < Int.toNat ((↑(List.length wc) : Int) - a_2))) ∧ (((↑(UInt8.toNat (List.getD wc (Int.toNat a_2) (0 : UInt8))) : Int) == (48 : Int)) = false → (((True ∧ k = k) ∧ (True 
  ∧ a = a) ∧ ((0 : Nat) = (0 : Nat) ∧ (0 : Nat) = (0 : Nat)) ∧ (True ∧ (0 : Int) = (0 : Int)) ∧ (True ∧ IntKind.wrap IntKind.i64 (sumC (List.take (Int.toNat a_2) wc) + IntKind.wrap IntKind.i64 
  (IntKind.wrap IntKind.u8 ((↑(UInt8.toNat (List.getD wc (Int.toNat a_2) (0 : UInt8))) : Int) - (48 : Int)))) = sumC (List.take (Int.toNat (IntKind.wrap IntKind.i64 (a_2 + (1 : Int)))) 
  wc)) ∧ (True ∧ cntC (48 : UInt8) (List.take (Int.toNat a_2) wc) = cntC (48 : UInt8) (List.take (Int.toNat (IntKind.wrap IntKind.i64 (a_2 + (1 : Int)))) wc)) ∧ (True ∧ IntKind.wrap IntKind.i64 
  (a_2 + (1 : Int)) = IntKind.wrap IntKind.i64 (a_2 + (1 : Int))) ∧ True) ∧ ((True ∧ wr = wr ∧ (True ∧ ww = ww) ∧ (True ∧ wh = wh) ∧ wc = wc ∧ (True ∧ wx = wx) ∧ (True ∧ wy = wy) ∧ (True 
  ∧ wd = wd) ∧ True) ∧ True) ∧ True) ∧ At (pvsInv wc (IntKind.wrap IntKind.i64 (a_2 + (1 : Int))) ∧ Int.toNat ((↑(List.length wc) : Int) - IntKind.wrap IntKind.i64 (a_2 + (1 : Int))) 
  < Int.toNat ((↑(List.length wc) : Int) - a_2)))) ∧ (decide (a_2 < (↑(List.length wc) : Int)) = false → ((k == (0 : Int)) = true → At ((0 : Int) ≤ a ∧ a < (↑(List.length wc) : Int)) 
  ∧ K (V.int IntKind.i64 (IntKind.wrap IntKind.i64 (IntKind.wrap IntKind.u8 ((↑(UInt8.toNat (List.getD wc (Int.toNat a) (0 : UInt8))) : Int) - (48 : Int)))))) ∧ ((k == (0 : Int)) = false 
  → ((k == (1 : Int)) = true → K (V.int IntKind.i64 (IntKind.wrap IntKind.i64 (IntKind.wrap IntKind.i64 (wy * ww) + wx)))) ∧ ((k == (1 : Int)) = false → ((k == (2 : Int)) = true → K (V.int 
  IntKind.i64 wd)) ∧ ((k == (2 : Int)) = false → ((k == (3 : Int)) = true → K (V.int IntKind.i64 (cntC (48 : UInt8) (List.take (Int.toNat a_2) wc)))) ∧ ((k == (3 : Int)) = false → K (V.int 
  IntKind.i64 (sumC (List.take (Int.toNat a_2) wc)))))))))

def VC_spec_pzFits (cx : Int) (cy : Int) (ck : Int) (wr : List UInt8) (ww : Int) (wh : Int) (wc : List UInt8) (wx : Int) (wy : Int) (wd : Int) (K : V → Prop) : Prop :=
  ((cx == (4 : Int)) = true →
    True ∧
      At (askK (4 : Int) (0 : Int) { r := wr, w := ww, h := wh, c := wc, x := wx, y := wy, d := wd } = true) ∧
        K (V.bool (valK (4 : Int) (0 : Int) { r := wr, w := ww, h := wh, c := wc, x := wx, y := wy, d := wd } == cy))) ∧
  ((cx == (4 : Int)) = false →
    True ∧
      At (askK cx cy { r := wr, w := ww, h := wh, c := wc, x := wx, y := wy, d := wd } = true) ∧
        K (V.bool (valK cx cy { r := wr, w := ww, h := wh, c := wc, x := wx, y := wy, d := wd } == ck)))

def VC_impl_clueFrom (wr : List UInt8) (ww : Int) (wh : Int) (wc : List UInt8) (wx : Int) (wy : Int) (wd : Int) (k : Int) (a : Int) (K : V → Prop) : Prop := ((k == (0 : Int)) = true 
  → At ((0 : Int) ≤ a ∧ a < (↑(List.length wc) : Int)) ∧ At ((0 : Int) ≤ (↑(UInt8.toNat (List.getD wc (Int.toNat a) (0 : UInt8))) : Int) ∧ (↑(UInt8.toNat (List.getD wc (Int.toNat a) (0 
  : UInt8))) : Int) < (256 : Int)) ∧ K (V.agg [V.int IntKind.i64 k, V.int IntKind.i64 a, V.int IntKind.i64 ((↑(UInt8.toNat (List.getD wc (Int.toNat a) (0 : UInt8))) : Int) - (48 : Int))])) 
  ∧ ((k == (0 : Int)) = false → ((k == (4 : Int)) = true → At (List.length wc ≤ (1000 : Nat)) ∧ K (V.agg [V.int IntKind.i64 k, V.int IntKind.i64 (sumC wc), V.int IntKind.i64 (0 : Int)])) 
  ∧ ((k == (4 : Int)) = false → At (goodB { r := wr, w := ww, h := wh, c := wc, x := wx, y := wy, d := wd } = true ∧ (0 : Int) ≤ a ∧ a ≤ (3000 : Int)) ∧ ((k == (1 : Int)) = true → K (V.agg 
  [V.int IntKind.i64 k, V.int IntKind.i64 a, V.int IntKind.i64 (IntKind.wrap IntKind.i64 (IntKind.wrap IntKind.i64 (Wd.y (iterW stepW (Int.toNat a) { r := wr, w := ww, h := wh, c := wc, x := wx, y := wy, d := wd }) 
  * Wd.w (iterW stepW (Int.toNat a) { r := wr, w := ww, h := wh, c := wc, x := wx, y := wy, d := wd })) + Wd.x (iterW stepW (Int.toNat a) { r := wr, w := ww, h := wh, c := wc, x := wx, y := wy, d := wd })))])) 
  ∧ ((k == (1 : Int)) = false → ((k == (2 : Int)) = true → K (V.agg [V.int IntKind.i64 k, V.int IntKind.i64 a, V.int IntKind.i64 (Wd.d (iterW stepW (Int.toNat a) { r := wr, w := ww, h := wh, c := wc, x := wx, y := wy, d := wd }))])) 
  ∧ ((k == (2 : Int)) = false → ((k == (3 : Int)) = true → At (List.length (Array.toList #[(48 : UInt8)]) = (1 : Nat)) ∧ K (V.agg [V.int IntKind.i64 k, V.int IntKind.i64 a, V.int IntKind.i64 
  (cntC (List.getD (Array.toList #[(48 : UInt8)]) (0 : Nat) (0 : UInt8)) (Wd.c (iterW stepW (Int.toNat a) { r := wr, w := ww, h := wh, c := wc, x := wx, y := wy, d := wd })))])) ∧ ((k 
  == (3 : Int)) = false → K (V.agg [V.int IntKind.i64 k, V.int IntKind.i64 a, V.int IntKind.i64 (0 : Int)]))))))

def VC_impl_doesFit (cx : Int) (cy : Int) (ck : Int) (wr : List UInt8) (ww : Int) (wh : Int) (wc : List UInt8) (wx : Int) (wy : Int) (wd : Int) (K : V → Prop) : Prop :=
  True ∧
  At (askK cx cy { r := wr, w := ww, h := wh, c := wc, x := wx, y := wy, d := wd } = true) ∧
    K
      (V.bool
        (cx == cx &&
          ((cy ==
              bif cx == (4 : Int) then
                valK (4 : Int) (0 : Int) { r := wr, w := ww, h := wh, c := wc, x := wx, y := wy, d := wd }
              else cy) &&
            ((ck ==
                bif cx == (4 : Int) then (0 : Int)
                else valK cx cy { r := wr, w := ww, h := wh, c := wc, x := wx, y := wy, d := wd }) &&
              true))))

end Go.Vi
