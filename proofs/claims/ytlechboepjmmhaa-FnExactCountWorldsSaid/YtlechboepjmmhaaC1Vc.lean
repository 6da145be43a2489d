/- The conditions, reckoned out by program: texts alone. -/
import Derived.Test.YtlechboepjmmhaaC1Defs
namespace Go.Vi
set_option linter.unusedVariables false
def VC_spec_ColourSum (wr : List UInt8) (ww : Int) (wh : Int) (wc : List UInt8) (wx : Int) (wy : Int) (wd : Int) (K : V → Prop) : Prop :=
  At True ∧
  ((!goodB { r := wr, w := ww, h := wh, c := wc, x := wx, y := wy, d := wd }) = true →
      K (V.tup [V.int IntKind.i64 (0 : Int), V.lit false])) ∧
    ((!goodB { r := wr, w := ww, h := wh, c := wc, x := wx, y := wy, d := wd }) = false →
      ((((0 : Nat) = (0 : Nat) ∧ (0 : Nat) = (0 : Nat)) ∧
            (True ∧ (0 : Int) = sumC (List.take (Int.toNat (0 : Int)) wc)) ∧ (True ∧ (0 : Int) = (0 : Int)) ∧ True) ∧
          ((True ∧
                wr = wr ∧
                  (True ∧ ww = ww) ∧
                    (True ∧ wh = wh) ∧ wc = wc ∧ (True ∧ wx = wx) ∧ (True ∧ wy = wy) ∧ (True ∧ wd = wd) ∧ True) ∧
              True) ∧
            True) ∧
        At (smInv wc (0 : Int)) ∧
          ∀ (a : Int),
            smInv wc a →
              (decide (a < (↑(List.length wc) : Int)) = true →
                  At ((0 : Int) ≤ a ∧ a < (↑(List.length wc) : Int)) ∧
                    ((((0 : Nat) = (0 : Nat) ∧ (0 : Nat) = (0 : Nat)) ∧
                          (True ∧
                              IntKind.wrap IntKind.i64
                                  (sumC (List.take (Int.toNat a) wc) +
                                    IntKind.wrap IntKind.i64
                                      (IntKind.wrap IntKind.u8
                                        ((↑(UInt8.toNat (List.getD wc (Int.toNat a) (0 : UInt8))) : Int) -
                                          (48 : Int)))) =
                                sumC (List.take (Int.toNat (IntKind.wrap IntKind.i64 (a + (1 : Int)))) wc)) ∧
                            (True ∧
                                IntKind.wrap IntKind.i64 (a + (1 : Int)) = IntKind.wrap IntKind.i64 (a + (1 : Int))) ∧
                              True) ∧
                        ((True ∧
                              wr = wr ∧
                                (True ∧ ww = ww) ∧
                                  (True ∧ wh = wh) ∧
                                    wc = wc ∧ (True ∧ wx = wx) ∧ (True ∧ wy = wy) ∧ (True ∧ wd = wd) ∧ True) ∧
                            True) ∧
                          True) ∧
                      At
                        (smInv wc (IntKind.wrap IntKind.i64 (a + (1 : Int))) ∧
                          Int.toNat ((↑(List.length wc) : Int) - IntKind.wrap IntKind.i64 (a + (1 : Int))) <
                            Int.toNat ((↑(List.length wc) : Int) - a))) ∧
                (decide (a < (↑(List.length wc) : Int)) = false →
                  At ((↑(List.length wr) : Int) ≠ (0 : Int)) ∧
                    K
                      (V.tup
                        [V.int IntKind.i64 (Int.tmod (sumC (List.take (Int.toNat a) wc)) (↑(List.length wr) : Int)),
                          V.lit true])))

def VC_impl_ColourSum (wr : List UInt8) (ww : Int) (wh : Int) (wc : List UInt8) (wx : Int) (wy : Int) (wd : Int) (K : V → Prop) : Prop :=
  At True ∧
  ((!goodB { r := wr, w := ww, h := wh, c := wc, x := wx, y := wy, d := wd }) = true →
      K (V.tup [V.int IntKind.i64 (0 : Int), V.lit false])) ∧
    ((!goodB { r := wr, w := ww, h := wh, c := wc, x := wx, y := wy, d := wd }) = false →
      ((((0 : Nat) = (0 : Nat) ∧ (0 : Nat) = (0 : Nat)) ∧
            (True ∧ (0 : Int) = sumC (List.take (Int.toNat (0 : Int)) wc)) ∧
              (True ∧ (↑(List.length wc) : Int) = (↑(List.length wc) : Int)) ∧ (True ∧ (0 : Int) = (0 : Int)) ∧ True) ∧
          ((True ∧
                wr = wr ∧
                  (True ∧ ww = ww) ∧
                    (True ∧ wh = wh) ∧ wc = wc ∧ (True ∧ wx = wx) ∧ (True ∧ wy = wy) ∧ (True ∧ wd = wd) ∧ True) ∧
              True) ∧
            True) ∧
        At (smInv wc (0 : Int)) ∧
          ∀ (a : Int),
            smInv wc a →
              (decide (a < (↑(List.length wc) : Int)) = true →
                  At ((0 : Int) ≤ a ∧ a < (↑(List.length wc) : Int)) ∧
                    At
                        ((0 : Int) ≤ (↑(UInt8.toNat (List.getD wc (Int.toNat a) (0 : UInt8))) : Int) ∧
                          (↑(UInt8.toNat (List.getD wc (Int.toNat a) (0 : UInt8))) : Int) < (256 : Int)) ∧
                      ((((0 : Nat) = (0 : Nat) ∧ (0 : Nat) = (0 : Nat)) ∧
                            (True ∧
                                IntKind.wrap IntKind.i64
                                    (sumC (List.take (Int.toNat a) wc) +
                                      ((↑(UInt8.toNat (List.getD wc (Int.toNat a) (0 : UInt8))) : Int) - (48 : Int))) =
                                  sumC (List.take (Int.toNat (IntKind.wrap IntKind.i64 (a + (1 : Int)))) wc)) ∧
                              (True ∧ (↑(List.length wc) : Int) = (↑(List.length wc) : Int)) ∧
                                (True ∧
                                    IntKind.wrap IntKind.i64 (a + (1 : Int)) =
                                      IntKind.wrap IntKind.i64 (a + (1 : Int))) ∧
                                  True) ∧
                          ((True ∧
                                wr = wr ∧
                                  (True ∧ ww = ww) ∧
                                    (True ∧ wh = wh) ∧
                                      wc = wc ∧ (True ∧ wx = wx) ∧ (True ∧ wy = wy) ∧ (True ∧ wd = wd) ∧ True) ∧
                              True) ∧
                            True) ∧
                        At
                          (smInv wc (IntKind.wrap IntKind.i64 (a + (1 : Int))) ∧
                            Int.toNat ((↑(List.length wc) : Int) - IntKind.wrap IntKind.i64 (a + (1 : Int))) <
                              Int.toNat ((↑(List.length wc) : Int) - a))) ∧
                (decide (a < (↑(List.length wc) : Int)) = false →
                  At ((↑(List.length wr) : Int) ≠ (0 : Int)) ∧
                    K
                      (V.tup
                        [V.int IntKind.i64 (Int.tmod (sumC (List.take (Int.toNat a) wc)) (↑(List.length wr) : Int)),
                          V.lit true])))

def VC_spec_loMany (s : List UInt8) (w : Int) (h : Int) (K : V → Prop) : Prop :=
  ((s = s ∧
      (True ∧
          IntKind.wrap IntKind.i64 (IntKind.wrap IntKind.i64 ((4 : Int) * w) * h) =
            IntKind.wrap IntKind.i64 (IntKind.wrap IntKind.i64 ((4 : Int) * w) * h)) ∧
        (True ∧ IntKind.wrap IntKind.i64 (w * h) = IntKind.wrap IntKind.i64 (w * h)) ∧ True) ∧
    True ∧ True) ∧
  At
      (mnyInv s w h
        (IntKind.wrap IntKind.i64 (w * h), IntKind.wrap IntKind.i64 (IntKind.wrap IntKind.i64 ((4 : Int) * w) * h))) ∧
    ∀ (a : Int × Int),
      mnyInv s w h a →
        (decide (Prod.fst a > (0 : Int)) = true →
            (decide (IntKind.wrap IntKind.i64 (Prod.snd a * (↑(List.length s) : Int)) > (3000 : Int)) = true →
                K (V.int IntKind.i64 (0 : Int))) ∧
              (decide (IntKind.wrap IntKind.i64 (Prod.snd a * (↑(List.length s) : Int)) > (3000 : Int)) = false →
                ((s = s ∧
                      (True ∧
                          IntKind.wrap IntKind.i64 (Prod.snd a * (↑(List.length s) : Int)) =
                            IntKind.wrap IntKind.i64 (Prod.snd a * (↑(List.length s) : Int))) ∧
                        (True ∧
                            IntKind.wrap IntKind.i64 (Prod.fst a - (1 : Int)) =
                              IntKind.wrap IntKind.i64 (Prod.fst a - (1 : Int))) ∧
                          True) ∧
                    True ∧ True) ∧
                  At
                    (mnyInv s w h
                        (IntKind.wrap IntKind.i64 (Prod.fst a - (1 : Int)),
                          IntKind.wrap IntKind.i64 (Prod.snd a * (↑(List.length s) : Int))) ∧
                      Int.toNat (IntKind.wrap IntKind.i64 (Prod.fst a - (1 : Int))) < Int.toNat (Prod.fst a)))) ∧
          (decide (Prod.fst a > (0 : Int)) = false → K (V.int IntKind.i64 (Prod.snd a)))

def VC_spec_loAsked (s : List UInt8) (w : Int) (h : Int) (K : V → Prop) : Prop :=
  At True ∧
  (ruleB s = true →
      At True ∧
        (inB w (1 : Int) (9 : Int) = true →
            At True ∧
              (inB h (1 : Int) (9 : Int) = true →
                  At ((ruleB s && inB w (1 : Int) (9 : Int) && inB h (1 : Int) (9 : Int)) = true) ∧
                    (decide (manyW s w h > (0 : Int)) = true →
                        K
                          (V.bool
                            (decide
                              (IntKind.wrap IntKind.i64 (IntKind.wrap IntKind.i64 ((4 : Int) * w) * h) ≤
                                (3000 : Int))))) ∧
                      (decide (manyW s w h > (0 : Int)) = false → K (V.lit false))) ∧
                (inB h (1 : Int) (9 : Int) = false → K (V.lit false))) ∧
          (inB w (1 : Int) (9 : Int) = false → K (V.lit false))) ∧
    (ruleB s = false → K (V.lit false))

def VC_spec_CountWorlds (s : List UInt8) (w : Int) (h : Int) (K : V → Prop) : Prop :=
  At True ∧
  ((!asked s w h) = true → K (V.tup [V.int IntKind.i64 (0 : Int), V.lit false])) ∧
    ((!asked s w h) = false →
      At ((ruleB s && inB w (1 : Int) (9 : Int) && inB h (1 : Int) (9 : Int)) = true) ∧
        K (V.tup [V.int IntKind.i64 (manyW s w h), V.lit true]))

def VC_impl_CountWorlds (s : List UInt8) (w : Int) (h : Int) (K : V → Prop) : Prop :=
  At True ∧
  ((!ruleB s) = true → K (V.tup [V.int IntKind.i64 (0 : Int), V.lit false])) ∧
    ((!ruleB s) = false →
      At True ∧
        (inB w (1 : Int) (9 : Int) = true →
            At True ∧
              ((!inB h (1 : Int) (9 : Int)) = true → K (V.tup [V.int IntKind.i64 (0 : Int), V.lit false])) ∧
                ((!inB h (1 : Int) (9 : Int)) = false →
                  ((s = s ∧
                        (True ∧
                            IntKind.wrap IntKind.i64 ((4 : Int) * IntKind.wrap IntKind.i64 (w * h)) =
                              IntKind.wrap IntKind.i64 ((4 : Int) * IntKind.wrap IntKind.i64 (w * h))) ∧
                          (True ∧ IntKind.wrap IntKind.i64 (w * h) = IntKind.wrap IntKind.i64 (w * h)) ∧
                            (True ∧ (0 : Int) = (0 : Int)) ∧ True) ∧
                      True ∧ True) ∧
                    At
                        ((0 : Int) ≤ (0 : Int) ∧
                          mnyInv s w h
                            (IntKind.wrap IntKind.i64 (w * h) - (0 : Int),
                              IntKind.wrap IntKind.i64 ((4 : Int) * IntKind.wrap IntKind.i64 (w * h)))) ∧
                      ∀ (a : Int × Int),
                        (0 : Int) ≤ Prod.fst a ∧
                            mnyInv s w h (IntKind.wrap IntKind.i64 (w * h) - Prod.fst a, Prod.snd a) →
                          (decide (Prod.fst a < IntKind.wrap IntKind.i64 (w * h)) = true →
                              (decide
                                      (IntKind.wrap IntKind.i64 (Prod.snd a * (↑(List.length s) : Int)) >
                                        (3000 : Int)) =
                                    true →
                                  K (V.tup [V.int IntKind.i64 (0 : Int), V.lit false])) ∧
                                (decide
                                      (IntKind.wrap IntKind.i64 (Prod.snd a * (↑(List.length s) : Int)) >
                                        (3000 : Int)) =
                                    false →
                                  ((s = s ∧
                                        (True ∧
                                            IntKind.wrap IntKind.i64 (Prod.snd a * (↑(List.length s) : Int)) =
                                              IntKind.wrap IntKind.i64 (Prod.snd a * (↑(List.length s) : Int))) ∧
                                          (True ∧ IntKind.wrap IntKind.i64 (w * h) = IntKind.wrap IntKind.i64 (w * h)) ∧
                                            (True ∧
                                                IntKind.wrap IntKind.i64 (Prod.fst a + (1 : Int)) =
                                                  IntKind.wrap IntKind.i64 (Prod.fst a + (1 : Int))) ∧
                                              True) ∧
                                      True ∧ True) ∧
                                    At
                                      (((0 : Int) ≤ IntKind.wrap IntKind.i64 (Prod.fst a + (1 : Int)) ∧
                                          mnyInv s w h
                                            (IntKind.wrap IntKind.i64 (w * h) -
                                                IntKind.wrap IntKind.i64 (Prod.fst a + (1 : Int)),
                                              IntKind.wrap IntKind.i64 (Prod.snd a * (↑(List.length s) : Int)))) ∧
                                        Int.toNat
                                            (IntKind.wrap IntKind.i64 (w * h) -
                                              IntKind.wrap IntKind.i64 (Prod.fst a + (1 : Int))) <
                                          Int.toNat (IntKind.wrap IntKind.i64 (w * h) - Prod.fst a)))) ∧
                            (decide (Prod.fst a < IntKind.wrap IntKind.i64 (w * h)) = false →
                              K (V.tup [V.int IntKind.i64 (Prod.snd a), V.lit true])))) ∧
          (inB w (1 : Int) (9 : Int) = false → K (V.tup [V.int IntKind.i64 (0 : Int), V.lit false])))

end Go.Vi
