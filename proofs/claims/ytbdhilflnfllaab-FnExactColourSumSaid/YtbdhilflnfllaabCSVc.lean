/- The conditions, reckoned out by program: texts alone. -/
import Derived.Test.YtbdhilflnfllaabCSDefs
namespace Go.Vi
set_option linter.unusedVariables false
def VC_impl_sumOf (s : List UInt8) (K : V → Prop) : Prop :=
  ((s = s ∧
      (True ∧ (0 : Int) = (0 : Int)) ∧
        (True ∧ (0 : Int) = sumC (List.take (Int.toNat (0 : Int)) s)) ∧
          (True ∧ (↑(List.length s) : Int) = (↑(List.length s) : Int)) ∧ (True ∧ (0 : Int) = (0 : Int)) ∧ True) ∧
    True ∧ True) ∧
  At (smInv s (0 : Int)) ∧
    ∀ (a : Int),
      smInv s a →
        (decide (a < (↑(List.length s) : Int)) = true →
            At ((0 : Int) ≤ a ∧ a < (↑(List.length s) : Int)) ∧
              At
                  ((0 : Int) ≤ (↑(UInt8.toNat (List.getD s (Int.toNat a) (0 : UInt8))) : Int) ∧
                    (↑(UInt8.toNat (List.getD s (Int.toNat a) (0 : UInt8))) : Int) < (256 : Int)) ∧
                ((s = s ∧
                      (True ∧ (0 : Int) = (0 : Int)) ∧
                        (True ∧
                            IntKind.wrap IntKind.i64
                                (sumC (List.take (Int.toNat a) s) +
                                  ((↑(UInt8.toNat (List.getD s (Int.toNat a) (0 : UInt8))) : Int) - (48 : Int))) =
                              sumC (List.take (Int.toNat (IntKind.wrap IntKind.i64 (a + (1 : Int)))) s)) ∧
                          (True ∧ (↑(List.length s) : Int) = (↑(List.length s) : Int)) ∧
                            (True ∧
                                IntKind.wrap IntKind.i64 (a + (1 : Int)) = IntKind.wrap IntKind.i64 (a + (1 : Int))) ∧
                              True) ∧
                    True ∧ True) ∧
                  At
                    (smInv s (IntKind.wrap IntKind.i64 (a + (1 : Int))) ∧
                      Int.toNat ((↑(List.length s) : Int) - IntKind.wrap IntKind.i64 (a + (1 : Int))) <
                        Int.toNat ((↑(List.length s) : Int) - a))) ∧
          (decide (a < (↑(List.length s) : Int)) = false → K (V.int IntKind.i64 (sumC (List.take (Int.toNat a) s))))

def VC_spec_ColourSum (wr : List UInt8) (ww : Int) (wh : Int) (wc : List UInt8) (wx : Int) (wy : Int) (wd : Int) (K : V → Prop) : Prop :=
  At True ∧
  ((!goodB { r := wr, w := ww, h := wh, c := wc, x := wx, y := wy, d := wd }) = true →
      K (V.tup [V.int IntKind.i64 (0 : Int), V.lit false])) ∧
    ((!goodB { r := wr, w := ww, h := wh, c := wc, x := wx, y := wy, d := wd }) = false →
      ((((0 : Nat) = (0 : Nat) ∧ (0 : Nat) = (0 : Nat)) ∧
            (True ∧ (0 : Int) = sumC (List.take (Int.toNat (0 : Int)) wc)) ∧ (True ∧ (0 : Int) = (0 : Int)) ∧ True) ∧
          ((True ∧
                wr = wr ∧
                  (True ∧ ww = ww) ∧
                    (True ∧ wh = wh) ∧ wc = wc ∧ (True ∧ wx = wx) ∧ (True ∧ wy = wy) ∧ (True ∧ wd = wd) ∧ True) ∧
              True) ∧
            True) ∧
        At (scInv wc (0 : Int)) ∧
          ∀ (a : Int),
            scInv wc a →
              (decide (a < (↑(List.length wc) : Int)) = true →
                  At ((0 : Int) ≤ a ∧ a < (↑(List.length wc) : Int)) ∧
                    ((((0 : Nat) = (0 : Nat) ∧ (0 : Nat) = (0 : Nat)) ∧
                          (True ∧
                              IntKind.wrap IntKind.i64
                                  (sumC (List.take (Int.toNat a) wc) +
                                    IntKind.wrap IntKind.i64
                                      (IntKind.wrap IntKind.u8
                                        ((↑(UInt8.toNat (List.getD wc (Int.toNat a) (0 : UInt8))) : Int) -
                                          (48 : Int)))) =
                                sumC (List.take (Int.toNat (IntKind.wrap IntKind.i64 (a + (1 : Int)))) wc)) ∧
                            (True ∧
                                IntKind.wrap IntKind.i64 (a + (1 : Int)) = IntKind.wrap IntKind.i64 (a + (1 : Int))) ∧
                              True) ∧
                        ((True ∧
                              wr = wr ∧
                                (True ∧ ww = ww) ∧
                                  (True ∧ wh = wh) ∧
                                    wc = wc ∧ (True ∧ wx = wx) ∧ (True ∧ wy = wy) ∧ (True ∧ wd = wd) ∧ True) ∧
                            True) ∧
                          True) ∧
                      At
                        (scInv wc (IntKind.wrap IntKind.i64 (a + (1 : Int))) ∧
                          Int.toNat ((↑(List.length wc) : Int) - IntKind.wrap IntKind.i64 (a + (1 : Int))) <
                            Int.toNat ((↑(List.length wc) : Int) - a))) ∧
                (decide (a < (↑(List.length wc) : Int)) = false →
                  At ((↑(List.length wr) : Int) ≠ (0 : Int)) ∧
                    K
                      (V.tup
                        [V.int IntKind.i64 (Int.tmod (sumC (List.take (Int.toNat a) wc)) (↑(List.length wr) : Int)),
                          V.lit true])))

def VC_impl_ColourSum (wr : List UInt8) (ww : Int) (wh : Int) (wc : List UInt8) (wx : Int) (wy : Int) (wd : Int) (K : V → Prop) : Prop :=
  At True ∧
  ((!goodB { r := wr, w := ww, h := wh, c := wc, x := wx, y := wy, d := wd }) = true →
      K (V.tup [V.int IntKind.i64 (0 : Int), V.lit false])) ∧
    ((!goodB { r := wr, w := ww, h := wh, c := wc, x := wx, y := wy, d := wd }) = false →
      True ∧
        At (List.length wc ≤ (1000 : Nat)) ∧
          At ((↑(List.length wr) : Int) ≠ (0 : Int)) ∧
            K (V.tup [V.int IntKind.i64 (Int.tmod (sumC wc) (↑(List.length wr) : Int)), V.lit true]))

end Go.Vi
