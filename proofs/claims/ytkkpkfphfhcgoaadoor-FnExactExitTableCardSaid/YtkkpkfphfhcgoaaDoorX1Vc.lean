/- The conditions, reckoned out by program: texts alone. -/
import Derived.Test.YtkkpkfphfhcgoaaDoorX1Defs
namespace Go.Vi
set_option linter.unusedVariables false
def VC_laws_eqIntS (n : Nat) (m : Nat) (a : List Int) (b : List Int) (K : V → List Blk → Prop) : Prop :=
  (((↑n : Int) != (↑m : Int)) = true →
    K (V.lit false)
      [{ cs := Cells.ints IntKind.i64 a, elem := 3, kind := Kind.row },
        { cs := Cells.ints IntKind.i64 b, elem := 3, kind := Kind.row }]) ∧
  (((↑n : Int) != (↑m : Int)) = false →
    ((((0 : Nat) = (0 : Nat) ∧ n = n) ∧ ((1 : Nat) = (1 : Nat) ∧ m = m) ∧ (True ∧ (0 : Int) = (0 : Int)) ∧ True) ∧
        ((True ∧ IntKind.i64 = IntKind.i64 ∧ a = a) ∧ (True ∧ IntKind.i64 = IntKind.i64 ∧ b = b) ∧ True) ∧ True) ∧
      At (eqsInv a b (0 : Int)) ∧
        ∀ (a_2 : Int),
          eqsInv a b a_2 →
            (decide (a_2 < (↑n : Int)) = true →
                True ∧
                  At ((0 : Int) ≤ a_2 ∧ a_2 < (↑n : Int)) ∧
                    At (Int.toNat a_2 < List.length a) ∧
                      At ((0 : Int) ≤ a_2 ∧ a_2 < (↑m : Int)) ∧
                        At (Int.toNat a_2 < List.length b) ∧
                          ((List.getD a (Int.toNat a_2) (0 : Int) != List.getD b (Int.toNat a_2) (0 : Int)) = true →
                              K (V.lit false)
                                [{ cs := Cells.ints IntKind.i64 a, elem := 3, kind := Kind.row },
                                  { cs := Cells.ints IntKind.i64 b, elem := 3, kind := Kind.row }]) ∧
                            ((List.getD a (Int.toNat a_2) (0 : Int) != List.getD b (Int.toNat a_2) (0 : Int)) = false →
                              ((((0 : Nat) = (0 : Nat) ∧ n = n) ∧
                                    ((1 : Nat) = (1 : Nat) ∧ m = m) ∧
                                      (True ∧
                                          IntKind.wrap IntKind.i64 (a_2 + (1 : Int)) =
                                            IntKind.wrap IntKind.i64 (a_2 + (1 : Int))) ∧
                                        True) ∧
                                  ((True ∧ IntKind.i64 = IntKind.i64 ∧ a = a) ∧
                                      (True ∧ IntKind.i64 = IntKind.i64 ∧ b = b) ∧ True) ∧
                                    True) ∧
                                At
                                  (eqsInv a b (IntKind.wrap IntKind.i64 (a_2 + (1 : Int))) ∧
                                    Int.toNat ((↑(List.length a) : Int) - IntKind.wrap IntKind.i64 (a_2 + (1 : Int))) <
                                      Int.toNat ((↑(List.length a) : Int) - a_2)))) ∧
              (decide (a_2 < (↑n : Int)) = false →
                K (V.lit true)
                  [{ cs := Cells.ints IntKind.i64 a, elem := 3, kind := Kind.row },
                    { cs := Cells.ints IntKind.i64 b, elem := 3, kind := Kind.row }]))

def VC_laws_markIntS (k : Int) (n : Nat) (a : List Int) (K : V → List Blk → Prop) : Prop :=
  ((((0 : Nat) = (0 : Nat) ∧ n = n) ∧ (True ∧ k = k + (0 : Int)) ∧ (True ∧ (0 : Int) = (0 : Int)) ∧ True) ∧
    ((True ∧ IntKind.i64 = IntKind.i64 ∧ a = mrkRow a k (0 : Int)) ∧ True) ∧ True) ∧
  At (mrkInv a k (0 : Int)) ∧
    ∀ (a_1 : Int),
      mrkInv a k a_1 →
        (decide (a_1 < (↑n : Int)) = true →
            At ((0 : Int) ≤ a_1 ∧ a_1 < (↑n : Int)) ∧
              At (Int.toNat a_1 < List.length (mrkRow a k a_1)) ∧
                ((((0 : Nat) = (0 : Nat) ∧ n = n) ∧
                      (True ∧
                          IntKind.wrap IntKind.i64 (k + a_1 + (1 : Int)) =
                            k + IntKind.wrap IntKind.i64 (a_1 + (1 : Int))) ∧
                        (True ∧
                            IntKind.wrap IntKind.i64 (a_1 + (1 : Int)) = IntKind.wrap IntKind.i64 (a_1 + (1 : Int))) ∧
                          True) ∧
                    ((True ∧
                          IntKind.i64 = IntKind.i64 ∧
                            List.set (mrkRow a k a_1) (Int.toNat a_1) (k + a_1) =
                              mrkRow a k (IntKind.wrap IntKind.i64 (a_1 + (1 : Int)))) ∧
                        True) ∧
                      True) ∧
                  At
                    (mrkInv a k (IntKind.wrap IntKind.i64 (a_1 + (1 : Int))) ∧
                      Int.toNat ((↑(List.length a) : Int) - IntKind.wrap IntKind.i64 (a_1 + (1 : Int))) <
                        Int.toNat ((↑(List.length a) : Int) - a_1))) ∧
          (decide (a_1 < (↑n : Int)) = false →
            K (V.int IntKind.i64 (k + a_1))
              [{ cs := Cells.ints IntKind.i64 (mrkRow a k a_1), elem := 3, kind := Kind.row }])

def VC_laws_heldIntS (k : Int) (n : Nat) (a : List Int) (K : V → List Blk → Prop) : Prop :=
  ((((0 : Nat) = (0 : Nat) ∧ n = n) ∧ (True ∧ k = k + (0 : Int)) ∧ (True ∧ (0 : Int) = (0 : Int)) ∧ True) ∧
    ((True ∧ IntKind.i64 = IntKind.i64 ∧ a = a) ∧ True) ∧ True) ∧
  At (hldInv a k (0 : Int)) ∧
    ∀ (a_1 : Int),
      hldInv a k a_1 →
        (decide (a_1 < (↑n : Int)) = true →
            At ((0 : Int) ≤ a_1 ∧ a_1 < (↑n : Int)) ∧
              At (Int.toNat a_1 < List.length a) ∧
                ((List.getD a (Int.toNat a_1) (0 : Int) != k + a_1) = true →
                    K (V.int IntKind.i64 (-1 : Int))
                      [{ cs := Cells.ints IntKind.i64 a, elem := 3, kind := Kind.row }]) ∧
                  ((List.getD a (Int.toNat a_1) (0 : Int) != k + a_1) = false →
                    ((((0 : Nat) = (0 : Nat) ∧ n = n) ∧
                          (True ∧
                              IntKind.wrap IntKind.i64 (k + a_1 + (1 : Int)) =
                                k + IntKind.wrap IntKind.i64 (a_1 + (1 : Int))) ∧
                            (True ∧
                                IntKind.wrap IntKind.i64 (a_1 + (1 : Int)) =
                                  IntKind.wrap IntKind.i64 (a_1 + (1 : Int))) ∧
                              True) ∧
                        ((True ∧ IntKind.i64 = IntKind.i64 ∧ a = a) ∧ True) ∧ True) ∧
                      At
                        (hldInv a k (IntKind.wrap IntKind.i64 (a_1 + (1 : Int))) ∧
                          Int.toNat ((↑(List.length a) : Int) - IntKind.wrap IntKind.i64 (a_1 + (1 : Int))) <
                            Int.toNat ((↑(List.length a) : Int) - a_1)))) ∧
          (decide (a_1 < (↑n : Int)) = false →
            K (V.int IntKind.i64 (k + a_1)) [{ cs := Cells.ints IntKind.i64 a, elem := 3, kind := Kind.row }])

def VC_spec_ExitTable (mw : Int) (mh : Int) (mc : List UInt8) (mu : Bool) (K : V → List Blk → Prop) : Prop :=
  At True ∧
  ((!mzB { w := mw, h := mh, c := mc, t := mu }) = true →
      K (V.tup [V.raw (Value.slice none (0 : Nat) (0 : Nat)), V.lit false])
        [{ cs := Cells.vals [V.int IntKind.i64 mw, V.int IntKind.i64 mh, V.str mc, V.bool mu], elem := 26,
            kind := Kind.box }]) ∧
    ((!mzB { w := mw, h := mh, c := mc, t := mu }) = false →
      (True ∧
          (((0 : Nat) = (0 : Nat) ∧ (0 : Nat) = (0 : Nat)) ∧
              ((1 : Nat) = (1 : Nat) ∧ (0 : Nat) = (0 : Nat)) ∧ (True ∧ (0 : Int) = (0 : Int)) ∧ True) ∧
            ((True ∧ (True ∧ mw = mw) ∧ (True ∧ mh = mh) ∧ mc = mc ∧ mu = mu ∧ True) ∧
                (True ∧ IntKind.i64 = IntKind.i64 ∧ nilI = etF mw mh mc mu (Int.toNat (0 : Int))) ∧ True) ∧
              True) ∧
        At (ltInv mw mh (0 : Int)) ∧
          ∀ (a : Int),
            ltInv mw mh a →
              (decide (a < IntKind.wrap IntKind.i64 ((2 : Int) * IntKind.wrap IntKind.i64 (mw + mh))) = true →
                  (((((At
                                (((1 : Int) ≤ mw ∧ mw ≤ (9 : Int)) ∧
                                  ((1 : Int) ≤ mh ∧ mh ≤ (9 : Int)) ∧ (0 : Int) ≤ a ∧ a < (2 : Int) * (mw + mh)) ∧
                              (At
                                    (blB { w := mw, h := mh, c := mc, t := mu } (entX mw mh a) (entY mw mh a)
                                        (entD mw mh a) =
                                      true) ∧
                                  ((True ∧
                                        (((0 : Nat) = (0 : Nat) ∧ (0 : Nat) = (0 : Nat)) ∧
                                            ((1 : Nat) = (1 : Nat) ∧
                                                List.length (etF mw mh mc mu (Int.toNat a)) =
                                                  List.length (etF mw mh mc mu (Int.toNat a))) ∧
                                              (True ∧ a = a) ∧
                                                (True ∧
                                                    rnE mw mh mc mu (entX mw mh a) (entY mw mh a) (entD mw mh a) =
                                                      rnE mw mh mc mu (entX mw mh a) (entY mw mh a) (entD mw mh a)) ∧
                                                  True) ∧
                                          ((True ∧ (True ∧ mw = mw) ∧ (True ∧ mh = mh) ∧ mc = mc ∧ mu = mu ∧ True) ∧
                                              (True ∧
                                                  IntKind.i64 = IntKind.i64 ∧
                                                    etF mw mh mc mu (Int.toNat a) = etF mw mh mc mu (Int.toNat a)) ∧
                                                True) ∧
                                            True) ∧
                                      True) ∧
                                    True) ∧
                                ((At
                                        (blB { w := mw, h := mh, c := mc, t := mu } (entX mw mh a) (entY mw mh a)
                                            (entD mw mh a) =
                                          true) ∧
                                      (True ∧
                                          (((0 : Nat) = (0 : Nat) ∧ (0 : Nat) = (0 : Nat)) ∧
                                              ((1 : Nat) = (1 : Nat) ∧
                                                  List.length (etF mw mh mc mu (Int.toNat a)) =
                                                    List.length (etF mw mh mc mu (Int.toNat a))) ∧
                                                (True ∧ a = a) ∧
                                                  (True ∧
                                                      rnE mw mh mc mu (entX mw mh a) (entY mw mh a) (entD mw mh a) =
                                                        rnE mw mh mc mu (entX mw mh a) (entY mw mh a) (entD mw mh a)) ∧
                                                    True) ∧
                                            ((True ∧ (True ∧ mw = mw) ∧ (True ∧ mh = mh) ∧ mc = mc ∧ mu = mu ∧ True) ∧
                                                (True ∧
                                                    IntKind.i64 = IntKind.i64 ∧
                                                      etF mw mh mc mu (Int.toNat a) = etF mw mh mc mu (Int.toNat a)) ∧
                                                  True) ∧
                                              True) ∧
                                        True) ∧
                                    True) ∧
                                  True) ∧
                            ((At
                                    (((1 : Int) ≤ mw ∧ mw ≤ (9 : Int)) ∧
                                      ((1 : Int) ≤ mh ∧ mh ≤ (9 : Int)) ∧ (0 : Int) ≤ a ∧ a < (2 : Int) * (mw + mh)) ∧
                                  (At
                                        (blB { w := mw, h := mh, c := mc, t := mu } (entX mw mh a) (entY mw mh a)
                                            (entD mw mh a) =
                                          true) ∧
                                      (True ∧
                                          (((0 : Nat) = (0 : Nat) ∧ (0 : Nat) = (0 : Nat)) ∧
                                              ((1 : Nat) = (1 : Nat) ∧
                                                  List.length (etF mw mh mc mu (Int.toNat a)) =
                                                    List.length (etF mw mh mc mu (Int.toNat a))) ∧
                                                (True ∧ a = a) ∧
                                                  (True ∧
                                                      rnE mw mh mc mu (entX mw mh a) (entY mw mh a) (entD mw mh a) =
                                                        rnE mw mh mc mu (entX mw mh a) (entY mw mh a) (entD mw mh a)) ∧
                                                    True) ∧
                                            ((True ∧ (True ∧ mw = mw) ∧ (True ∧ mh = mh) ∧ mc = mc ∧ mu = mu ∧ True) ∧
                                                (True ∧
                                                    IntKind.i64 = IntKind.i64 ∧
                                                      etF mw mh mc mu (Int.toNat a) = etF mw mh mc mu (Int.toNat a)) ∧
                                                  True) ∧
                                              True) ∧
                                        True) ∧
                                    True) ∧
                                True) ∧
                              True) ∧
                          (((At
                                    (((1 : Int) ≤ mw ∧ mw ≤ (9 : Int)) ∧
                                      ((1 : Int) ≤ mh ∧ mh ≤ (9 : Int)) ∧ (0 : Int) ≤ a ∧ a < (2 : Int) * (mw + mh)) ∧
                                  (At
                                        (blB { w := mw, h := mh, c := mc, t := mu } (entX mw mh a) (entY mw mh a)
                                            (entD mw mh a) =
                                          true) ∧
                                      (True ∧
                                          (((0 : Nat) = (0 : Nat) ∧ (0 : Nat) = (0 : Nat)) ∧
                                              ((1 : Nat) = (1 : Nat) ∧
                                                  List.length (etF mw mh mc mu (Int.toNat a)) =
                                                    List.length (etF mw mh mc mu (Int.toNat a))) ∧
                                                (True ∧ a = a) ∧
                                                  (True ∧
                                                      rnE mw mh mc mu (entX mw mh a) (entY mw mh a) (entD mw mh a) =
                                                        rnE mw mh mc mu (entX mw mh a) (entY mw mh a) (entD mw mh a)) ∧
                                                    True) ∧
                                            ((True ∧ (True ∧ mw = mw) ∧ (True ∧ mh = mh) ∧ mc = mc ∧ mu = mu ∧ True) ∧
                                                (True ∧
                                                    IntKind.i64 = IntKind.i64 ∧
                                                      etF mw mh mc mu (Int.toNat a) = etF mw mh mc mu (Int.toNat a)) ∧
                                                  True) ∧
                                              True) ∧
                                        True) ∧
                                    True) ∧
                                True) ∧
                              True) ∧
                            True) ∧
                        (((At
                                  (((1 : Int) ≤ mw ∧ mw ≤ (9 : Int)) ∧
                                    ((1 : Int) ≤ mh ∧ mh ≤ (9 : Int)) ∧ (0 : Int) ≤ a ∧ a < (2 : Int) * (mw + mh)) ∧
                                (At
                                      (blB { w := mw, h := mh, c := mc, t := mu } (entX mw mh a) (entY mw mh a)
                                          (entD mw mh a) =
                                        true) ∧
                                    ((True ∧
                                          (((0 : Nat) = (0 : Nat) ∧ (0 : Nat) = (0 : Nat)) ∧
                                              ((1 : Nat) = (1 : Nat) ∧
                                                  List.length (etF mw mh mc mu (Int.toNat a)) =
                                                    List.length (etF mw mh mc mu (Int.toNat a))) ∧
                                                (True ∧ a = a) ∧
                                                  (True ∧
                                                      rnE mw mh mc mu (entX mw mh a) (entY mw mh a) (entD mw mh a) =
                                                        rnE mw mh mc mu (entX mw mh a) (entY mw mh a) (entD mw mh a)) ∧
                                                    True) ∧
                                            ((True ∧ (True ∧ mw = mw) ∧ (True ∧ mh = mh) ∧ mc = mc ∧ mu = mu ∧ True) ∧
                                                (True ∧
                                                    IntKind.i64 = IntKind.i64 ∧
                                                      etF mw mh mc mu (Int.toNat a) = etF mw mh mc mu (Int.toNat a)) ∧
                                                  True) ∧
                                              True) ∧
                                        True) ∧
                                      True) ∧
                                  ((At
                                          (blB { w := mw, h := mh, c := mc, t := mu } (entX mw mh a) (entY mw mh a)
                                              (entD mw mh a) =
                                            true) ∧
                                        (True ∧
                                            (((0 : Nat) = (0 : Nat) ∧ (0 : Nat) = (0 : Nat)) ∧
                                                ((1 : Nat) = (1 : Nat) ∧
                                                    List.length (etF mw mh mc mu (Int.toNat a)) =
                                                      List.length (etF mw mh mc mu (Int.toNat a))) ∧
                                                  (True ∧ a = a) ∧
                                                    (True ∧
                                                        rnE mw mh mc mu (entX mw mh a) (entY mw mh a) (entD mw mh a) =
                                                          rnE mw mh mc mu (entX mw mh a) (entY mw mh a)
                                                            (entD mw mh a)) ∧
                                                      True) ∧
                                              ((True ∧ (True ∧ mw = mw) ∧ (True ∧ mh = mh) ∧ mc = mc ∧ mu = mu ∧ True) ∧
                                                  (True ∧
                                                      IntKind.i64 = IntKind.i64 ∧
                                                        etF mw mh mc mu (Int.toNat a) = etF mw mh mc mu (Int.toNat a)) ∧
                                                    True) ∧
                                                True) ∧
                                          True) ∧
                                      True) ∧
                                    True) ∧
                              ((At
                                      (((1 : Int) ≤ mw ∧ mw ≤ (9 : Int)) ∧
                                        ((1 : Int) ≤ mh ∧ mh ≤ (9 : Int)) ∧ (0 : Int) ≤ a ∧ a < (2 : Int) * (mw + mh)) ∧
                                    (At
                                          (blB { w := mw, h := mh, c := mc, t := mu } (entX mw mh a) (entY mw mh a)
                                              (entD mw mh a) =
                                            true) ∧
                                        (True ∧
                                            (((0 : Nat) = (0 : Nat) ∧ (0 : Nat) = (0 : Nat)) ∧
                                                ((1 : Nat) = (1 : Nat) ∧
                                                    List.length (etF mw mh mc mu (Int.toNat a)) =
                                                      List.length (etF mw mh mc mu (Int.toNat a))) ∧
                                                  (True ∧ a = a) ∧
                                                    (True ∧
                                                        rnE mw mh mc mu (entX mw mh a) (entY mw mh a) (entD mw mh a) =
                                                          rnE mw mh mc mu (entX mw mh a) (entY mw mh a)
                                                            (entD mw mh a)) ∧
                                                      True) ∧
                                              ((True ∧ (True ∧ mw = mw) ∧ (True ∧ mh = mh) ∧ mc = mc ∧ mu = mu ∧ True) ∧
                                                  (True ∧
                                                      IntKind.i64 = IntKind.i64 ∧
                                                        etF mw mh mc mu (Int.toNat a) = etF mw mh mc mu (Int.toNat a)) ∧
                                                    True) ∧
                                                True) ∧
                                          True) ∧
                                      True) ∧
                                  True) ∧
                                True) ∧
                            (At
                                  (((1 : Int) ≤ mw ∧ mw ≤ (9 : Int)) ∧
                                    ((1 : Int) ≤ mh ∧ mh ≤ (9 : Int)) ∧ (0 : Int) ≤ a ∧ a < (2 : Int) * (mw + mh)) ∧
                                ((At
                                        (blB { w := mw, h := mh, c := mc, t := mu } (entX mw mh a) (entY mw mh a)
                                            (entD mw mh a) =
                                          true) ∧
                                      ((True ∧
                                            (((0 : Nat) = (0 : Nat) ∧ (0 : Nat) = (0 : Nat)) ∧
                                                ((1 : Nat) = (1 : Nat) ∧
                                                    List.length (etF mw mh mc mu (Int.toNat a)) =
                                                      List.length (etF mw mh mc mu (Int.toNat a))) ∧
                                                  (True ∧ a = a) ∧
                                                    (True ∧
                                                        rnE mw mh mc mu (entX mw mh a) (entY mw mh a) (entD mw mh a) =
                                                          rnE mw mh mc mu (entX mw mh a) (entY mw mh a)
                                                            (entD mw mh a)) ∧
                                                      True) ∧
                                              ((True ∧ (True ∧ mw = mw) ∧ (True ∧ mh = mh) ∧ mc = mc ∧ mu = mu ∧ True) ∧
                                                  (True ∧
                                                      IntKind.i64 = IntKind.i64 ∧
                                                        etF mw mh mc mu (Int.toNat a) = etF mw mh mc mu (Int.toNat a)) ∧
                                                    True) ∧
                                                True) ∧
                                          True) ∧
                                        True) ∧
                                    ((At
                                            (blB { w := mw, h := mh, c := mc, t := mu } (entX mw mh a) (entY mw mh a)
                                                (entD mw mh a) =
                                              true) ∧
                                          (True ∧
                                              (((0 : Nat) = (0 : Nat) ∧ (0 : Nat) = (0 : Nat)) ∧
                                                  ((1 : Nat) = (1 : Nat) ∧
                                                      List.length (etF mw mh mc mu (Int.toNat a)) =
                                                        List.length (etF mw mh mc mu (Int.toNat a))) ∧
                                                    (True ∧ a = a) ∧
                                                      (True ∧
                                                          rnE mw mh mc mu (entX mw mh a) (entY mw mh a) (entD mw mh a) =
                                                            rnE mw mh mc mu (entX mw mh a) (entY mw mh a)
                                                              (entD mw mh a)) ∧
                                                        True) ∧
                                                ((True ∧
                                                      (True ∧ mw = mw) ∧ (True ∧ mh = mh) ∧ mc = mc ∧ mu = mu ∧ True) ∧
                                                    (True ∧
                                                        IntKind.i64 = IntKind.i64 ∧
                                                          etF mw mh mc mu (Int.toNat a) =
                                                            etF mw mh mc mu (Int.toNat a)) ∧
                                                      True) ∧
                                                  True) ∧
                                            True) ∧
                                        True) ∧
                                      True) ∧
                                  (((At
                                            (blB { w := mw, h := mh, c := mc, t := mu } (entX mw mh a) (entY mw mh a)
                                                (entD mw mh a) =
                                              true) ∧
                                          (True ∧
                                              (((0 : Nat) = (0 : Nat) ∧ (0 : Nat) = (0 : Nat)) ∧
                                                  ((1 : Nat) = (1 : Nat) ∧
                                                      List.length (etF mw mh mc mu (Int.toNat a)) =
                                                        List.length (etF mw mh mc mu (Int.toNat a))) ∧
                                                    (True ∧ a = a) ∧
                                                      (True ∧
                                                          rnE mw mh mc mu (entX mw mh a) (entY mw mh a) (entD mw mh a) =
                                                            rnE mw mh mc mu (entX mw mh a) (entY mw mh a)
                                                              (entD mw mh a)) ∧
                                                        True) ∧
                                                ((True ∧
                                                      (True ∧ mw = mw) ∧ (True ∧ mh = mh) ∧ mc = mc ∧ mu = mu ∧ True) ∧
                                                    (True ∧
                                                        IntKind.i64 = IntKind.i64 ∧
                                                          etF mw mh mc mu (Int.toNat a) =
                                                            etF mw mh mc mu (Int.toNat a)) ∧
                                                      True) ∧
                                                  True) ∧
                                            True) ∧
                                        True) ∧
                                      True) ∧
                                    True) ∧
                              (((At
                                        (((1 : Int) ≤ mw ∧ mw ≤ (9 : Int)) ∧
                                          ((1 : Int) ≤ mh ∧ mh ≤ (9 : Int)) ∧
                                            (0 : Int) ≤ a ∧ a < (2 : Int) * (mw + mh)) ∧
                                      (At
                                            (blB { w := mw, h := mh, c := mc, t := mu } (entX mw mh a) (entY mw mh a)
                                                (entD mw mh a) =
                                              true) ∧
                                          (True ∧
                                              (((0 : Nat) = (0 : Nat) ∧ (0 : Nat) = (0 : Nat)) ∧
                                                  ((1 : Nat) = (1 : Nat) ∧
                                                      List.length (etF mw mh mc mu (Int.toNat a)) =
                                                        List.length (etF mw mh mc mu (Int.toNat a))) ∧
                                                    (True ∧ a = a) ∧
                                                      (True ∧
                                                          rnE mw mh mc mu (entX mw mh a) (entY mw mh a) (entD mw mh a) =
                                                            rnE mw mh mc mu (entX mw mh a) (entY mw mh a)
                                                              (entD mw mh a)) ∧
                                                        True) ∧
                                                ((True ∧
                                                      (True ∧ mw = mw) ∧ (True ∧ mh = mh) ∧ mc = mc ∧ mu = mu ∧ True) ∧
                                                    (True ∧
                                                        IntKind.i64 = IntKind.i64 ∧
                                                          etF mw mh mc mu (Int.toNat a) =
                                                            etF mw mh mc mu (Int.toNat a)) ∧
                                                      True) ∧
                                                  True) ∧
                                            True) ∧
                                        True) ∧
                                    True) ∧
                                  (At
                                        (((1 : Int) ≤ mw ∧ mw ≤ (9 : Int)) ∧
                                          ((1 : Int) ≤ mh ∧ mh ≤ (9 : Int)) ∧
                                            (0 : Int) ≤ a ∧ a < (2 : Int) * (mw + mh)) ∧
                                      ((At
                                              (blB { w := mw, h := mh, c := mc, t := mu } (entX mw mh a) (entY mw mh a)
                                                  (entD mw mh a) =
                                                true) ∧
                                            (True ∧
                                                (((0 : Nat) = (0 : Nat) ∧ (0 : Nat) = (0 : Nat)) ∧
                                                    ((1 : Nat) = (1 : Nat) ∧
                                                        List.length (etF mw mh mc mu (Int.toNat a)) =
                                                          List.length (etF mw mh mc mu (Int.toNat a))) ∧
                                                      (True ∧ a = a) ∧
                                                        (True ∧
                                                            rnE mw mh mc mu (entX mw mh a) (entY mw mh a)
                                                                (entD mw mh a) =
                                                              rnE mw mh mc mu (entX mw mh a) (entY mw mh a)
                                                                (entD mw mh a)) ∧
                                                          True) ∧
                                                  ((True ∧
                                                        (True ∧ mw = mw) ∧
                                                          (True ∧ mh = mh) ∧ mc = mc ∧ mu = mu ∧ True) ∧
                                                      (True ∧
                                                          IntKind.i64 = IntKind.i64 ∧
                                                            etF mw mh mc mu (Int.toNat a) =
                                                              etF mw mh mc mu (Int.toNat a)) ∧
                                                        True) ∧
                                                    True) ∧
                                              True) ∧
                                          True) ∧
                                        True) ∧
                                    True) ∧
                                True) ∧
                          ((((At
                                      (((1 : Int) ≤ mw ∧ mw ≤ (9 : Int)) ∧
                                        ((1 : Int) ≤ mh ∧ mh ≤ (9 : Int)) ∧ (0 : Int) ≤ a ∧ a < (2 : Int) * (mw + mh)) ∧
                                    (At
                                          (blB { w := mw, h := mh, c := mc, t := mu } (entX mw mh a) (entY mw mh a)
                                              (entD mw mh a) =
                                            true) ∧
                                        (True ∧
                                            (((0 : Nat) = (0 : Nat) ∧ (0 : Nat) = (0 : Nat)) ∧
                                                ((1 : Nat) = (1 : Nat) ∧
                                                    List.length (etF mw mh mc mu (Int.toNat a)) =
                                                      List.length (etF mw mh mc mu (Int.toNat a))) ∧
                                                  (True ∧ a = a) ∧
                                                    (True ∧
                                                        rnE mw mh mc mu (entX mw mh a) (entY mw mh a) (entD mw mh a) =
                                                          rnE mw mh mc mu (entX mw mh a) (entY mw mh a)
                                                            (entD mw mh a)) ∧
                                                      True) ∧
                                              ((True ∧ (True ∧ mw = mw) ∧ (True ∧ mh = mh) ∧ mc = mc ∧ mu = mu ∧ True) ∧
                                                  (True ∧
                                                      IntKind.i64 = IntKind.i64 ∧
                                                        etF mw mh mc mu (Int.toNat a) = etF mw mh mc mu (Int.toNat a)) ∧
                                                    True) ∧
                                                True) ∧
                                          True) ∧
                                      True) ∧
                                  True) ∧
                                True) ∧
                              (((At
                                        (((1 : Int) ≤ mw ∧ mw ≤ (9 : Int)) ∧
                                          ((1 : Int) ≤ mh ∧ mh ≤ (9 : Int)) ∧
                                            (0 : Int) ≤ a ∧ a < (2 : Int) * (mw + mh)) ∧
                                      (At
                                            (blB { w := mw, h := mh, c := mc, t := mu } (entX mw mh a) (entY mw mh a)
                                                (entD mw mh a) =
                                              true) ∧
                                          (True ∧
                                              (((0 : Nat) = (0 : Nat) ∧ (0 : Nat) = (0 : Nat)) ∧
                                                  ((1 : Nat) = (1 : Nat) ∧
                                                      List.length (etF mw mh mc mu (Int.toNat a)) =
                                                        List.length (etF mw mh mc mu (Int.toNat a))) ∧
                                                    (True ∧ a = a) ∧
                                                      (True ∧
                                                          rnE mw mh mc mu (entX mw mh a) (entY mw mh a) (entD mw mh a) =
                                                            rnE mw mh mc mu (entX mw mh a) (entY mw mh a)
                                                              (entD mw mh a)) ∧
                                                        True) ∧
                                                ((True ∧
                                                      (True ∧ mw = mw) ∧ (True ∧ mh = mh) ∧ mc = mc ∧ mu = mu ∧ True) ∧
                                                    (True ∧
                                                        IntKind.i64 = IntKind.i64 ∧
                                                          etF mw mh mc mu (Int.toNat a) =
                                                            etF mw mh mc mu (Int.toNat a)) ∧
                                                      True) ∧
                                                  True) ∧
                                            True) ∧
                                        True) ∧
                                    True) ∧
                                  (At
                                        (((1 : Int) ≤ mw ∧ mw ≤ (9 : Int)) ∧
                                          ((1 : Int) ≤ mh ∧ mh ≤ (9 : Int)) ∧
                                            (0 : Int) ≤ a ∧ a < (2 : Int) * (mw + mh)) ∧
                                      ((At
                                              (blB { w := mw, h := mh, c := mc, t := mu } (entX mw mh a) (entY mw mh a)
                                                  (entD mw mh a) =
                                                true) ∧
                                            (True ∧
                                                (((0 : Nat) = (0 : Nat) ∧ (0 : Nat) = (0 : Nat)) ∧
                                                    ((1 : Nat) = (1 : Nat) ∧
                                                        List.length (etF mw mh mc mu (Int.toNat a)) =
                                                          List.length (etF mw mh mc mu (Int.toNat a))) ∧
                                                      (True ∧ a = a) ∧
                                                        (True ∧
                                                            rnE mw mh mc mu (entX mw mh a) (entY mw mh a)
                                                                (entD mw mh a) =
                                                              rnE mw mh mc mu (entX mw mh a) (entY mw mh a)
                                                                (entD mw mh a)) ∧
                                                          True) ∧
                                                  ((True ∧
                                                        (True ∧ mw = mw) ∧
                                                          (True ∧ mh = mh) ∧ mc = mc ∧ mu = mu ∧ True) ∧
                                                      (True ∧
                                                          IntKind.i64 = IntKind.i64 ∧
                                                            etF mw mh mc mu (Int.toNat a) =
                                                              etF mw mh mc mu (Int.toNat a)) ∧
                                                        True) ∧
                                                    True) ∧
                                              True) ∧
                                          True) ∧
                                        True) ∧
                                    True) ∧
                                True) ∧
                            True) ∧
                      True ∧
                        (((0 : Nat) = (0 : Nat) ∧ (0 : Nat) = (0 : Nat)) ∧
                            ((1 : Nat) = (1 : Nat) ∧
                                List.length (etF mw mh mc mu (Int.toNat a)) =
                                  List.length (etF mw mh mc mu (Int.toNat a))) ∧
                              (True ∧ a = a) ∧
                                (True ∧
                                    rnE mw mh mc mu (entX mw mh a) (entY mw mh a) (entD mw mh a) =
                                      rnE mw mh mc mu (entX mw mh a) (entY mw mh a) (entD mw mh a)) ∧
                                  True) ∧
                          ((True ∧ (True ∧ mw = mw) ∧ (True ∧ mh = mh) ∧ mc = mc ∧ mu = mu ∧ True) ∧
                              (True ∧
                                  IntKind.i64 = IntKind.i64 ∧
                                    etF mw mh mc mu (Int.toNat a) = etF mw mh mc mu (Int.toNat a)) ∧
                                True) ∧
                            True) ∧
                    At
                        ((List.length (etF mw mh mc mu (Int.toNat a)) =
                              List.length (etF mw mh mc mu (Int.toNat a)) * (1 : Nat) ∧
                            (1 : Nat) * (1 : Nat) ≤
                              List.length [rnE mw mh mc mu (entX mw mh a) (entY mw mh a) (entD mw mh a)]) ∧
                          (0 : Nat) < (1 : Nat) ∧
                            List.length (etF mw mh mc mu (Int.toNat a)) + (1 : Nat) ≤ (1000000000 : Nat)) ∧
                      (True ∧
                          (((0 : Nat) = (0 : Nat) ∧ (0 : Nat) = (0 : Nat)) ∧
                              ((1 : Nat) = (1 : Nat) ∧
                                  List.length (etF mw mh mc mu (Int.toNat a)) + (1 : Nat) =
                                    List.length
                                      (etF mw mh mc mu (Int.toNat (IntKind.wrap IntKind.i64 (a + (1 : Int)))))) ∧
                                (True ∧
                                    IntKind.wrap IntKind.i64 (a + (1 : Int)) =
                                      IntKind.wrap IntKind.i64 (a + (1 : Int))) ∧
                                  True) ∧
                            ((True ∧ (True ∧ mw = mw) ∧ (True ∧ mh = mh) ∧ mc = mc ∧ mu = mu ∧ True) ∧
                                (True ∧
                                    IntKind.i64 = IntKind.i64 ∧
                                      etF mw mh mc mu (Int.toNat a) ++
                                          List.take ((1 : Nat) * (1 : Nat))
                                            [rnE mw mh mc mu (entX mw mh a) (entY mw mh a) (entD mw mh a)] =
                                        etF mw mh mc mu (Int.toNat (IntKind.wrap IntKind.i64 (a + (1 : Int))))) ∧
                                  True) ∧
                              True) ∧
                        At
                          (ltInv mw mh (IntKind.wrap IntKind.i64 (a + (1 : Int))) ∧
                            Int.toNat ((2 : Int) * (mw + mh) - IntKind.wrap IntKind.i64 (a + (1 : Int))) <
                              Int.toNat ((2 : Int) * (mw + mh) - a))) ∧
                (decide (a < IntKind.wrap IntKind.i64 ((2 : Int) * IntKind.wrap IntKind.i64 (mw + mh))) = false →
                  K (V.tup [V.row (1 : Nat) (List.length (etF mw mh mc mu (Int.toNat a))), V.lit true])
                    [{ cs := Cells.vals [V.int IntKind.i64 mw, V.int IntKind.i64 mh, V.str mc, V.bool mu],
                        elem := 26, kind := Kind.box },
                      { cs := Cells.ints IntKind.i64 (etF mw mh mc mu (Int.toNat a)), elem := 3,
                        kind := Kind.row }]))

def VC_impl_ExitTable (mw : Int) (mh : Int) (mc : List UInt8) (mu : Bool) (K : V → List Blk → Prop) : Prop :=
  At True ∧
  ((!mzB { w := mw, h := mh, c := mc, t := mu }) = true →
      K (V.tup [V.raw (Value.slice none (0 : Nat) (0 : Nat)), V.lit false])
        [{ cs := Cells.vals [V.int IntKind.i64 mw, V.int IntKind.i64 mh, V.str mc, V.bool mu], elem := 26,
            kind := Kind.box }]) ∧
    ((!mzB { w := mw, h := mh, c := mc, t := mu }) = false →
      At
          ((0 : Int) ≤ (0 : Int) ∧
            (0 : Int) ≤ IntKind.wrap IntKind.i64 ((2 : Int) * IntKind.wrap IntKind.i64 (mw + mh)) ∧
              IntKind.wrap IntKind.i64 ((2 : Int) * IntKind.wrap IntKind.i64 (mw + mh)) ≤ (1000000000 : Int)) ∧
        (True ∧
            (((0 : Nat) = (0 : Nat) ∧ (0 : Nat) = (0 : Nat)) ∧
                ((1 : Nat) = (1 : Nat) ∧ (0 : Nat) = (0 : Nat)) ∧
                  (True ∧
                      IntKind.wrap IntKind.i64 ((2 : Int) * IntKind.wrap IntKind.i64 (mw + mh)) =
                        (2 : Int) * (mw + mh)) ∧
                    (True ∧ (0 : Int) = (0 : Int)) ∧ True) ∧
              ((True ∧ (True ∧ mw = mw) ∧ (True ∧ mh = mh) ∧ mc = mc ∧ mu = mu ∧ True) ∧
                  (True ∧
                      IntKind.i64 = IntKind.i64 ∧
                        List.replicate (Int.toNat (0 : Int)) (0 : Int) = etF mw mh mc mu (Int.toNat (0 : Int))) ∧
                    True) ∧
                True) ∧
          At (ltInv mw mh (0 : Int)) ∧
            ∀ (a : Int),
              ltInv mw mh a →
                (decide (a < (2 : Int) * (mw + mh)) = true →
                    True ∧
                      At (sdP mw mh (cpB (81 : Nat) [] (81 : Nat) mc) a) ∧
                        At
                            ((List.length (etF mw mh mc mu (Int.toNat a)) =
                                  List.length (etF mw mh mc mu (Int.toNat a)) * (1 : Nat) ∧
                                (1 : Nat) * (1 : Nat) ≤
                                  List.length
                                    [endR mw mh
                                        (Rn.r
                                          (sdR mu mw mh (cpB (81 : Nat) [] (81 : Nat) mc) a (0 : Int) (0 : Int)))]) ∧
                              (0 : Nat) < (1 : Nat) ∧
                                List.length (etF mw mh mc mu (Int.toNat a)) + (1 : Nat) ≤ (1000000000 : Nat)) ∧
                          (True ∧
                              (((0 : Nat) = (0 : Nat) ∧ (0 : Nat) = (0 : Nat)) ∧
                                  ((1 : Nat) = (1 : Nat) ∧
                                      List.length (etF mw mh mc mu (Int.toNat a)) + (1 : Nat) =
                                        List.length
                                          (etF mw mh mc mu (Int.toNat (IntKind.wrap IntKind.i64 (a + (1 : Int)))))) ∧
                                    (True ∧ (2 : Int) * (mw + mh) = (2 : Int) * (mw + mh)) ∧
                                      (True ∧
                                          IntKind.wrap IntKind.i64 (a + (1 : Int)) =
                                            IntKind.wrap IntKind.i64 (a + (1 : Int))) ∧
                                        True) ∧
                                ((True ∧ (True ∧ mw = mw) ∧ (True ∧ mh = mh) ∧ mc = mc ∧ mu = mu ∧ True) ∧
                                    (True ∧
                                        IntKind.i64 = IntKind.i64 ∧
                                          etF mw mh mc mu (Int.toNat a) ++
                                              List.take ((1 : Nat) * (1 : Nat))
                                                [endR mw mh
                                                    (Rn.r
                                                      (sdR mu mw mh (cpB (81 : Nat) [] (81 : Nat) mc) a (0 : Int)
                                                        (0 : Int)))] =
                                            etF mw mh mc mu (Int.toNat (IntKind.wrap IntKind.i64 (a + (1 : Int))))) ∧
                                      True) ∧
                                  True) ∧
                            At
                              (ltInv mw mh (IntKind.wrap IntKind.i64 (a + (1 : Int))) ∧
                                Int.toNat ((2 : Int) * (mw + mh) - IntKind.wrap IntKind.i64 (a + (1 : Int))) <
                                  Int.toNat ((2 : Int) * (mw + mh) - a))) ∧
                  (decide (a < (2 : Int) * (mw + mh)) = false →
                    K (V.tup [V.row (1 : Nat) (List.length (etF mw mh mc mu (Int.toNat a))), V.lit true])
                      [{ cs := Cells.vals [V.int IntKind.i64 mw, V.int IntKind.i64 mh, V.str mc, V.bool mu],
                          elem := 26, kind := Kind.box },
                        { cs := Cells.ints IntKind.i64 (etF mw mh mc mu (Int.toNat a)), elem := 3,
                          kind := Kind.row }]))

end Go.Vi
