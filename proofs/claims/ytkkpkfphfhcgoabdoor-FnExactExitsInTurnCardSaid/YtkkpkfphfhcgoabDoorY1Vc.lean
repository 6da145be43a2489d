/- The conditions, reckoned out by program: texts alone. -/
import Derived.Test.YtkkpkfphfhcgoabDoorY1Defs
namespace Go.Vi
set_option linter.unusedVariables false
def VC_laws_eqIntS (n : Nat) (m : Nat) (a : List Int) (b : List Int) (K : V → List Blk → Prop) : Prop :=
  (((↑n : Int) != (↑m : Int)) = true →
    K (V.lit false)
      [{ cs := Cells.ints IntKind.i64 a, elem := 3, kind := Kind.row },
        { cs := Cells.ints IntKind.i64 b, elem := 3, kind := Kind.row }]) ∧
  (((↑n : Int) != (↑m : Int)) = false →
    ((((0 : Nat) = (0 : Nat) ∧ n = n) ∧ ((1 : Nat) = (1 : Nat) ∧ m = m) ∧ (True ∧ (0 : Int) = (0 : Int)) ∧ True) ∧
        ((True ∧ IntKind.i64 = IntKind.i64 ∧ a = a) ∧ (True ∧ IntKind.i64 = IntKind.i64 ∧ b = b) ∧ True) ∧ True) ∧
      At (eqsInv a b (0 : Int)) ∧
        ∀ (a_2 : Int),
          eqsInv a b a_2 →
            (decide (a_2 < (↑n : Int)) = true →
                True ∧
                  At ((0 : Int) ≤ a_2 ∧ a_2 < (↑n : Int)) ∧
                    At (Int.toNat a_2 < List.length a) ∧
                      At ((0 : Int) ≤ a_2 ∧ a_2 < (↑m : Int)) ∧
                        At (Int.toNat a_2 < List.length b) ∧
                          ((List.getD a (Int.toNat a_2) (0 : Int) != List.getD b (Int.toNat a_2) (0 : Int)) = true →
                              K (V.lit false)
                                [{ cs := Cells.ints IntKind.i64 a, elem := 3, kind := Kind.row },
                                  { cs := Cells.ints IntKind.i64 b, elem := 3, kind := Kind.row }]) ∧
                            ((List.getD a (Int.toNat a_2) (0 : Int) != List.getD b (Int.toNat a_2) (0 : Int)) = false →
                              ((((0 : Nat) = (0 : Nat) ∧ n = n) ∧
                                    ((1 : Nat) = (1 : Nat) ∧ m = m) ∧
                                      (True ∧
                                          IntKind.wrap IntKind.i64 (a_2 + (1 : Int)) =
                                            IntKind.wrap IntKind.i64 (a_2 + (1 : Int))) ∧
                                        True) ∧
                                  ((True ∧ IntKind.i64 = IntKind.i64 ∧ a = a) ∧
                                      (True ∧ IntKind.i64 = IntKind.i64 ∧ b = b) ∧ True) ∧
                                    True) ∧
                                At
                                  (eqsInv a b (IntKind.wrap IntKind.i64 (a_2 + (1 : Int))) ∧
                                    Int.toNat ((↑(List.length a) : Int) - IntKind.wrap IntKind.i64 (a_2 + (1 : Int))) <
                                      Int.toNat ((↑(List.length a) : Int) - a_2)))) ∧
              (decide (a_2 < (↑n : Int)) = false →
                K (V.lit true)
                  [{ cs := Cells.ints IntKind.i64 a, elem := 3, kind := Kind.row },
                    { cs := Cells.ints IntKind.i64 b, elem := 3, kind := Kind.row }]))

def VC_laws_markIntS (k : Int) (n : Nat) (a : List Int) (K : V → List Blk → Prop) : Prop :=
  ((((0 : Nat) = (0 : Nat) ∧ n = n) ∧ (True ∧ k = k + (0 : Int)) ∧ (True ∧ (0 : Int) = (0 : Int)) ∧ True) ∧
    ((True ∧ IntKind.i64 = IntKind.i64 ∧ a = mrkRow a k (0 : Int)) ∧ True) ∧ True) ∧
  At (mrkInv a k (0 : Int)) ∧
    ∀ (a_1 : Int),
      mrkInv a k a_1 →
        (decide (a_1 < (↑n : Int)) = true →
            At ((0 : Int) ≤ a_1 ∧ a_1 < (↑n : Int)) ∧
              At (Int.toNat a_1 < List.length (mrkRow a k a_1)) ∧
                ((((0 : Nat) = (0 : Nat) ∧ n = n) ∧
                      (True ∧
                          IntKind.wrap IntKind.i64 (k + a_1 + (1 : Int)) =
                            k + IntKind.wrap IntKind.i64 (a_1 + (1 : Int))) ∧
                        (True ∧
                            IntKind.wrap IntKind.i64 (a_1 + (1 : Int)) = IntKind.wrap IntKind.i64 (a_1 + (1 : Int))) ∧
                          True) ∧
                    ((True ∧
                          IntKind.i64 = IntKind.i64 ∧
                            List.set (mrkRow a k a_1) (Int.toNat a_1) (k + a_1) =
                              mrkRow a k (IntKind.wrap IntKind.i64 (a_1 + (1 : Int)))) ∧
                        True) ∧
                      True) ∧
                  At
                    (mrkInv a k (IntKind.wrap IntKind.i64 (a_1 + (1 : Int))) ∧
                      Int.toNat ((↑(List.length a) : Int) - IntKind.wrap IntKind.i64 (a_1 + (1 : Int))) <
                        Int.toNat ((↑(List.length a) : Int) - a_1))) ∧
          (decide (a_1 < (↑n : Int)) = false →
            K (V.int IntKind.i64 (k + a_1))
              [{ cs := Cells.ints IntKind.i64 (mrkRow a k a_1), elem := 3, kind := Kind.row }])

def VC_laws_heldIntS (k : Int) (n : Nat) (a : List Int) (K : V → List Blk → Prop) : Prop :=
  ((((0 : Nat) = (0 : Nat) ∧ n = n) ∧ (True ∧ k = k + (0 : Int)) ∧ (True ∧ (0 : Int) = (0 : Int)) ∧ True) ∧
    ((True ∧ IntKind.i64 = IntKind.i64 ∧ a = a) ∧ True) ∧ True) ∧
  At (hldInv a k (0 : Int)) ∧
    ∀ (a_1 : Int),
      hldInv a k a_1 →
        (decide (a_1 < (↑n : Int)) = true →
            At ((0 : Int) ≤ a_1 ∧ a_1 < (↑n : Int)) ∧
              At (Int.toNat a_1 < List.length a) ∧
                ((List.getD a (Int.toNat a_1) (0 : Int) != k + a_1) = true →
                    K (V.int IntKind.i64 (-1 : Int))
                      [{ cs := Cells.ints IntKind.i64 a, elem := 3, kind := Kind.row }]) ∧
                  ((List.getD a (Int.toNat a_1) (0 : Int) != k + a_1) = false →
                    ((((0 : Nat) = (0 : Nat) ∧ n = n) ∧
                          (True ∧
                              IntKind.wrap IntKind.i64 (k + a_1 + (1 : Int)) =
                                k + IntKind.wrap IntKind.i64 (a_1 + (1 : Int))) ∧
                            (True ∧
                                IntKind.wrap IntKind.i64 (a_1 + (1 : Int)) =
                                  IntKind.wrap IntKind.i64 (a_1 + (1 : Int))) ∧
                              True) ∧
                        ((True ∧ IntKind.i64 = IntKind.i64 ∧ a = a) ∧ True) ∧ True) ∧
                      At
                        (hldInv a k (IntKind.wrap IntKind.i64 (a_1 + (1 : Int))) ∧
                          Int.toNat ((↑(List.length a) : Int) - IntKind.wrap IntKind.i64 (a_1 + (1 : Int))) <
                            Int.toNat ((↑(List.length a) : Int) - a_1)))) ∧
          (decide (a_1 < (↑n : Int)) = false →
            K (V.int IntKind.i64 (k + a_1)) [{ cs := Cells.ints IntKind.i64 a, elem := 3, kind := Kind.row }])

def VC_spec_ExitsInTurn (mw : Int) (mh : Int) (mc : List UInt8) (mu : Bool) (k : Int) (balls : Int) (K : V → List Blk → Prop) : Prop := At True ∧ ((!enB { w := mw, h := mh, c := mc, t := mu } 
  k) = true → K (V.tup [V.raw (Value.slice none (0 : Nat) (0 : Nat)), V.lit false]) [{ cs := Cells.vals [V.int IntKind.i64 mw, V.int IntKind.i64 mh, V.str mc, V.bool mu], elem := 28, kind := Kind.box }]) 
  ∧ ((!enB { w := mw, h := mh, c := mc, t := mu } k) = false → At True ∧ ((!inB balls (0 : Int) (600 : Int)) = true → K (V.tup [V.raw (Value.slice none (0 : Nat) (0 : Nat)), V.lit false]) 
  [{ cs := Cells.vals [V.int IntKind.i64 mw, V.int IntKind.i64 mh, V.str mc, V.bool mu], elem := 28, kind := Kind.box }]) ∧ ((!inB balls (0 : Int) (600 : Int)) = false → (True 
  ∧ ((True ∧ k = k) ∧ (True ∧ balls = balls) ∧ ((0 : Nat) = (0 : Nat) ∧ (0 : Nat) = (0 : Nat)) ∧ ((1 : Nat) = (1 : Nat) ∧ (0 : Nat) = List.length (endN mu mw mh k mc (Int.toNat (balls 
  - balls)))) ∧ True) ∧ ((True ∧ (True ∧ mw = mw) ∧ (True ∧ mh = mh) ∧ mc = celN mu mw mh k mc (Int.toNat (balls - balls)) ∧ mu = mu ∧ True) ∧ (True ∧ IntKind.i64 = IntKind.i64 ∧ nilI 
  = endN mu mw mh k mc (Int.toNat (balls - balls))) ∧ True) ∧ True) ∧ At (eiInv balls balls) ∧ ∀ (a : Int), eiInv balls a → (decide (a > (0 : Int)) = true → (((((At (((1 : Int) ≤ mw ∧ 
  mw ≤ (9 : Int)) ∧ ((1 : Int) ≤ mh ∧ mh ≤ (9 : Int)) ∧ (0 : Int) ≤ k ∧ k < (2 : Int) * (mw + mh)) ∧ (At (blB { w := mw, h := mh, c := celN mu mw mh k mc (Int.toNat (balls - a)), t := mu } 
  (entX mw mh k) (entY mw mh k) (entD mw mh k) = true) ∧ ((True ∧ ((True ∧ k = k) ∧ (True ∧ a = a) ∧ ((0 : Nat) = (0 : Nat) ∧ (0 : Nat) = (0 : Nat)) ∧ ((1 : Nat) = (1 : Nat) ∧ List.length 
  (endN mu mw mh k mc (Int.toNat (balls - a))) = List.length (endN mu mw mh k mc (Int.toNat (balls - a)))) ∧ ((2 : Nat) = (2 : Nat) ∧ (0 : Nat) = (0 : Nat)) ∧ (True ∧ rnE mw mh (celN 
  mu mw mh k mc (Int.toNat (balls - a))) mu (entX mw mh k) (entY mw mh k) (entD mw mh k) = rnE mw mh (celN mu mw mh k mc (Int.toNat (balls - a))) mu (entX mw mh k) (entY mw mh k) (entD 
  mw mh k)) ∧ True) ∧ ((True ∧ (True ∧ mw = mw) ∧ (True ∧ mh = mh) ∧ celN mu mw mh k mc (Int.toNat (balls - a)) = celN mu mw mh k mc (Int.toNat (balls - a)) ∧ mu = mu ∧ True) ∧ (True 
  ∧ IntKind.i64 = IntKind.i64 ∧ endN mu mw mh k mc (Int.toNat (balls - a)) = endN mu mw mh k mc (Int.toNat (balls - a))) ∧ (True ∧ (True ∧ rnW mw mh (celN mu mw mh k mc (Int.toNat (balls 
  - a))) mu (entX mw mh k) (entY mw mh k) (entD mw mh k) = rnW mw mh (celN mu mw mh k mc (Int.toNat (balls - a))) mu (entX mw mh k) (entY mw mh k) (entD mw mh k)) ∧ (True ∧ rnH mw mh 
  (celN mu mw mh k mc (Int.toNat (balls - a))) mu (entX mw mh k) (entY mw mh k) (entD mw mh k) = rnH mw mh (celN mu mw mh k mc (Int.toNat (balls - a))) mu (entX mw mh k) (entY mw mh k) 
  (entD mw mh k)) ∧ rnC mw mh (celN mu mw mh k mc (Int.toNat (balls - a))) mu (entX mw mh k) (entY mw mh k) (entD mw mh k) = rnC mw mh (celN mu mw mh k mc (Int.toNat (balls - a))) mu 
  (entX mw mh k) (entY mw mh k) (entD mw mh k) ∧ rnU mw mh (celN mu mw mh k mc (Int.toNat (balls - a))) mu (entX mw mh k) (entY mw mh k) (entD mw mh k) = rnU mw mh (celN mu mw mh k mc 
  (Int.toNat (balls - a))) mu (entX mw mh k) (entY mw mh k) (entD mw mh k) ∧ True) ∧ True) ∧ True) ∧ True) ∧ True) ∧ ((At (blB { w := mw, h := mh, c := celN mu mw mh k mc (Int.toNat (balls - a)), t := mu } 
  (entX mw mh k) (entY mw mh k) (entD mw mh k) = true) ∧ (True ∧ ((True ∧ k = k) ∧ (True ∧ a = a) ∧ ((0 : Nat) = (0 : Nat) ∧ (0 : Nat) = (0 : Nat)) ∧ ((1 : Nat) = (1 : Nat) ∧ List.length 
  (endN mu mw mh k mc (Int.toNat (balls - a))) = List.length (endN mu mw mh k mc (Int.toNat (balls - a)))) ∧ ((2 : Nat) = (2 : Nat) ∧ (0 : Nat) = (0 : Nat)) ∧ (True ∧ rnE mw mh (celN 
  mu mw mh k mc (Int.toNat (balls - a))) mu (entX mw mh k) (entY mw mh k) (entD mw mh k) = rnE mw mh (celN mu mw mh k mc (Int.toNat (balls - a))) mu (entX mw mh k) (entY mw mh k) (entD 
  mw mh k)) ∧ True) ∧ ((True ∧ (True ∧ mw = mw) ∧ (True ∧ mh = mh) ∧ celN mu mw mh k mc (Int.toNat (balls - a)) = celN mu mw mh k mc (Int.toNat (balls - a)) ∧ mu = mu ∧ True) ∧ (True 
  ∧ IntKind.i64 = IntKind.i64 ∧ endN mu mw mh k mc (Int.toNat (balls - a)) = endN mu mw mh k mc (Int.toNat (balls - a))) ∧ (True ∧ (True ∧ rnW mw mh (celN mu mw mh k mc (Int.toNat (balls 
  - a))) mu (entX mw mh k) (entY mw mh k) (entD mw mh k) = rnW mw mh (celN mu mw mh k mc (Int.toNat (balls - a))) mu (entX mw mh k) (entY mw mh k) (entD mw mh k)) ∧ (True ∧ rnH mw mh 
  (celN mu mw mh k mc (Int.toNat (balls - a))) mu (entX mw mh k) (entY mw mh k) (entD mw mh k) = rnH mw mh (celN mu mw mh k mc (Int.toNat (balls - a))) mu (entX mw mh k) (entY mw mh k) 
  (entD mw mh k)) ∧ rnC mw mh (celN mu mw mh k mc (Int.toNat (balls - a))) mu (entX mw mh k) (entY mw mh k) (entD mw mh k) = rnC mw mh (celN mu mw mh k mc (Int.toNat (balls - a))) mu 
  (entX mw mh k) (entY mw mh k) (entD mw mh k) ∧ rnU mw mh (celN mu mw mh k mc (Int.toNat (balls - a))) mu (entX mw mh k) (entY mw mh k) (entD mw mh k) = rnU mw mh (celN mu mw mh k mc 
  (Int.toNat (balls - a))) mu (entX mw mh k) (entY mw mh k) (entD mw mh k) ∧ True) ∧ True) ∧ True) ∧ True) ∧ True) ∧ True) ∧ ((At (((1 : Int) ≤ mw ∧ mw ≤ (9 : Int)) ∧ ((1 : Int) ≤ mh 
  ∧ mh ≤ (9 : Int)) ∧ (0 : Int) ≤ k ∧ k < (2 : Int) * (mw + mh)) ∧ (At (blB { w := mw, h := mh, c := celN mu mw mh k mc (Int.toNat (balls - a)), t := mu } (entX mw mh k) (entY mw mh k) 
  (entD mw mh k) = true) ∧ (True ∧ ((True ∧ k = k) ∧ (True ∧ a = a) ∧ ((0 : Nat) = (0 : Nat) ∧ (0 : Nat) = (0 : Nat)) ∧ ((1 : Nat) = (1 : Nat) ∧ List.length (endN mu mw mh k mc (Int.toNat 
  (balls - a))) = List.length (endN mu mw mh k mc (Int.toNat (balls - a)))) ∧ ((2 : Nat) = (2 : Nat) ∧ (0 : Nat) = (0 : Nat)) ∧ (True ∧ rnE mw mh (celN mu mw mh k mc (Int.toNat (balls 
  - a))) mu (entX mw mh k) (entY mw mh k) (entD mw mh k) = rnE mw mh (celN mu mw mh k mc (Int.toNat (balls - a))) mu (entX mw mh k) (entY mw mh k) (entD mw mh k)) ∧ True) ∧ ((True ∧ (True 
  ∧ mw = mw) ∧ (True ∧ mh = mh) ∧ celN mu mw mh k mc (Int.toNat (balls - a)) = celN mu mw mh k mc (Int.toNat (balls - a)) ∧ mu = mu ∧ True) ∧ (True ∧ IntKind.i64 = IntKind.i64 ∧ endN 
  mu mw mh k mc (Int.toNat (balls - a)) = endN mu mw mh k mc (Int.toNat (balls - a))) ∧ (True ∧ (True ∧ rnW mw mh (celN mu mw mh k mc (Int.toNat (balls - a))) mu (entX mw mh k) (entY 
  mw mh k) (entD mw mh k) = rnW mw mh (celN mu mw mh k mc (Int.toNat (balls - a))) mu (entX mw mh k) (entY mw mh k) (entD mw mh k)) ∧ (True ∧ rnH mw mh (celN mu mw mh k mc (Int.toNat 
  (balls - a))) mu (entX mw mh k) (entY mw mh k) (entD mw mh k) = rnH mw mh (celN mu mw mh k mc (Int.toNat (balls - a))) mu (entX mw mh k) (entY mw mh k) (entD mw mh k)) ∧ rnC mw mh (celN 
  mu mw mh k mc (Int.toNat (balls - a))) mu (entX mw mh k) (entY mw mh k) (entD mw mh k) = rnC mw mh (celN mu mw mh k mc (Int.toNat (balls - a))) mu (entX mw mh k) (entY mw mh k) (entD 
  mw mh k) ∧ rnU mw mh (celN mu mw mh k mc (Int.toNat (balls - a))) mu (entX mw mh k) (entY mw mh k) (entD mw mh k) = rnU mw mh (celN mu mw mh k mc (Int.toNat (balls - a))) mu (entX mw 
  mh k) (entY mw mh k) (entD mw mh k) ∧ True) ∧ True) ∧ True) ∧ True) ∧ True) ∧ True) ∧ True) ∧ (((At (((1 : Int) ≤ mw ∧ mw ≤ (9 : Int)) ∧ ((1 : Int) ≤ mh ∧ mh ≤ (9 : Int)) ∧ (0 : Int) 
  ≤ k ∧ k < (2 : Int) * (mw + mh)) ∧ (At (blB { w := mw, h := mh, c := celN mu mw mh k mc (Int.toNat (balls - a)), t := mu } (entX mw mh k) (entY mw mh k) (entD mw mh k) = true) ∧ (True 
  ∧ ((True ∧ k = k) ∧ (True ∧ a = a) ∧ ((0 : Nat) = (0 : Nat) ∧ (0 : Nat) = (0 : Nat)) ∧ ((1 : Nat) = (1 : Nat) ∧ List.length (endN mu mw mh k mc (Int.toNat (balls - a))) = List.length 
  (endN mu mw mh k mc (Int.toNat (balls - a)))) ∧ ((2 : Nat) = (2 : Nat) ∧ (0 : Nat) = (0 : Nat)) ∧ (True ∧ rnE mw mh (celN mu mw mh k mc (Int.toNat (balls - a))) mu (entX mw mh k) (entY 
  mw mh k) (entD mw mh k) = rnE mw mh (celN mu mw mh k mc (Int.toNat (balls - a))) mu (entX mw mh k) (entY mw mh k) (entD mw mh k)) ∧ True) ∧ ((True ∧ (True ∧ mw = mw) ∧ (True ∧ mh = 
  mh) ∧ celN mu mw mh k mc (Int.toNat (balls - a)) = celN mu mw mh k mc (Int.toNat (balls - a)) ∧ mu = mu ∧ True) ∧ (True ∧ IntKind.i64 = IntKind.i64 ∧ endN mu mw mh k mc (Int.toNat (balls 
  - a)) = endN mu mw mh k mc (Int.toNat (balls - a))) ∧ (True ∧ (True ∧ rnW mw mh (celN mu mw mh k mc (Int.toNat (balls - a))) mu (entX mw mh k) (entY mw mh k) (entD mw mh k) = rnW mw 
  mh (celN mu mw mh k mc (Int.toNat (balls - a))) mu (entX mw mh k) (entY mw mh k) (entD mw mh k)) ∧ (True ∧ rnH mw mh (celN mu mw mh k mc (Int.toNat (balls - a))) mu (entX mw mh k) (entY 
  mw mh k) (entD mw mh k) = rnH mw mh (celN mu mw mh k mc (Int.toNat (balls - a))) mu (entX mw mh k) (entY mw mh k) (entD mw mh k)) ∧ rnC mw mh (celN mu mw mh k mc (Int.toNat (balls - 
  a))) mu (entX mw mh k) (entY mw mh k) (entD mw mh k) = rnC mw mh (celN mu mw mh k mc (Int.toNat (balls - a))) mu (entX mw mh k) (entY mw mh k) (entD mw mh k) ∧ rnU mw mh (celN mu mw 
  mh k mc (Int.toNat (balls - a))) mu (entX mw mh k) (entY mw mh k) (entD mw mh k) = rnU mw mh (celN mu mw mh k mc (Int.toNat (balls - a))) mu (entX mw mh k) (entY mw mh k) (entD mw mh 
  k) ∧ True) ∧ True) ∧ True) ∧ True) ∧ True) ∧ True) ∧ True) ∧ True) ∧ (((At (((1 : Int) ≤ mw ∧ mw ≤ (9 : Int)) ∧ ((1 : Int) ≤ mh ∧ mh ≤ (9 : Int)) ∧ (0 : Int) ≤ k ∧ k < (2 : Int) * (mw 
  + mh)) ∧ (At (blB { w := mw, h := mh, c := celN mu mw mh k mc (Int.toNat (balls - a)), t := mu } (entX mw mh k) (entY mw mh k) (entD mw mh k) = true) ∧ ((True ∧ ((True ∧ k = k) ∧ (True 
  ∧ a = a) ∧ ((0 : Nat) = (0 : Nat) ∧ (0 : Nat) = (0 : Nat)) ∧ ((1 : Nat) = (1 : Nat) ∧ List.length (endN mu mw mh k mc (Int.toNat (balls - a))) = List.length (endN mu mw mh k mc (Int.toNat 
  (balls - a)))) ∧ ((2 : Nat) = (2 : Nat) ∧ (0 : Nat) = (0 : Nat)) ∧ (True ∧ rnE mw mh (celN mu mw mh k mc (Int.toNat (balls - a))) mu (entX mw mh k) (entY mw mh k) (entD mw mh k) = rnE 
  mw mh (celN mu mw mh k mc (Int.toNat (balls - a))) mu (entX mw mh k) (entY mw mh k) (entD mw mh k)) ∧ True) ∧ ((True ∧ (True ∧ mw = mw) ∧ (True ∧ mh = mh) ∧ celN mu mw mh k mc (Int.toNat 
  (balls - a)) = celN mu mw mh k mc (Int.toNat (balls - a)) ∧ mu = mu ∧ True) ∧ (True ∧ IntKind.i64 = IntKind.i64 ∧ endN mu mw mh k mc (Int.toNat (balls - a)) = endN mu mw mh k mc (Int.toNat 
  (balls - a))) ∧ (True ∧ (True ∧ rnW mw mh (celN mu mw mh k mc (Int.toNat (balls - a))) mu (entX mw mh k) (entY mw mh k) (entD mw mh k) = rnW mw mh (celN mu mw mh k mc (Int.toNat (balls 
  - a))) mu (entX mw mh k) (entY mw mh k) (entD mw mh k)) ∧ (True ∧ rnH mw mh (celN mu mw mh k mc (Int.toNat (balls - a))) mu (entX mw mh k) (entY mw mh k) (entD mw mh k) = rnH mw mh 
  (celN mu mw mh k mc (Int.toNat (balls - a))) mu (entX mw mh k) (entY mw mh k) (entD mw mh k)) ∧ rnC mw mh (celN mu mw mh k mc (Int.toNat (balls - a))) mu (entX mw mh k) (entY mw mh 
  k) (entD mw mh k) = rnC mw mh (celN mu mw mh k mc (Int.toNat (balls - a))) mu (entX mw mh k) (entY mw mh k) (entD mw mh k) ∧ rnU mw mh (celN mu mw mh k mc (Int.toNat (balls - a))) mu 
  (entX mw mh k) (entY mw mh k) (entD mw mh k) = rnU mw mh (celN mu mw mh k mc (Int.toNat (balls - a))) mu (entX mw mh k) (entY mw mh k) (entD mw mh k) ∧ True) ∧ True) ∧ True) ∧ True) 
  ∧ True) ∧ ((At (blB { w := mw, h := mh, c := celN mu mw mh k mc (Int.toNat (balls - a)), t := mu } (entX mw mh k) (entY mw mh k) (entD mw mh k) = true) ∧ (True ∧ ((True ∧ k = k) ∧ (True 
  ∧ a = a) ∧ ((0 : Nat) = (0 : Nat) ∧ (0 : Nat) = (0 : Nat)) ∧ ((1 : Nat) = (1 : Nat) ∧ List.length (endN mu mw mh k mc (Int.toNat (balls - a))) = List.length (endN mu mw mh k mc (Int.toNat 
  (balls - a)))) ∧ ((2 : Nat) = (2 : Nat) ∧ (0 : Nat) = (0 : Nat)) ∧ (True ∧ rnE mw mh (celN mu mw mh k mc (Int.toNat (balls - a))) mu (entX mw mh k) (entY mw mh k) (entD mw mh k) = rnE 
  mw mh (celN mu mw mh k mc (Int.toNat (balls - a))) mu (entX mw mh k) (entY mw mh k) (entD mw mh k)) ∧ True) ∧ ((True ∧ (True ∧ mw = mw) ∧ (True ∧ mh = mh) ∧ celN mu mw mh k mc (Int.toNat 
  (balls - a)) = celN mu mw mh k mc (Int.toNat (balls - a)) ∧ mu = mu ∧ True) ∧ (True ∧ IntKind.i64 = IntKind.i64 ∧ endN mu mw mh k mc (Int.toNat (balls - a)) = endN mu mw mh k mc (Int.toNat 
  (balls - a))) ∧ (True ∧ (True ∧ rnW mw mh (celN mu mw mh k mc (Int.toNat (balls - a))) mu (entX mw mh k) (entY mw mh k) (entD mw mh k) = rnW mw mh (celN mu mw mh k mc (Int.toNat (balls 
  - a))) mu (entX mw mh k) (entY mw mh k) (entD mw mh k)) ∧ (True ∧ rnH mw mh (celN mu mw mh k mc (Int.toNat (balls - a))) mu (entX mw mh k) (entY mw mh k) (entD mw mh k) = rnH mw mh 
  (celN mu mw mh k mc (Int.toNat (balls - a))) mu (entX mw mh k) (entY mw mh k) (entD mw mh k)) ∧ rnC mw mh (celN mu mw mh k mc (Int.toNat (balls - a))) mu (entX mw mh k) (entY mw mh 
  k) (entD mw mh k) = rnC mw mh (celN mu mw mh k mc (Int.toNat (balls - a))) mu (entX mw mh k) (entY mw mh k) (entD mw mh k) ∧ rnU mw mh (celN mu mw mh k mc (Int.toNat (balls - a))) mu 
  (entX mw mh k) (entY mw mh k) (entD mw mh k) = rnU mw mh (celN mu mw mh k mc (Int.toNat (balls - a))) mu (entX mw mh k) (entY mw mh k) (entD mw mh k) ∧ True) ∧ True) ∧ True) ∧ True) 
  ∧ True) ∧ True) ∧ ((At (((1 : Int) ≤ mw ∧ mw ≤ (9 : Int)) ∧ ((1 : Int) ≤ mh ∧ mh ≤ (9 : Int)) ∧ (0 : Int) ≤ k ∧ k < (2 : Int) * (mw + mh)) ∧ (At (blB { w := mw, h := mh, c := celN mu mw mh k mc (Int.toNat (balls - a)), t := mu } 
  (entX mw mh k) (entY mw mh k) (entD mw mh k) = true) ∧ (True ∧ ((True ∧ k = k) ∧ (True ∧ a = a) ∧ ((0 : Nat) = (0 : Nat) ∧ (0 : Nat) = (0 : Nat)) ∧ ((1 : Nat) = (1 : Nat) ∧ List.length 
  (endN mu mw mh k mc (Int.toNat (balls - a))) = List.length (endN mu mw mh k mc (Int.toNat (balls - a)))) ∧ ((2 : Nat) = (2 : Nat) ∧ (0 : Nat) = (0 : Nat)) ∧ (True ∧ rnE mw mh (celN 
  mu mw mh k mc (Int.toNat (balls - a))) mu (entX mw mh k) (entY mw mh k) (entD mw mh k) = rnE mw mh (celN mu mw mh k mc (Int.toNat (balls - a))) mu (entX mw mh k) (entY mw mh k) (entD 
  mw mh k)) ∧ True) ∧ ((True ∧ (True ∧ mw = mw) ∧ (True ∧ mh = mh) ∧ celN mu mw mh k mc (Int.toNat (balls - a)) = celN mu mw mh k mc (Int.toNat (balls - a)) ∧ mu = mu ∧ True) ∧ (True 
  ∧ IntKind.i64 = IntKind.i64 ∧ endN mu mw mh k mc (Int.toNat (balls - a)) = endN mu mw mh k mc (Int.toNat (balls - a))) ∧ (True ∧ (True ∧ rnW mw mh (celN mu mw mh k mc (Int.toNat (balls 
  - a))) mu (entX mw mh k) (entY mw mh k) (entD mw mh k) = rnW mw mh (celN mu mw mh k mc (Int.toNat (balls - a))) mu (entX mw mh k) (entY mw mh k) (entD mw mh k)) ∧ (True ∧ rnH mw mh 
  (celN mu mw mh k mc (Int.toNat (balls - a))) mu (entX mw mh k) (entY mw mh k) (entD mw mh k) = rnH mw mh (celN mu mw mh k mc (Int.toNat (balls - a))) mu (entX mw mh k) (entY mw mh k) 
  (entD mw mh k)) ∧ rnC mw mh (celN mu mw mh k mc (Int.toNat (balls - a))) mu (entX mw mh k) (entY mw mh k) (entD mw mh k) = rnC mw mh (celN mu mw mh k mc (Int.toNat (balls - a))) mu 
  (entX mw mh k) (entY mw mh k) (entD mw mh k) ∧ rnU mw mh (celN mu mw mh k mc (Int.toNat (balls - a))) mu (entX mw mh k) (entY mw mh k) (entD mw mh k) = rnU mw mh (celN mu mw mh k mc 
  (Int.toNat (balls - a))) mu (entX mw mh k) (entY mw mh k) (entD mw mh k) ∧ True) ∧ True) ∧ True) ∧ True) ∧ True) ∧ True) ∧ True) ∧ (At (((1 : Int) ≤ mw ∧ mw ≤ (9 : Int)) ∧ ((1 : Int) 
  ≤ mh ∧ mh ≤ (9 : Int)) ∧ (0 : Int) ≤ k ∧ k < (2 : Int) * (mw + mh)) ∧ ((At (blB { w := mw, h := mh, c := celN mu mw mh k mc (Int.toNat (balls - a)), t := mu } (entX mw mh k) (entY mw 
  mh k) (entD mw mh k) = true) ∧ ((True ∧ ((True ∧ k = k) ∧ (True ∧ a = a) ∧ ((0 : Nat) = (0 : Nat) ∧ (0 : Nat) = (0 : Nat)) ∧ ((1 : Nat) = (1 : Nat) ∧ List.length (endN mu mw mh k mc 
  (Int.toNat (balls - a))) = List.length (endN mu mw mh k mc (Int.toNat (balls - a)))) ∧ ((2 : Nat) = (2 : Nat) ∧ (0 : Nat) = (0 : Nat)) ∧ (True ∧ rnE mw mh (celN mu mw mh k mc (Int.toNat 
  (balls - a))) mu (entX mw mh k) (entY mw mh k) (entD mw mh k) = rnE mw mh (celN mu mw mh k mc (Int.toNat (balls - a))) mu (entX mw mh k) (entY mw mh k) (entD mw mh k)) ∧ True) ∧ ((True 
  ∧ (True ∧ mw = mw) ∧ (True ∧ mh = mh) ∧ celN mu mw mh k mc (Int.toNat (balls - a)) = celN mu mw mh k mc (Int.toNat (balls - a)) ∧ mu = mu ∧ True) ∧ (True ∧ IntKind.i64 = IntKind.i64 
  ∧ endN mu mw mh k mc (Int.toNat (balls - a)) = endN mu mw mh k mc (Int.toNat (balls - a))) ∧ (True ∧ (True ∧ rnW mw mh (celN mu mw mh k mc (Int.toNat (balls - a))) mu (entX mw mh k) 
  (entY mw mh k) (entD mw mh k) = rnW mw mh (celN mu mw mh k mc (Int.toNat (balls - a))) mu (entX mw mh k) (entY mw mh k) (entD mw mh k)) ∧ (True ∧ rnH mw mh (celN mu mw mh k mc (Int.toNat 
  (balls - a))) mu (entX mw mh k) (entY mw mh k) (entD mw mh k) = rnH mw mh (celN mu mw mh k mc (Int.toNat (balls - a))) mu (entX mw mh k) (entY mw mh k) (entD mw mh k)) ∧ rnC mw mh (celN 
  mu mw mh k mc (Int.toNat (balls - a))) mu (entX mw mh k) (entY mw mh k) (entD mw mh k) = rnC mw mh (celN mu mw mh k mc (Int.toNat (balls - a))) mu (entX mw mh k) (entY mw mh k) (entD 
  mw mh k) ∧ rnU mw mh (celN mu mw mh k mc (Int.toNat (balls - a))) mu (entX mw mh k) (entY mw mh k) (entD mw mh k) = rnU mw mh (celN mu mw mh k mc (Int.toNat (balls - a))) mu (entX mw 
  mh k) (entY mw mh k) (entD mw mh k) ∧ True) ∧ True) ∧ True) ∧ True) ∧ True) ∧ ((At (blB { w := mw, h := mh, c := celN mu mw mh k mc (Int.toNat (balls - a)), t := mu } (entX mw mh k) 
  (entY mw mh k) (entD mw mh k) = true) ∧ (True ∧ ((True ∧ k = k) ∧ (True ∧ a = a) ∧ ((0 : Nat) = (0 : Nat) ∧ (0 : Nat) = (0 : Nat)) ∧ ((1 : Nat) = (1 : Nat) ∧ List.length (endN mu mw 
  mh k mc (Int.toNat (balls - a))) = List.length (endN mu mw mh k mc (Int.toNat (balls - a)))) ∧ ((2 : Nat) = (2 : Nat) ∧ (0 : Nat) = (0 : Nat)) ∧ (True ∧ rnE mw mh (celN mu mw mh k mc 
  (Int.toNat (balls - a))) mu (entX mw mh k) (entY mw mh k) (entD mw mh k) = rnE mw mh (celN mu mw mh k mc (Int.toNat (balls - a))) mu (entX mw mh k) (entY mw mh k) (entD mw mh k)) ∧ 
  True) ∧ ((True ∧ (True ∧ mw = mw) ∧ (True ∧ mh = mh) ∧ celN mu mw mh k mc (Int.toNat (balls - a)) = celN mu mw mh k mc (Int.toNat (balls - a)) ∧ mu = mu ∧ True) ∧ (True ∧ IntKind.i64 
  = IntKind.i64 ∧ endN mu mw mh k mc (Int.toNat (balls - a)) = endN mu mw mh k mc (Int.toNat (balls - a))) ∧ (True ∧ (True ∧ rnW mw mh (celN mu mw mh k mc (Int.toNat (balls - a))) mu 
  (entX mw mh k) (entY mw mh k) (entD mw mh k) = rnW mw mh (celN mu mw mh k mc (Int.toNat (balls - a))) mu (entX mw mh k) (entY mw mh k) (entD mw mh k)) ∧ (True ∧ rnH mw mh (celN mu mw 
  mh k mc (Int.toNat (balls - a))) mu (entX mw mh k) (entY mw mh k) (entD mw mh k) = rnH mw mh (celN mu mw mh k mc (Int.toNat (balls - a))) mu (entX mw mh k) (entY mw mh k) (entD mw mh 
  k)) ∧ rnC mw mh (celN mu mw mh k mc (Int.toNat (balls - a))) mu (entX mw mh k) (entY mw mh k) (entD mw mh k) = rnC mw mh (celN mu mw mh k mc (Int.toNat (balls - a))) mu (entX mw mh 
  k) (entY mw mh k) (entD mw mh k) ∧ rnU mw mh (celN mu mw mh k mc (Int.toNat (balls - a))) mu (entX mw mh k) (entY mw mh k) (entD mw mh k) = rnU mw mh (celN mu mw mh k mc (Int.toNat 
  (balls - a))) mu (entX mw mh k) (entY mw mh k) (entD mw mh k) ∧ True) ∧ True) ∧ True) ∧ True) ∧ True) ∧ True) ∧ (((At (blB { w := mw, h := mh, c := celN mu mw mh k mc (Int.toNat (balls - a)), t := mu } 
  (entX mw mh k) (entY mw mh k) (entD mw mh k) = true) ∧ (True ∧ ((True ∧ k = k) ∧ (True ∧ a = a) ∧ ((0 : Nat) = (0 : Nat) ∧ (0 : Nat) = (0 : Nat)) ∧ ((1 : Nat) = (1 : Nat) ∧ List.length 
  (endN mu mw mh k mc (Int.toNat (balls - a))) = List.length (endN mu mw mh k mc (Int.toNat (balls - a)))) ∧ ((2 : Nat) = (2 : Nat) ∧ (0 : Nat) = (0 : Nat)) ∧ (True ∧ rnE mw mh (celN 
  mu mw mh k mc (Int.toNat (balls - a))) mu (entX mw mh k) (entY mw mh k) (entD mw mh k) = rnE mw mh (celN mu mw mh k mc (Int.toNat (balls - a))) mu (entX mw mh k) (entY mw mh k) (entD 
  mw mh k)) ∧ True) ∧ ((True ∧ (True ∧ mw = mw) ∧ (True ∧ mh = mh) ∧ celN mu mw mh k mc (Int.toNat (balls - a)) = celN mu mw mh k mc (Int.toNat (balls - a)) ∧ mu = mu ∧ True) ∧ (True 
  ∧ IntKind.i64 = IntKind.i64 ∧ endN mu mw mh k mc (Int.toNat (balls - a)) = endN mu mw mh k mc (Int.toNat (balls - a))) ∧ (True ∧ (True ∧ rnW mw mh (celN mu mw mh k mc (Int.toNat (balls 
  - a))) mu (entX mw mh k) (entY mw mh k) (entD mw mh k) = rnW mw mh (celN mu mw mh k mc (Int.toNat (balls - a))) mu (entX mw mh k) (entY mw mh k) (entD mw mh k)) ∧ (True ∧ rnH mw mh 
  (celN mu mw mh k mc (Int.toNat (balls - a))) mu (entX mw mh k) (entY mw mh k) (entD mw mh k) = rnH mw mh (celN mu mw mh k mc (Int.toNat (balls - a))) mu (entX mw mh k) (entY mw mh k) 
  (entD mw mh k)) ∧ rnC mw mh (celN mu mw mh k mc (Int.toNat (balls - a))) mu (entX mw mh k) (entY mw mh k) (entD mw mh k) = rnC mw mh (celN mu mw mh k mc (Int.toNat (balls - a))) mu 
  (entX mw mh k) (entY mw mh k) (entD mw mh k) ∧ rnU mw mh (celN mu mw mh k mc (Int.toNat (balls - a))) mu (entX mw mh k) (entY mw mh k) (entD mw mh k) = rnU mw mh (celN mu mw mh k mc 
  (Int.toNat (balls - a))) mu (entX mw mh k) (entY mw mh k) (entD mw mh k) ∧ True) ∧ True) ∧ True) ∧ True) ∧ True) ∧ True) ∧ True) ∧ (((At (((1 : Int) ≤ mw ∧ mw ≤ (9 : Int)) ∧ ((1 : Int) 
  ≤ mh ∧ mh ≤ (9 : Int)) ∧ (0 : Int) ≤ k ∧ k < (2 : Int) * (mw + mh)) ∧ (At (blB { w := mw, h := mh, c := celN mu mw mh k mc (Int.toNat (balls - a)), t := mu } (entX mw mh k) (entY mw 
  mh k) (entD mw mh k) = true) ∧ (True ∧ ((True ∧ k = k) ∧ (True ∧ a = a) ∧ ((0 : Nat) = (0 : Nat) ∧ (0 : Nat) = (0 : Nat)) ∧ ((1 : Nat) = (1 : Nat) ∧ List.length (endN mu mw mh k mc 
  (Int.toNat (balls - a))) = List.length (endN mu mw mh k mc (Int.toNat (balls - a)))) ∧ ((2 : Nat) = (2 : Nat) ∧ (0 : Nat) = (0 : Nat)) ∧ (True ∧ rnE mw mh (celN mu mw mh k mc (Int.toNat 
  (balls - a))) mu (entX mw mh k) (entY mw mh k) (entD mw mh k) = rnE mw mh (celN mu mw mh k mc (Int.toNat (balls - a))) mu (entX mw mh k) (entY mw mh k) (entD mw mh k)) ∧ True) ∧ ((True 
  ∧ (True ∧ mw = mw) ∧ (True ∧ mh = mh) ∧ celN mu mw mh k mc (Int.toNat (balls - a)) = celN mu mw mh k mc (Int.toNat (balls - a)) ∧ mu = mu ∧ True) ∧ (True ∧ IntKind.i64 = IntKind.i64 
  ∧ endN mu mw mh k mc (Int.toNat (balls - a)) = endN mu mw mh k mc (Int.toNat (balls - a))) ∧ (True ∧ (True ∧ rnW mw mh (celN mu mw mh k mc (Int.toNat (balls - a))) mu (entX mw mh k) 
  (entY mw mh k) (entD mw mh k) = rnW mw mh (celN mu mw mh k mc (Int.toNat (balls - a))) mu (entX mw mh k) (entY mw mh k) (entD mw mh k)) ∧ (True ∧ rnH mw mh (celN mu mw mh k mc (Int.toNat 
  (balls - a))) mu (entX mw mh k) (entY mw mh k) (entD mw mh k) = rnH mw mh (celN mu mw mh k mc (Int.toNat (balls - a))) mu (entX mw mh k) (entY mw mh k) (entD mw mh k)) ∧ rnC mw mh (celN 
  mu mw mh k mc (Int.toNat (balls - a))) mu (entX mw mh k) (entY mw mh k) (entD mw mh k) = rnC mw mh (celN mu mw mh k mc (Int.toNat (balls - a))) mu (entX mw mh k) (entY mw mh k) (entD 
  mw mh k) ∧ rnU mw mh (celN mu mw mh k mc (Int.toNat (balls - a))) mu (entX mw mh k) (entY mw mh k) (entD mw mh k) = rnU mw mh (celN mu mw mh k mc (Int.toNat (balls - a))) mu (entX mw 
  mh k) (entY mw mh k) (entD mw mh k) ∧ True) ∧ True) ∧ True) ∧ True) ∧ True) ∧ True) ∧ (At (((1 : Int) ≤ mw ∧ mw ≤ (9 : Int)) ∧ ((1 : Int) ≤ mh ∧ mh ≤ (9 : Int)) ∧ (0 : Int) ≤ k ∧ k 
  < (2 : Int) * (mw + mh)) ∧ ((At (blB { w := mw, h := mh, c := celN mu mw mh k mc (Int.toNat (balls - a)), t := mu } (entX mw mh k) (entY mw mh k) (entD mw mh k) = true) ∧ (True ∧ ((True 
  ∧ k = k) ∧ (True ∧ a = a) ∧ ((0 : Nat) = (0 : Nat) ∧ (0 : Nat) = (0 : Nat)) ∧ ((1 : Nat) = (1 : Nat) ∧ List.length (endN mu mw mh k mc (Int.toNat (balls - a))) = List.length (endN mu 
  mw mh k mc (Int.toNat (balls - a)))) ∧ ((2 : Nat) = (2 : Nat) ∧ (0 : Nat) = (0 : Nat)) ∧ (True ∧ rnE mw mh (celN mu mw mh k mc (Int.toNat (balls - a))) mu (entX mw mh k) (entY mw mh 
  k) (entD mw mh k) = rnE mw mh (celN mu mw mh k mc (Int.toNat (balls - a))) mu (entX mw mh k) (entY mw mh k) (entD mw mh k)) ∧ True) ∧ ((True ∧ (True ∧ mw = mw) ∧ (True ∧ mh = mh) ∧ 
  celN mu mw mh k mc (Int.toNat (balls - a)) = celN mu mw mh k mc (Int.toNat (balls - a)) ∧ mu = mu ∧ True) ∧ (True ∧ IntKind.i64 = IntKind.i64 ∧ endN mu mw mh k mc (Int.toNat (balls 
  - a)) = endN mu mw mh k mc (Int.toNat (balls - a))) ∧ (True ∧ (True ∧ rnW mw mh (celN mu mw mh k mc (Int.toNat (balls - a))) mu (entX mw mh k) (entY mw mh k) (entD mw mh k) = rnW mw 
  mh (celN mu mw mh k mc (Int.toNat (balls - a))) mu (entX mw mh k) (entY mw mh k) (entD mw mh k)) ∧ (True ∧ rnH mw mh (celN mu mw mh k mc (Int.toNat (balls - a))) mu (entX mw mh k) (entY 
  mw mh k) (entD mw mh k) = rnH mw mh (celN mu mw mh k mc (Int.toNat (balls - a))) mu (entX mw mh k) (entY mw mh k) (entD mw mh k)) ∧ rnC mw mh (celN mu mw mh k mc (Int.toNat (balls - 
  a))) mu (entX mw mh k) (entY mw mh k) (entD mw mh k) = rnC mw mh (celN mu mw mh k mc (Int.toNat (balls - a))) mu (entX mw mh k) (entY mw mh k) (entD mw mh k) ∧ rnU mw mh (celN mu mw 
  mh k mc (Int.toNat (balls - a))) mu (entX mw mh k) (entY mw mh k) (entD mw mh k) = rnU mw mh (celN mu mw mh k mc (Int.toNat (balls - a))) mu (entX mw mh k) (entY mw mh k) (entD mw mh 
  k) ∧ True) ∧ True) ∧ True) ∧ True) ∧ True) ∧ True) ∧ True) ∧ True) ∧ ((((At (((1 : Int) ≤ mw ∧ mw ≤ (9 : Int)) ∧ ((1 : Int) ≤ mh ∧ mh ≤ (9 : Int)) ∧ (0 : Int) ≤ k ∧ k < (2 : Int) * 
  (mw + mh)) ∧ (At (blB { w := mw, h := mh, c := celN mu mw mh k mc (Int.toNat (balls - a)), t := mu } (entX mw mh k) (entY mw mh k) (entD mw mh k) = true) ∧ (True ∧ ((True ∧ k = k) ∧ 
  (True ∧ a = a) ∧ ((0 : Nat) = (0 : Nat) ∧ (0 : Nat) = (0 : Nat)) ∧ ((1 : Nat) = (1 : Nat) ∧ List.length (endN mu mw mh k mc (Int.toNat (balls - a))) = List.length (endN mu mw mh k mc 
  (Int.toNat (balls - a)))) ∧ ((2 : Nat) = (2 : Nat) ∧ (0 : Nat) = (0 : Nat)) ∧ (True ∧ rnE mw mh (celN mu mw mh k mc (Int.toNat (balls - a))) mu (entX mw mh k) (entY mw mh k) (entD mw 
  mh k) = rnE mw mh (celN mu mw mh k mc (Int.toNat (balls - a))) mu (entX mw mh k) (entY mw mh k) (entD mw mh k)) ∧ True) ∧ ((True ∧ (True ∧ mw = mw) ∧ (True ∧ mh = mh) ∧ celN mu mw mh 
  k mc (Int.toNat (balls - a)) = celN mu mw mh k mc (Int.toNat (balls - a)) ∧ mu = mu ∧ True) ∧ (True ∧ IntKind.i64 = IntKind.i64 ∧ endN mu mw mh k mc (Int.toNat (balls - a)) = endN mu 
  mw mh k mc (Int.toNat (balls - a))) ∧ (True ∧ (True ∧ rnW mw mh (celN mu mw mh k mc (Int.toNat (balls - a))) mu (entX mw mh k) (entY mw mh k) (entD mw mh k) = rnW mw mh (celN mu mw 
  mh k mc (Int.toNat (balls - a))) mu (entX mw mh k) (entY mw mh k) (entD mw mh k)) ∧ (True ∧ rnH mw mh (celN mu mw mh k mc (Int.toNat (balls - a))) mu (entX mw mh k) (entY mw mh k) (entD 
  mw mh k) = rnH mw mh (celN mu mw mh k mc (Int.toNat (balls - a))) mu (entX mw mh k) (entY mw mh k) (entD mw mh k)) ∧ rnC mw mh (celN mu mw mh k mc (Int.toNat (balls - a))) mu (entX 
  mw mh k) (entY mw mh k) (entD mw mh k) = rnC mw mh (celN mu mw mh k mc (Int.toNat (balls - a))) mu (entX mw mh k) (entY mw mh k) (entD mw mh k) ∧ rnU mw mh (celN mu mw mh k mc (Int.toNat 
  (balls - a))) mu (entX mw mh k) (entY mw mh k) (entD mw mh k) = rnU mw mh (celN mu mw mh k mc (Int.toNat (balls - a))) mu (entX mw mh k) (entY mw mh k) (entD mw mh k) ∧ True) ∧ True) 
  ∧ True) ∧ True) ∧ True) ∧ True) ∧ True) ∧ (((At (((1 : Int) ≤ mw ∧ mw ≤ (9 : Int)) ∧ ((1 : Int) ≤ mh ∧ mh ≤ (9 : Int)) ∧ (0 : Int) ≤ k ∧ k < (2 : Int) * (mw + mh)) ∧ (At (blB { w := mw, h := mh, c := celN mu mw mh k mc (Int.toNat (balls - a)), t := mu } 
  (entX mw mh k) (entY mw mh k) (entD mw mh k) = true) ∧ (True ∧ ((True ∧ k = k) ∧ (True ∧ a = a) ∧ ((0 : Nat) = (0 : Nat) ∧ (0 : Nat) = (0 : Nat)) ∧ ((1 : Nat) = (1 : Nat) ∧ List.length 
  (endN mu mw mh k mc (Int.toNat (balls - a))) = List.length (endN mu mw mh k mc (Int.toNat (balls - a)))) ∧ ((2 : Nat) = (2 : Nat) ∧ (0 : Nat) = (0 : Nat)) ∧ (True ∧ rnE mw mh (celN 
  mu mw mh k mc (Int.toNat (balls - a))) mu (entX mw mh k) (entY mw mh k) (entD mw mh k) = rnE mw mh (celN mu mw mh k mc (Int.toNat (balls - a))) mu (entX mw mh k) (entY mw mh k) (entD 
  mw mh k)) ∧ True) ∧ ((True ∧ (True ∧ mw = mw) ∧ (True ∧ mh = mh) ∧ celN mu mw mh k mc (Int.toNat (balls - a)) = celN mu mw mh k mc (Int.toNat (balls - a)) ∧ mu = mu ∧ True) ∧ (True 
  ∧ IntKind.i64 = IntKind.i64 ∧ endN mu mw mh k mc (Int.toNat (balls - a)) = endN mu mw mh k mc (Int.toNat (balls - a))) ∧ (True ∧ (True ∧ rnW mw mh (celN mu mw mh k mc (Int.toNat (balls 
  - a))) mu (entX mw mh k) (entY mw mh k) (entD mw mh k) = rnW mw mh (celN mu mw mh k mc (Int.toNat (balls - a))) mu (entX mw mh k) (entY mw mh k) (entD mw mh k)) ∧ (True ∧ rnH mw mh 
  (celN mu mw mh k mc (Int.toNat (balls - a))) mu (entX mw mh k) (entY mw mh k) (entD mw mh k) = rnH mw mh (celN mu mw mh k mc (Int.toNat (balls - a))) mu (entX mw mh k) (entY mw mh k) 
  (entD mw mh k)) ∧ rnC mw mh (celN mu mw mh k mc (Int.toNat (balls - a))) mu (entX mw mh k) (entY mw mh k) (entD mw mh k) = rnC mw mh (celN mu mw mh k mc (Int.toNat (balls - a))) mu 
  (entX mw mh k) (entY mw mh k) (entD mw mh k) ∧ rnU mw mh (celN mu mw mh k mc (Int.toNat (balls - a))) mu (entX mw mh k) (entY mw mh k) (entD mw mh k) = rnU mw mh (celN mu mw mh k mc 
  (Int.toNat (balls - a))) mu (entX mw mh k) (entY mw mh k) (entD mw mh k) ∧ True) ∧ True) ∧ True) ∧ True) ∧ True) ∧ True) ∧ (At (((1 : Int) ≤ mw ∧ mw ≤ (9 : Int)) ∧ ((1 : Int) ≤ mh ∧ 
  mh ≤ (9 : Int)) ∧ (0 : Int) ≤ k ∧ k < (2 : Int) * (mw + mh)) ∧ ((At (blB { w := mw, h := mh, c := celN mu mw mh k mc (Int.toNat (balls - a)), t := mu } (entX mw mh k) (entY mw mh k) 
  (entD mw mh k) = true) ∧ (True ∧ ((True ∧ k = k) ∧ (True ∧ a = a) ∧ ((0 : Nat) = (0 : Nat) ∧ (0 : Nat) = (0 : Nat)) ∧ ((1 : Nat) = (1 : Nat) ∧ List.length (endN mu mw mh k mc (Int.toNat 
  (balls - a))) = List.length (endN mu mw mh k mc (Int.toNat (balls - a)))) ∧ ((2 : Nat) = (2 : Nat) ∧ (0 : Nat) = (0 : Nat)) ∧ (True ∧ rnE mw mh (celN mu mw mh k mc (Int.toNat (balls 
  - a))) mu (entX mw mh k) (entY mw mh k) (entD mw mh k) = rnE mw mh (celN mu mw mh k mc (Int.toNat (balls - a))) mu (entX mw mh k) (entY mw mh k) (entD mw mh k)) ∧ True) ∧ ((True ∧ (True 
  ∧ mw = mw) ∧ (True ∧ mh = mh) ∧ celN mu mw mh k mc (Int.toNat (balls - a)) = celN mu mw mh k mc (Int.toNat (balls - a)) ∧ mu = mu ∧ True) ∧ (True ∧ IntKind.i64 = IntKind.i64 ∧ endN 
  mu mw mh k mc (Int.toNat (balls - a)) = endN mu mw mh k mc (Int.toNat (balls - a))) ∧ (True ∧ (True ∧ rnW mw mh (celN mu mw mh k mc (Int.toNat (balls - a))) mu (entX mw mh k) (entY 
  mw mh k) (entD mw mh k) = rnW mw mh (celN mu mw mh k mc (Int.toNat (balls - a))) mu (entX mw mh k) (entY mw mh k) (entD mw mh k)) ∧ (True ∧ rnH mw mh (celN mu mw mh k mc (Int.toNat 
  (balls - a))) mu (entX mw mh k) (entY mw mh k) (entD mw mh k) = rnH mw mh (celN mu mw mh k mc (Int.toNat (balls - a))) mu (entX mw mh k) (entY mw mh k) (entD mw mh k)) ∧ rnC mw mh (celN 
  mu mw mh k mc (Int.toNat (balls - a))) mu (entX mw mh k) (entY mw mh k) (entD mw mh k) = rnC mw mh (celN mu mw mh k mc (Int.toNat (balls - a))) mu (entX mw mh k) (entY mw mh k) (entD 
  mw mh k) ∧ rnU mw mh (celN mu mw mh k mc (Int.toNat (balls - a))) mu (entX mw mh k) (entY mw mh k) (entD mw mh k) = rnU mw mh (celN mu mw mh k mc (Int.toNat (balls - a))) mu (entX mw 
  mh k) (entY mw mh k) (entD mw mh k) ∧ True) ∧ True) ∧ True) ∧ True) ∧ True) ∧ True) ∧ True) ∧ True) ∧ True) ∧ True ∧ ((True ∧ k = k) ∧ (True ∧ a = a) ∧ ((0 : Nat) = (0 : Nat) ∧ (0 : 
  Nat) = (0 : Nat)) ∧ ((1 : Nat) = (1 : Nat) ∧ List.length (endN mu mw mh k mc (Int.toNat (balls - a))) = List.length (endN mu mw mh k mc (Int.toNat (balls - a)))) ∧ ((2 : Nat) = (2 : 
  Nat) ∧ (0 : Nat) = (0 : Nat)) ∧ (True ∧ rnE mw mh (celN mu mw mh k mc (Int.toNat (balls - a))) mu (entX mw mh k) (entY mw mh k) (entD mw mh k) = rnE mw mh (celN mu mw mh k mc (Int.toNat 
  (balls - a))) mu (entX mw mh k) (entY mw mh k) (entD mw mh k)) ∧ True) ∧ ((True ∧ (True ∧ mw = mw) ∧ (True ∧ mh = mh) ∧ celN mu mw mh k mc (Int.toNat (balls - a)) = celN mu mw mh k 
  mc (Int.toNat (balls - a)) ∧ mu = mu ∧ True) ∧ (True ∧ IntKind.i64 = IntKind.i64 ∧ endN mu mw mh k mc (Int.toNat (balls - a)) = endN mu mw mh k mc (Int.toNat (balls - a))) ∧ (True ∧ 
  (True ∧ rnW mw mh (celN mu mw mh k mc (Int.toNat (balls - a))) mu (entX mw mh k) (entY mw mh k) (entD mw mh k) = rnW mw mh (celN mu mw mh k mc (Int.toNat (balls - a))) mu (entX mw mh 
  k) (entY mw mh k) (entD mw mh k)) ∧ (True ∧ rnH mw mh (celN mu mw mh k mc (Int.toNat (balls - a))) mu (entX mw mh k) (entY mw mh k) (entD mw mh k) = rnH mw mh (celN mu mw mh k mc (Int.toNat 
  (balls - a))) mu (entX mw mh k) (entY mw mh k) (entD mw mh k)) ∧ rnC mw mh (celN mu mw mh k mc (Int.toNat (balls - a))) mu (entX mw mh k) (entY mw mh k) (entD mw mh k) = rnC mw mh (celN 
  mu mw mh k mc (Int.toNat (balls - a))) mu (entX mw mh k) (entY mw mh k) (entD mw mh k) ∧ rnU mw mh (celN mu mw mh k mc (Int.toNat (balls - a))) mu (entX mw mh k) (entY mw mh k) (entD 
  mw mh k) = rnU mw mh (celN mu mw mh k mc (Int.toNat (balls - a))) mu (entX mw mh k) (entY mw mh k) (entD mw mh k) ∧ True) ∧ True) ∧ True) ∧ At ((List.length (endN mu mw mh k mc (Int.toNat 
  (balls - a))) = List.length (endN mu mw mh k mc (Int.toNat (balls - a))) * (1 : Nat) ∧ (1 : Nat) * (1 : Nat) ≤ List.length [rnE mw mh (celN mu mw mh k mc (Int.toNat (balls - a))) mu 
  (entX mw mh k) (entY mw mh k) (entD mw mh k)]) ∧ (0 : Nat) < (1 : Nat) ∧ List.length (endN mu mw mh k mc (Int.toNat (balls - a))) + (1 : Nat) ≤ (1000000000 : Nat)) ∧ (True ∧ ((True 
  ∧ k = k) ∧ (True ∧ IntKind.wrap IntKind.i64 (a - (1 : Int)) = IntKind.wrap IntKind.i64 (a - (1 : Int))) ∧ ((0 : Nat) = (0 : Nat) ∧ (0 : Nat) = (0 : Nat)) ∧ ((1 : Nat) = (1 : Nat) ∧ 
  List.length (endN mu mw mh k mc (Int.toNat (balls - a))) + (1 : Nat) = List.length (endN mu mw mh k mc (Int.toNat (balls - IntKind.wrap IntKind.i64 (a - (1 : Int)))))) ∧ True) ∧ ((True 
  ∧ (True ∧ rnW mw mh (celN mu mw mh k mc (Int.toNat (balls - a))) mu (entX mw mh k) (entY mw mh k) (entD mw mh k) = mw) ∧ (True ∧ rnH mw mh (celN mu mw mh k mc (Int.toNat (balls - a))) 
  mu (entX mw mh k) (entY mw mh k) (entD mw mh k) = mh) ∧ rnC mw mh (celN mu mw mh k mc (Int.toNat (balls - a))) mu (entX mw mh k) (entY mw mh k) (entD mw mh k) = celN mu mw mh k mc (Int.toNat 
  (balls - IntKind.wrap IntKind.i64 (a - (1 : Int)))) ∧ rnU mw mh (celN mu mw mh k mc (Int.toNat (balls - a))) mu (entX mw mh k) (entY mw mh k) (entD mw mh k) = mu ∧ True) ∧ (True ∧ IntKind.i64 
  = IntKind.i64 ∧ endN mu mw mh k mc (Int.toNat (balls - a)) ++ List.take ((1 : Nat) * (1 : Nat)) [rnE mw mh (celN mu mw mh k mc (Int.toNat (balls - a))) mu (entX mw mh k) (entY mw mh 
  k) (entD mw mh k)] = endN mu mw mh k mc (Int.toNat (balls - IntKind.wrap IntKind.i64 (a - (1 : Int))))) ∧ True) ∧ True) ∧ At (eiInv balls (IntKind.wrap IntKind.i64 (a - (1 : Int))) 
  ∧ Int.toNat (IntKind.wrap IntKind.i64 (a - (1 : Int))) < Int.toNat a)) ∧ (decide (a > (0 : Int)) = false → K (V.tup [V.row (1 : Nat) (List.length (endN mu mw mh k mc (Int.toNat (balls 
  - a)))), V.lit true]) [{ cs := Cells.vals [V.int IntKind.i64 mw, V.int IntKind.i64 mh, V.str (celN mu mw mh k mc (Int.toNat (balls - a))), V.bool mu], elem := 28, kind := Kind.box }, 
  { cs := Cells.ints IntKind.i64 (endN mu mw mh k mc (Int.toNat (balls - a))), elem := 3, kind := Kind.row }])))

def VC_impl_ExitsInTurn (mw : Int) (mh : Int) (mc : List UInt8) (mu : Bool) (k : Int) (balls : Int) (K : V → List Blk → Prop) : Prop := At True ∧ ((!mzB { w := mw, h := mh, c := mc, t := mu }) 
  = true → K (V.tup [V.raw (Value.slice none (0 : Nat) (0 : Nat)), V.lit false]) [{ cs := Cells.vals [V.int IntKind.i64 mw, V.int IntKind.i64 mh, V.str mc, V.bool mu], elem := 28, kind := Kind.box }]) 
  ∧ ((!mzB { w := mw, h := mh, c := mc, t := mu }) = false → At True ∧ ((!inB k (0 : Int) (IntKind.wrap IntKind.i64 (IntKind.wrap IntKind.i64 ((2 : Int) * IntKind.wrap IntKind.i64 (mw 
  + mh)) - (1 : Int)))) = true → K (V.tup [V.raw (Value.slice none (0 : Nat) (0 : Nat)), V.lit false]) [{ cs := Cells.vals [V.int IntKind.i64 mw, V.int IntKind.i64 mh, V.str mc, V.bool mu], elem := 28, kind := Kind.box }]) 
  ∧ ((!inB k (0 : Int) (IntKind.wrap IntKind.i64 (IntKind.wrap IntKind.i64 ((2 : Int) * IntKind.wrap IntKind.i64 (mw + mh)) - (1 : Int)))) = false → At True ∧ ((!inB balls (0 : Int) (600 
  : Int)) = true → K (V.tup [V.raw (Value.slice none (0 : Nat) (0 : Nat)), V.lit false]) [{ cs := Cells.vals [V.int IntKind.i64 mw, V.int IntKind.i64 mh, V.str mc, V.bool mu], elem := 28, kind := Kind.box }]) 
  ∧ ((!inB balls (0 : Int) (600 : Int)) = false → True ∧ At ((0 : Int) ≤ (0 : Int) ∧ (0 : Int) ≤ balls ∧ balls ≤ (1000000000 : Int)) ∧ (True ∧ ((True ∧ k = k) ∧ ((0 : Nat) = (0 : Nat) 
  ∧ (0 : Nat) = (0 : Nat)) ∧ ((1 : Nat) = (1 : Nat) ∧ (0 : Nat) = (0 : Nat)) ∧ ((2 : Nat) = (2 : Nat) ∧ (0 : Nat) = (0 : Nat)) ∧ (True ∧ balls = balls) ∧ (True ∧ (0 : Int) = (0 : Int)) 
  ∧ True) ∧ ((True ∧ (True ∧ mw = mw) ∧ (True ∧ mh = mh) ∧ mc = mc ∧ mu = mu ∧ True) ∧ (True ∧ ((True ∧ mw = mw) ∧ (True ∧ mh = mh) ∧ mc = mc ∧ mu = mu ∧ True) ∧ True ∧ cpB (81 : Nat) 
  [] (81 : Nat) mc = padB (81 : Nat) (Rl.c (Rn.r { r := rlO mw mh (cpB (81 : Nat) [] (81 : Nat) mc) (0 : Int) (0 : Int) (0 : Int), e := (0 : Int), k := (0 : Int) })) ∧ (True ∧ (0 : Int) 
  = Rl.x (Rn.r { r := rlO mw mh (cpB (81 : Nat) [] (81 : Nat) mc) (0 : Int) (0 : Int) (0 : Int), e := (0 : Int), k := (0 : Int) })) ∧ (True ∧ (0 : Int) = Rl.y (Rn.r { r := rlO mw mh (cpB (81 : Nat) [] (81 : Nat) mc) (0 : Int) (0 : Int) (0 : Int), e := (0 : Int), k := (0 : Int) })) 
  ∧ (True ∧ (0 : Int) = Rl.d (Rn.r { r := rlO mw mh (cpB (81 : Nat) [] (81 : Nat) mc) (0 : Int) (0 : Int) (0 : Int), e := (0 : Int), k := (0 : Int) })) ∧ (True ∧ (0 : Int) = Rn.e { r := rlO mw mh (cpB (81 : Nat) [] (81 : Nat) mc) (0 : Int) (0 : Int) (0 : Int), e := (0 : Int), k := (0 : Int) }) 
  ∧ (True ∧ (0 : Int) = Rn.k { r := rlO mw mh (cpB (81 : Nat) [] (81 : Nat) mc) (0 : Int) (0 : Int) (0 : Int), e := (0 : Int), k := (0 : Int) }) ∧ True) ∧ (True ∧ IntKind.i64 = IntKind.i64 
  ∧ List.replicate (Int.toNat (0 : Int)) (0 : Int) = endN mu mw mh k mc (Int.toNat (0 : Int))) ∧ True) ∧ True) ∧ At (eiInv balls (0 : Int) ∧ Rl.c (Rn.r { r := rlO mw mh (cpB (81 : Nat) [] (81 : Nat) mc) (0 : Int) (0 : Int) (0 : Int), e := (0 : Int), k := (0 : Int) }) 
  = celN mu mw mh k mc (Int.toNat (0 : Int))) ∧ ∀ (a : Int × Rn), eiInv balls (Prod.fst a) ∧ Rl.c (Rn.r (Prod.snd a)) = celN mu mw mh k mc (Int.toNat (Prod.fst a)) → (decide (Prod.fst 
  a < balls) = true → At (sdP mw mh (padB (81 : Nat) (Rl.c (Rn.r (Prod.snd a)))) k) ∧ At ((List.length (endN mu mw mh k mc (Int.toNat (Prod.fst a))) = List.length (endN mu mw mh k mc 
  (Int.toNat (Prod.fst a))) * (1 : Nat) ∧ (1 : Nat) * (1 : Nat) ≤ List.length [endR mw mh (Rn.r (sdR mu mw mh (padB (81 : Nat) (Rl.c (Rn.r (Prod.snd a)))) k (Rn.e (Prod.snd a)) (Rn.k 
  (Prod.snd a))))]) ∧ (0 : Nat) < (1 : Nat) ∧ List.length (endN mu mw mh k mc (Int.toNat (Prod.fst a))) + (1 : Nat) ≤ (1000000000 : Nat)) ∧ (True ∧ ((True ∧ k = k) ∧ ((0 : Nat) = (0 : 
  Nat) ∧ (0 : Nat) = (0 : Nat)) ∧ ((1 : Nat) = (1 : Nat) ∧ (0 : Nat) = (0 : Nat)) ∧ ((2 : Nat) = (2 : Nat) ∧ List.length (endN mu mw mh k mc (Int.toNat (Prod.fst a))) + (1 : Nat) = List.length 
  (endN mu mw mh k mc (Int.toNat (IntKind.wrap IntKind.i64 (Prod.fst a + (1 : Int)))))) ∧ (True ∧ balls = balls) ∧ (True ∧ IntKind.wrap IntKind.i64 (Prod.fst a + (1 : Int)) = IntKind.wrap 
  IntKind.i64 (Prod.fst a + (1 : Int))) ∧ True) ∧ ((True ∧ (True ∧ mw = mw) ∧ (True ∧ mh = mh) ∧ mc = mc ∧ mu = mu ∧ True) ∧ (True ∧ ((True ∧ mw = mw) ∧ (True ∧ mh = mh) ∧ mc = mc ∧ mu 
  = mu ∧ True) ∧ True ∧ padB (81 : Nat) (Rl.c (Rn.r (sdR mu mw mh (padB (81 : Nat) (Rl.c (Rn.r (Prod.snd a)))) k (Rn.e (Prod.snd a)) (Rn.k (Prod.snd a))))) = padB (81 : Nat) (Rl.c (Rn.r 
  { r := rlO mw mh (padB (81 : Nat) (Rl.c (Rn.r (sdR mu mw mh (padB (81 : Nat) (Rl.c (Rn.r (Prod.snd a)))) k (Rn.e (Prod.snd a)) (Rn.k (Prod.snd a)))))) (Rl.x (Rn.r (sdR mu mw mh (padB (81 : Nat) (Rl.c (Rn.r (Prod.snd a)))) k (Rn.e (Prod.snd a)) (Rn.k (Prod.snd a))))) (Rl.y (Rn.r (sdR mu mw mh (padB (81 : Nat) (Rl.c (Rn.r (Prod.snd a)))) k (Rn.e (Prod.snd a)) (Rn.k (Prod.snd a))))) (Rl.d (Rn.r (sdR mu mw mh (padB (81 : Nat) (Rl.c (Rn.r (Prod.snd a)))) k (Rn.e (Prod.snd a)) (Rn.k (Prod.snd a))))), e := Rn.e (sdR mu mw mh (padB (81 : Nat) (Rl.c (Rn.r (Prod.snd a)))) k (Rn.e (Prod.snd a)) (Rn.k (Prod.snd a))), k := Rn.k (sdR mu mw mh (padB (81 : Nat) (Rl.c (Rn.r (Prod.snd a)))) k (Rn.e (Prod.snd a)) (Rn.k (Prod.snd a))) })) 
  ∧ (True ∧ Rl.x (Rn.r (sdR mu mw mh (padB (81 : Nat) (Rl.c (Rn.r (Prod.snd a)))) k (Rn.e (Prod.snd a)) (Rn.k (Prod.snd a)))) = Rl.x (Rn.r { r := rlO mw mh (padB (81 : Nat) (Rl.c (Rn.r (sdR mu mw mh (padB (81 : Nat) (Rl.c (Rn.r (Prod.snd a)))) k (Rn.e (Prod.snd a)) (Rn.k (Prod.snd a)))))) (Rl.x (Rn.r (sdR mu mw mh (padB (81 : Nat) (Rl.c (Rn.r (Prod.snd a)))) k (Rn.e (Prod.snd a)) (Rn.k (Prod.snd a))))) (Rl.y (Rn.r (sdR mu mw mh (padB (81 : Nat) (Rl.c (Rn.r (Prod.snd a)))) k (Rn.e (Prod.snd a)) (Rn.k (Prod.snd a))))) (Rl.d (Rn.r (sdR mu mw mh (padB (81 : Nat) (Rl.c (Rn.r (Prod.snd a)))) k (Rn.e (Prod.snd a)) (Rn.k (Prod.snd a))))), e := Rn.e (sdR mu mw mh (padB (81 : Nat) (Rl.c (Rn.r (Prod.snd a)))) k (Rn.e (Prod.snd a)) (Rn.k (Prod.snd a))), k := Rn.k (sdR mu mw mh (padB (81 : Nat) (Rl.c (Rn.r (Prod.snd a)))) k (Rn.e (Prod.snd a)) (Rn.k (Prod.snd a))) })) 
  ∧ (True ∧ Rl.y (Rn.r (sdR mu mw mh (padB (81 : Nat) (Rl.c (Rn.r (Prod.snd a)))) k (Rn.e (Prod.snd a)) (Rn.k (Prod.snd a)))) = Rl.y (Rn.r { r := rlO mw mh (padB (81 : Nat) (Rl.c (Rn.r (sdR mu mw mh (padB (81 : Nat) (Rl.c (Rn.r (Prod.snd a)))) k (Rn.e (Prod.snd a)) (Rn.k (Prod.snd a)))))) (Rl.x (Rn.r (sdR mu mw mh (padB (81 : Nat) (Rl.c (Rn.r (Prod.snd a)))) k (Rn.e (Prod.snd a)) (Rn.k (Prod.snd a))))) (Rl.y (Rn.r (sdR mu mw mh (padB (81 : Nat) (Rl.c (Rn.r (Prod.snd a)))) k (Rn.e (Prod.snd a)) (Rn.k (Prod.snd a))))) (Rl.d (Rn.r (sdR mu mw mh (padB (81 : Nat) (Rl.c (Rn.r (Prod.snd a)))) k (Rn.e (Prod.snd a)) (Rn.k (Prod.snd a))))), e := Rn.e (sdR mu mw mh (padB (81 : Nat) (Rl.c (Rn.r (Prod.snd a)))) k (Rn.e (Prod.snd a)) (Rn.k (Prod.snd a))), k := Rn.k (sdR mu mw mh (padB (81 : Nat) (Rl.c (Rn.r (Prod.snd a)))) k (Rn.e (Prod.snd a)) (Rn.k (Prod.snd a))) })) 
  ∧ (True ∧ Rl.d (Rn.r (sdR mu mw mh (padB (81 : Nat) (Rl.c (Rn.r (Prod.snd a)))) k (Rn.e (Prod.snd a)) (Rn.k (Prod.snd a)))) = Rl.d (Rn.r { r := rlO mw mh (padB (81 : Nat) (Rl.c (Rn.r (sdR mu mw mh (padB (81 : Nat) (Rl.c (Rn.r (Prod.snd a)))) k (Rn.e (Prod.snd a)) (Rn.k (Prod.snd a)))))) (Rl.x (Rn.r (sdR mu mw mh (padB (81 : Nat) (Rl.c (Rn.r (Prod.snd a)))) k (Rn.e (Prod.snd a)) (Rn.k (Prod.snd a))))) (Rl.y (Rn.r (sdR mu mw mh (padB (81 : Nat) (Rl.c (Rn.r (Prod.snd a)))) k (Rn.e (Prod.snd a)) (Rn.k (Prod.snd a))))) (Rl.d (Rn.r (sdR mu mw mh (padB (81 : Nat) (Rl.c (Rn.r (Prod.snd a)))) k (Rn.e (Prod.snd a)) (Rn.k (Prod.snd a))))), e := Rn.e (sdR mu mw mh (padB (81 : Nat) (Rl.c (Rn.r (Prod.snd a)))) k (Rn.e (Prod.snd a)) (Rn.k (Prod.snd a))), k := Rn.k (sdR mu mw mh (padB (81 : Nat) (Rl.c (Rn.r (Prod.snd a)))) k (Rn.e (Prod.snd a)) (Rn.k (Prod.snd a))) })) 
  ∧ (True ∧ Rn.e (sdR mu mw mh (padB (81 : Nat) (Rl.c (Rn.r (Prod.snd a)))) k (Rn.e (Prod.snd a)) (Rn.k (Prod.snd a))) = Rn.e { r := rlO mw mh (padB (81 : Nat) (Rl.c (Rn.r (sdR mu mw mh (padB (81 : Nat) (Rl.c (Rn.r (Prod.snd a)))) k (Rn.e (Prod.snd a)) (Rn.k (Prod.snd a)))))) (Rl.x (Rn.r (sdR mu mw mh (padB (81 : Nat) (Rl.c (Rn.r (Prod.snd a)))) k (Rn.e (Prod.snd a)) (Rn.k (Prod.snd a))))) (Rl.y (Rn.r (sdR mu mw mh (padB (81 : Nat) (Rl.c (Rn.r (Prod.snd a)))) k (Rn.e (Prod.snd a)) (Rn.k (Prod.snd a))))) (Rl.d (Rn.r (sdR mu mw mh (padB (81 : Nat) (Rl.c (Rn.r (Prod.snd a)))) k (Rn.e (Prod.snd a)) (Rn.k (Prod.snd a))))), e := Rn.e (sdR mu mw mh (padB (81 : Nat) (Rl.c (Rn.r (Prod.snd a)))) k (Rn.e (Prod.snd a)) (Rn.k (Prod.snd a))), k := Rn.k (sdR mu mw mh (padB (81 : Nat) (Rl.c (Rn.r (Prod.snd a)))) k (Rn.e (Prod.snd a)) (Rn.k (Prod.snd a))) }) 
  ∧ (True ∧ Rn.k (sdR mu mw mh (padB (81 : Nat) (Rl.c (Rn.r (Prod.snd a)))) k (Rn.e (Prod.snd a)) (Rn.k (Prod.snd a))) = Rn.k { r := rlO mw mh (padB (81 : Nat) (Rl.c (Rn.r (sdR mu mw mh (padB (81 : Nat) (Rl.c (Rn.r (Prod.snd a)))) k (Rn.e (Prod.snd a)) (Rn.k (Prod.snd a)))))) (Rl.x (Rn.r (sdR mu mw mh (padB (81 : Nat) (Rl.c (Rn.r (Prod.snd a)))) k (Rn.e (Prod.snd a)) (Rn.k (Prod.snd a))))) (Rl.y (Rn.r (sdR mu mw mh (padB (81 : Nat) (Rl.c (Rn.r (Prod.snd a)))) k (Rn.e (Prod.snd a)) (Rn.k (Prod.snd a))))) (Rl.d (Rn.r (sdR mu mw mh (padB (81 : Nat) (Rl.c (Rn.r (Prod.snd a)))) k (Rn.e (Prod.snd a)) (Rn.k (Prod.snd a))))), e := Rn.e (sdR mu mw mh (padB (81 : Nat) (Rl.c (Rn.r (Prod.snd a)))) k (Rn.e (Prod.snd a)) (Rn.k (Prod.snd a))), k := Rn.k (sdR mu mw mh (padB (81 : Nat) (Rl.c (Rn.r (Prod.snd a)))) k (Rn.e (Prod.snd a)) (Rn.k (Prod.snd a))) }) 
  ∧ True) ∧ (True ∧ IntKind.i64 = IntKind.i64 ∧ endN mu mw mh k mc (Int.toNat (Prod.fst a)) ++ List.take ((1 : Nat) * (1 : Nat)) [endR mw mh (Rn.r (sdR mu mw mh (padB (81 : Nat) (Rl.c 
  (Rn.r (Prod.snd a)))) k (Rn.e (Prod.snd a)) (Rn.k (Prod.snd a))))] = endN mu mw mh k mc (Int.toNat (IntKind.wrap IntKind.i64 (Prod.fst a + (1 : Int))))) ∧ True) ∧ True) ∧ At ((eiInv 
  balls (IntKind.wrap IntKind.i64 (Prod.fst a + (1 : Int))) ∧ Rl.c (Rn.r { r := rlO mw mh (padB (81 : Nat) (Rl.c (Rn.r (sdR mu mw mh (padB (81 : Nat) (Rl.c (Rn.r (Prod.snd a)))) k (Rn.e (Prod.snd a)) (Rn.k (Prod.snd a)))))) (Rl.x (Rn.r (sdR mu mw mh (padB (81 : Nat) (Rl.c (Rn.r (Prod.snd a)))) k (Rn.e (Prod.snd a)) (Rn.k (Prod.snd a))))) (Rl.y (Rn.r (sdR mu mw mh (padB (81 : Nat) (Rl.c (Rn.r (Prod.snd a)))) k (Rn.e (Prod.snd a)) (Rn.k (Prod.snd a))))) (Rl.d (Rn.r (sdR mu mw mh (padB (81 : Nat) (Rl.c (Rn.r (Prod.snd a)))) k (Rn.e (Prod.snd a)) (Rn.k (Prod.snd a))))), e := Rn.e (sdR mu mw mh (padB (81 : Nat) (Rl.c (Rn.r (Prod.snd a)))) k (Rn.e (Prod.snd a)) (Rn.k (Prod.snd a))), k := Rn.k (sdR mu mw mh (padB (81 : Nat) (Rl.c (Rn.r (Prod.snd a)))) k (Rn.e (Prod.snd a)) (Rn.k (Prod.snd a))) }) 
  = celN mu mw mh k mc (Int.toNat (IntKind.wrap IntKind.i64 (Prod.fst a + (1 : Int))))) ∧ Int.toNat (balls - IntKind.wrap IntKind.i64 (Prod.fst a + (1 : Int))) < Int.toNat (balls - Prod.fst 
  a))) ∧ (decide (Prod.fst a < balls) = false → K (V.tup [V.row (2 : Nat) (List.length (endN mu mw mh k mc (Int.toNat (Prod.fst a)))), V.lit true]) [{ cs := Cells.vals [V.int IntKind.i64 mw, V.int IntKind.i64 mh, V.str mc, V.bool mu], elem := 28, kind := Kind.box }, 
  { cs := Cells.mix [V.int IntKind.i64 mw, V.int IntKind.i64 mh, V.str mc, V.bool mu] (81 : Nat) (padB (81 : Nat) (Rl.c (Rn.r (Prod.snd a)))) [V.int IntKind.i64 (Rl.x (Rn.r (Prod.snd a))), V.int IntKind.i64 (Rl.y (Rn.r (Prod.snd a))), V.int IntKind.i64 (Rl.d (Rn.r (Prod.snd a))), V.int IntKind.i64 (Rn.e (Prod.snd a)), V.int IntKind.i64 (Rn.k (Prod.snd a))], elem := 70, kind := Kind.box }, 
  { cs := Cells.ints IntKind.i64 (endN mu mw mh k mc (Int.toNat (Prod.fst a))), elem := 3, kind := Kind.row }]))))

end Go.Vi
