/- The conditions, reckoned out by program: texts alone. -/
import Derived.Test.YtioppaofihbmpabDoorTMDefs
namespace Go.Vi
set_option linter.unusedVariables false
def VC_laws_eqIntS (n : Nat) (m : Nat) (a : List Int) (b : List Int) (e : TypeId) (k : Kind) (f : TypeId) (q : Kind) (K : V → List Blk → Prop) : Prop :=
  (((↑n : Int) != (↑m : Int)) = true →
    K (V.lit false)
      [{ cs := Cells.ints IntKind.i64 a, elem := e, kind := k },
        { cs := Cells.ints IntKind.i64 b, elem := f, kind := q }]) ∧
  (((↑n : Int) != (↑m : Int)) = false →
    ((((0 : Nat) = (0 : Nat) ∧ n = n) ∧ ((1 : Nat) = (1 : Nat) ∧ m = m) ∧ (True ∧ (0 : Int) = (0 : Int)) ∧ True) ∧
        ((Bool.rec False True (Nat.beq e e && decide (k = k)) ∧ IntKind.i64 = IntKind.i64 ∧ a = a) ∧
            (Bool.rec False True (Nat.beq f f && decide (q = q)) ∧ IntKind.i64 = IntKind.i64 ∧ b = b) ∧ True) ∧
          True) ∧
      At (eqsInv a b (0 : Int)) ∧
        ∀ (a_2 : Int),
          eqsInv a b a_2 →
            (decide (a_2 < (↑n : Int)) = true →
                True ∧
                  At ((0 : Int) ≤ a_2 ∧ a_2 < (↑n : Int)) ∧
                    At (Int.toNat a_2 < List.length a) ∧
                      At ((0 : Int) ≤ a_2 ∧ a_2 < (↑m : Int)) ∧
                        At (Int.toNat a_2 < List.length b) ∧
                          ((List.getD a (Int.toNat a_2) (0 : Int) != List.getD b (Int.toNat a_2) (0 : Int)) = true →
                              K (V.lit false)
                                [{ cs := Cells.ints IntKind.i64 a, elem := e, kind := k },
                                  { cs := Cells.ints IntKind.i64 b, elem := f, kind := q }]) ∧
                            ((List.getD a (Int.toNat a_2) (0 : Int) != List.getD b (Int.toNat a_2) (0 : Int)) = false →
                              ((((0 : Nat) = (0 : Nat) ∧ n = n) ∧
                                    ((1 : Nat) = (1 : Nat) ∧ m = m) ∧
                                      (True ∧
                                          IntKind.wrap IntKind.i64 (a_2 + (1 : Int)) =
                                            IntKind.wrap IntKind.i64 (a_2 + (1 : Int))) ∧
                                        True) ∧
                                  ((Bool.rec False True (Nat.beq e e && decide (k = k)) ∧
                                        IntKind.i64 = IntKind.i64 ∧ a = a) ∧
                                      (Bool.rec False True (Nat.beq f f && decide (q = q)) ∧
                                          IntKind.i64 = IntKind.i64 ∧ b = b) ∧
                                        True) ∧
                                    True) ∧
                                At
                                  (eqsInv a b (IntKind.wrap IntKind.i64 (a_2 + (1 : Int))) ∧
                                    Int.toNat ((↑(List.length a) : Int) - IntKind.wrap IntKind.i64 (a_2 + (1 : Int))) <
                                      Int.toNat ((↑(List.length a) : Int) - a_2)))) ∧
              (decide (a_2 < (↑n : Int)) = false →
                K (V.lit true)
                  [{ cs := Cells.ints IntKind.i64 a, elem := e, kind := k },
                    { cs := Cells.ints IntKind.i64 b, elem := f, kind := q }]))

def VC_laws_eqIntSS (n : Nat) (m : Nat) (l : List (List Int)) (j : List (List Int)) (K : V → List Blk → Prop) : Prop :=
  (((↑n : Int) != (↑m : Int)) = true →
    K (V.lit false)
      [{ cs := Cells.mat IntKind.i64 (3 : Nat) l, elem := 33, kind := Kind.mat },
        { cs := Cells.mat IntKind.i64 (3 : Nat) j, elem := 33, kind := Kind.mat }]) ∧
  (((↑n : Int) != (↑m : Int)) = false →
    ((((0 : Nat) = (0 : Nat) ∧ n = n) ∧ ((1 : Nat) = (1 : Nat) ∧ m = m) ∧ (True ∧ (0 : Int) = (0 : Int)) ∧ True) ∧
        ((True ∧ True ∧ l = l) ∧ (True ∧ True ∧ j = j) ∧ True) ∧ True) ∧
      At (eqmInv l j (0 : Int)) ∧
        ∀ (a : Int),
          eqmInv l j a →
            (decide (a < (↑n : Int)) = true →
                True ∧
                  At ((0 : Int) ≤ a ∧ a < (↑n : Int)) ∧
                    At (Int.toNat a < List.length l) ∧
                      At ((0 : Int) ≤ a ∧ a < (↑m : Int)) ∧
                        At (Int.toNat a < List.length j) ∧
                          At
                              (List.length (List.getD l (Int.toNat a) []) = List.length (List.getD l (Int.toNat a) []) ∧
                                List.length (List.getD j (Int.toNat a) []) =
                                    List.length (List.getD j (Int.toNat a) []) ∧
                                  List.length (List.getD l (Int.toNat a) []) ≤ (2000000 : Nat) ∧
                                    List.length (List.getD j (Int.toNat a) []) ≤ (2000000 : Nat)) ∧
                            ((!List.getD l (Int.toNat a) [] == List.getD j (Int.toNat a) []) = true →
                                K (V.lit false)
                                  [{ cs := Cells.mat IntKind.i64 (3 : Nat) l, elem := 33, kind := Kind.mat },
                                    { cs := Cells.mat IntKind.i64 (3 : Nat) j, elem := 33,
                                      kind := Kind.mat }]) ∧
                              ((!List.getD l (Int.toNat a) [] == List.getD j (Int.toNat a) []) = false →
                                ((((0 : Nat) = (0 : Nat) ∧ n = n) ∧
                                      ((1 : Nat) = (1 : Nat) ∧ m = m) ∧
                                        (True ∧
                                            IntKind.wrap IntKind.i64 (a + (1 : Int)) =
                                              IntKind.wrap IntKind.i64 (a + (1 : Int))) ∧
                                          True) ∧
                                    ((True ∧ True ∧ l = l) ∧ (True ∧ True ∧ j = j) ∧ True) ∧ True) ∧
                                  At
                                    (eqmInv l j (IntKind.wrap IntKind.i64 (a + (1 : Int))) ∧
                                      Int.toNat ((↑(List.length l) : Int) - IntKind.wrap IntKind.i64 (a + (1 : Int))) <
                                        Int.toNat ((↑(List.length l) : Int) - a)))) ∧
              (decide (a < (↑n : Int)) = false →
                K (V.lit true)
                  [{ cs := Cells.mat IntKind.i64 (3 : Nat) l, elem := 33, kind := Kind.mat },
                    { cs := Cells.mat IntKind.i64 (3 : Nat) j, elem := 33, kind := Kind.mat }]))

def VC_laws_markIntS (k : Int) (n : Nat) (a : List Int) (K : V → List Blk → Prop) : Prop :=
  ((((0 : Nat) = (0 : Nat) ∧ n = n) ∧ (True ∧ k = k + (0 : Int)) ∧ (True ∧ (0 : Int) = (0 : Int)) ∧ True) ∧
    ((True ∧ IntKind.i64 = IntKind.i64 ∧ a = mrkRow a k (Int.toNat (0 : Int))) ∧ True) ∧ True) ∧
  At (ixInv (List.length a) (0 : Int)) ∧
    ∀ (a_1 : Int),
      ixInv (List.length a) a_1 →
        (decide (a_1 < (↑n : Int)) = true →
            At ((0 : Int) ≤ a_1 ∧ a_1 < (↑n : Int)) ∧
              At (Int.toNat a_1 < List.length (mrkRow a k (Int.toNat a_1))) ∧
                ((((0 : Nat) = (0 : Nat) ∧ n = n) ∧
                      (True ∧
                          IntKind.wrap IntKind.i64 (k + a_1 + (1 : Int)) =
                            k + IntKind.wrap IntKind.i64 (a_1 + (1 : Int))) ∧
                        (True ∧
                            IntKind.wrap IntKind.i64 (a_1 + (1 : Int)) = IntKind.wrap IntKind.i64 (a_1 + (1 : Int))) ∧
                          True) ∧
                    ((True ∧
                          IntKind.i64 = IntKind.i64 ∧
                            List.set (mrkRow a k (Int.toNat a_1)) (Int.toNat a_1) (k + a_1) =
                              mrkRow a k (Int.toNat (IntKind.wrap IntKind.i64 (a_1 + (1 : Int))))) ∧
                        True) ∧
                      True) ∧
                  At
                    (ixInv (List.length a) (IntKind.wrap IntKind.i64 (a_1 + (1 : Int))) ∧
                      Int.toNat ((↑(List.length a) : Int) - IntKind.wrap IntKind.i64 (a_1 + (1 : Int))) <
                        Int.toNat ((↑(List.length a) : Int) - a_1))) ∧
          (decide (a_1 < (↑n : Int)) = false →
            K (V.int IntKind.i64 (k + a_1))
              [{ cs := Cells.ints IntKind.i64 (mrkRow a k (Int.toNat a_1)), elem := 3, kind := Kind.row }])

def VC_laws_markIntSS (k : Int) (n : Nat) (l : List (List Int)) (K : V → List Blk → Prop) : Prop :=
  ((((0 : Nat) = (0 : Nat) ∧ n = n) ∧
      (True ∧ k = k + (↑(totL (List.take (Int.toNat (0 : Int)) l)) : Int)) ∧ (True ∧ (0 : Int) = (0 : Int)) ∧ True) ∧
    ((True ∧ True ∧ l = mrkMat l k (Int.toNat (0 : Int))) ∧ True) ∧ True) ∧
  At (ixInv (List.length l) (0 : Int)) ∧
    ∀ (a : Int),
      ixInv (List.length l) a →
        (decide (a < (↑n : Int)) = true →
            At ((0 : Int) ≤ a ∧ a < (↑n : Int)) ∧
              At (Int.toNat a < List.length (mrkMat l k (Int.toNat a))) ∧
                At
                    (List.length (List.getD (mrkMat l k (Int.toNat a)) (Int.toNat a) []) =
                        List.length (List.getD (mrkMat l k (Int.toNat a)) (Int.toNat a) []) ∧
                      List.length (List.getD (mrkMat l k (Int.toNat a)) (Int.toNat a) []) ≤ (2000000 : Nat) ∧
                        (0 : Int) ≤ k + (↑(totL (List.take (Int.toNat a) l)) : Int) ∧
                          k + (↑(totL (List.take (Int.toNat a) l)) : Int) ≤ (1000000000000000 : Int)) ∧
                  At
                      (List.length
                          (ramp (k + (↑(totL (List.take (Int.toNat a) l)) : Int))
                            (List.length (List.getD (mrkMat l k (Int.toNat a)) (Int.toNat a) []))) =
                        List.length (List.getD (mrkMat l k (Int.toNat a)) (Int.toNat a) [])) ∧
                    ((((0 : Nat) = (0 : Nat) ∧ n = n) ∧
                          (True ∧
                              k + (↑(totL (List.take (Int.toNat a) l)) : Int) +
                                  (↑(List.length (List.getD (mrkMat l k (Int.toNat a)) (Int.toNat a) [])) : Int) =
                                k +
                                  (↑(totL (List.take (Int.toNat (IntKind.wrap IntKind.i64 (a + (1 : Int)))) l)) :
                                    Int)) ∧
                            (True ∧
                                IntKind.wrap IntKind.i64 (a + (1 : Int)) = IntKind.wrap IntKind.i64 (a + (1 : Int))) ∧
                              True) ∧
                        ((True ∧
                              True ∧
                                List.set (mrkMat l k (Int.toNat a)) (Int.toNat a)
                                    (ramp (k + (↑(totL (List.take (Int.toNat a) l)) : Int))
                                      (List.length (List.getD (mrkMat l k (Int.toNat a)) (Int.toNat a) []))) =
                                  mrkMat l k (Int.toNat (IntKind.wrap IntKind.i64 (a + (1 : Int))))) ∧
                            True) ∧
                          True) ∧
                      At
                        (ixInv (List.length l) (IntKind.wrap IntKind.i64 (a + (1 : Int))) ∧
                          Int.toNat ((↑(List.length l) : Int) - IntKind.wrap IntKind.i64 (a + (1 : Int))) <
                            Int.toNat ((↑(List.length l) : Int) - a))) ∧
          (decide (a < (↑n : Int)) = false →
            K (V.int IntKind.i64 (k + (↑(totL (List.take (Int.toNat a) l)) : Int)))
              [{ cs := Cells.mat IntKind.i64 (3 : Nat) (mrkMat l k (Int.toNat a)), elem := 33,
                  kind := Kind.mat }])

def VC_laws_heldIntS (q : Int) (n : Nat) (a : List Int) (e : TypeId) (k : Kind) (K : V → List Blk → Prop) : Prop :=
  ((((0 : Nat) = (0 : Nat) ∧ n = n) ∧ (True ∧ q = q + (0 : Int)) ∧ (True ∧ (0 : Int) = (0 : Int)) ∧ True) ∧
    ((Bool.rec False True (Nat.beq e e && decide (k = k)) ∧ IntKind.i64 = IntKind.i64 ∧ a = a) ∧ True) ∧ True) ∧
  At (hldInv a q (0 : Int)) ∧
    ∀ (a_1 : Int),
      hldInv a q a_1 →
        (decide (a_1 < (↑n : Int)) = true →
            At ((0 : Int) ≤ a_1 ∧ a_1 < (↑n : Int)) ∧
              At (Int.toNat a_1 < List.length a) ∧
                ((List.getD a (Int.toNat a_1) (0 : Int) != q + a_1) = true →
                    K (V.int IntKind.i64 (-1 : Int)) [{ cs := Cells.ints IntKind.i64 a, elem := e, kind := k }]) ∧
                  ((List.getD a (Int.toNat a_1) (0 : Int) != q + a_1) = false →
                    ((((0 : Nat) = (0 : Nat) ∧ n = n) ∧
                          (True ∧
                              IntKind.wrap IntKind.i64 (q + a_1 + (1 : Int)) =
                                q + IntKind.wrap IntKind.i64 (a_1 + (1 : Int))) ∧
                            (True ∧
                                IntKind.wrap IntKind.i64 (a_1 + (1 : Int)) =
                                  IntKind.wrap IntKind.i64 (a_1 + (1 : Int))) ∧
                              True) ∧
                        ((Bool.rec False True (Nat.beq e e && decide (k = k)) ∧ IntKind.i64 = IntKind.i64 ∧ a = a) ∧
                            True) ∧
                          True) ∧
                      At
                        (hldInv a q (IntKind.wrap IntKind.i64 (a_1 + (1 : Int))) ∧
                          Int.toNat ((↑(List.length a) : Int) - IntKind.wrap IntKind.i64 (a_1 + (1 : Int))) <
                            Int.toNat ((↑(List.length a) : Int) - a_1)))) ∧
          (decide (a_1 < (↑n : Int)) = false →
            K (V.int IntKind.i64 (q + a_1)) [{ cs := Cells.ints IntKind.i64 a, elem := e, kind := k }])

def VC_laws_heldIntSS (q : Int) (n : Nat) (l : List (List Int)) (K : V → List Blk → Prop) : Prop :=
  ((((0 : Nat) = (0 : Nat) ∧ n = n) ∧
      (True ∧ q = q + (↑(totL (List.take (Int.toNat (0 : Int)) l)) : Int)) ∧ (True ∧ (0 : Int) = (0 : Int)) ∧ True) ∧
    ((True ∧ True ∧ l = l) ∧ True) ∧ True) ∧
  At (hlmInv l q (0 : Int)) ∧
    ∀ (a : Int),
      hlmInv l q a →
        (decide (a < (↑n : Int)) = true →
            At ((0 : Int) ≤ a ∧ a < (↑n : Int)) ∧
              At (Int.toNat a < List.length l) ∧
                At
                    (List.length (List.getD l (Int.toNat a) []) = List.length (List.getD l (Int.toNat a) []) ∧
                      List.length (List.getD l (Int.toNat a) []) ≤ (2000000 : Nat) ∧
                        (0 : Int) ≤ q + (↑(totL (List.take (Int.toNat a) l)) : Int) ∧
                          q + (↑(totL (List.take (Int.toNat a) l)) : Int) ≤ (1000000000000000 : Int)) ∧
                  (decide
                          ((bif
                                List.getD l (Int.toNat a) [] ==
                                  ramp (q + (↑(totL (List.take (Int.toNat a) l)) : Int))
                                    (List.length (List.getD l (Int.toNat a) [])) then
                              q + (↑(totL (List.take (Int.toNat a) l)) : Int) +
                                (↑(List.length (List.getD l (Int.toNat a) [])) : Int)
                            else (-1 : Int)) <
                            (0 : Int)) =
                        true →
                      K (V.int IntKind.i64 (-1 : Int))
                        [{ cs := Cells.mat IntKind.i64 (3 : Nat) l, elem := 33, kind := Kind.mat },
                          { cs := Cells.dead, elem := 3, kind := Kind.arg (1 : Nat) }]) ∧
                    (decide
                          ((bif
                                List.getD l (Int.toNat a) [] ==
                                  ramp (q + (↑(totL (List.take (Int.toNat a) l)) : Int))
                                    (List.length (List.getD l (Int.toNat a) [])) then
                              q + (↑(totL (List.take (Int.toNat a) l)) : Int) +
                                (↑(List.length (List.getD l (Int.toNat a) [])) : Int)
                            else (-1 : Int)) <
                            (0 : Int)) =
                        false →
                      ((((0 : Nat) = (0 : Nat) ∧ n = n) ∧
                            (True ∧
                                (bif
                                      List.getD l (Int.toNat a) [] ==
                                        ramp (q + (↑(totL (List.take (Int.toNat a) l)) : Int))
                                          (List.length (List.getD l (Int.toNat a) [])) then
                                    q + (↑(totL (List.take (Int.toNat a) l)) : Int) +
                                      (↑(List.length (List.getD l (Int.toNat a) [])) : Int)
                                  else (-1 : Int)) =
                                  q +
                                    (↑(totL (List.take (Int.toNat (IntKind.wrap IntKind.i64 (a + (1 : Int)))) l)) :
                                      Int)) ∧
                              (True ∧
                                  IntKind.wrap IntKind.i64 (a + (1 : Int)) = IntKind.wrap IntKind.i64 (a + (1 : Int))) ∧
                                True) ∧
                          ((True ∧ True ∧ l = l) ∧ True) ∧ True) ∧
                        At
                          (hlmInv l q (IntKind.wrap IntKind.i64 (a + (1 : Int))) ∧
                            Int.toNat ((↑(List.length l) : Int) - IntKind.wrap IntKind.i64 (a + (1 : Int))) <
                              Int.toNat ((↑(List.length l) : Int) - a)))) ∧
          (decide (a < (↑n : Int)) = false →
            K (V.int IntKind.i64 (q + (↑(totL (List.take (Int.toNat a) l)) : Int)))
              [{ cs := Cells.mat IntKind.i64 (3 : Nat) l, elem := 33, kind := Kind.mat }])

end Go.Vi
