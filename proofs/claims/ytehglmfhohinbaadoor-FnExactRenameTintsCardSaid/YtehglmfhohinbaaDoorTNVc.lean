/- The conditions, reckoned out by program: texts alone. -/
import Derived.Test.YtehglmfhohinbaaDoorTNDefs
namespace Go.Vi
set_option linter.unusedVariables false
def VC_laws_toIntS (n : Nat) (a : List Int) (e : TypeId) (k : Kind) (K : V → List Blk → Prop) : Prop :=
  At ((0 : Int) ≤ (↑n : Int) ∧ (↑n : Int) ≤ (↑n : Int) ∧ (↑n : Int) ≤ (1000000000 : Int)) ∧
  (True ∧
      (((0 : Nat) = (0 : Nat) ∧ n = List.length a) ∧
          ((1 : Nat) = (1 : Nat) ∧ n = List.length a) ∧ (True ∧ (0 : Int) = (0 : Int)) ∧ True) ∧
        ((Bool.rec False True (Nat.beq e e && decide (k = k)) ∧ IntKind.i64 = IntKind.i64 ∧ a = a) ∧
            (True ∧
                IntKind.i64 = IntKind.i64 ∧
                  List.replicate (Int.toNat (↑n : Int)) (0 : Int) =
                    List.take (Int.toNat (0 : Int)) a ++
                      List.replicate (List.length a - Int.toNat (0 : Int)) (0 : Int)) ∧
              True) ∧
          True) ∧
    At (ixInv (List.length a) (0 : Int)) ∧
      ∀ (a_1 : Int),
        ixInv (List.length a) a_1 →
          (decide (a_1 < (↑(List.length a) : Int)) = true →
              At ((0 : Int) ≤ a_1 ∧ a_1 < (↑(List.length a) : Int)) ∧
                At (Int.toNat a_1 < List.length a) ∧
                  At ((0 : Int) ≤ a_1 ∧ a_1 < (↑(List.length a) : Int)) ∧
                    At
                        (Int.toNat a_1 <
                          List.length
                            (List.take (Int.toNat a_1) a ++ List.replicate (List.length a - Int.toNat a_1) (0 : Int))) ∧
                      (True ∧
                          (((0 : Nat) = (0 : Nat) ∧ List.length a = List.length a) ∧
                              ((1 : Nat) = (1 : Nat) ∧ List.length a = List.length a) ∧
                                (True ∧
                                    IntKind.wrap IntKind.i64 (a_1 + (1 : Int)) =
                                      IntKind.wrap IntKind.i64 (a_1 + (1 : Int))) ∧
                                  True) ∧
                            ((Bool.rec False True (Nat.beq e e && decide (k = k)) ∧ IntKind.i64 = IntKind.i64 ∧ a = a) ∧
                                (True ∧
                                    IntKind.i64 = IntKind.i64 ∧
                                      List.set
                                          (List.take (Int.toNat a_1) a ++
                                            List.replicate (List.length a - Int.toNat a_1) (0 : Int))
                                          (Int.toNat a_1) (List.getD a (Int.toNat a_1) (0 : Int)) =
                                        List.take (Int.toNat (IntKind.wrap IntKind.i64 (a_1 + (1 : Int)))) a ++
                                          List.replicate
                                            (List.length a - Int.toNat (IntKind.wrap IntKind.i64 (a_1 + (1 : Int))))
                                            (0 : Int)) ∧
                                  True) ∧
                              True) ∧
                        At
                          (ixInv (List.length a) (IntKind.wrap IntKind.i64 (a_1 + (1 : Int))) ∧
                            Int.toNat ((↑(List.length a) : Int) - IntKind.wrap IntKind.i64 (a_1 + (1 : Int))) <
                              Int.toNat ((↑(List.length a) : Int) - a_1))) ∧
            (decide (a_1 < (↑(List.length a) : Int)) = false →
              K (V.row (1 : Nat) (List.length a))
                [{ cs := Cells.ints IntKind.i64 a, elem := e, kind := k },
                  {
                    cs :=
                      Cells.ints IntKind.i64
                        (List.take (Int.toNat a_1) a ++ List.replicate (List.length a - Int.toNat a_1) (0 : Int)),
                    elem := 3, kind := Kind.row }])

def VC_laws_eqIntS (n : Nat) (m : Nat) (a : List Int) (b : List Int) (e : TypeId) (k : Kind) (f : TypeId) (q : Kind) (K : V → List Blk → Prop) : Prop :=
  (((↑n : Int) != (↑m : Int)) = true →
    K (V.lit false)
      [{ cs := Cells.ints IntKind.i64 a, elem := e, kind := k },
        { cs := Cells.ints IntKind.i64 b, elem := f, kind := q }]) ∧
  (((↑n : Int) != (↑m : Int)) = false →
    ((((0 : Nat) = (0 : Nat) ∧ n = n) ∧ ((1 : Nat) = (1 : Nat) ∧ m = m) ∧ (True ∧ (0 : Int) = (0 : Int)) ∧ True) ∧
        ((Bool.rec False True (Nat.beq e e && decide (k = k)) ∧ IntKind.i64 = IntKind.i64 ∧ a = a) ∧
            (Bool.rec False True (Nat.beq f f && decide (q = q)) ∧ IntKind.i64 = IntKind.i64 ∧ b = b) ∧ True) ∧
          True) ∧
      At (eqsInv a b (0 : Int)) ∧
        ∀ (a_2 : Int),
          eqsInv a b a_2 →
            (decide (a_2 < (↑n : Int)) = true →
                True ∧
                  At ((0 : Int) ≤ a_2 ∧ a_2 < (↑n : Int)) ∧
                    At (Int.toNat a_2 < List.length a) ∧
                      At ((0 : Int) ≤ a_2 ∧ a_2 < (↑m : Int)) ∧
                        At (Int.toNat a_2 < List.length b) ∧
                          ((List.getD a (Int.toNat a_2) (0 : Int) != List.getD b (Int.toNat a_2) (0 : Int)) = true →
                              K (V.lit false)
                                [{ cs := Cells.ints IntKind.i64 a, elem := e, kind := k },
                                  { cs := Cells.ints IntKind.i64 b, elem := f, kind := q }]) ∧
                            ((List.getD a (Int.toNat a_2) (0 : Int) != List.getD b (Int.toNat a_2) (0 : Int)) = false →
                              ((((0 : Nat) = (0 : Nat) ∧ n = n) ∧
                                    ((1 : Nat) = (1 : Nat) ∧ m = m) ∧
                                      (True ∧
                                          IntKind.wrap IntKind.i64 (a_2 + (1 : Int)) =
                                            IntKind.wrap IntKind.i64 (a_2 + (1 : Int))) ∧
                                        True) ∧
                                  ((Bool.rec False True (Nat.beq e e && decide (k = k)) ∧
                                        IntKind.i64 = IntKind.i64 ∧ a = a) ∧
                                      (Bool.rec False True (Nat.beq f f && decide (q = q)) ∧
                                          IntKind.i64 = IntKind.i64 ∧ b = b) ∧
                                        True) ∧
                                    True) ∧
                                At
                                  (eqsInv a b (IntKind.wrap IntKind.i64 (a_2 + (1 : Int))) ∧
                                    Int.toNat ((↑(List.length a) : Int) - IntKind.wrap IntKind.i64 (a_2 + (1 : Int))) <
                                      Int.toNat ((↑(List.length a) : Int) - a_2)))) ∧
              (decide (a_2 < (↑n : Int)) = false →
                K (V.lit true)
                  [{ cs := Cells.ints IntKind.i64 a, elem := e, kind := k },
                    { cs := Cells.ints IntKind.i64 b, elem := f, kind := q }]))

def VC_laws_markIntS (k : Int) (n : Nat) (a : List Int) (K : V → List Blk → Prop) : Prop :=
  ((((0 : Nat) = (0 : Nat) ∧ n = n) ∧ (True ∧ k = k + (0 : Int)) ∧ (True ∧ (0 : Int) = (0 : Int)) ∧ True) ∧
    ((True ∧ IntKind.i64 = IntKind.i64 ∧ a = mrkRow a k (Int.toNat (0 : Int))) ∧ True) ∧ True) ∧
  At (ixInv (List.length a) (0 : Int)) ∧
    ∀ (a_1 : Int),
      ixInv (List.length a) a_1 →
        (decide (a_1 < (↑n : Int)) = true →
            At ((0 : Int) ≤ a_1 ∧ a_1 < (↑n : Int)) ∧
              At (Int.toNat a_1 < List.length (mrkRow a k (Int.toNat a_1))) ∧
                ((((0 : Nat) = (0 : Nat) ∧ n = n) ∧
                      (True ∧
                          IntKind.wrap IntKind.i64 (k + a_1 + (1 : Int)) =
                            k + IntKind.wrap IntKind.i64 (a_1 + (1 : Int))) ∧
                        (True ∧
                            IntKind.wrap IntKind.i64 (a_1 + (1 : Int)) = IntKind.wrap IntKind.i64 (a_1 + (1 : Int))) ∧
                          True) ∧
                    ((True ∧
                          IntKind.i64 = IntKind.i64 ∧
                            List.set (mrkRow a k (Int.toNat a_1)) (Int.toNat a_1) (k + a_1) =
                              mrkRow a k (Int.toNat (IntKind.wrap IntKind.i64 (a_1 + (1 : Int))))) ∧
                        True) ∧
                      True) ∧
                  At
                    (ixInv (List.length a) (IntKind.wrap IntKind.i64 (a_1 + (1 : Int))) ∧
                      Int.toNat ((↑(List.length a) : Int) - IntKind.wrap IntKind.i64 (a_1 + (1 : Int))) <
                        Int.toNat ((↑(List.length a) : Int) - a_1))) ∧
          (decide (a_1 < (↑n : Int)) = false →
            K (V.int IntKind.i64 (k + a_1))
              [{ cs := Cells.ints IntKind.i64 (mrkRow a k (Int.toNat a_1)), elem := 3, kind := Kind.row }])

def VC_spec_l1Has (v : Int) (n : Nat) (a : List Int) (e : TypeId) (k : Kind) (K : V → List Blk → Prop) : Prop :=
  (((True ∧ v = v) ∧
      ((0 : Nat) = (0 : Nat) ∧ n = n) ∧ (True ∧ (↑n : Int) = (↑n : Int)) ∧ (True ∧ (0 : Int) = (0 : Int)) ∧ True) ∧
    ((Bool.rec False True (Nat.beq e e && decide (k = k)) ∧ IntKind.i64 = IntKind.i64 ∧ a = a) ∧ True) ∧ True) ∧
  At (hasInv a v (0 : Int)) ∧
    ∀ (a_1 : Int),
      hasInv a v a_1 →
        (decide (a_1 < (↑n : Int)) = true →
            At ((0 : Int) ≤ a_1 ∧ a_1 < (↑n : Int)) ∧
              At (Int.toNat a_1 < List.length a) ∧
                ((List.getD a (Int.toNat a_1) (0 : Int) == v) = true →
                    K (V.lit true) [{ cs := Cells.ints IntKind.i64 a, elem := e, kind := k }]) ∧
                  ((List.getD a (Int.toNat a_1) (0 : Int) == v) = false →
                    (((True ∧ v = v) ∧
                          ((0 : Nat) = (0 : Nat) ∧ n = n) ∧
                            (True ∧ (↑n : Int) = (↑n : Int)) ∧
                              (True ∧
                                  IntKind.wrap IntKind.i64 (a_1 + (1 : Int)) =
                                    IntKind.wrap IntKind.i64 (a_1 + (1 : Int))) ∧
                                True) ∧
                        ((Bool.rec False True (Nat.beq e e && decide (k = k)) ∧ IntKind.i64 = IntKind.i64 ∧ a = a) ∧
                            True) ∧
                          True) ∧
                      At
                        (hasInv a v (IntKind.wrap IntKind.i64 (a_1 + (1 : Int))) ∧
                          Int.toNat ((↑(List.length a) : Int) - IntKind.wrap IntKind.i64 (a_1 + (1 : Int))) <
                            Int.toNat ((↑(List.length a) : Int) - a_1)))) ∧
          (decide (a_1 < (↑n : Int)) = false →
            K (V.lit false) [{ cs := Cells.ints IntKind.i64 a, elem := e, kind := k }])

def VC_slices_Index_int_int (v : Int) (n : Nat) (a : List Int) (e : TypeId) (k : Kind) (K : V → List Blk → Prop) : Prop :=
  ((((0 : Nat) = (0 : Nat) ∧ n = n) ∧
      (True ∧ v = v) ∧ (True ∧ (↑n : Int) = (↑n : Int)) ∧ (True ∧ (0 : Int) = (0 : Int)) ∧ True) ∧
    ((Bool.rec False True (Nat.beq e e && decide (k = k)) ∧ IntKind.i64 = IntKind.i64 ∧ a = a) ∧ True) ∧ True) ∧
  At (hasInv a v (0 : Int)) ∧
    ∀ (a_1 : Int),
      hasInv a v a_1 →
        (decide (a_1 < (↑n : Int)) = true →
            At ((0 : Int) ≤ a_1 ∧ a_1 < (↑n : Int)) ∧
              At (Int.toNat a_1 < List.length a) ∧
                ((v == List.getD a (Int.toNat a_1) (0 : Int)) = true →
                    K (V.int IntKind.i64 a_1) [{ cs := Cells.ints IntKind.i64 a, elem := e, kind := k }]) ∧
                  ((v == List.getD a (Int.toNat a_1) (0 : Int)) = false →
                    ((((0 : Nat) = (0 : Nat) ∧ n = n) ∧
                          (True ∧ v = v) ∧
                            (True ∧ (↑n : Int) = (↑n : Int)) ∧
                              (True ∧
                                  IntKind.wrap IntKind.i64 (a_1 + (1 : Int)) =
                                    IntKind.wrap IntKind.i64 (a_1 + (1 : Int))) ∧
                                True) ∧
                        ((Bool.rec False True (Nat.beq e e && decide (k = k)) ∧ IntKind.i64 = IntKind.i64 ∧ a = a) ∧
                            True) ∧
                          True) ∧
                      At
                        (hasInv a v (IntKind.wrap IntKind.i64 (a_1 + (1 : Int))) ∧
                          Int.toNat ((↑(List.length a) : Int) - IntKind.wrap IntKind.i64 (a_1 + (1 : Int))) <
                            Int.toNat ((↑(List.length a) : Int) - a_1)))) ∧
          (decide (a_1 < (↑n : Int)) = false →
            K (V.int IntKind.i64 (-1 : Int)) [{ cs := Cells.ints IntKind.i64 a, elem := e, kind := k }])

def VC_slices_Contains_int_int (v : Int) (n : Nat) (a : List Int) (K : V → List Blk → Prop) : Prop :=
  At (List.length a = n ∧ n ≤ (2000000 : Nat)) ∧
  K (V.bool (decide (idxI a v ≥ (0 : Int)))) [{ cs := Cells.ints IntKind.i64 a, elem := 3, kind := Kind.row }]

def VC_spec_l1All (lo : Int) (hi : Int) (n : Nat) (a : List Int) (K : V → List Blk → Prop) : Prop :=
  (((True ∧ lo = lo) ∧
      (True ∧ hi = hi) ∧
        ((0 : Nat) = (0 : Nat) ∧ n = n) ∧ (True ∧ (↑n : Int) = (↑n : Int)) ∧ (True ∧ (0 : Int) = (0 : Int)) ∧ True) ∧
    ((True ∧ IntKind.i64 = IntKind.i64 ∧ a = a) ∧ True) ∧ True) ∧
  At (lallInv a lo hi (0 : Int)) ∧
    ∀ (a_1 : Int),
      lallInv a lo hi a_1 →
        (decide (a_1 < (↑n : Int)) = true →
            At ((0 : Int) ≤ a_1 ∧ a_1 < (↑n : Int)) ∧
              At (Int.toNat a_1 < List.length a) ∧
                At True ∧
                  ((!inB (List.getD a (Int.toNat a_1) (0 : Int)) lo hi) = true →
                      K (V.lit false) [{ cs := Cells.ints IntKind.i64 a, elem := 3, kind := Kind.row }]) ∧
                    ((!inB (List.getD a (Int.toNat a_1) (0 : Int)) lo hi) = false →
                      (((True ∧ lo = lo) ∧
                            (True ∧ hi = hi) ∧
                              ((0 : Nat) = (0 : Nat) ∧ n = n) ∧
                                (True ∧ (↑n : Int) = (↑n : Int)) ∧
                                  (True ∧
                                      IntKind.wrap IntKind.i64 (a_1 + (1 : Int)) =
                                        IntKind.wrap IntKind.i64 (a_1 + (1 : Int))) ∧
                                    True) ∧
                          ((True ∧ IntKind.i64 = IntKind.i64 ∧ a = a) ∧ True) ∧ True) ∧
                        At
                          (lallInv a lo hi (IntKind.wrap IntKind.i64 (a_1 + (1 : Int))) ∧
                            Int.toNat ((↑(List.length a) : Int) - IntKind.wrap IntKind.i64 (a_1 + (1 : Int))) <
                              Int.toNat ((↑(List.length a) : Int) - a_1)))) ∧
          (decide (a_1 < (↑n : Int)) = false →
            K (V.lit true) [{ cs := Cells.ints IntKind.i64 a, elem := 3, kind := Kind.row }])

def VC_spec_taOrder (p : Int) (n : Nat) (a : List Int) (K : V → List Blk → Prop) : Prop :=
  (((↑n : Int) != p) = true → K (V.lit false) [{ cs := Cells.ints IntKind.i64 a, elem := 3, kind := Kind.row }]) ∧
  (((↑n : Int) != p) = false →
    At (List.length a = n ∧ n ≤ (2000000 : Nat)) ∧
      ((!allB a (0 : Int) (IntKind.wrap IntKind.i64 (p - (1 : Int)))) = true →
          K (V.lit false) [{ cs := Cells.ints IntKind.i64 a, elem := 3, kind := Kind.row }]) ∧
        ((!allB a (0 : Int) (IntKind.wrap IntKind.i64 (p - (1 : Int)))) = false →
          ((((0 : Nat) = (0 : Nat) ∧ n = n) ∧
                ((0 : Nat) = (0 : Nat) ∧ n = n) ∧
                  (True ∧ (↑n : Int) = (↑n : Int)) ∧ (True ∧ (0 : Int) = (0 : Int)) ∧ True) ∧
              ((True ∧ IntKind.i64 = IntKind.i64 ∧ a = a) ∧ True) ∧ True) ∧
            At (toInv p a (0 : Int)) ∧
              ∀ (a_3 : Int),
                toInv p a a_3 →
                  (decide (a_3 < (↑n : Int)) = true →
                      At ((0 : Int) ≤ a_3 ∧ a_3 < (↑n : Int)) ∧
                        At (Int.toNat a_3 < List.length a) ∧
                          At
                              ((0 : Int) ≤ a_3 ∧
                                a_3 ≤ (↑n : Int) ∧ n * (1 : Nat) ≤ Cells.len (Cells.ints IntKind.i64 a)) ∧
                            At
                                (List.length
                                      (List.take (Int.toNat a_3 * (1 : Nat)) (List.drop ((0 : Nat) * (1 : Nat)) a)) =
                                    Int.toNat a_3 ∧
                                  Int.toNat a_3 ≤ (2000000 : Nat)) ∧
                              (hasI (List.take (Int.toNat a_3 * (1 : Nat)) (List.drop ((0 : Nat) * (1 : Nat)) a))
                                      (List.getD a (Int.toNat a_3) (0 : Int)) =
                                    true →
                                  K (V.lit false)
                                    [{ cs := Cells.ints IntKind.i64 a, elem := 3, kind := Kind.row },
                                      { cs := Cells.dead, elem := 3, kind := Kind.arg (1 : Nat) }]) ∧
                                (hasI (List.take (Int.toNat a_3 * (1 : Nat)) (List.drop ((0 : Nat) * (1 : Nat)) a))
                                      (List.getD a (Int.toNat a_3) (0 : Int)) =
                                    false →
                                  ((((0 : Nat) = (0 : Nat) ∧ n = n) ∧
                                        ((0 : Nat) = (0 : Nat) ∧ n = n) ∧
                                          (True ∧ (↑n : Int) = (↑n : Int)) ∧
                                            (True ∧
                                                IntKind.wrap IntKind.i64 (a_3 + (1 : Int)) =
                                                  IntKind.wrap IntKind.i64 (a_3 + (1 : Int))) ∧
                                              True) ∧
                                      ((True ∧ IntKind.i64 = IntKind.i64 ∧ a = a) ∧ True) ∧ True) ∧
                                    At
                                      (toInv p a (IntKind.wrap IntKind.i64 (a_3 + (1 : Int))) ∧
                                        Int.toNat (p - IntKind.wrap IntKind.i64 (a_3 + (1 : Int))) <
                                          Int.toNat (p - a_3)))) ∧
                    (decide (a_3 < (↑n : Int)) = false →
                      K (V.lit true) [{ cs := Cells.ints IntKind.i64 a, elem := 3, kind := Kind.row }])))

def VC_impl_isOrder (p : Int) (n : Nat) (a : List Int) (K : V → List Blk → Prop) : Prop :=
  (((↑n : Int) != p) = true → K (V.lit false) [{ cs := Cells.ints IntKind.i64 a, elem := 3, kind := Kind.row }]) ∧
  (((↑n : Int) != p) = false →
    ((((0 : Nat) = (0 : Nat) ∧ n = n) ∧ (True ∧ p = p) ∧ (True ∧ (0 : Int) = (0 : Int)) ∧ True) ∧
        ((True ∧ IntKind.i64 = IntKind.i64 ∧ a = a) ∧ True) ∧ True) ∧
      At (ioInv p a (0 : Int)) ∧
        ∀ (a_2 : Int),
          ioInv p a a_2 →
            (decide (a_2 < p) = true →
                At (List.length a = n ∧ n ≤ (2000000 : Nat)) ∧
                  ((!hasI a a_2) = true →
                      K (V.lit false) [{ cs := Cells.ints IntKind.i64 a, elem := 3, kind := Kind.row }]) ∧
                    ((!hasI a a_2) = false →
                      ((((0 : Nat) = (0 : Nat) ∧ n = n) ∧
                            (True ∧ p = p) ∧
                              (True ∧
                                  IntKind.wrap IntKind.i64 (a_2 + (1 : Int)) =
                                    IntKind.wrap IntKind.i64 (a_2 + (1 : Int))) ∧
                                True) ∧
                          ((True ∧ IntKind.i64 = IntKind.i64 ∧ a = a) ∧ True) ∧ True) ∧
                        At
                          (ioInv p a (IntKind.wrap IntKind.i64 (a_2 + (1 : Int))) ∧
                            Int.toNat (p - IntKind.wrap IntKind.i64 (a_2 + (1 : Int))) < Int.toNat (p - a_2)))) ∧
              (decide (a_2 < p) = false →
                K (V.lit true) [{ cs := Cells.ints IntKind.i64 a, elem := 3, kind := Kind.row }]))

def VC_impl_RenameTints_1 (p : Int) (q : Int) (n : Nat) (a : List Int) (K : V → List Blk → Prop) : Prop :=
  True ∧
  At ((0 : Int) ≤ q ∧ q < (↑n : Int)) ∧
    At (Int.toNat q < List.length a) ∧
      K (V.tup [V.int IntKind.i64 p, V.int IntKind.i64 (List.getD a (Int.toNat q) (0 : Int))])
        [{ cs := Cells.vals [V.row (1 : Nat) n], elem := 25, kind := Kind.box },
          { cs := Cells.ints IntKind.i64 a, elem := 3, kind := Kind.row }]

def VC_impl_RenameStates_1 (p : Int) (q : Int) (n : Nat) (a : List Int) (K : V → List Blk → Prop) : Prop :=
  At ((0 : Int) ≤ p ∧ p < (↑n : Int)) ∧
  At (Int.toNat p < List.length a) ∧
    K (V.tup [V.int IntKind.i64 (List.getD a (Int.toNat p) (0 : Int)), V.int IntKind.i64 q])
      [{ cs := Cells.vals [V.row (1 : Nat) n], elem := 25, kind := Kind.box },
        { cs := Cells.ints IntKind.i64 a, elem := 3, kind := Kind.row }]

def VC_spec_RenameTints (s : Int) (i : Int) (n : Nat) (c : List Sc) (m : Nat) (a : List Int) (K : V → List Blk → Prop) : Prop := At (is3 c n ∧ n ≤ (2000000 : Nat)) ∧ ((!tabB s i (rows3 
  c)) = true → K (V.tup [V.agg [V.int IntKind.i64 (0 : Int), V.int IntKind.i64 (0 : Int), V.raw (Value.slice none (0 : Nat) (0 : Nat))], V.lit false]) [{ cs := Cells.recs [Sh.int IntKind.i64, Sh.str, Sh.int IntKind.i64] c, elem := 47, kind := Kind.rows (3 : Nat) }, 
  { cs := Cells.ints IntKind.i64 a, elem := 3, kind := Kind.row }, { cs := Cells.vals [V.int IntKind.i64 s, V.int IntKind.i64 i, V.row (0 : Nat) n], elem := 29, kind := Kind.box }, 
  { cs := Cells.vals [V.int IntKind.i64 (0 : Int), V.int IntKind.i64 (0 : Int), V.raw (Value.slice none (0 : Nat) (0 : Nat))], elem := 29, kind := Kind.box }]) ∧ ((!tabB s i (rows3 
  c)) = false → At (List.length a = m ∧ m ≤ (2000000 : Nat) ∧ (1 : Int) ≤ i ∧ i ≤ (4 : Int)) ∧ ((!ordB i a) = true → K (V.tup [V.agg [V.int IntKind.i64 (0 : Int), V.int IntKind.i64 (0 
  : Int), V.raw (Value.slice none (0 : Nat) (0 : Nat))], V.lit false]) [{ cs := Cells.recs [Sh.int IntKind.i64, Sh.str, Sh.int IntKind.i64] c, elem := 47, kind := Kind.rows (3 : Nat) }, 
  { cs := Cells.ints IntKind.i64 a, elem := 3, kind := Kind.row }, { cs := Cells.vals [V.int IntKind.i64 s, V.int IntKind.i64 i, V.row (0 : Nat) n], elem := 29, kind := Kind.box }, 
  { cs := Cells.vals [V.int IntKind.i64 (0 : Int), V.int IntKind.i64 (0 : Int), V.raw (Value.slice none (0 : Nat) (0 : Nat))], elem := 29, kind := Kind.box }]) ∧ ((!ordB i a) 
  = false → ((((((At ((0 : Int) ≤ (↑n : Int) ∧ (↑n : Int) ≤ (↑n : Int) ∧ (↑n : Int) ≤ (1000000000 : Int)) ∧ ((True ∧ (((1 : Nat) = (1 : Nat) ∧ m = m) ∧ ((2 : Nat) = (2 : Nat) ∧ (0 : Nat) 
  = (0 : Nat)) ∧ ((3 : Nat) = (3 : Nat) ∧ (0 : Nat) = (0 : Nat)) ∧ ((4 : Nat) = (4 : Nat) ∧ (0 : Nat) = (0 : Nat)) ∧ True) ∧ ((True ∧ True ∧ c = c) ∧ (True ∧ IntKind.i64 = IntKind.i64 
  ∧ a = a) ∧ (True ∧ (True ∧ s = s) ∧ (True ∧ i = i) ∧ ((0 : Nat) = (0 : Nat) ∧ n = n) ∧ True) ∧ (True ∧ (True ∧ (0 : Int) = (0 : Int)) ∧ (True ∧ (0 : Int) = (0 : Int)) ∧ Value.slice 
  none (0 : Nat) (0 : Nat) = Value.slice none (0 : Nat) (0 : Nat) ∧ True) ∧ (True ∧ (True ∧ s = s) ∧ (True ∧ i = i) ∧ ((5 : Nat) = (5 : Nat) ∧ n = n) ∧ True) ∧ (True ∧ True ∧ List.replicate 
  (Int.toNat (↑n : Int) * (3 : Nat)) (Sc.mk ((0 : Int)) ([])) = List.replicate (n * (3 : Nat)) (Sc.mk ((0 : Int)) ([]))) ∧ True) ∧ True) ∧ True) ∧ True) ∧ ((At ((0 : Int) ≤ (↑n : Int) 
  ∧ (↑n : Int) ≤ (↑n : Int) ∧ (↑n : Int) ≤ (1000000000 : Int)) ∧ (True ∧ (((1 : Nat) = (1 : Nat) ∧ m = m) ∧ ((2 : Nat) = (2 : Nat) ∧ (0 : Nat) = (0 : Nat)) ∧ ((3 : Nat) = (3 : Nat) ∧ 
  (0 : Nat) = (0 : Nat)) ∧ ((4 : Nat) = (4 : Nat) ∧ (0 : Nat) = (0 : Nat)) ∧ True) ∧ ((True ∧ True ∧ c = c) ∧ (True ∧ IntKind.i64 = IntKind.i64 ∧ a = a) ∧ (True ∧ (True ∧ s = s) ∧ (True 
  ∧ i = i) ∧ ((0 : Nat) = (0 : Nat) ∧ n = n) ∧ True) ∧ (True ∧ (True ∧ (0 : Int) = (0 : Int)) ∧ (True ∧ (0 : Int) = (0 : Int)) ∧ Value.slice none (0 : Nat) (0 : Nat) = Value.slice none 
  (0 : Nat) (0 : Nat) ∧ True) ∧ (True ∧ (True ∧ s = s) ∧ (True ∧ i = i) ∧ ((5 : Nat) = (5 : Nat) ∧ n = n) ∧ True) ∧ (True ∧ True ∧ List.replicate (Int.toNat (↑n : Int) * (3 : Nat)) (Sc.mk 
  ((0 : Int)) ([])) = List.replicate (n * (3 : Nat)) (Sc.mk ((0 : Int)) ([]))) ∧ True) ∧ True) ∧ True) ∧ True) ∧ True) ∧ (((At ((0 : Int) ≤ (↑n : Int) ∧ (↑n : Int) ≤ (↑n : Int) ∧ (↑n 
  : Int) ≤ (1000000000 : Int)) ∧ (True ∧ (((1 : Nat) = (1 : Nat) ∧ m = m) ∧ ((2 : Nat) = (2 : Nat) ∧ (0 : Nat) = (0 : Nat)) ∧ ((3 : Nat) = (3 : Nat) ∧ (0 : Nat) = (0 : Nat)) ∧ ((4 : Nat) 
  = (4 : Nat) ∧ (0 : Nat) = (0 : Nat)) ∧ True) ∧ ((True ∧ True ∧ c = c) ∧ (True ∧ IntKind.i64 = IntKind.i64 ∧ a = a) ∧ (True ∧ (True ∧ s = s) ∧ (True ∧ i = i) ∧ ((0 : Nat) = (0 : Nat) 
  ∧ n = n) ∧ True) ∧ (True ∧ (True ∧ (0 : Int) = (0 : Int)) ∧ (True ∧ (0 : Int) = (0 : Int)) ∧ Value.slice none (0 : Nat) (0 : Nat) = Value.slice none (0 : Nat) (0 : Nat) ∧ True) ∧ (True 
  ∧ (True ∧ s = s) ∧ (True ∧ i = i) ∧ ((5 : Nat) = (5 : Nat) ∧ n = n) ∧ True) ∧ (True ∧ True ∧ List.replicate (Int.toNat (↑n : Int) * (3 : Nat)) (Sc.mk ((0 : Int)) ([])) = List.replicate 
  (n * (3 : Nat)) (Sc.mk ((0 : Int)) ([]))) ∧ True) ∧ True) ∧ True) ∧ True) ∧ True) ∧ True) ∧ (((At ((0 : Int) ≤ (↑n : Int) ∧ (↑n : Int) ≤ (↑n : Int) ∧ (↑n : Int) ≤ (1000000000 : Int)) 
  ∧ ((True ∧ (((1 : Nat) = (1 : Nat) ∧ m = m) ∧ ((2 : Nat) = (2 : Nat) ∧ (0 : Nat) = (0 : Nat)) ∧ ((3 : Nat) = (3 : Nat) ∧ (0 : Nat) = (0 : Nat)) ∧ ((4 : Nat) = (4 : Nat) ∧ (0 : Nat) 
  = (0 : Nat)) ∧ True) ∧ ((True ∧ True ∧ c = c) ∧ (True ∧ IntKind.i64 = IntKind.i64 ∧ a = a) ∧ (True ∧ (True ∧ s = s) ∧ (True ∧ i = i) ∧ ((0 : Nat) = (0 : Nat) ∧ n = n) ∧ True) ∧ (True 
  ∧ (True ∧ (0 : Int) = (0 : Int)) ∧ (True ∧ (0 : Int) = (0 : Int)) ∧ Value.slice none (0 : Nat) (0 : Nat) = Value.slice none (0 : Nat) (0 : Nat) ∧ True) ∧ (True ∧ (True ∧ s = s) ∧ (True 
  ∧ i = i) ∧ ((5 : Nat) = (5 : Nat) ∧ n = n) ∧ True) ∧ (True ∧ True ∧ List.replicate (Int.toNat (↑n : Int) * (3 : Nat)) (Sc.mk ((0 : Int)) ([])) = List.replicate (n * (3 : Nat)) (Sc.mk 
  ((0 : Int)) ([]))) ∧ True) ∧ True) ∧ True) ∧ True) ∧ ((At ((0 : Int) ≤ (↑n : Int) ∧ (↑n : Int) ≤ (↑n : Int) ∧ (↑n : Int) ≤ (1000000000 : Int)) ∧ (True ∧ (((1 : Nat) = (1 : Nat) ∧ m 
  = m) ∧ ((2 : Nat) = (2 : Nat) ∧ (0 : Nat) = (0 : Nat)) ∧ ((3 : Nat) = (3 : Nat) ∧ (0 : Nat) = (0 : Nat)) ∧ ((4 : Nat) = (4 : Nat) ∧ (0 : Nat) = (0 : Nat)) ∧ True) ∧ ((True ∧ True ∧ 
  c = c) ∧ (True ∧ IntKind.i64 = IntKind.i64 ∧ a = a) ∧ (True ∧ (True ∧ s = s) ∧ (True ∧ i = i) ∧ ((0 : Nat) = (0 : Nat) ∧ n = n) ∧ True) ∧ (True ∧ (True ∧ (0 : Int) = (0 : Int)) ∧ (True 
  ∧ (0 : Int) = (0 : Int)) ∧ Value.slice none (0 : Nat) (0 : Nat) = Value.slice none (0 : Nat) (0 : Nat) ∧ True) ∧ (True ∧ (True ∧ s = s) ∧ (True ∧ i = i) ∧ ((5 : Nat) = (5 : Nat) ∧ n 
  = n) ∧ True) ∧ (True ∧ True ∧ List.replicate (Int.toNat (↑n : Int) * (3 : Nat)) (Sc.mk ((0 : Int)) ([])) = List.replicate (n * (3 : Nat)) (Sc.mk ((0 : Int)) ([]))) ∧ True) ∧ True) ∧ 
  True) ∧ True) ∧ True) ∧ (At ((0 : Int) ≤ (↑n : Int) ∧ (↑n : Int) ≤ (↑n : Int) ∧ (↑n : Int) ≤ (1000000000 : Int)) ∧ (((True ∧ (((1 : Nat) = (1 : Nat) ∧ m = m) ∧ ((2 : Nat) = (2 : Nat) 
  ∧ (0 : Nat) = (0 : Nat)) ∧ ((3 : Nat) = (3 : Nat) ∧ (0 : Nat) = (0 : Nat)) ∧ ((4 : Nat) = (4 : Nat) ∧ (0 : Nat) = (0 : Nat)) ∧ True) ∧ ((True ∧ True ∧ c = c) ∧ (True ∧ IntKind.i64 = 
  IntKind.i64 ∧ a = a) ∧ (True ∧ (True ∧ s = s) ∧ (True ∧ i = i) ∧ ((0 : Nat) = (0 : Nat) ∧ n = n) ∧ True) ∧ (True ∧ (True ∧ (0 : Int) = (0 : Int)) ∧ (True ∧ (0 : Int) = (0 : Int)) ∧ 
  Value.slice none (0 : Nat) (0 : Nat) = Value.slice none (0 : Nat) (0 : Nat) ∧ True) ∧ (True ∧ (True ∧ s = s) ∧ (True ∧ i = i) ∧ ((5 : Nat) = (5 : Nat) ∧ n = n) ∧ True) ∧ (True ∧ True 
  ∧ List.replicate (Int.toNat (↑n : Int) * (3 : Nat)) (Sc.mk ((0 : Int)) ([])) = List.replicate (n * (3 : Nat)) (Sc.mk ((0 : Int)) ([]))) ∧ True) ∧ True) ∧ True) ∧ True) ∧ ((True ∧ (((1 
  : Nat) = (1 : Nat) ∧ m = m) ∧ ((2 : Nat) = (2 : Nat) ∧ (0 : Nat) = (0 : Nat)) ∧ ((3 : Nat) = (3 : Nat) ∧ (0 : Nat) = (0 : Nat)) ∧ ((4 : Nat) = (4 : Nat) ∧ (0 : Nat) = (0 : Nat)) ∧ True) 
  ∧ ((True ∧ True ∧ c = c) ∧ (True ∧ IntKind.i64 = IntKind.i64 ∧ a = a) ∧ (True ∧ (True ∧ s = s) ∧ (True ∧ i = i) ∧ ((0 : Nat) = (0 : Nat) ∧ n = n) ∧ True) ∧ (True ∧ (True ∧ (0 : Int) 
  = (0 : Int)) ∧ (True ∧ (0 : Int) = (0 : Int)) ∧ Value.slice none (0 : Nat) (0 : Nat) = Value.slice none (0 : Nat) (0 : Nat) ∧ True) ∧ (True ∧ (True ∧ s = s) ∧ (True ∧ i = i) ∧ ((5 : 
  Nat) = (5 : Nat) ∧ n = n) ∧ True) ∧ (True ∧ True ∧ List.replicate (Int.toNat (↑n : Int) * (3 : Nat)) (Sc.mk ((0 : Int)) ([])) = List.replicate (n * (3 : Nat)) (Sc.mk ((0 : Int)) ([]))) 
  ∧ True) ∧ True) ∧ True) ∧ True) ∧ (((At ((0 : Int) ≤ (↑n : Int) ∧ (↑n : Int) ≤ (↑n : Int) ∧ (↑n : Int) ≤ (1000000000 : Int)) ∧ (True ∧ (((1 : Nat) = (1 : Nat) ∧ m = m) ∧ ((2 : Nat) 
  = (2 : Nat) ∧ (0 : Nat) = (0 : Nat)) ∧ ((3 : Nat) = (3 : Nat) ∧ (0 : Nat) = (0 : Nat)) ∧ ((4 : Nat) = (4 : Nat) ∧ (0 : Nat) = (0 : Nat)) ∧ True) ∧ ((True ∧ True ∧ c = c) ∧ (True ∧ IntKind.i64 
  = IntKind.i64 ∧ a = a) ∧ (True ∧ (True ∧ s = s) ∧ (True ∧ i = i) ∧ ((0 : Nat) = (0 : Nat) ∧ n = n) ∧ True) ∧ (True ∧ (True ∧ (0 : Int) = (0 : Int)) ∧ (True ∧ (0 : Int) = (0 : Int)) 
  ∧ Value.slice none (0 : Nat) (0 : Nat) = Value.slice none (0 : Nat) (0 : Nat) ∧ True) ∧ (True ∧ (True ∧ s = s) ∧ (True ∧ i = i) ∧ ((5 : Nat) = (5 : Nat) ∧ n = n) ∧ True) ∧ (True ∧ True 
  ∧ List.replicate (Int.toNat (↑n : Int) * (3 : Nat)) (Sc.mk ((0 : Int)) ([])) = List.replicate (n * (3 : Nat)) (Sc.mk ((0 : Int)) ([]))) ∧ True) ∧ True) ∧ True) ∧ True) ∧ (At ((0 : Int) 
  ≤ (↑n : Int) ∧ (↑n : Int) ≤ (↑n : Int) ∧ (↑n : Int) ≤ (1000000000 : Int)) ∧ (True ∧ (((1 : Nat) = (1 : Nat) ∧ m = m) ∧ ((2 : Nat) = (2 : Nat) ∧ (0 : Nat) = (0 : Nat)) ∧ ((3 : Nat) = 
  (3 : Nat) ∧ (0 : Nat) = (0 : Nat)) ∧ ((4 : Nat) = (4 : Nat) ∧ (0 : Nat) = (0 : Nat)) ∧ True) ∧ ((True ∧ True ∧ c = c) ∧ (True ∧ IntKind.i64 = IntKind.i64 ∧ a = a) ∧ (True ∧ (True ∧ 
  s = s) ∧ (True ∧ i = i) ∧ ((0 : Nat) = (0 : Nat) ∧ n = n) ∧ True) ∧ (True ∧ (True ∧ (0 : Int) = (0 : Int)) ∧ (True ∧ (0 : Int) = (0 : Int)) ∧ Value.slice none (0 : Nat) (0 : Nat) = 
  Value.slice none (0 : Nat) (0 : Nat) ∧ True) ∧ (True ∧ (True ∧ s = s) ∧ (True ∧ i = i) ∧ ((5 : Nat) = (5 : Nat) ∧ n = n) ∧ True) ∧ (True ∧ True ∧ List.replicate (Int.toNat (↑n : Int) 
  * (3 : Nat)) (Sc.mk ((0 : Int)) ([])) = List.replicate (n * (3 : Nat)) (Sc.mk ((0 : Int)) ([]))) ∧ True) ∧ True) ∧ True) ∧ True) ∧ True) ∧ ((((At ((0 : Int) ≤ (↑n : Int) ∧ (↑n : Int) 
  ≤ (↑n : Int) ∧ (↑n : Int) ≤ (1000000000 : Int)) ∧ (True ∧ (((1 : Nat) = (1 : Nat) ∧ m = m) ∧ ((2 : Nat) = (2 : Nat) ∧ (0 : Nat) = (0 : Nat)) ∧ ((3 : Nat) = (3 : Nat) ∧ (0 : Nat) = (0 
  : Nat)) ∧ ((4 : Nat) = (4 : Nat) ∧ (0 : Nat) = (0 : Nat)) ∧ True) ∧ ((True ∧ True ∧ c = c) ∧ (True ∧ IntKind.i64 = IntKind.i64 ∧ a = a) ∧ (True ∧ (True ∧ s = s) ∧ (True ∧ i = i) ∧ ((0 
  : Nat) = (0 : Nat) ∧ n = n) ∧ True) ∧ (True ∧ (True ∧ (0 : Int) = (0 : Int)) ∧ (True ∧ (0 : Int) = (0 : Int)) ∧ Value.slice none (0 : Nat) (0 : Nat) = Value.slice none (0 : Nat) (0 
  : Nat) ∧ True) ∧ (True ∧ (True ∧ s = s) ∧ (True ∧ i = i) ∧ ((5 : Nat) = (5 : Nat) ∧ n = n) ∧ True) ∧ (True ∧ True ∧ List.replicate (Int.toNat (↑n : Int) * (3 : Nat)) (Sc.mk ((0 : Int)) 
  ([])) = List.replicate (n * (3 : Nat)) (Sc.mk ((0 : Int)) ([]))) ∧ True) ∧ True) ∧ True) ∧ True) ∧ True) ∧ (((At ((0 : Int) ≤ (↑n : Int) ∧ (↑n : Int) ≤ (↑n : Int) ∧ (↑n : Int) ≤ (1000000000 
  : Int)) ∧ (True ∧ (((1 : Nat) = (1 : Nat) ∧ m = m) ∧ ((2 : Nat) = (2 : Nat) ∧ (0 : Nat) = (0 : Nat)) ∧ ((3 : Nat) = (3 : Nat) ∧ (0 : Nat) = (0 : Nat)) ∧ ((4 : Nat) = (4 : Nat) ∧ (0 
  : Nat) = (0 : Nat)) ∧ True) ∧ ((True ∧ True ∧ c = c) ∧ (True ∧ IntKind.i64 = IntKind.i64 ∧ a = a) ∧ (True ∧ (True ∧ s = s) ∧ (True ∧ i = i) ∧ ((0 : Nat) = (0 : Nat) ∧ n = n) ∧ True) 
  ∧ (True ∧ (True ∧ (0 : Int) = (0 : Int)) ∧ (True ∧ (0 : Int) = (0 : Int)) ∧ Value.slice none (0 : Nat) (0 : Nat) = Value.slice none (0 : Nat) (0 : Nat) ∧ True) ∧ (True ∧ (True ∧ s = 
  s) ∧ (True ∧ i = i) ∧ ((5 : Nat) = (5 : Nat) ∧ n = n) ∧ True) ∧ (True ∧ True ∧ List.replicate (Int.toNat (↑n : Int) * (3 : Nat)) (Sc.mk ((0 : Int)) ([])) = List.replicate (n * (3 : 
  Nat)) (Sc.mk ((0 : Int)) ([]))) ∧ True) ∧ True) ∧ True) ∧ True) ∧ (At ((0 : Int) ≤ (↑n : Int) ∧ (↑n : Int) ≤ (↑n : Int) ∧ (↑n : Int) ≤ (1000000000 : Int)) ∧ (True ∧ (((1 : Nat) = (1 
  : Nat) ∧ m = m) ∧ ((2 : Nat) = (2 : Nat) ∧ (0 : Nat) = (0 : Nat)) ∧ ((3 : Nat) = (3 : Nat) ∧ (0 : Nat) = (0 : Nat)) ∧ ((4 : Nat) = (4 : Nat) ∧ (0 : Nat) = (0 : Nat)) ∧ True) ∧ ((True 
  ∧ True ∧ c = c) ∧ (True ∧ IntKind.i64 = IntKind.i64 ∧ a = a) ∧ (True ∧ (True ∧ s = s) ∧ (True ∧ i = i) ∧ ((0 : Nat) = (0 : Nat) ∧ n = n) ∧ True) ∧ (True ∧ (True ∧ (0 : Int) = (0 : Int)) 
  ∧ (True ∧ (0 : Int) = (0 : Int)) ∧ Value.slice none (0 : Nat) (0 : Nat) = Value.slice none (0 : Nat) (0 : Nat) ∧ True) ∧ (True ∧ (True ∧ s = s) ∧ (True ∧ i = i) ∧ ((5 : Nat) = (5 : 
  Nat) ∧ n = n) ∧ True) ∧ (True ∧ True ∧ List.replicate (Int.toNat (↑n : Int) * (3 : Nat)) (Sc.mk ((0 : Int)) ([])) = List.replicate (n * (3 : Nat)) (Sc.mk ((0 : Int)) ([]))) ∧ True) 
  ∧ True) ∧ True) ∧ True) ∧ True) ∧ True) ∧ ((((At ((0 : Int) ≤ (↑n : Int) ∧ (↑n : Int) ≤ (↑n : Int) ∧ (↑n : Int) ≤ (1000000000 : Int)) ∧ ((True ∧ (((1 : Nat) = (1 : Nat) ∧ m = m) ∧ ((2 
  : Nat) = (2 : Nat) ∧ (0 : Nat) = (0 : Nat)) ∧ ((3 : Nat) = (3 : Nat) ∧ (0 : Nat) = (0 : Nat)) ∧ ((4 : Nat) = (4 : Nat) ∧ (0 : Nat) = (0 : Nat)) ∧ True) ∧ ((True ∧ True ∧ c = c) ∧ (True 
  ∧ IntKind.i64 = IntKind.i64 ∧ a = a) ∧ (True ∧ (True ∧ s = s) ∧ (True ∧ i = i) ∧ ((0 : Nat) = (0 : Nat) ∧ n = n) ∧ True) ∧ (True ∧ (True ∧ (0 : Int) = (0 : Int)) ∧ (True ∧ (0 : Int) 
  = (0 : Int)) ∧ Value.slice none (0 : Nat) (0 : Nat) = Value.slice none (0 : Nat) (0 : Nat) ∧ True) ∧ (True ∧ (True ∧ s = s) ∧ (True ∧ i = i) ∧ ((5 : Nat) = (5 : Nat) ∧ n = n) ∧ True) 
  ∧ (True ∧ True ∧ List.replicate (Int.toNat (↑n : Int) * (3 : Nat)) (Sc.mk ((0 : Int)) ([])) = List.replicate (n * (3 : Nat)) (Sc.mk ((0 : Int)) ([]))) ∧ True) ∧ True) ∧ True) ∧ True) 
  ∧ ((At ((0 : Int) ≤ (↑n : Int) ∧ (↑n : Int) ≤ (↑n : Int) ∧ (↑n : Int) ≤ (1000000000 : Int)) ∧ (True ∧ (((1 : Nat) = (1 : Nat) ∧ m = m) ∧ ((2 : Nat) = (2 : Nat) ∧ (0 : Nat) = (0 : Nat)) 
  ∧ ((3 : Nat) = (3 : Nat) ∧ (0 : Nat) = (0 : Nat)) ∧ ((4 : Nat) = (4 : Nat) ∧ (0 : Nat) = (0 : Nat)) ∧ True) ∧ ((True ∧ True ∧ c = c) ∧ (True ∧ IntKind.i64 = IntKind.i64 ∧ a = a) ∧ (True 
  ∧ (True ∧ s = s) ∧ (True ∧ i = i) ∧ ((0 : Nat) = (0 : Nat) ∧ n = n) ∧ True) ∧ (True ∧ (True ∧ (0 : Int) = (0 : Int)) ∧ (True ∧ (0 : Int) = (0 : Int)) ∧ Value.slice none (0 : Nat) (0 
  : Nat) = Value.slice none (0 : Nat) (0 : Nat) ∧ True) ∧ (True ∧ (True ∧ s = s) ∧ (True ∧ i = i) ∧ ((5 : Nat) = (5 : Nat) ∧ n = n) ∧ True) ∧ (True ∧ True ∧ List.replicate (Int.toNat 
  (↑n : Int) * (3 : Nat)) (Sc.mk ((0 : Int)) ([])) = List.replicate (n * (3 : Nat)) (Sc.mk ((0 : Int)) ([]))) ∧ True) ∧ True) ∧ True) ∧ True) ∧ True) ∧ (((At ((0 : Int) ≤ (↑n : Int) ∧ 
  (↑n : Int) ≤ (↑n : Int) ∧ (↑n : Int) ≤ (1000000000 : Int)) ∧ (True ∧ (((1 : Nat) = (1 : Nat) ∧ m = m) ∧ ((2 : Nat) = (2 : Nat) ∧ (0 : Nat) = (0 : Nat)) ∧ ((3 : Nat) = (3 : Nat) ∧ (0 
  : Nat) = (0 : Nat)) ∧ ((4 : Nat) = (4 : Nat) ∧ (0 : Nat) = (0 : Nat)) ∧ True) ∧ ((True ∧ True ∧ c = c) ∧ (True ∧ IntKind.i64 = IntKind.i64 ∧ a = a) ∧ (True ∧ (True ∧ s = s) ∧ (True 
  ∧ i = i) ∧ ((0 : Nat) = (0 : Nat) ∧ n = n) ∧ True) ∧ (True ∧ (True ∧ (0 : Int) = (0 : Int)) ∧ (True ∧ (0 : Int) = (0 : Int)) ∧ Value.slice none (0 : Nat) (0 : Nat) = Value.slice none 
  (0 : Nat) (0 : Nat) ∧ True) ∧ (True ∧ (True ∧ s = s) ∧ (True ∧ i = i) ∧ ((5 : Nat) = (5 : Nat) ∧ n = n) ∧ True) ∧ (True ∧ True ∧ List.replicate (Int.toNat (↑n : Int) * (3 : Nat)) (Sc.mk 
  ((0 : Int)) ([])) = List.replicate (n * (3 : Nat)) (Sc.mk ((0 : Int)) ([]))) ∧ True) ∧ True) ∧ True) ∧ True) ∧ True) ∧ True) ∧ (((At ((0 : Int) ≤ (↑n : Int) ∧ (↑n : Int) ≤ (↑n : Int) 
  ∧ (↑n : Int) ≤ (1000000000 : Int)) ∧ ((True ∧ (((1 : Nat) = (1 : Nat) ∧ m = m) ∧ ((2 : Nat) = (2 : Nat) ∧ (0 : Nat) = (0 : Nat)) ∧ ((3 : Nat) = (3 : Nat) ∧ (0 : Nat) = (0 : Nat)) ∧ 
  ((4 : Nat) = (4 : Nat) ∧ (0 : Nat) = (0 : Nat)) ∧ True) ∧ ((True ∧ True ∧ c = c) ∧ (True ∧ IntKind.i64 = IntKind.i64 ∧ a = a) ∧ (True ∧ (True ∧ s = s) ∧ (True ∧ i = i) ∧ ((0 : Nat) 
  = (0 : Nat) ∧ n = n) ∧ True) ∧ (True ∧ (True ∧ (0 : Int) = (0 : Int)) ∧ (True ∧ (0 : Int) = (0 : Int)) ∧ Value.slice none (0 : Nat) (0 : Nat) = Value.slice none (0 : Nat) (0 : Nat) 
  ∧ True) ∧ (True ∧ (True ∧ s = s) ∧ (True ∧ i = i) ∧ ((5 : Nat) = (5 : Nat) ∧ n = n) ∧ True) ∧ (True ∧ True ∧ List.replicate (Int.toNat (↑n : Int) * (3 : Nat)) (Sc.mk ((0 : Int)) ([])) 
  = List.replicate (n * (3 : Nat)) (Sc.mk ((0 : Int)) ([]))) ∧ True) ∧ True) ∧ True) ∧ True) ∧ ((At ((0 : Int) ≤ (↑n : Int) ∧ (↑n : Int) ≤ (↑n : Int) ∧ (↑n : Int) ≤ (1000000000 : Int)) 
  ∧ (True ∧ (((1 : Nat) = (1 : Nat) ∧ m = m) ∧ ((2 : Nat) = (2 : Nat) ∧ (0 : Nat) = (0 : Nat)) ∧ ((3 : Nat) = (3 : Nat) ∧ (0 : Nat) = (0 : Nat)) ∧ ((4 : Nat) = (4 : Nat) ∧ (0 : Nat) = 
  (0 : Nat)) ∧ True) ∧ ((True ∧ True ∧ c = c) ∧ (True ∧ IntKind.i64 = IntKind.i64 ∧ a = a) ∧ (True ∧ (True ∧ s = s) ∧ (True ∧ i = i) ∧ ((0 : Nat) = (0 : Nat) ∧ n = n) ∧ True) ∧ (True 
  ∧ (True ∧ (0 : Int) = (0 : Int)) ∧ (True ∧ (0 : Int) = (0 : Int)) ∧ Value.slice none (0 : Nat) (0 : Nat) = Value.slice none (0 : Nat) (0 : Nat) ∧ True) ∧ (True ∧ (True ∧ s = s) ∧ (True 
  ∧ i = i) ∧ ((5 : Nat) = (5 : Nat) ∧ n = n) ∧ True) ∧ (True ∧ True ∧ List.replicate (Int.toNat (↑n : Int) * (3 : Nat)) (Sc.mk ((0 : Int)) ([])) = List.replicate (n * (3 : Nat)) (Sc.mk 
  ((0 : Int)) ([]))) ∧ True) ∧ True) ∧ True) ∧ True) ∧ True) ∧ (At ((0 : Int) ≤ (↑n : Int) ∧ (↑n : Int) ≤ (↑n : Int) ∧ (↑n : Int) ≤ (1000000000 : Int)) ∧ (((True ∧ (((1 : Nat) = (1 : 
  Nat) ∧ m = m) ∧ ((2 : Nat) = (2 : Nat) ∧ (0 : Nat) = (0 : Nat)) ∧ ((3 : Nat) = (3 : Nat) ∧ (0 : Nat) = (0 : Nat)) ∧ ((4 : Nat) = (4 : Nat) ∧ (0 : Nat) = (0 : Nat)) ∧ True) ∧ ((True 
  ∧ True ∧ c = c) ∧ (True ∧ IntKind.i64 = IntKind.i64 ∧ a = a) ∧ (True ∧ (True ∧ s = s) ∧ (True ∧ i = i) ∧ ((0 : Nat) = (0 : Nat) ∧ n = n) ∧ True) ∧ (True ∧ (True ∧ (0 : Int) = (0 : Int)) 
  ∧ (True ∧ (0 : Int) = (0 : Int)) ∧ Value.slice none (0 : Nat) (0 : Nat) = Value.slice none (0 : Nat) (0 : Nat) ∧ True) ∧ (True ∧ (True ∧ s = s) ∧ (True ∧ i = i) ∧ ((5 : Nat) = (5 : 
  Nat) ∧ n = n) ∧ True) ∧ (True ∧ True ∧ List.replicate (Int.toNat (↑n : Int) * (3 : Nat)) (Sc.mk ((0 : Int)) ([])) = List.replicate (n * (3 : Nat)) (Sc.mk ((0 : Int)) ([]))) ∧ True) 
  ∧ True) ∧ True) ∧ True) ∧ ((True ∧ (((1 : Nat) = (1 : Nat) ∧ m = m) ∧ ((2 : Nat) = (2 : Nat) ∧ (0 : Nat) = (0 : Nat)) ∧ ((3 : Nat) = (3 : Nat) ∧ (0 : Nat) = (0 : Nat)) ∧ ((4 : Nat) 
  = (4 : Nat) ∧ (0 : Nat) = (0 : Nat)) ∧ True) ∧ ((True ∧ True ∧ c = c) ∧ (True ∧ IntKind.i64 = IntKind.i64 ∧ a = a) ∧ (True ∧ (True ∧ s = s) ∧ (True ∧ i = i) ∧ ((0 : Nat) = (0 : Nat) 
  ∧ n = n) ∧ True) ∧ (True ∧ (True ∧ (0 : Int) = (0 : Int)) ∧ (True ∧ (0 : Int) = (0 : Int)) ∧ Value.slice none (0 : Nat) (0 : Nat) = Value.slice none (0 : Nat) (0 : Nat) ∧ True) ∧ (True 
  ∧ (True ∧ s = s) ∧ (True ∧ i = i) ∧ ((5 : Nat) = (5 : Nat) ∧ n = n) ∧ True) ∧ (True ∧ True ∧ List.replicate (Int.toNat (↑n : Int) * (3 : Nat)) (Sc.mk ((0 : Int)) ([])) = List.replicate 
  (n * (3 : Nat)) (Sc.mk ((0 : Int)) ([]))) ∧ True) ∧ True) ∧ True) ∧ True) ∧ (((At ((0 : Int) ≤ (↑n : Int) ∧ (↑n : Int) ≤ (↑n : Int) ∧ (↑n : Int) ≤ (1000000000 : Int)) ∧ (True ∧ (((1 
  : Nat) = (1 : Nat) ∧ m = m) ∧ ((2 : Nat) = (2 : Nat) ∧ (0 : Nat) = (0 : Nat)) ∧ ((3 : Nat) = (3 : Nat) ∧ (0 : Nat) = (0 : Nat)) ∧ ((4 : Nat) = (4 : Nat) ∧ (0 : Nat) = (0 : Nat)) ∧ True) 
  ∧ ((True ∧ True ∧ c = c) ∧ (True ∧ IntKind.i64 = IntKind.i64 ∧ a = a) ∧ (True ∧ (True ∧ s = s) ∧ (True ∧ i = i) ∧ ((0 : Nat) = (0 : Nat) ∧ n = n) ∧ True) ∧ (True ∧ (True ∧ (0 : Int) 
  = (0 : Int)) ∧ (True ∧ (0 : Int) = (0 : Int)) ∧ Value.slice none (0 : Nat) (0 : Nat) = Value.slice none (0 : Nat) (0 : Nat) ∧ True) ∧ (True ∧ (True ∧ s = s) ∧ (True ∧ i = i) ∧ ((5 : 
  Nat) = (5 : Nat) ∧ n = n) ∧ True) ∧ (True ∧ True ∧ List.replicate (Int.toNat (↑n : Int) * (3 : Nat)) (Sc.mk ((0 : Int)) ([])) = List.replicate (n * (3 : Nat)) (Sc.mk ((0 : Int)) ([]))) 
  ∧ True) ∧ True) ∧ True) ∧ True) ∧ (At ((0 : Int) ≤ (↑n : Int) ∧ (↑n : Int) ≤ (↑n : Int) ∧ (↑n : Int) ≤ (1000000000 : Int)) ∧ (True ∧ (((1 : Nat) = (1 : Nat) ∧ m = m) ∧ ((2 : Nat) = 
  (2 : Nat) ∧ (0 : Nat) = (0 : Nat)) ∧ ((3 : Nat) = (3 : Nat) ∧ (0 : Nat) = (0 : Nat)) ∧ ((4 : Nat) = (4 : Nat) ∧ (0 : Nat) = (0 : Nat)) ∧ True) ∧ ((True ∧ True ∧ c = c) ∧ (True ∧ IntKind.i64 
  = IntKind.i64 ∧ a = a) ∧ (True ∧ (True ∧ s = s) ∧ (True ∧ i = i) ∧ ((0 : Nat) = (0 : Nat) ∧ n = n) ∧ True) ∧ (True ∧ (True ∧ (0 : Int) = (0 : Int)) ∧ (True ∧ (0 : Int) = (0 : Int)) 
  ∧ Value.slice none (0 : Nat) (0 : Nat) = Value.slice none (0 : Nat) (0 : Nat) ∧ True) ∧ (True ∧ (True ∧ s = s) ∧ (True ∧ i = i) ∧ ((5 : Nat) = (5 : Nat) ∧ n = n) ∧ True) ∧ (True ∧ True 
  ∧ List.replicate (Int.toNat (↑n : Int) * (3 : Nat)) (Sc.mk ((0 : Int)) ([])) = List.replicate (n * (3 : Nat)) (Sc.mk ((0 : Int)) ([]))) ∧ True) ∧ True) ∧ True) ∧ True) ∧ True) ∧ ((((At 
  ((0 : Int) ≤ (↑n : Int) ∧ (↑n : Int) ≤ (↑n : Int) ∧ (↑n : Int) ≤ (1000000000 : Int)) ∧ (True ∧ (((1 : Nat) = (1 : Nat) ∧ m = m) ∧ ((2 : Nat) = (2 : Nat) ∧ (0 : Nat) = (0 : Nat)) ∧ ((3 
  : Nat) = (3 : Nat) ∧ (0 : Nat) = (0 : Nat)) ∧ ((4 : Nat) = (4 : Nat) ∧ (0 : Nat) = (0 : Nat)) ∧ True) ∧ ((True ∧ True ∧ c = c) ∧ (True ∧ IntKind.i64 = IntKind.i64 ∧ a = a) ∧ (True ∧ 
  (True ∧ s = s) ∧ (True ∧ i = i) ∧ ((0 : Nat) = (0 : Nat) ∧ n = n) ∧ True) ∧ (True ∧ (True ∧ (0 : Int) = (0 : Int)) ∧ (True ∧ (0 : Int) = (0 : Int)) ∧ Value.slice none (0 : Nat) (0 : 
  Nat) = Value.slice none (0 : Nat) (0 : Nat) ∧ True) ∧ (True ∧ (True ∧ s = s) ∧ (True ∧ i = i) ∧ ((5 : Nat) = (5 : Nat) ∧ n = n) ∧ True) ∧ (True ∧ True ∧ List.replicate (Int.toNat (↑n 
  : Int) * (3 : Nat)) (Sc.mk ((0 : Int)) ([])) = List.replicate (n * (3 : Nat)) (Sc.mk ((0 : Int)) ([]))) ∧ True) ∧ True) ∧ True) ∧ True) ∧ True) ∧ (((At ((0 : Int) ≤ (↑n : Int) ∧ (↑n 
  : Int) ≤ (↑n : Int) ∧ (↑n : Int) ≤ (1000000000 : Int)) ∧ (True ∧ (((1 : Nat) = (1 : Nat) ∧ m = m) ∧ ((2 : Nat) = (2 : Nat) ∧ (0 : Nat) = (0 : Nat)) ∧ ((3 : Nat) = (3 : Nat) ∧ (0 : Nat) 
  = (0 : Nat)) ∧ ((4 : Nat) = (4 : Nat) ∧ (0 : Nat) = (0 : Nat)) ∧ True) ∧ ((True ∧ True ∧ c = c) ∧ (True ∧ IntKind.i64 = IntKind.i64 ∧ a = a) ∧ (True ∧ (True ∧ s = s) ∧ (True ∧ i = i) 
  ∧ ((0 : Nat) = (0 : Nat) ∧ n = n) ∧ True) ∧ (True ∧ (True ∧ (0 : Int) = (0 : Int)) ∧ (True ∧ (0 : Int) = (0 : Int)) ∧ Value.slice none (0 : Nat) (0 : Nat) = Value.slice none (0 : Nat) 
  (0 : Nat) ∧ True) ∧ (True ∧ (True ∧ s = s) ∧ (True ∧ i = i) ∧ ((5 : Nat) = (5 : Nat) ∧ n = n) ∧ True) ∧ (True ∧ True ∧ List.replicate (Int.toNat (↑n : Int) * (3 : Nat)) (Sc.mk ((0 : 
  Int)) ([])) = List.replicate (n * (3 : Nat)) (Sc.mk ((0 : Int)) ([]))) ∧ True) ∧ True) ∧ True) ∧ True) ∧ (At ((0 : Int) ≤ (↑n : Int) ∧ (↑n : Int) ≤ (↑n : Int) ∧ (↑n : Int) ≤ (1000000000 
  : Int)) ∧ (True ∧ (((1 : Nat) = (1 : Nat) ∧ m = m) ∧ ((2 : Nat) = (2 : Nat) ∧ (0 : Nat) = (0 : Nat)) ∧ ((3 : Nat) = (3 : Nat) ∧ (0 : Nat) = (0 : Nat)) ∧ ((4 : Nat) = (4 : Nat) ∧ (0 
  : Nat) = (0 : Nat)) ∧ True) ∧ ((True ∧ True ∧ c = c) ∧ (True ∧ IntKind.i64 = IntKind.i64 ∧ a = a) ∧ (True ∧ (True ∧ s = s) ∧ (True ∧ i = i) ∧ ((0 : Nat) = (0 : Nat) ∧ n = n) ∧ True) 
  ∧ (True ∧ (True ∧ (0 : Int) = (0 : Int)) ∧ (True ∧ (0 : Int) = (0 : Int)) ∧ Value.slice none (0 : Nat) (0 : Nat) = Value.slice none (0 : Nat) (0 : Nat) ∧ True) ∧ (True ∧ (True ∧ s = 
  s) ∧ (True ∧ i = i) ∧ ((5 : Nat) = (5 : Nat) ∧ n = n) ∧ True) ∧ (True ∧ True ∧ List.replicate (Int.toNat (↑n : Int) * (3 : Nat)) (Sc.mk ((0 : Int)) ([])) = List.replicate (n * (3 : 
  Nat)) (Sc.mk ((0 : Int)) ([]))) ∧ True) ∧ True) ∧ True) ∧ True) ∧ True) ∧ True) ∧ ((((At ((0 : Int) ≤ (↑n : Int) ∧ (↑n : Int) ≤ (↑n : Int) ∧ (↑n : Int) ≤ (1000000000 : Int)) ∧ ((True 
  ∧ (((1 : Nat) = (1 : Nat) ∧ m = m) ∧ ((2 : Nat) = (2 : Nat) ∧ (0 : Nat) = (0 : Nat)) ∧ ((3 : Nat) = (3 : Nat) ∧ (0 : Nat) = (0 : Nat)) ∧ ((4 : Nat) = (4 : Nat) ∧ (0 : Nat) = (0 : Nat)) 
  ∧ True) ∧ ((True ∧ True ∧ c = c) ∧ (True ∧ IntKind.i64 = IntKind.i64 ∧ a = a) ∧ (True ∧ (True ∧ s = s) ∧ (True ∧ i = i) ∧ ((0 : Nat) = (0 : Nat) ∧ n = n) ∧ True) ∧ (True ∧ (True ∧ (0 
  : Int) = (0 : Int)) ∧ (True ∧ (0 : Int) = (0 : Int)) ∧ Value.slice none (0 : Nat) (0 : Nat) = Value.slice none (0 : Nat) (0 : Nat) ∧ True) ∧ (True ∧ (True ∧ s = s) ∧ (True ∧ i = i) 
  ∧ ((5 : Nat) = (5 : Nat) ∧ n = n) ∧ True) ∧ (True ∧ True ∧ List.replicate (Int.toNat (↑n : Int) * (3 : Nat)) (Sc.mk ((0 : Int)) ([])) = List.replicate (n * (3 : Nat)) (Sc.mk ((0 : Int)) 
  ([]))) ∧ True) ∧ True) ∧ True) ∧ True) ∧ ((At ((0 : Int) ≤ (↑n : Int) ∧ (↑n : Int) ≤ (↑n : Int) ∧ (↑n : Int) ≤ (1000000000 : Int)) ∧ (True ∧ (((1 : Nat) = (1 : Nat) ∧ m = m) ∧ ((2 : 
  Nat) = (2 : Nat) ∧ (0 : Nat) = (0 : Nat)) ∧ ((3 : Nat) = (3 : Nat) ∧ (0 : Nat) = (0 : Nat)) ∧ ((4 : Nat) = (4 : Nat) ∧ (0 : Nat) = (0 : Nat)) ∧ True) ∧ ((True ∧ True ∧ c = c) ∧ (True 
  ∧ IntKind.i64 = IntKind.i64 ∧ a = a) ∧ (True ∧ (True ∧ s = s) ∧ (True ∧ i = i) ∧ ((0 : Nat) = (0 : Nat) ∧ n = n) ∧ True) ∧ (True ∧ (True ∧ (0 : Int) = (0 : Int)) ∧ (True ∧ (0 : Int) 
  = (0 : Int)) ∧ Value.slice none (0 : Nat) (0 : Nat) = Value.slice none (0 : Nat) (0 : Nat) ∧ True) ∧ (True ∧ (True ∧ s = s) ∧ (True ∧ i = i) ∧ ((5 : Nat) = (5 : Nat) ∧ n = n) ∧ True) 
  ∧ (True ∧ True ∧ List.replicate (Int.toNat (↑n : Int) * (3 : Nat)) (Sc.mk ((0 : Int)) ([])) = List.replicate (n * (3 : Nat)) (Sc.mk ((0 : Int)) ([]))) ∧ True) ∧ True) ∧ True) ∧ True) 
  ∧ True) ∧ (At ((0 : Int) ≤ (↑n : Int) ∧ (↑n : Int) ≤ (↑n : Int) ∧ (↑n : Int) ≤ (1000000000 : Int)) ∧ (((True ∧ (((1 : Nat) = (1 : Nat) ∧ m = m) ∧ ((2 : Nat) = (2 : Nat) ∧ (0 : Nat) 
  = (0 : Nat)) ∧ ((3 : Nat) = (3 : Nat) ∧ (0 : Nat) = (0 : Nat)) ∧ ((4 : Nat) = (4 : Nat) ∧ (0 : Nat) = (0 : Nat)) ∧ True) ∧ ((True ∧ True ∧ c = c) ∧ (True ∧ IntKind.i64 = IntKind.i64 
  ∧ a = a) ∧ (True ∧ (True ∧ s = s) ∧ (True ∧ i = i) ∧ ((0 : Nat) = (0 : Nat) ∧ n = n) ∧ True) ∧ (True ∧ (True ∧ (0 : Int) = (0 : Int)) ∧ (True ∧ (0 : Int) = (0 : Int)) ∧ Value.slice 
  none (0 : Nat) (0 : Nat) = Value.slice none (0 : Nat) (0 : Nat) ∧ True) ∧ (True ∧ (True ∧ s = s) ∧ (True ∧ i = i) ∧ ((5 : Nat) = (5 : Nat) ∧ n = n) ∧ True) ∧ (True ∧ True ∧ List.replicate 
  (Int.toNat (↑n : Int) * (3 : Nat)) (Sc.mk ((0 : Int)) ([])) = List.replicate (n * (3 : Nat)) (Sc.mk ((0 : Int)) ([]))) ∧ True) ∧ True) ∧ True) ∧ True) ∧ ((True ∧ (((1 : Nat) = (1 : 
  Nat) ∧ m = m) ∧ ((2 : Nat) = (2 : Nat) ∧ (0 : Nat) = (0 : Nat)) ∧ ((3 : Nat) = (3 : Nat) ∧ (0 : Nat) = (0 : Nat)) ∧ ((4 : Nat) = (4 : Nat) ∧ (0 : Nat) = (0 : Nat)) ∧ True) ∧ ((True 
  ∧ True ∧ c = c) ∧ (True ∧ IntKind.i64 = IntKind.i64 ∧ a = a) ∧ (True ∧ (True ∧ s = s) ∧ (True ∧ i = i) ∧ ((0 : Nat) = (0 : Nat) ∧ n = n) ∧ True) ∧ (True ∧ (True ∧ (0 : Int) = (0 : Int)) 
  ∧ (True ∧ (0 : Int) = (0 : Int)) ∧ Value.slice none (0 : Nat) (0 : Nat) = Value.slice none (0 : Nat) (0 : Nat) ∧ True) ∧ (True ∧ (True ∧ s = s) ∧ (True ∧ i = i) ∧ ((5 : Nat) = (5 : 
  Nat) ∧ n = n) ∧ True) ∧ (True ∧ True ∧ List.replicate (Int.toNat (↑n : Int) * (3 : Nat)) (Sc.mk ((0 : Int)) ([])) = List.replicate (n * (3 : Nat)) (Sc.mk ((0 : Int)) ([]))) ∧ True) 
  ∧ True) ∧ True) ∧ True) ∧ (((At ((0 : Int) ≤ (↑n : Int) ∧ (↑n : Int) ≤ (↑n : Int) ∧ (↑n : Int) ≤ (1000000000 : Int)) ∧ (True ∧ (((1 : Nat) = (1 : Nat) ∧ m = m) ∧ ((2 : Nat) = (2 : Nat) 
  ∧ (0 : Nat) = (0 : Nat)) ∧ ((3 : Nat) = (3 : Nat) ∧ (0 : Nat) = (0 : Nat)) ∧ ((4 : Nat) = (4 : Nat) ∧ (0 : Nat) = (0 : Nat)) ∧ True) ∧ ((True ∧ True ∧ c = c) ∧ (True ∧ IntKind.i64 = 
  IntKind.i64 ∧ a = a) ∧ (True ∧ (True ∧ s = s) ∧ (True ∧ i = i) ∧ ((0 : Nat) = (0 : Nat) ∧ n = n) ∧ True) ∧ (True ∧ (True ∧ (0 : Int) = (0 : Int)) ∧ (True ∧ (0 : Int) = (0 : Int)) ∧ 
  Value.slice none (0 : Nat) (0 : Nat) = Value.slice none (0 : Nat) (0 : Nat) ∧ True) ∧ (True ∧ (True ∧ s = s) ∧ (True ∧ i = i) ∧ ((5 : Nat) = (5 : Nat) ∧ n = n) ∧ True) ∧ (True ∧ True 
  ∧ List.replicate (Int.toNat (↑n : Int) * (3 : Nat)) (Sc.mk ((0 : Int)) ([])) = List.replicate (n * (3 : Nat)) (Sc.mk ((0 : Int)) ([]))) ∧ True) ∧ True) ∧ True) ∧ True) ∧ (At ((0 : Int) 
  ≤ (↑n : Int) ∧ (↑n : Int) ≤ (↑n : Int) ∧ (↑n : Int) ≤ (1000000000 : Int)) ∧ (True ∧ (((1 : Nat) = (1 : Nat) ∧ m = m) ∧ ((2 : Nat) = (2 : Nat) ∧ (0 : Nat) = (0 : Nat)) ∧ ((3 : Nat) = 
  (3 : Nat) ∧ (0 : Nat) = (0 : Nat)) ∧ ((4 : Nat) = (4 : Nat) ∧ (0 : Nat) = (0 : Nat)) ∧ True) ∧ ((True ∧ True ∧ c = c) ∧ (True ∧ IntKind.i64 = IntKind.i64 ∧ a = a) ∧ (True ∧ (True ∧ 
  s = s) ∧ (True ∧ i = i) ∧ ((0 : Nat) = (0 : Nat) ∧ n = n) ∧ True) ∧ (True ∧ (True ∧ (0 : Int) = (0 : Int)) ∧ (True ∧ (0 : Int) = (0 : Int)) ∧ Value.slice none (0 : Nat) (0 : Nat) = 
  Value.slice none (0 : Nat) (0 : Nat) ∧ True) ∧ (True ∧ (True ∧ s = s) ∧ (True ∧ i = i) ∧ ((5 : Nat) = (5 : Nat) ∧ n = n) ∧ True) ∧ (True ∧ True ∧ List.replicate (Int.toNat (↑n : Int) 
  * (3 : Nat)) (Sc.mk ((0 : Int)) ([])) = List.replicate (n * (3 : Nat)) (Sc.mk ((0 : Int)) ([]))) ∧ True) ∧ True) ∧ True) ∧ True) ∧ True) ∧ (((At ((0 : Int) ≤ (↑n : Int) ∧ (↑n : Int) 
  ≤ (↑n : Int) ∧ (↑n : Int) ≤ (1000000000 : Int)) ∧ ((True ∧ (((1 : Nat) = (1 : Nat) ∧ m = m) ∧ ((2 : Nat) = (2 : Nat) ∧ (0 : Nat) = (0 : Nat)) ∧ ((3 : Nat) = (3 : Nat) ∧ (0 : Nat) = 
  (0 : Nat)) ∧ ((4 : Nat) = (4 : Nat) ∧ (0 : Nat) = (0 : Nat)) ∧ True) ∧ ((True ∧ True ∧ c = c) ∧ (True ∧ IntKind.i64 = IntKind.i64 ∧ a = a) ∧ (True ∧ (True ∧ s = s) ∧ (True ∧ i = i) 
  ∧ ((0 : Nat) = (0 : Nat) ∧ n = n) ∧ True) ∧ (True ∧ (True ∧ (0 : Int) = (0 : Int)) ∧ (True ∧ (0 : Int) = (0 : Int)) ∧ Value.slice none (0 : Nat) (0 : Nat) = Value.slice none (0 : Nat) 
  (0 : Nat) ∧ True) ∧ (True ∧ (True ∧ s = s) ∧ (True ∧ i = i) ∧ ((5 : Nat) = (5 : Nat) ∧ n = n) ∧ True) ∧ (True ∧ True ∧ List.replicate (Int.toNat (↑n : Int) * (3 : Nat)) (Sc.mk ((0 : 
  Int)) ([])) = List.replicate (n * (3 : Nat)) (Sc.mk ((0 : Int)) ([]))) ∧ True) ∧ True) ∧ True) ∧ True) ∧ ((At ((0 : Int) ≤ (↑n : Int) ∧ (↑n : Int) ≤ (↑n : Int) ∧ (↑n : Int) ≤ (1000000000 
  : Int)) ∧ (True ∧ (((1 : Nat) = (1 : Nat) ∧ m = m) ∧ ((2 : Nat) = (2 : Nat) ∧ (0 : Nat) = (0 : Nat)) ∧ ((3 : Nat) = (3 : Nat) ∧ (0 : Nat) = (0 : Nat)) ∧ ((4 : Nat) = (4 : Nat) ∧ (0 
  : Nat) = (0 : Nat)) ∧ True) ∧ ((True ∧ True ∧ c = c) ∧ (True ∧ IntKind.i64 = IntKind.i64 ∧ a = a) ∧ (True ∧ (True ∧ s = s) ∧ (True ∧ i = i) ∧ ((0 : Nat) = (0 : Nat) ∧ n = n) ∧ True) 
  ∧ (True ∧ (True ∧ (0 : Int) = (0 : Int)) ∧ (True ∧ (0 : Int) = (0 : Int)) ∧ Value.slice none (0 : Nat) (0 : Nat) = Value.slice none (0 : Nat) (0 : Nat) ∧ True) ∧ (True ∧ (True ∧ s = 
  s) ∧ (True ∧ i = i) ∧ ((5 : Nat) = (5 : Nat) ∧ n = n) ∧ True) ∧ (True ∧ True ∧ List.replicate (Int.toNat (↑n : Int) * (3 : Nat)) (Sc.mk ((0 : Int)) ([])) = List.replicate (n * (3 : 
  Nat)) (Sc.mk ((0 : Int)) ([]))) ∧ True) ∧ True) ∧ True) ∧ True) ∧ True) ∧ (At ((0 : Int) ≤ (↑n : Int) ∧ (↑n : Int) ≤ (↑n : Int) ∧ (↑n : Int) ≤ (1000000000 : Int)) ∧ (((True ∧ (((1 : 
  Nat) = (1 : Nat) ∧ m = m) ∧ ((2 : Nat) = (2 : Nat) ∧ (0 : Nat) = (0 : Nat)) ∧ ((3 : Nat) = (3 : Nat) ∧ (0 : Nat) = (0 : Nat)) ∧ ((4 : Nat) = (4 : Nat) ∧ (0 : Nat) = (0 : Nat)) ∧ True) 
  ∧ ((True ∧ True ∧ c = c) ∧ (True ∧ IntKind.i64 = IntKind.i64 ∧ a = a) ∧ (True ∧ (True ∧ s = s) ∧ (True ∧ i = i) ∧ ((0 : Nat) = (0 : Nat) ∧ n = n) ∧ True) ∧ (True ∧ (True ∧ (0 : Int) 
  = (0 : Int)) ∧ (True ∧ (0 : Int) = (0 : Int)) ∧ Value.slice none (0 : Nat) (0 : Nat) = Value.slice none (0 : Nat) (0 : Nat) ∧ True) ∧ (True ∧ (True ∧ s = s) ∧ (True ∧ i = i) ∧ ((5 : 
  Nat) = (5 : Nat) ∧ n = n) ∧ True) ∧ (True ∧ True ∧ List.replicate (Int.toNat (↑n : Int) * (3 : Nat)) (Sc.mk ((0 : Int)) ([])) = List.replicate (n * (3 : Nat)) (Sc.mk ((0 : Int)) ([]))) 
  ∧ True) ∧ True) ∧ True) ∧ True) ∧ ((True ∧ (((1 : Nat) = (1 : Nat) ∧ m = m) ∧ ((2 : Nat) = (2 : Nat) ∧ (0 : Nat) = (0 : Nat)) ∧ ((3 : Nat) = (3 : Nat) ∧ (0 : Nat) = (0 : Nat)) ∧ ((4 
  : Nat) = (4 : Nat) ∧ (0 : Nat) = (0 : Nat)) ∧ True) ∧ ((True ∧ True ∧ c = c) ∧ (True ∧ IntKind.i64 = IntKind.i64 ∧ a = a) ∧ (True ∧ (True ∧ s = s) ∧ (True ∧ i = i) ∧ ((0 : Nat) = (0 
  : Nat) ∧ n = n) ∧ True) ∧ (True ∧ (True ∧ (0 : Int) = (0 : Int)) ∧ (True ∧ (0 : Int) = (0 : Int)) ∧ Value.slice none (0 : Nat) (0 : Nat) = Value.slice none (0 : Nat) (0 : Nat) ∧ True) 
  ∧ (True ∧ (True ∧ s = s) ∧ (True ∧ i = i) ∧ ((5 : Nat) = (5 : Nat) ∧ n = n) ∧ True) ∧ (True ∧ True ∧ List.replicate (Int.toNat (↑n : Int) * (3 : Nat)) (Sc.mk ((0 : Int)) ([])) = List.replicate 
  (n * (3 : Nat)) (Sc.mk ((0 : Int)) ([]))) ∧ True) ∧ True) ∧ True) ∧ True) ∧ (((At ((0 : Int) ≤ (↑n : Int) ∧ (↑n : Int) ≤ (↑n : Int) ∧ (↑n : Int) ≤ (1000000000 : Int)) ∧ (True ∧ (((1 
  : Nat) = (1 : Nat) ∧ m = m) ∧ ((2 : Nat) = (2 : Nat) ∧ (0 : Nat) = (0 : Nat)) ∧ ((3 : Nat) = (3 : Nat) ∧ (0 : Nat) = (0 : Nat)) ∧ ((4 : Nat) = (4 : Nat) ∧ (0 : Nat) = (0 : Nat)) ∧ True) 
  ∧ ((True ∧ True ∧ c = c) ∧ (True ∧ IntKind.i64 = IntKind.i64 ∧ a = a) ∧ (True ∧ (True ∧ s = s) ∧ (True ∧ i = i) ∧ ((0 : Nat) = (0 : Nat) ∧ n = n) ∧ True) ∧ (True ∧ (True ∧ (0 : Int) 
  = (0 : Int)) ∧ (True ∧ (0 : Int) = (0 : Int)) ∧ Value.slice none (0 : Nat) (0 : Nat) = Value.slice none (0 : Nat) (0 : Nat) ∧ True) ∧ (True ∧ (True ∧ s = s) ∧ (True ∧ i = i) ∧ ((5 : 
  Nat) = (5 : Nat) ∧ n = n) ∧ True) ∧ (True ∧ True ∧ List.replicate (Int.toNat (↑n : Int) * (3 : Nat)) (Sc.mk ((0 : Int)) ([])) = List.replicate (n * (3 : Nat)) (Sc.mk ((0 : Int)) ([]))) 
  ∧ True) ∧ True) ∧ True) ∧ True) ∧ (At ((0 : Int) ≤ (↑n : Int) ∧ (↑n : Int) ≤ (↑n : Int) ∧ (↑n : Int) ≤ (1000000000 : Int)) ∧ (True ∧ (((1 : Nat) = (1 : Nat) ∧ m = m) ∧ ((2 : Nat) = 
  (2 : Nat) ∧ (0 : Nat) = (0 : Nat)) ∧ ((3 : Nat) = (3 : Nat) ∧ (0 : Nat) = (0 : Nat)) ∧ ((4 : Nat) = (4 : Nat) ∧ (0 : Nat) = (0 : Nat)) ∧ True) ∧ ((True ∧ True ∧ c = c) ∧ (True ∧ IntKind.i64 
  = IntKind.i64 ∧ a = a) ∧ (True ∧ (True ∧ s = s) ∧ (True ∧ i = i) ∧ ((0 : Nat) = (0 : Nat) ∧ n = n) ∧ True) ∧ (True ∧ (True ∧ (0 : Int) = (0 : Int)) ∧ (True ∧ (0 : Int) = (0 : Int)) 
  ∧ Value.slice none (0 : Nat) (0 : Nat) = Value.slice none (0 : Nat) (0 : Nat) ∧ True) ∧ (True ∧ (True ∧ s = s) ∧ (True ∧ i = i) ∧ ((5 : Nat) = (5 : Nat) ∧ n = n) ∧ True) ∧ (True ∧ True 
  ∧ List.replicate (Int.toNat (↑n : Int) * (3 : Nat)) (Sc.mk ((0 : Int)) ([])) = List.replicate (n * (3 : Nat)) (Sc.mk ((0 : Int)) ([]))) ∧ True) ∧ True) ∧ True) ∧ True) ∧ True) ∧ (At 
  ((0 : Int) ≤ (↑n : Int) ∧ (↑n : Int) ≤ (↑n : Int) ∧ (↑n : Int) ≤ (1000000000 : Int)) ∧ ((((True ∧ (((1 : Nat) = (1 : Nat) ∧ m = m) ∧ ((2 : Nat) = (2 : Nat) ∧ (0 : Nat) = (0 : Nat)) 
  ∧ ((3 : Nat) = (3 : Nat) ∧ (0 : Nat) = (0 : Nat)) ∧ ((4 : Nat) = (4 : Nat) ∧ (0 : Nat) = (0 : Nat)) ∧ True) ∧ ((True ∧ True ∧ c = c) ∧ (True ∧ IntKind.i64 = IntKind.i64 ∧ a = a) ∧ (True 
  ∧ (True ∧ s = s) ∧ (True ∧ i = i) ∧ ((0 : Nat) = (0 : Nat) ∧ n = n) ∧ True) ∧ (True ∧ (True ∧ (0 : Int) = (0 : Int)) ∧ (True ∧ (0 : Int) = (0 : Int)) ∧ Value.slice none (0 : Nat) (0 
  : Nat) = Value.slice none (0 : Nat) (0 : Nat) ∧ True) ∧ (True ∧ (True ∧ s = s) ∧ (True ∧ i = i) ∧ ((5 : Nat) = (5 : Nat) ∧ n = n) ∧ True) ∧ (True ∧ True ∧ List.replicate (Int.toNat 
  (↑n : Int) * (3 : Nat)) (Sc.mk ((0 : Int)) ([])) = List.replicate (n * (3 : Nat)) (Sc.mk ((0 : Int)) ([]))) ∧ True) ∧ True) ∧ True) ∧ True) ∧ ((True ∧ (((1 : Nat) = (1 : Nat) ∧ m = 
  m) ∧ ((2 : Nat) = (2 : Nat) ∧ (0 : Nat) = (0 : Nat)) ∧ ((3 : Nat) = (3 : Nat) ∧ (0 : Nat) = (0 : Nat)) ∧ ((4 : Nat) = (4 : Nat) ∧ (0 : Nat) = (0 : Nat)) ∧ True) ∧ ((True ∧ True ∧ c 
  = c) ∧ (True ∧ IntKind.i64 = IntKind.i64 ∧ a = a) ∧ (True ∧ (True ∧ s = s) ∧ (True ∧ i = i) ∧ ((0 : Nat) = (0 : Nat) ∧ n = n) ∧ True) ∧ (True ∧ (True ∧ (0 : Int) = (0 : Int)) ∧ (True 
  ∧ (0 : Int) = (0 : Int)) ∧ Value.slice none (0 : Nat) (0 : Nat) = Value.slice none (0 : Nat) (0 : Nat) ∧ True) ∧ (True ∧ (True ∧ s = s) ∧ (True ∧ i = i) ∧ ((5 : Nat) = (5 : Nat) ∧ n 
  = n) ∧ True) ∧ (True ∧ True ∧ List.replicate (Int.toNat (↑n : Int) * (3 : Nat)) (Sc.mk ((0 : Int)) ([])) = List.replicate (n * (3 : Nat)) (Sc.mk ((0 : Int)) ([]))) ∧ True) ∧ True) ∧ 
  True) ∧ True) ∧ ((((True ∧ (((1 : Nat) = (1 : Nat) ∧ m = m) ∧ ((2 : Nat) = (2 : Nat) ∧ (0 : Nat) = (0 : Nat)) ∧ ((3 : Nat) = (3 : Nat) ∧ (0 : Nat) = (0 : Nat)) ∧ ((4 : Nat) = (4 : Nat) 
  ∧ (0 : Nat) = (0 : Nat)) ∧ True) ∧ ((True ∧ True ∧ c = c) ∧ (True ∧ IntKind.i64 = IntKind.i64 ∧ a = a) ∧ (True ∧ (True ∧ s = s) ∧ (True ∧ i = i) ∧ ((0 : Nat) = (0 : Nat) ∧ n = n) ∧ 
  True) ∧ (True ∧ (True ∧ (0 : Int) = (0 : Int)) ∧ (True ∧ (0 : Int) = (0 : Int)) ∧ Value.slice none (0 : Nat) (0 : Nat) = Value.slice none (0 : Nat) (0 : Nat) ∧ True) ∧ (True ∧ (True 
  ∧ s = s) ∧ (True ∧ i = i) ∧ ((5 : Nat) = (5 : Nat) ∧ n = n) ∧ True) ∧ (True ∧ True ∧ List.replicate (Int.toNat (↑n : Int) * (3 : Nat)) (Sc.mk ((0 : Int)) ([])) = List.replicate (n * 
  (3 : Nat)) (Sc.mk ((0 : Int)) ([]))) ∧ True) ∧ True) ∧ True) ∧ True) ∧ ((True ∧ (((1 : Nat) = (1 : Nat) ∧ m = m) ∧ ((2 : Nat) = (2 : Nat) ∧ (0 : Nat) = (0 : Nat)) ∧ ((3 : Nat) = (3 
  : Nat) ∧ (0 : Nat) = (0 : Nat)) ∧ ((4 : Nat) = (4 : Nat) ∧ (0 : Nat) = (0 : Nat)) ∧ True) ∧ ((True ∧ True ∧ c = c) ∧ (True ∧ IntKind.i64 = IntKind.i64 ∧ a = a) ∧ (True ∧ (True ∧ s = 
  s) ∧ (True ∧ i = i) ∧ ((0 : Nat) = (0 : Nat) ∧ n = n) ∧ True) ∧ (True ∧ (True ∧ (0 : Int) = (0 : Int)) ∧ (True ∧ (0 : Int) = (0 : Int)) ∧ Value.slice none (0 : Nat) (0 : Nat) = Value.slice 
  none (0 : Nat) (0 : Nat) ∧ True) ∧ (True ∧ (True ∧ s = s) ∧ (True ∧ i = i) ∧ ((5 : Nat) = (5 : Nat) ∧ n = n) ∧ True) ∧ (True ∧ True ∧ List.replicate (Int.toNat (↑n : Int) * (3 : Nat)) 
  (Sc.mk ((0 : Int)) ([])) = List.replicate (n * (3 : Nat)) (Sc.mk ((0 : Int)) ([]))) ∧ True) ∧ True) ∧ True) ∧ True) ∧ ((True ∧ (((1 : Nat) = (1 : Nat) ∧ m = m) ∧ ((2 : Nat) = (2 : Nat) 
  ∧ (0 : Nat) = (0 : Nat)) ∧ ((3 : Nat) = (3 : Nat) ∧ (0 : Nat) = (0 : Nat)) ∧ ((4 : Nat) = (4 : Nat) ∧ (0 : Nat) = (0 : Nat)) ∧ True) ∧ ((True ∧ True ∧ c = c) ∧ (True ∧ IntKind.i64 = 
  IntKind.i64 ∧ a = a) ∧ (True ∧ (True ∧ s = s) ∧ (True ∧ i = i) ∧ ((0 : Nat) = (0 : Nat) ∧ n = n) ∧ True) ∧ (True ∧ (True ∧ (0 : Int) = (0 : Int)) ∧ (True ∧ (0 : Int) = (0 : Int)) ∧ 
  Value.slice none (0 : Nat) (0 : Nat) = Value.slice none (0 : Nat) (0 : Nat) ∧ True) ∧ (True ∧ (True ∧ s = s) ∧ (True ∧ i = i) ∧ ((5 : Nat) = (5 : Nat) ∧ n = n) ∧ True) ∧ (True ∧ True 
  ∧ List.replicate (Int.toNat (↑n : Int) * (3 : Nat)) (Sc.mk ((0 : Int)) ([])) = List.replicate (n * (3 : Nat)) (Sc.mk ((0 : Int)) ([]))) ∧ True) ∧ True) ∧ True) ∧ True) ∧ ((((At ((0 
  : Int) ≤ (↑n : Int) ∧ (↑n : Int) ≤ (↑n : Int) ∧ (↑n : Int) ≤ (1000000000 : Int)) ∧ (True ∧ (((1 : Nat) = (1 : Nat) ∧ m = m) ∧ ((2 : Nat) = (2 : Nat) ∧ (0 : Nat) = (0 : Nat)) ∧ ((3 : 
  Nat) = (3 : Nat) ∧ (0 : Nat) = (0 : Nat)) ∧ ((4 : Nat) = (4 : Nat) ∧ (0 : Nat) = (0 : Nat)) ∧ True) ∧ ((True ∧ True ∧ c = c) ∧ (True ∧ IntKind.i64 = IntKind.i64 ∧ a = a) ∧ (True ∧ (True 
  ∧ s = s) ∧ (True ∧ i = i) ∧ ((0 : Nat) = (0 : Nat) ∧ n = n) ∧ True) ∧ (True ∧ (True ∧ (0 : Int) = (0 : Int)) ∧ (True ∧ (0 : Int) = (0 : Int)) ∧ Value.slice none (0 : Nat) (0 : Nat) 
  = Value.slice none (0 : Nat) (0 : Nat) ∧ True) ∧ (True ∧ (True ∧ s = s) ∧ (True ∧ i = i) ∧ ((5 : Nat) = (5 : Nat) ∧ n = n) ∧ True) ∧ (True ∧ True ∧ List.replicate (Int.toNat (↑n : Int) 
  * (3 : Nat)) (Sc.mk ((0 : Int)) ([])) = List.replicate (n * (3 : Nat)) (Sc.mk ((0 : Int)) ([]))) ∧ True) ∧ True) ∧ True) ∧ True) ∧ (At ((0 : Int) ≤ (↑n : Int) ∧ (↑n : Int) ≤ (↑n : Int) 
  ∧ (↑n : Int) ≤ (1000000000 : Int)) ∧ (True ∧ (((1 : Nat) = (1 : Nat) ∧ m = m) ∧ ((2 : Nat) = (2 : Nat) ∧ (0 : Nat) = (0 : Nat)) ∧ ((3 : Nat) = (3 : Nat) ∧ (0 : Nat) = (0 : Nat)) ∧ ((4 
  : Nat) = (4 : Nat) ∧ (0 : Nat) = (0 : Nat)) ∧ True) ∧ ((True ∧ True ∧ c = c) ∧ (True ∧ IntKind.i64 = IntKind.i64 ∧ a = a) ∧ (True ∧ (True ∧ s = s) ∧ (True ∧ i = i) ∧ ((0 : Nat) = (0 
  : Nat) ∧ n = n) ∧ True) ∧ (True ∧ (True ∧ (0 : Int) = (0 : Int)) ∧ (True ∧ (0 : Int) = (0 : Int)) ∧ Value.slice none (0 : Nat) (0 : Nat) = Value.slice none (0 : Nat) (0 : Nat) ∧ True) 
  ∧ (True ∧ (True ∧ s = s) ∧ (True ∧ i = i) ∧ ((5 : Nat) = (5 : Nat) ∧ n = n) ∧ True) ∧ (True ∧ True ∧ List.replicate (Int.toNat (↑n : Int) * (3 : Nat)) (Sc.mk ((0 : Int)) ([])) = List.replicate 
  (n * (3 : Nat)) (Sc.mk ((0 : Int)) ([]))) ∧ True) ∧ True) ∧ True) ∧ True) ∧ (((At ((0 : Int) ≤ (↑n : Int) ∧ (↑n : Int) ≤ (↑n : Int) ∧ (↑n : Int) ≤ (1000000000 : Int)) ∧ (True ∧ (((1 
  : Nat) = (1 : Nat) ∧ m = m) ∧ ((2 : Nat) = (2 : Nat) ∧ (0 : Nat) = (0 : Nat)) ∧ ((3 : Nat) = (3 : Nat) ∧ (0 : Nat) = (0 : Nat)) ∧ ((4 : Nat) = (4 : Nat) ∧ (0 : Nat) = (0 : Nat)) ∧ True) 
  ∧ ((True ∧ True ∧ c = c) ∧ (True ∧ IntKind.i64 = IntKind.i64 ∧ a = a) ∧ (True ∧ (True ∧ s = s) ∧ (True ∧ i = i) ∧ ((0 : Nat) = (0 : Nat) ∧ n = n) ∧ True) ∧ (True ∧ (True ∧ (0 : Int) 
  = (0 : Int)) ∧ (True ∧ (0 : Int) = (0 : Int)) ∧ Value.slice none (0 : Nat) (0 : Nat) = Value.slice none (0 : Nat) (0 : Nat) ∧ True) ∧ (True ∧ (True ∧ s = s) ∧ (True ∧ i = i) ∧ ((5 : 
  Nat) = (5 : Nat) ∧ n = n) ∧ True) ∧ (True ∧ True ∧ List.replicate (Int.toNat (↑n : Int) * (3 : Nat)) (Sc.mk ((0 : Int)) ([])) = List.replicate (n * (3 : Nat)) (Sc.mk ((0 : Int)) ([]))) 
  ∧ True) ∧ True) ∧ True) ∧ True) ∧ (At ((0 : Int) ≤ (↑n : Int) ∧ (↑n : Int) ≤ (↑n : Int) ∧ (↑n : Int) ≤ (1000000000 : Int)) ∧ (True ∧ (((1 : Nat) = (1 : Nat) ∧ m = m) ∧ ((2 : Nat) = 
  (2 : Nat) ∧ (0 : Nat) = (0 : Nat)) ∧ ((3 : Nat) = (3 : Nat) ∧ (0 : Nat) = (0 : Nat)) ∧ ((4 : Nat) = (4 : Nat) ∧ (0 : Nat) = (0 : Nat)) ∧ True) ∧ ((True ∧ True ∧ c = c) ∧ (True ∧ IntKind.i64 
  = IntKind.i64 ∧ a = a) ∧ (True ∧ (True ∧ s = s) ∧ (True ∧ i = i) ∧ ((0 : Nat) = (0 : Nat) ∧ n = n) ∧ True) ∧ (True ∧ (True ∧ (0 : Int) = (0 : Int)) ∧ (True ∧ (0 : Int) = (0 : Int)) 
  ∧ Value.slice none (0 : Nat) (0 : Nat) = Value.slice none (0 : Nat) (0 : Nat) ∧ True) ∧ (True ∧ (True ∧ s = s) ∧ (True ∧ i = i) ∧ ((5 : Nat) = (5 : Nat) ∧ n = n) ∧ True) ∧ (True ∧ True 
  ∧ List.replicate (Int.toNat (↑n : Int) * (3 : Nat)) (Sc.mk ((0 : Int)) ([])) = List.replicate (n * (3 : Nat)) (Sc.mk ((0 : Int)) ([]))) ∧ True) ∧ True) ∧ True) ∧ True) ∧ (At ((0 : Int) 
  ≤ (↑n : Int) ∧ (↑n : Int) ≤ (↑n : Int) ∧ (↑n : Int) ≤ (1000000000 : Int)) ∧ (True ∧ (((1 : Nat) = (1 : Nat) ∧ m = m) ∧ ((2 : Nat) = (2 : Nat) ∧ (0 : Nat) = (0 : Nat)) ∧ ((3 : Nat) = 
  (3 : Nat) ∧ (0 : Nat) = (0 : Nat)) ∧ ((4 : Nat) = (4 : Nat) ∧ (0 : Nat) = (0 : Nat)) ∧ True) ∧ ((True ∧ True ∧ c = c) ∧ (True ∧ IntKind.i64 = IntKind.i64 ∧ a = a) ∧ (True ∧ (True ∧ 
  s = s) ∧ (True ∧ i = i) ∧ ((0 : Nat) = (0 : Nat) ∧ n = n) ∧ True) ∧ (True ∧ (True ∧ (0 : Int) = (0 : Int)) ∧ (True ∧ (0 : Int) = (0 : Int)) ∧ Value.slice none (0 : Nat) (0 : Nat) = 
  Value.slice none (0 : Nat) (0 : Nat) ∧ True) ∧ (True ∧ (True ∧ s = s) ∧ (True ∧ i = i) ∧ ((5 : Nat) = (5 : Nat) ∧ n = n) ∧ True) ∧ (True ∧ True ∧ List.replicate (Int.toNat (↑n : Int) 
  * (3 : Nat)) (Sc.mk ((0 : Int)) ([])) = List.replicate (n * (3 : Nat)) (Sc.mk ((0 : Int)) ([]))) ∧ True) ∧ True) ∧ True) ∧ True) ∧ True) ∧ (((((At ((0 : Int) ≤ (↑n : Int) ∧ (↑n : Int) 
  ≤ (↑n : Int) ∧ (↑n : Int) ≤ (1000000000 : Int)) ∧ (True ∧ (((1 : Nat) = (1 : Nat) ∧ m = m) ∧ ((2 : Nat) = (2 : Nat) ∧ (0 : Nat) = (0 : Nat)) ∧ ((3 : Nat) = (3 : Nat) ∧ (0 : Nat) = (0 
  : Nat)) ∧ ((4 : Nat) = (4 : Nat) ∧ (0 : Nat) = (0 : Nat)) ∧ True) ∧ ((True ∧ True ∧ c = c) ∧ (True ∧ IntKind.i64 = IntKind.i64 ∧ a = a) ∧ (True ∧ (True ∧ s = s) ∧ (True ∧ i = i) ∧ ((0 
  : Nat) = (0 : Nat) ∧ n = n) ∧ True) ∧ (True ∧ (True ∧ (0 : Int) = (0 : Int)) ∧ (True ∧ (0 : Int) = (0 : Int)) ∧ Value.slice none (0 : Nat) (0 : Nat) = Value.slice none (0 : Nat) (0 
  : Nat) ∧ True) ∧ (True ∧ (True ∧ s = s) ∧ (True ∧ i = i) ∧ ((5 : Nat) = (5 : Nat) ∧ n = n) ∧ True) ∧ (True ∧ True ∧ List.replicate (Int.toNat (↑n : Int) * (3 : Nat)) (Sc.mk ((0 : Int)) 
  ([])) = List.replicate (n * (3 : Nat)) (Sc.mk ((0 : Int)) ([]))) ∧ True) ∧ True) ∧ True) ∧ True) ∧ True) ∧ (((At ((0 : Int) ≤ (↑n : Int) ∧ (↑n : Int) ≤ (↑n : Int) ∧ (↑n : Int) ≤ (1000000000 
  : Int)) ∧ (True ∧ (((1 : Nat) = (1 : Nat) ∧ m = m) ∧ ((2 : Nat) = (2 : Nat) ∧ (0 : Nat) = (0 : Nat)) ∧ ((3 : Nat) = (3 : Nat) ∧ (0 : Nat) = (0 : Nat)) ∧ ((4 : Nat) = (4 : Nat) ∧ (0 
  : Nat) = (0 : Nat)) ∧ True) ∧ ((True ∧ True ∧ c = c) ∧ (True ∧ IntKind.i64 = IntKind.i64 ∧ a = a) ∧ (True ∧ (True ∧ s = s) ∧ (True ∧ i = i) ∧ ((0 : Nat) = (0 : Nat) ∧ n = n) ∧ True) 
  ∧ (True ∧ (True ∧ (0 : Int) = (0 : Int)) ∧ (True ∧ (0 : Int) = (0 : Int)) ∧ Value.slice none (0 : Nat) (0 : Nat) = Value.slice none (0 : Nat) (0 : Nat) ∧ True) ∧ (True ∧ (True ∧ s = 
  s) ∧ (True ∧ i = i) ∧ ((5 : Nat) = (5 : Nat) ∧ n = n) ∧ True) ∧ (True ∧ True ∧ List.replicate (Int.toNat (↑n : Int) * (3 : Nat)) (Sc.mk ((0 : Int)) ([])) = List.replicate (n * (3 : 
  Nat)) (Sc.mk ((0 : Int)) ([]))) ∧ True) ∧ True) ∧ True) ∧ True) ∧ (At ((0 : Int) ≤ (↑n : Int) ∧ (↑n : Int) ≤ (↑n : Int) ∧ (↑n : Int) ≤ (1000000000 : Int)) ∧ (True ∧ (((1 : Nat) = (1 
  : Nat) ∧ m = m) ∧ ((2 : Nat) = (2 : Nat) ∧ (0 : Nat) = (0 : Nat)) ∧ ((3 : Nat) = (3 : Nat) ∧ (0 : Nat) = (0 : Nat)) ∧ ((4 : Nat) = (4 : Nat) ∧ (0 : Nat) = (0 : Nat)) ∧ True) ∧ ((True 
  ∧ True ∧ c = c) ∧ (True ∧ IntKind.i64 = IntKind.i64 ∧ a = a) ∧ (True ∧ (True ∧ s = s) ∧ (True ∧ i = i) ∧ ((0 : Nat) = (0 : Nat) ∧ n = n) ∧ True) ∧ (True ∧ (True ∧ (0 : Int) = (0 : Int)) 
  ∧ (True ∧ (0 : Int) = (0 : Int)) ∧ Value.slice none (0 : Nat) (0 : Nat) = Value.slice none (0 : Nat) (0 : Nat) ∧ True) ∧ (True ∧ (True ∧ s = s) ∧ (True ∧ i = i) ∧ ((5 : Nat) = (5 : 
  Nat) ∧ n = n) ∧ True) ∧ (True ∧ True ∧ List.replicate (Int.toNat (↑n : Int) * (3 : Nat)) (Sc.mk ((0 : Int)) ([])) = List.replicate (n * (3 : Nat)) (Sc.mk ((0 : Int)) ([]))) ∧ True) 
  ∧ True) ∧ True) ∧ True) ∧ True) ∧ ((((At ((0 : Int) ≤ (↑n : Int) ∧ (↑n : Int) ≤ (↑n : Int) ∧ (↑n : Int) ≤ (1000000000 : Int)) ∧ (True ∧ (((1 : Nat) = (1 : Nat) ∧ m = m) ∧ ((2 : Nat) 
  = (2 : Nat) ∧ (0 : Nat) = (0 : Nat)) ∧ ((3 : Nat) = (3 : Nat) ∧ (0 : Nat) = (0 : Nat)) ∧ ((4 : Nat) = (4 : Nat) ∧ (0 : Nat) = (0 : Nat)) ∧ True) ∧ ((True ∧ True ∧ c = c) ∧ (True ∧ IntKind.i64 
  = IntKind.i64 ∧ a = a) ∧ (True ∧ (True ∧ s = s) ∧ (True ∧ i = i) ∧ ((0 : Nat) = (0 : Nat) ∧ n = n) ∧ True) ∧ (True ∧ (True ∧ (0 : Int) = (0 : Int)) ∧ (True ∧ (0 : Int) = (0 : Int)) 
  ∧ Value.slice none (0 : Nat) (0 : Nat) = Value.slice none (0 : Nat) (0 : Nat) ∧ True) ∧ (True ∧ (True ∧ s = s) ∧ (True ∧ i = i) ∧ ((5 : Nat) = (5 : Nat) ∧ n = n) ∧ True) ∧ (True ∧ True 
  ∧ List.replicate (Int.toNat (↑n : Int) * (3 : Nat)) (Sc.mk ((0 : Int)) ([])) = List.replicate (n * (3 : Nat)) (Sc.mk ((0 : Int)) ([]))) ∧ True) ∧ True) ∧ True) ∧ True) ∧ True) ∧ (((At 
  ((0 : Int) ≤ (↑n : Int) ∧ (↑n : Int) ≤ (↑n : Int) ∧ (↑n : Int) ≤ (1000000000 : Int)) ∧ (True ∧ (((1 : Nat) = (1 : Nat) ∧ m = m) ∧ ((2 : Nat) = (2 : Nat) ∧ (0 : Nat) = (0 : Nat)) ∧ ((3 
  : Nat) = (3 : Nat) ∧ (0 : Nat) = (0 : Nat)) ∧ ((4 : Nat) = (4 : Nat) ∧ (0 : Nat) = (0 : Nat)) ∧ True) ∧ ((True ∧ True ∧ c = c) ∧ (True ∧ IntKind.i64 = IntKind.i64 ∧ a = a) ∧ (True ∧ 
  (True ∧ s = s) ∧ (True ∧ i = i) ∧ ((0 : Nat) = (0 : Nat) ∧ n = n) ∧ True) ∧ (True ∧ (True ∧ (0 : Int) = (0 : Int)) ∧ (True ∧ (0 : Int) = (0 : Int)) ∧ Value.slice none (0 : Nat) (0 : 
  Nat) = Value.slice none (0 : Nat) (0 : Nat) ∧ True) ∧ (True ∧ (True ∧ s = s) ∧ (True ∧ i = i) ∧ ((5 : Nat) = (5 : Nat) ∧ n = n) ∧ True) ∧ (True ∧ True ∧ List.replicate (Int.toNat (↑n 
  : Int) * (3 : Nat)) (Sc.mk ((0 : Int)) ([])) = List.replicate (n * (3 : Nat)) (Sc.mk ((0 : Int)) ([]))) ∧ True) ∧ True) ∧ True) ∧ True) ∧ (At ((0 : Int) ≤ (↑n : Int) ∧ (↑n : Int) ≤ 
  (↑n : Int) ∧ (↑n : Int) ≤ (1000000000 : Int)) ∧ (True ∧ (((1 : Nat) = (1 : Nat) ∧ m = m) ∧ ((2 : Nat) = (2 : Nat) ∧ (0 : Nat) = (0 : Nat)) ∧ ((3 : Nat) = (3 : Nat) ∧ (0 : Nat) = (0 
  : Nat)) ∧ ((4 : Nat) = (4 : Nat) ∧ (0 : Nat) = (0 : Nat)) ∧ True) ∧ ((True ∧ True ∧ c = c) ∧ (True ∧ IntKind.i64 = IntKind.i64 ∧ a = a) ∧ (True ∧ (True ∧ s = s) ∧ (True ∧ i = i) ∧ ((0 
  : Nat) = (0 : Nat) ∧ n = n) ∧ True) ∧ (True ∧ (True ∧ (0 : Int) = (0 : Int)) ∧ (True ∧ (0 : Int) = (0 : Int)) ∧ Value.slice none (0 : Nat) (0 : Nat) = Value.slice none (0 : Nat) (0 
  : Nat) ∧ True) ∧ (True ∧ (True ∧ s = s) ∧ (True ∧ i = i) ∧ ((5 : Nat) = (5 : Nat) ∧ n = n) ∧ True) ∧ (True ∧ True ∧ List.replicate (Int.toNat (↑n : Int) * (3 : Nat)) (Sc.mk ((0 : Int)) 
  ([])) = List.replicate (n * (3 : Nat)) (Sc.mk ((0 : Int)) ([]))) ∧ True) ∧ True) ∧ True) ∧ True) ∧ True) ∧ ((((At ((0 : Int) ≤ (↑n : Int) ∧ (↑n : Int) ≤ (↑n : Int) ∧ (↑n : Int) ≤ (1000000000 
  : Int)) ∧ (True ∧ (((1 : Nat) = (1 : Nat) ∧ m = m) ∧ ((2 : Nat) = (2 : Nat) ∧ (0 : Nat) = (0 : Nat)) ∧ ((3 : Nat) = (3 : Nat) ∧ (0 : Nat) = (0 : Nat)) ∧ ((4 : Nat) = (4 : Nat) ∧ (0 
  : Nat) = (0 : Nat)) ∧ True) ∧ ((True ∧ True ∧ c = c) ∧ (True ∧ IntKind.i64 = IntKind.i64 ∧ a = a) ∧ (True ∧ (True ∧ s = s) ∧ (True ∧ i = i) ∧ ((0 : Nat) = (0 : Nat) ∧ n = n) ∧ True) 
  ∧ (True ∧ (True ∧ (0 : Int) = (0 : Int)) ∧ (True ∧ (0 : Int) = (0 : Int)) ∧ Value.slice none (0 : Nat) (0 : Nat) = Value.slice none (0 : Nat) (0 : Nat) ∧ True) ∧ (True ∧ (True ∧ s = 
  s) ∧ (True ∧ i = i) ∧ ((5 : Nat) = (5 : Nat) ∧ n = n) ∧ True) ∧ (True ∧ True ∧ List.replicate (Int.toNat (↑n : Int) * (3 : Nat)) (Sc.mk ((0 : Int)) ([])) = List.replicate (n * (3 : 
  Nat)) (Sc.mk ((0 : Int)) ([]))) ∧ True) ∧ True) ∧ True) ∧ True) ∧ (At ((0 : Int) ≤ (↑n : Int) ∧ (↑n : Int) ≤ (↑n : Int) ∧ (↑n : Int) ≤ (1000000000 : Int)) ∧ (True ∧ (((1 : Nat) = (1 
  : Nat) ∧ m = m) ∧ ((2 : Nat) = (2 : Nat) ∧ (0 : Nat) = (0 : Nat)) ∧ ((3 : Nat) = (3 : Nat) ∧ (0 : Nat) = (0 : Nat)) ∧ ((4 : Nat) = (4 : Nat) ∧ (0 : Nat) = (0 : Nat)) ∧ True) ∧ ((True 
  ∧ True ∧ c = c) ∧ (True ∧ IntKind.i64 = IntKind.i64 ∧ a = a) ∧ (True ∧ (True ∧ s = s) ∧ (True ∧ i = i) ∧ ((0 : Nat) = (0 : Nat) ∧ n = n) ∧ True) ∧ (True ∧ (True ∧ (0 : Int) = (0 : Int)) 
  ∧ (True ∧ (0 : Int) = (0 : Int)) ∧ Value.slice none (0 : Nat) (0 : Nat) = Value.slice none (0 : Nat) (0 : Nat) ∧ True) ∧ (True ∧ (True ∧ s = s) ∧ (True ∧ i = i) ∧ ((5 : Nat) = (5 : 
  Nat) ∧ n = n) ∧ True) ∧ (True ∧ True ∧ List.replicate (Int.toNat (↑n : Int) * (3 : Nat)) (Sc.mk ((0 : Int)) ([])) = List.replicate (n * (3 : Nat)) (Sc.mk ((0 : Int)) ([]))) ∧ True) 
  ∧ True) ∧ True) ∧ True) ∧ (((At ((0 : Int) ≤ (↑n : Int) ∧ (↑n : Int) ≤ (↑n : Int) ∧ (↑n : Int) ≤ (1000000000 : Int)) ∧ (True ∧ (((1 : Nat) = (1 : Nat) ∧ m = m) ∧ ((2 : Nat) = (2 : Nat) 
  ∧ (0 : Nat) = (0 : Nat)) ∧ ((3 : Nat) = (3 : Nat) ∧ (0 : Nat) = (0 : Nat)) ∧ ((4 : Nat) = (4 : Nat) ∧ (0 : Nat) = (0 : Nat)) ∧ True) ∧ ((True ∧ True ∧ c = c) ∧ (True ∧ IntKind.i64 = 
  IntKind.i64 ∧ a = a) ∧ (True ∧ (True ∧ s = s) ∧ (True ∧ i = i) ∧ ((0 : Nat) = (0 : Nat) ∧ n = n) ∧ True) ∧ (True ∧ (True ∧ (0 : Int) = (0 : Int)) ∧ (True ∧ (0 : Int) = (0 : Int)) ∧ 
  Value.slice none (0 : Nat) (0 : Nat) = Value.slice none (0 : Nat) (0 : Nat) ∧ True) ∧ (True ∧ (True ∧ s = s) ∧ (True ∧ i = i) ∧ ((5 : Nat) = (5 : Nat) ∧ n = n) ∧ True) ∧ (True ∧ True 
  ∧ List.replicate (Int.toNat (↑n : Int) * (3 : Nat)) (Sc.mk ((0 : Int)) ([])) = List.replicate (n * (3 : Nat)) (Sc.mk ((0 : Int)) ([]))) ∧ True) ∧ True) ∧ True) ∧ True) ∧ (At ((0 : Int) 
  ≤ (↑n : Int) ∧ (↑n : Int) ≤ (↑n : Int) ∧ (↑n : Int) ≤ (1000000000 : Int)) ∧ (True ∧ (((1 : Nat) = (1 : Nat) ∧ m = m) ∧ ((2 : Nat) = (2 : Nat) ∧ (0 : Nat) = (0 : Nat)) ∧ ((3 : Nat) = 
  (3 : Nat) ∧ (0 : Nat) = (0 : Nat)) ∧ ((4 : Nat) = (4 : Nat) ∧ (0 : Nat) = (0 : Nat)) ∧ True) ∧ ((True ∧ True ∧ c = c) ∧ (True ∧ IntKind.i64 = IntKind.i64 ∧ a = a) ∧ (True ∧ (True ∧ 
  s = s) ∧ (True ∧ i = i) ∧ ((0 : Nat) = (0 : Nat) ∧ n = n) ∧ True) ∧ (True ∧ (True ∧ (0 : Int) = (0 : Int)) ∧ (True ∧ (0 : Int) = (0 : Int)) ∧ Value.slice none (0 : Nat) (0 : Nat) = 
  Value.slice none (0 : Nat) (0 : Nat) ∧ True) ∧ (True ∧ (True ∧ s = s) ∧ (True ∧ i = i) ∧ ((5 : Nat) = (5 : Nat) ∧ n = n) ∧ True) ∧ (True ∧ True ∧ List.replicate (Int.toNat (↑n : Int) 
  * (3 : Nat)) (Sc.mk ((0 : Int)) ([])) = List.replicate (n * (3 : Nat)) (Sc.mk ((0 : Int)) ([]))) ∧ True) ∧ True) ∧ True) ∧ True) ∧ (At ((0 : Int) ≤ (↑n : Int) ∧ (↑n : Int) ≤ (↑n : Int) 
  ∧ (↑n : Int) ≤ (1000000000 : Int)) ∧ (True ∧ (((1 : Nat) = (1 : Nat) ∧ m = m) ∧ ((2 : Nat) = (2 : Nat) ∧ (0 : Nat) = (0 : Nat)) ∧ ((3 : Nat) = (3 : Nat) ∧ (0 : Nat) = (0 : Nat)) ∧ ((4 
  : Nat) = (4 : Nat) ∧ (0 : Nat) = (0 : Nat)) ∧ True) ∧ ((True ∧ True ∧ c = c) ∧ (True ∧ IntKind.i64 = IntKind.i64 ∧ a = a) ∧ (True ∧ (True ∧ s = s) ∧ (True ∧ i = i) ∧ ((0 : Nat) = (0 
  : Nat) ∧ n = n) ∧ True) ∧ (True ∧ (True ∧ (0 : Int) = (0 : Int)) ∧ (True ∧ (0 : Int) = (0 : Int)) ∧ Value.slice none (0 : Nat) (0 : Nat) = Value.slice none (0 : Nat) (0 : Nat) ∧ True) 
  ∧ (True ∧ (True ∧ s = s) ∧ (True ∧ i = i) ∧ ((5 : Nat) = (5 : Nat) ∧ n = n) ∧ True) ∧ (True ∧ True ∧ List.replicate (Int.toNat (↑n : Int) * (3 : Nat)) (Sc.mk ((0 : Int)) ([])) = List.replicate 
  (n * (3 : Nat)) (Sc.mk ((0 : Int)) ([]))) ∧ True) ∧ True) ∧ True) ∧ True) ∧ True) ∧ True) ∧ True ∧ (((1 : Nat) = (1 : Nat) ∧ m = m) ∧ ((2 : Nat) = (2 : Nat) ∧ (0 : Nat) = (0 : Nat)) 
  ∧ ((3 : Nat) = (3 : Nat) ∧ (0 : Nat) = (0 : Nat)) ∧ ((4 : Nat) = (4 : Nat) ∧ (0 : Nat) = (0 : Nat)) ∧ True) ∧ ((True ∧ True ∧ c = c) ∧ (True ∧ IntKind.i64 = IntKind.i64 ∧ a = a) ∧ (True 
  ∧ (True ∧ s = s) ∧ (True ∧ i = i) ∧ ((0 : Nat) = (0 : Nat) ∧ n = n) ∧ True) ∧ (True ∧ (True ∧ (0 : Int) = (0 : Int)) ∧ (True ∧ (0 : Int) = (0 : Int)) ∧ Value.slice none (0 : Nat) (0 
  : Nat) = Value.slice none (0 : Nat) (0 : Nat) ∧ True) ∧ (True ∧ (True ∧ s = s) ∧ (True ∧ i = i) ∧ ((5 : Nat) = (5 : Nat) ∧ n = n) ∧ True) ∧ (True ∧ True ∧ List.replicate (n * (3 : Nat)) 
  (Sc.mk ((0 : Int)) ([])) = List.replicate (n * (3 : Nat)) (Sc.mk ((0 : Int)) ([]))) ∧ True) ∧ True) ∧ ((((1 : Nat) = (1 : Nat) ∧ m = m) ∧ ((2 : Nat) = (2 : Nat) ∧ (0 : Nat) = (0 : Nat)) 
  ∧ ((3 : Nat) = (3 : Nat) ∧ (0 : Nat) = (0 : Nat)) ∧ ((4 : Nat) = (4 : Nat) ∧ (0 : Nat) = (0 : Nat)) ∧ ((0 : Nat) = (0 : Nat) ∧ n = n) ∧ (True ∧ (↑n : Int) = (↑n : Int)) ∧ (True ∧ (0 
  : Int) = (0 : Int)) ∧ True) ∧ ((True ∧ True ∧ c = c) ∧ (True ∧ IntKind.i64 = IntKind.i64 ∧ a = a) ∧ (True ∧ (True ∧ s = s) ∧ (True ∧ i = i) ∧ ((0 : Nat) = (0 : Nat) ∧ n = n) ∧ True) 
  ∧ (True ∧ (True ∧ (0 : Int) = (0 : Int)) ∧ (True ∧ (0 : Int) = (0 : Int)) ∧ Value.slice none (0 : Nat) (0 : Nat) = Value.slice none (0 : Nat) (0 : Nat) ∧ True) ∧ (True ∧ (True ∧ s = 
  s) ∧ (True ∧ i = i) ∧ ((5 : Nat) = (5 : Nat) ∧ n = n) ∧ True) ∧ (True ∧ True ∧ List.replicate (n * (3 : Nat)) (Sc.mk ((0 : Int)) ([])) = flat3 (laidR (posT (Int.toNat i) a) (valT a) 
  (rows3 c) (Int.toNat (0 : Int)) (zeroR (List.length (rows3 c))))) ∧ True) ∧ True) ∧ At (miInv (gdT s i (rows3 c) a) n (0 : Int)) ∧ ∀ (a_3 : Int), miInv (gdT s i (rows3 c) a) n a_3 → 
  (decide (a_3 < (↑n : Int)) = true → At ((0 : Int) ≤ a_3 ∧ a_3 < (↑n : Int)) ∧ At (Int.toNat a_3 * (3 : Nat) + (3 : Nat) ≤ List.length c ∧ Int.toNat a_3 * (3 : Nat) % (3 : Nat) = (0 
  : Nat)) ∧ True ∧ At (i ≠ (0 : Int)) ∧ At (i ≠ (0 : Int)) ∧ At ((0 : Int) ≤ Int.tmod a_3 i ∧ Int.tmod a_3 i < (↑m : Int)) ∧ At (Int.toNat (Int.tmod a_3 i) < List.length a) ∧ At ((0 : 
  Int) ≤ Sc.i (List.getD c (Int.toNat a_3 * (3 : Nat)) (Sc.mk ((0 : Int)) ([]))) ∧ Sc.i (List.getD c (Int.toNat a_3 * (3 : Nat)) (Sc.mk ((0 : Int)) ([]))) < (↑m : Int)) ∧ At (Int.toNat 
  (Sc.i (List.getD c (Int.toNat a_3 * (3 : Nat)) (Sc.mk ((0 : Int)) ([])))) < List.length a) ∧ At ((0 : Int) ≤ IntKind.wrap IntKind.i64 (IntKind.wrap IntKind.i64 (IntKind.wrap IntKind.i64 
  (Int.tdiv a_3 i) * i) + List.getD a (Int.toNat (Int.tmod a_3 i)) (0 : Int)) ∧ IntKind.wrap IntKind.i64 (IntKind.wrap IntKind.i64 (IntKind.wrap IntKind.i64 (Int.tdiv a_3 i) * i) + List.getD 
  a (Int.toNat (Int.tmod a_3 i)) (0 : Int)) < (↑n : Int)) ∧ At (Int.toNat (IntKind.wrap IntKind.i64 (IntKind.wrap IntKind.i64 (IntKind.wrap IntKind.i64 (Int.tdiv a_3 i) * i) + List.getD 
  a (Int.toNat (Int.tmod a_3 i)) (0 : Int))) * (3 : Nat) + (3 : Nat) ≤ List.length (flat3 (laidR (posT (Int.toNat i) a) (valT a) (rows3 c) (Int.toNat a_3) (zeroR (List.length (rows3 c))))) 
  ∧ Int.toNat (IntKind.wrap IntKind.i64 (IntKind.wrap IntKind.i64 (IntKind.wrap IntKind.i64 (Int.tdiv a_3 i) * i) + List.getD a (Int.toNat (Int.tmod a_3 i)) (0 : Int))) * (3 : Nat) % 
  (3 : Nat) = (0 : Nat)) ∧ ((((1 : Nat) = (1 : Nat) ∧ m = m) ∧ ((2 : Nat) = (2 : Nat) ∧ (0 : Nat) = (0 : Nat)) ∧ ((3 : Nat) = (3 : Nat) ∧ (0 : Nat) = (0 : Nat)) ∧ ((4 : Nat) = (4 : Nat) 
  ∧ (0 : Nat) = (0 : Nat)) ∧ ((0 : Nat) = (0 : Nat) ∧ n = n) ∧ (True ∧ (↑n : Int) = (↑n : Int)) ∧ (True ∧ IntKind.wrap IntKind.i64 (a_3 + (1 : Int)) = IntKind.wrap IntKind.i64 (a_3 + 
  (1 : Int))) ∧ True) ∧ ((True ∧ True ∧ c = c) ∧ (True ∧ IntKind.i64 = IntKind.i64 ∧ a = a) ∧ (True ∧ (True ∧ s = s) ∧ (True ∧ i = i) ∧ ((0 : Nat) = (0 : Nat) ∧ n = n) ∧ True) ∧ (True 
  ∧ (True ∧ (0 : Int) = (0 : Int)) ∧ (True ∧ (0 : Int) = (0 : Int)) ∧ Value.slice none (0 : Nat) (0 : Nat) = Value.slice none (0 : Nat) (0 : Nat) ∧ True) ∧ (True ∧ (True ∧ s = s) ∧ (True 
  ∧ i = i) ∧ ((5 : Nat) = (5 : Nat) ∧ n = n) ∧ True) ∧ (True ∧ True ∧ setScs (flat3 (laidR (posT (Int.toNat i) a) (valT a) (rows3 c) (Int.toNat a_3) (zeroR (List.length (rows3 c))))) 
  (Int.toNat (IntKind.wrap IntKind.i64 (IntKind.wrap IntKind.i64 (IntKind.wrap IntKind.i64 (Int.tdiv a_3 i) * i) + List.getD a (Int.toNat (Int.tmod a_3 i)) (0 : Int))) * (3 : Nat)) [(Sc.mk 
  (List.getD a (Int.toNat (Sc.i (List.getD c (Int.toNat a_3 * (3 : Nat)) (Sc.mk ((0 : Int)) ([]))))) (0 : Int) ) ([])), (Sc.mk ((0 : Int)) (Sc.s (List.getD c (Int.toNat a_3 * (3 : Nat) 
  + (1 : Nat)) { i := (0 : Int), s := [] }))), (Sc.mk (Sc.i (List.getD c (Int.toNat a_3 * (3 : Nat) + (1 : Nat) + (1 : Nat)) (Sc.mk ((0 : Int)) ([]))) ) ([]))] = flat3 (laidR (posT (Int.toNat 
  i) a) (valT a) (rows3 c) (Int.toNat (IntKind.wrap IntKind.i64 (a_3 + (1 : Int)))) (zeroR (List.length (rows3 c))))) ∧ True) ∧ True) ∧ At (miInv (gdT s i (rows3 c) a) n (IntKind.wrap 
  IntKind.i64 (a_3 + (1 : Int))) ∧ Int.toNat ((↑n : Int) - IntKind.wrap IntKind.i64 (a_3 + (1 : Int))) < Int.toNat ((↑n : Int) - a_3))) ∧ (decide (a_3 < (↑n : Int)) = false → K (V.tup 
  [V.agg [V.int IntKind.i64 s, V.int IntKind.i64 i, V.row (5 : Nat) n], V.lit true]) [{ cs := Cells.recs [Sh.int IntKind.i64, Sh.str, Sh.int IntKind.i64] c, elem := 47, kind := Kind.rows (3 : Nat) }, 
  { cs := Cells.ints IntKind.i64 a, elem := 3, kind := Kind.row }, { cs := Cells.vals [V.int IntKind.i64 s, V.int IntKind.i64 i, V.row (0 : Nat) n], elem := 29, kind := Kind.box }, 
  { cs := Cells.vals [V.int IntKind.i64 s, V.int IntKind.i64 i, V.row (5 : Nat) n], elem := 29, kind := Kind.box }, { cs := Cells.vals [V.int IntKind.i64 s, V.int IntKind.i64 i, V.row (5 : Nat) n], elem := 29, kind := Kind.box }, 
  { cs := Cells.recs [Sh.int IntKind.i64, Sh.str, Sh.int IntKind.i64] (flat3 (laidR (posT (Int.toNat i) a) (valT a) (rows3 c) (Int.toNat a_3) (zeroR (List.length (rows3 c))))), elem := 47, kind := Kind.rows (3 : Nat) }])))

def VC_impl_RenameTints (s : Int) (i : Int) (n : Nat) (c : List Sc) (m : Nat) (a : List Int) (g0 : List UInt8) (g1 : List UInt8) (g2 : List UInt8) (g3 : List UInt8) (K : V → List Blk → Prop) : Prop := At (is3 c n ∧ n ≤ (2000000 : Nat) ∧ isSg g0 g1 g2 g3) ∧ ((!tabB s i (rows3 c)) = true → K (V.tup [V.agg [V.int IntKind.i64 (0 : Int), V.int IntKind.i64 (0 : Int), V.raw (Value.slice none (0 : Nat) (0 : Nat))], V.lit false]) [{ cs := Cells.recs [Sh.int IntKind.i64, Sh.str, Sh.int IntKind.i64] c, elem := 47, kind := Kind.rows (3 : Nat) }, { cs := Cells.ints IntKind.i64 a, elem := 3, kind := Kind.row }, { cs := Cells.vals [V.str g0, V.str g1, V.str g2, V.str g3], elem := 9, kind := Kind.gl (0 : Nat) }, { cs := Cells.vals [V.int IntKind.i64 s, V.int IntKind.i64 i, V.row (0 : Nat) n], elem := 29, kind := Kind.box }, { cs := Cells.vals [V.row (1 : Nat) m], elem := 25, kind := Kind.box }, { cs := Cells.vals [V.int IntKind.i64 (0 : Int), V.int IntKind.i64 (0 : Int), V.raw (Value.slice none (0 : Nat) (0 : Nat))], elem := 29, kind := Kind.box }]) ∧ ((!tabB s i (rows3 c)) = false → At (List.length a = m ∧ m ≤ (2000000 : Nat) ∧ (1 : Int) ≤ i ∧ i ≤ (4 : Int)) ∧ ((!ordB i a) = true → K (V.tup [V.agg [V.int IntKind.i64 (0 : Int), V.int IntKind.i64 (0 : Int), V.raw (Value.slice none (0 : Nat) (0 : Nat))], V.lit false]) [{ cs := Cells.recs [Sh.int IntKind.i64, Sh.str, Sh.int IntKind.i64] c, elem := 47, kind := Kind.rows (3 : Nat) }, { cs := Cells.ints IntKind.i64 a, elem := 3, kind := Kind.row }, { cs := Cells.vals [V.str g0, V.str g1, V.str g2, V.str g3], elem := 9, kind := Kind.gl (0 : Nat) }, { cs := Cells.vals [V.int IntKind.i64 s, V.int IntKind.i64 i, V.row (0 : Nat) n], elem := 29, kind := Kind.box }, { cs := Cells.vals [V.row (1 : Nat) m], elem := 25, kind := Kind.box }, { cs := Cells.vals [V.int IntKind.i64 (0 : Int), V.int IntKind.i64 (0 : Int), V.raw (Value.slice none (0 : Nat) (0 : Nat))], elem := 29, kind := Kind.box }]) ∧ ((!ordB i a) = false → At (is3 c n ∧ n ≤ (2000000 : Nat) ∧ (1 : Nat) ≤ n) ∧ ((((35 : Nat) = (35 : Nat) ∧ [(1 : Nat)] = [(1 : Nat)]) ∧ ((3 : Nat) = (3 : Nat) ∧ (0 : Nat) = (0 : Nat)) ∧ ((4 : Nat) = (4 : Nat) ∧ (0 : Nat) = (0 : Nat)) ∧ ((6 : Nat) = (6 : Nat) ∧ (0 : Nat) = (0 : Nat)) ∧ ((0 : Nat) = (0 : Nat) ∧ n = n) ∧ (True ∧ (↑n : Int) = (↑n : Int)) ∧ (True ∧ (0 : Int) = (0 : Int)) ∧ True) ∧ ((True ∧ True ∧ c = c) ∧ (True ∧ ((2 : Nat) = (2 : Nat) ∧ m = m) ∧ True) ∧ (True ∧ IntKind.i64 = IntKind.i64 ∧ a = a) ∧ (True ∧ (True ∧ s = s) ∧ (True ∧ i = i) ∧ ((0 : Nat) = (0 : Nat) ∧ n = n) ∧ True) ∧ (True ∧ (True ∧ (0 : Int) = (0 : Int)) ∧ (True ∧ (0 : Int) = (0 : Int)) ∧ Value.slice none (0 : Nat) (0 : Nat) = Value.slice none (0 : Nat) (0 : Nat) ∧ True) ∧ (True ∧ True ∧ c = flat3 (laidR (posT (Int.toNat i) a) (valT a) (rows3 c) (Int.toNat (0 : Int)) (rows3 c))) ∧ (True ∧ (True ∧ s = s) ∧ (True ∧ i = i) ∧ ((5 : Nat) = (5 : Nat) ∧ n = n) ∧ True) ∧ True) ∧ True) ∧ At (miInv (gdT s i (rows3 c) a) n (0 : Int)) ∧ ∀ (a_3 : Int), miInv (gdT s i (rows3 c) a) n a_3 → (decide (a_3 < (↑n : Int)) = true → At ((0 : Int) ≤ a_3 ∧ a_3 < (↑n : Int)) ∧ At (Int.toNat a_3 * (3 : Nat) + (3 : Nat) ≤ List.length c ∧ Int.toNat a_3 * (3 : Nat) % (3 : Nat) = (0 : Nat)) ∧ True ∧ At (i ≠ (0 : Int)) ∧ At (i ≠ (0 : Int)) ∧ At (List.length a = m ∧ m ≤ (2000000 : Nat) ∧ (0 : Int) ≤ Int.tmod a_3 i ∧ Int.tmod a_3 i < (↑m : Int)) ∧ At (List.length a = m ∧ m ≤ (2000000 : Nat) ∧ (0 : Int) ≤ Sc.i (List.getD c (Int.toNat a_3 * (3 : Nat)) (Sc.mk ((0 : Int)) ([]))) ∧ Sc.i (List.getD c (Int.toNat a_3 * (3 : Nat)) (Sc.mk ((0 : Int)) ([]))) < (↑m : Int)) ∧ At ((0 : Int) ≤ IntKind.wrap IntKind.i64 (IntKind.wrap IntKind.i64 (IntKind.wrap IntKind.i64 (Int.tdiv a_3 i) * i) + List.getD a (Int.toNat (Int.tmod a_3 i)) (0 : Int)) ∧ IntKind.wrap IntKind.i64 (IntKind.wrap IntKind.i64 (IntKind.wrap IntKind.i64 (Int.tdiv a_3 i) * i) + List.getD a (Int.toNat (Int.tmod a_3 i)) (0 : Int)) < (↑n : Int)) ∧ At (Int.toNat (IntKind.wrap IntKind.i64 (IntKind.wrap IntKind.i64 (IntKind.wrap IntKind.i64 (Int.tdiv a_3 i) * i) + List.getD a (Int.toNat (Int.tmod a_3 i)) (0 : Int))) * (3 : Nat) + (3 : Nat) ≤ List.length (flat3 (laidR (posT (Int.toNat i) a) (valT a) (rows3 c) (Int.toNat a_3) (rows3 c))) ∧ Int.toNat (IntKind.wrap IntKind.i64 (IntKind.wrap IntKind.i64 (IntKind.wrap IntKind.i64 (Int.tdiv a_3 i) * i) + List.getD a (Int.toNat (Int.tmod a_3 i)) (0 : Int))) * (3 : Nat) % (3 : Nat) = (0 : Nat)) ∧ ((((35 : Nat) = (35 : Nat) ∧ [(1 : Nat)] = [(1 : Nat)]) ∧ ((3 : Nat) = (3 : Nat) ∧ (0 : Nat) = (0 : Nat)) ∧ ((4 : Nat) = (4 : Nat) ∧ (0 : Nat) = (0 : Nat)) ∧ ((6 : Nat) = (6 : Nat) ∧ (0 : Nat) = (0 : Nat)) ∧ ((0 : Nat) = (0 : Nat) ∧ n = n) ∧ (True ∧ (↑n : Int) = (↑n : Int)) ∧ (True ∧ IntKind.wrap IntKind.i64 (a_3 + (1 : Int)) = IntKind.wrap IntKind.i64 (a_3 + (1 : Int))) ∧ True) ∧ ((True ∧ True ∧ c = c) ∧ (True ∧ ((2 : Nat) = (2 : Nat) ∧ m = m) ∧ True) ∧ (True ∧ IntKind.i64 = IntKind.i64 ∧ a = a) ∧ (True ∧ (True ∧ s = s) ∧ (True ∧ i = i) ∧ ((0 : Nat) = (0 : Nat) ∧ n = n) ∧ True) ∧ (True ∧ (True ∧ (0 : Int) = (0 : Int)) ∧ (True ∧ (0 : Int) = (0 : Int)) ∧ Value.slice none (0 : Nat) (0 : Nat) = Value.slice none (0 : Nat) (0 : Nat) ∧ True) ∧ (True ∧ True ∧ setScs (flat3 (laidR (posT (Int.toNat i) a) (valT a) (rows3 c) (Int.toNat a_3) (rows3 c))) (Int.toNat (IntKind.wrap IntKind.i64 (IntKind.wrap IntKind.i64 (IntKind.wrap IntKind.i64 (Int.tdiv a_3 i) * i) + List.getD a (Int.toNat (Int.tmod a_3 i)) (0 : Int))) * (3 : Nat)) [(Sc.mk (List.getD a (Int.toNat (Sc.i (List.getD c (Int.toNat a_3 * (3 : Nat)) (Sc.mk ((0 : Int)) ([]))))) (0 : Int)
) ([])), (Sc.mk ((0 : Int)) (Sc.s (List.getD c (Int.toNat a_3 * (3 : Nat) + (1 : Nat)) { i := (0 : Int), s := [] }))), (Sc.mk (Sc.i (List.getD c (Int.toNat a_3 * (3 : Nat) + (1 : Nat) + (1 : Nat)) (Sc.mk ((0 : Int)) ([])))
) ([]))] = flat3 (laidR (posT (Int.toNat i) a) (valT a) (rows3 c) (Int.toNat (IntKind.wrap IntKind.i64 (a_3 + (1 : Int)))) (rows3 c))) ∧ (True ∧ (True ∧ s = s) ∧ (True ∧ i = i) ∧ ((5 : Nat) = (5 : Nat) ∧ n = n) ∧ True) ∧ True) ∧ True) ∧ At (miInv (gdT s i (rows3 c) a) n (IntKind.wrap IntKind.i64 (a_3 + (1 : Int))) ∧ Int.toNat ((↑n : Int) - IntKind.wrap IntKind.i64 (a_3 + (1 : Int))) < Int.toNat ((↑n : Int) - a_3))) ∧ (decide (a_3 < (↑n : Int)) = false → K (V.tup [V.agg [V.int IntKind.i64 s, V.int IntKind.i64 i, V.row (6 : Nat) n], V.lit true]) [{ cs := Cells.recs [Sh.int IntKind.i64, Sh.str, Sh.int IntKind.i64] c, elem := 47, kind := Kind.rows (3 : Nat) }, { cs := Cells.ints IntKind.i64 a, elem := 3, kind := Kind.row }, { cs := Cells.vals [V.str g0, V.str g1, V.str g2, V.str g3], elem := 9, kind := Kind.gl (0 : Nat) }, { cs := Cells.vals [V.int IntKind.i64 s, V.int IntKind.i64 i, V.row (0 : Nat) n], elem := 29, kind := Kind.box }, { cs := Cells.vals [V.row (1 : Nat) m], elem := 25, kind := Kind.box }, { cs := Cells.vals [V.int IntKind.i64 s, V.int IntKind.i64 i, V.row (6 : Nat) n], elem := 29, kind := Kind.box }, { cs := Cells.recs [Sh.int IntKind.i64, Sh.str, Sh.int IntKind.i64] (flat3 (laidR (posT (Int.toNat i) a) (valT a) (rows3 c) (Int.toNat a_3) (rows3 c))), elem := 47, kind := Kind.rows (3 : Nat) }]))) 

def VC_spec_RenameStates (s : Int) (i : Int) (n : Nat) (c : List Sc) (m : Nat) (a : List Int) (K : V → List Blk → Prop) : Prop := At (is3 c n ∧ n ≤ (2000000 : Nat)) ∧ ((!tabB s i (rows3 
  c)) = true → K (V.tup [V.agg [V.int IntKind.i64 (0 : Int), V.int IntKind.i64 (0 : Int), V.raw (Value.slice none (0 : Nat) (0 : Nat))], V.lit false]) [{ cs := Cells.recs [Sh.int IntKind.i64, Sh.str, Sh.int IntKind.i64] c, elem := 47, kind := Kind.rows (3 : Nat) }, 
  { cs := Cells.ints IntKind.i64 a, elem := 3, kind := Kind.row }, { cs := Cells.vals [V.int IntKind.i64 s, V.int IntKind.i64 i, V.row (0 : Nat) n], elem := 29, kind := Kind.box }, 
  { cs := Cells.vals [V.int IntKind.i64 (0 : Int), V.int IntKind.i64 (0 : Int), V.raw (Value.slice none (0 : Nat) (0 : Nat))], elem := 29, kind := Kind.box }]) ∧ ((!tabB s i (rows3 
  c)) = false → At (List.length a = m ∧ m ≤ (2000000 : Nat) ∧ (1 : Int) ≤ s ∧ s ≤ (4 : Int)) ∧ ((!ordB s a) = true → K (V.tup [V.agg [V.int IntKind.i64 (0 : Int), V.int IntKind.i64 (0 
  : Int), V.raw (Value.slice none (0 : Nat) (0 : Nat))], V.lit false]) [{ cs := Cells.recs [Sh.int IntKind.i64, Sh.str, Sh.int IntKind.i64] c, elem := 47, kind := Kind.rows (3 : Nat) }, 
  { cs := Cells.ints IntKind.i64 a, elem := 3, kind := Kind.row }, { cs := Cells.vals [V.int IntKind.i64 s, V.int IntKind.i64 i, V.row (0 : Nat) n], elem := 29, kind := Kind.box }, 
  { cs := Cells.vals [V.int IntKind.i64 (0 : Int), V.int IntKind.i64 (0 : Int), V.raw (Value.slice none (0 : Nat) (0 : Nat))], elem := 29, kind := Kind.box }]) ∧ ((!ordB s a) 
  = false → ((((((At ((0 : Int) ≤ (↑n : Int) ∧ (↑n : Int) ≤ (↑n : Int) ∧ (↑n : Int) ≤ (1000000000 : Int)) ∧ ((True ∧ (((1 : Nat) = (1 : Nat) ∧ m = m) ∧ ((2 : Nat) = (2 : Nat) ∧ (0 : Nat) 
  = (0 : Nat)) ∧ ((3 : Nat) = (3 : Nat) ∧ (0 : Nat) = (0 : Nat)) ∧ ((4 : Nat) = (4 : Nat) ∧ (0 : Nat) = (0 : Nat)) ∧ True) ∧ ((True ∧ True ∧ c = c) ∧ (True ∧ IntKind.i64 = IntKind.i64 
  ∧ a = a) ∧ (True ∧ (True ∧ s = s) ∧ (True ∧ i = i) ∧ ((0 : Nat) = (0 : Nat) ∧ n = n) ∧ True) ∧ (True ∧ (True ∧ (0 : Int) = (0 : Int)) ∧ (True ∧ (0 : Int) = (0 : Int)) ∧ Value.slice 
  none (0 : Nat) (0 : Nat) = Value.slice none (0 : Nat) (0 : Nat) ∧ True) ∧ (True ∧ (True ∧ s = s) ∧ (True ∧ i = i) ∧ ((5 : Nat) = (5 : Nat) ∧ n = n) ∧ True) ∧ (True ∧ True ∧ List.replicate 
  (Int.toNat (↑n : Int) * (3 : Nat)) (Sc.mk ((0 : Int)) ([])) = List.replicate (n * (3 : Nat)) (Sc.mk ((0 : Int)) ([]))) ∧ True) ∧ True) ∧ True) ∧ True) ∧ ((At ((0 : Int) ≤ (↑n : Int) 
  ∧ (↑n : Int) ≤ (↑n : Int) ∧ (↑n : Int) ≤ (1000000000 : Int)) ∧ (True ∧ (((1 : Nat) = (1 : Nat) ∧ m = m) ∧ ((2 : Nat) = (2 : Nat) ∧ (0 : Nat) = (0 : Nat)) ∧ ((3 : Nat) = (3 : Nat) ∧ 
  (0 : Nat) = (0 : Nat)) ∧ ((4 : Nat) = (4 : Nat) ∧ (0 : Nat) = (0 : Nat)) ∧ True) ∧ ((True ∧ True ∧ c = c) ∧ (True ∧ IntKind.i64 = IntKind.i64 ∧ a = a) ∧ (True ∧ (True ∧ s = s) ∧ (True 
  ∧ i = i) ∧ ((0 : Nat) = (0 : Nat) ∧ n = n) ∧ True) ∧ (True ∧ (True ∧ (0 : Int) = (0 : Int)) ∧ (True ∧ (0 : Int) = (0 : Int)) ∧ Value.slice none (0 : Nat) (0 : Nat) = Value.slice none 
  (0 : Nat) (0 : Nat) ∧ True) ∧ (True ∧ (True ∧ s = s) ∧ (True ∧ i = i) ∧ ((5 : Nat) = (5 : Nat) ∧ n = n) ∧ True) ∧ (True ∧ True ∧ List.replicate (Int.toNat (↑n : Int) * (3 : Nat)) (Sc.mk 
  ((0 : Int)) ([])) = List.replicate (n * (3 : Nat)) (Sc.mk ((0 : Int)) ([]))) ∧ True) ∧ True) ∧ True) ∧ True) ∧ True) ∧ (((At ((0 : Int) ≤ (↑n : Int) ∧ (↑n : Int) ≤ (↑n : Int) ∧ (↑n 
  : Int) ≤ (1000000000 : Int)) ∧ (True ∧ (((1 : Nat) = (1 : Nat) ∧ m = m) ∧ ((2 : Nat) = (2 : Nat) ∧ (0 : Nat) = (0 : Nat)) ∧ ((3 : Nat) = (3 : Nat) ∧ (0 : Nat) = (0 : Nat)) ∧ ((4 : Nat) 
  = (4 : Nat) ∧ (0 : Nat) = (0 : Nat)) ∧ True) ∧ ((True ∧ True ∧ c = c) ∧ (True ∧ IntKind.i64 = IntKind.i64 ∧ a = a) ∧ (True ∧ (True ∧ s = s) ∧ (True ∧ i = i) ∧ ((0 : Nat) = (0 : Nat) 
  ∧ n = n) ∧ True) ∧ (True ∧ (True ∧ (0 : Int) = (0 : Int)) ∧ (True ∧ (0 : Int) = (0 : Int)) ∧ Value.slice none (0 : Nat) (0 : Nat) = Value.slice none (0 : Nat) (0 : Nat) ∧ True) ∧ (True 
  ∧ (True ∧ s = s) ∧ (True ∧ i = i) ∧ ((5 : Nat) = (5 : Nat) ∧ n = n) ∧ True) ∧ (True ∧ True ∧ List.replicate (Int.toNat (↑n : Int) * (3 : Nat)) (Sc.mk ((0 : Int)) ([])) = List.replicate 
  (n * (3 : Nat)) (Sc.mk ((0 : Int)) ([]))) ∧ True) ∧ True) ∧ True) ∧ True) ∧ True) ∧ True) ∧ (((At ((0 : Int) ≤ (↑n : Int) ∧ (↑n : Int) ≤ (↑n : Int) ∧ (↑n : Int) ≤ (1000000000 : Int)) 
  ∧ ((True ∧ (((1 : Nat) = (1 : Nat) ∧ m = m) ∧ ((2 : Nat) = (2 : Nat) ∧ (0 : Nat) = (0 : Nat)) ∧ ((3 : Nat) = (3 : Nat) ∧ (0 : Nat) = (0 : Nat)) ∧ ((4 : Nat) = (4 : Nat) ∧ (0 : Nat) 
  = (0 : Nat)) ∧ True) ∧ ((True ∧ True ∧ c = c) ∧ (True ∧ IntKind.i64 = IntKind.i64 ∧ a = a) ∧ (True ∧ (True ∧ s = s) ∧ (True ∧ i = i) ∧ ((0 : Nat) = (0 : Nat) ∧ n = n) ∧ True) ∧ (True 
  ∧ (True ∧ (0 : Int) = (0 : Int)) ∧ (True ∧ (0 : Int) = (0 : Int)) ∧ Value.slice none (0 : Nat) (0 : Nat) = Value.slice none (0 : Nat) (0 : Nat) ∧ True) ∧ (True ∧ (True ∧ s = s) ∧ (True 
  ∧ i = i) ∧ ((5 : Nat) = (5 : Nat) ∧ n = n) ∧ True) ∧ (True ∧ True ∧ List.replicate (Int.toNat (↑n : Int) * (3 : Nat)) (Sc.mk ((0 : Int)) ([])) = List.replicate (n * (3 : Nat)) (Sc.mk 
  ((0 : Int)) ([]))) ∧ True) ∧ True) ∧ True) ∧ True) ∧ ((At ((0 : Int) ≤ (↑n : Int) ∧ (↑n : Int) ≤ (↑n : Int) ∧ (↑n : Int) ≤ (1000000000 : Int)) ∧ (True ∧ (((1 : Nat) = (1 : Nat) ∧ m 
  = m) ∧ ((2 : Nat) = (2 : Nat) ∧ (0 : Nat) = (0 : Nat)) ∧ ((3 : Nat) = (3 : Nat) ∧ (0 : Nat) = (0 : Nat)) ∧ ((4 : Nat) = (4 : Nat) ∧ (0 : Nat) = (0 : Nat)) ∧ True) ∧ ((True ∧ True ∧ 
  c = c) ∧ (True ∧ IntKind.i64 = IntKind.i64 ∧ a = a) ∧ (True ∧ (True ∧ s = s) ∧ (True ∧ i = i) ∧ ((0 : Nat) = (0 : Nat) ∧ n = n) ∧ True) ∧ (True ∧ (True ∧ (0 : Int) = (0 : Int)) ∧ (True 
  ∧ (0 : Int) = (0 : Int)) ∧ Value.slice none (0 : Nat) (0 : Nat) = Value.slice none (0 : Nat) (0 : Nat) ∧ True) ∧ (True ∧ (True ∧ s = s) ∧ (True ∧ i = i) ∧ ((5 : Nat) = (5 : Nat) ∧ n 
  = n) ∧ True) ∧ (True ∧ True ∧ List.replicate (Int.toNat (↑n : Int) * (3 : Nat)) (Sc.mk ((0 : Int)) ([])) = List.replicate (n * (3 : Nat)) (Sc.mk ((0 : Int)) ([]))) ∧ True) ∧ True) ∧ 
  True) ∧ True) ∧ True) ∧ (At ((0 : Int) ≤ (↑n : Int) ∧ (↑n : Int) ≤ (↑n : Int) ∧ (↑n : Int) ≤ (1000000000 : Int)) ∧ (((True ∧ (((1 : Nat) = (1 : Nat) ∧ m = m) ∧ ((2 : Nat) = (2 : Nat) 
  ∧ (0 : Nat) = (0 : Nat)) ∧ ((3 : Nat) = (3 : Nat) ∧ (0 : Nat) = (0 : Nat)) ∧ ((4 : Nat) = (4 : Nat) ∧ (0 : Nat) = (0 : Nat)) ∧ True) ∧ ((True ∧ True ∧ c = c) ∧ (True ∧ IntKind.i64 = 
  IntKind.i64 ∧ a = a) ∧ (True ∧ (True ∧ s = s) ∧ (True ∧ i = i) ∧ ((0 : Nat) = (0 : Nat) ∧ n = n) ∧ True) ∧ (True ∧ (True ∧ (0 : Int) = (0 : Int)) ∧ (True ∧ (0 : Int) = (0 : Int)) ∧ 
  Value.slice none (0 : Nat) (0 : Nat) = Value.slice none (0 : Nat) (0 : Nat) ∧ True) ∧ (True ∧ (True ∧ s = s) ∧ (True ∧ i = i) ∧ ((5 : Nat) = (5 : Nat) ∧ n = n) ∧ True) ∧ (True ∧ True 
  ∧ List.replicate (Int.toNat (↑n : Int) * (3 : Nat)) (Sc.mk ((0 : Int)) ([])) = List.replicate (n * (3 : Nat)) (Sc.mk ((0 : Int)) ([]))) ∧ True) ∧ True) ∧ True) ∧ True) ∧ ((True ∧ (((1 
  : Nat) = (1 : Nat) ∧ m = m) ∧ ((2 : Nat) = (2 : Nat) ∧ (0 : Nat) = (0 : Nat)) ∧ ((3 : Nat) = (3 : Nat) ∧ (0 : Nat) = (0 : Nat)) ∧ ((4 : Nat) = (4 : Nat) ∧ (0 : Nat) = (0 : Nat)) ∧ True) 
  ∧ ((True ∧ True ∧ c = c) ∧ (True ∧ IntKind.i64 = IntKind.i64 ∧ a = a) ∧ (True ∧ (True ∧ s = s) ∧ (True ∧ i = i) ∧ ((0 : Nat) = (0 : Nat) ∧ n = n) ∧ True) ∧ (True ∧ (True ∧ (0 : Int) 
  = (0 : Int)) ∧ (True ∧ (0 : Int) = (0 : Int)) ∧ Value.slice none (0 : Nat) (0 : Nat) = Value.slice none (0 : Nat) (0 : Nat) ∧ True) ∧ (True ∧ (True ∧ s = s) ∧ (True ∧ i = i) ∧ ((5 : 
  Nat) = (5 : Nat) ∧ n = n) ∧ True) ∧ (True ∧ True ∧ List.replicate (Int.toNat (↑n : Int) * (3 : Nat)) (Sc.mk ((0 : Int)) ([])) = List.replicate (n * (3 : Nat)) (Sc.mk ((0 : Int)) ([]))) 
  ∧ True) ∧ True) ∧ True) ∧ True) ∧ (((At ((0 : Int) ≤ (↑n : Int) ∧ (↑n : Int) ≤ (↑n : Int) ∧ (↑n : Int) ≤ (1000000000 : Int)) ∧ (True ∧ (((1 : Nat) = (1 : Nat) ∧ m = m) ∧ ((2 : Nat) 
  = (2 : Nat) ∧ (0 : Nat) = (0 : Nat)) ∧ ((3 : Nat) = (3 : Nat) ∧ (0 : Nat) = (0 : Nat)) ∧ ((4 : Nat) = (4 : Nat) ∧ (0 : Nat) = (0 : Nat)) ∧ True) ∧ ((True ∧ True ∧ c = c) ∧ (True ∧ IntKind.i64 
  = IntKind.i64 ∧ a = a) ∧ (True ∧ (True ∧ s = s) ∧ (True ∧ i = i) ∧ ((0 : Nat) = (0 : Nat) ∧ n = n) ∧ True) ∧ (True ∧ (True ∧ (0 : Int) = (0 : Int)) ∧ (True ∧ (0 : Int) = (0 : Int)) 
  ∧ Value.slice none (0 : Nat) (0 : Nat) = Value.slice none (0 : Nat) (0 : Nat) ∧ True) ∧ (True ∧ (True ∧ s = s) ∧ (True ∧ i = i) ∧ ((5 : Nat) = (5 : Nat) ∧ n = n) ∧ True) ∧ (True ∧ True 
  ∧ List.replicate (Int.toNat (↑n : Int) * (3 : Nat)) (Sc.mk ((0 : Int)) ([])) = List.replicate (n * (3 : Nat)) (Sc.mk ((0 : Int)) ([]))) ∧ True) ∧ True) ∧ True) ∧ True) ∧ (At ((0 : Int) 
  ≤ (↑n : Int) ∧ (↑n : Int) ≤ (↑n : Int) ∧ (↑n : Int) ≤ (1000000000 : Int)) ∧ (True ∧ (((1 : Nat) = (1 : Nat) ∧ m = m) ∧ ((2 : Nat) = (2 : Nat) ∧ (0 : Nat) = (0 : Nat)) ∧ ((3 : Nat) = 
  (3 : Nat) ∧ (0 : Nat) = (0 : Nat)) ∧ ((4 : Nat) = (4 : Nat) ∧ (0 : Nat) = (0 : Nat)) ∧ True) ∧ ((True ∧ True ∧ c = c) ∧ (True ∧ IntKind.i64 = IntKind.i64 ∧ a = a) ∧ (True ∧ (True ∧ 
  s = s) ∧ (True ∧ i = i) ∧ ((0 : Nat) = (0 : Nat) ∧ n = n) ∧ True) ∧ (True ∧ (True ∧ (0 : Int) = (0 : Int)) ∧ (True ∧ (0 : Int) = (0 : Int)) ∧ Value.slice none (0 : Nat) (0 : Nat) = 
  Value.slice none (0 : Nat) (0 : Nat) ∧ True) ∧ (True ∧ (True ∧ s = s) ∧ (True ∧ i = i) ∧ ((5 : Nat) = (5 : Nat) ∧ n = n) ∧ True) ∧ (True ∧ True ∧ List.replicate (Int.toNat (↑n : Int) 
  * (3 : Nat)) (Sc.mk ((0 : Int)) ([])) = List.replicate (n * (3 : Nat)) (Sc.mk ((0 : Int)) ([]))) ∧ True) ∧ True) ∧ True) ∧ True) ∧ True) ∧ ((((At ((0 : Int) ≤ (↑n : Int) ∧ (↑n : Int) 
  ≤ (↑n : Int) ∧ (↑n : Int) ≤ (1000000000 : Int)) ∧ (True ∧ (((1 : Nat) = (1 : Nat) ∧ m = m) ∧ ((2 : Nat) = (2 : Nat) ∧ (0 : Nat) = (0 : Nat)) ∧ ((3 : Nat) = (3 : Nat) ∧ (0 : Nat) = (0 
  : Nat)) ∧ ((4 : Nat) = (4 : Nat) ∧ (0 : Nat) = (0 : Nat)) ∧ True) ∧ ((True ∧ True ∧ c = c) ∧ (True ∧ IntKind.i64 = IntKind.i64 ∧ a = a) ∧ (True ∧ (True ∧ s = s) ∧ (True ∧ i = i) ∧ ((0 
  : Nat) = (0 : Nat) ∧ n = n) ∧ True) ∧ (True ∧ (True ∧ (0 : Int) = (0 : Int)) ∧ (True ∧ (0 : Int) = (0 : Int)) ∧ Value.slice none (0 : Nat) (0 : Nat) = Value.slice none (0 : Nat) (0 
  : Nat) ∧ True) ∧ (True ∧ (True ∧ s = s) ∧ (True ∧ i = i) ∧ ((5 : Nat) = (5 : Nat) ∧ n = n) ∧ True) ∧ (True ∧ True ∧ List.replicate (Int.toNat (↑n : Int) * (3 : Nat)) (Sc.mk ((0 : Int)) 
  ([])) = List.replicate (n * (3 : Nat)) (Sc.mk ((0 : Int)) ([]))) ∧ True) ∧ True) ∧ True) ∧ True) ∧ True) ∧ (((At ((0 : Int) ≤ (↑n : Int) ∧ (↑n : Int) ≤ (↑n : Int) ∧ (↑n : Int) ≤ (1000000000 
  : Int)) ∧ (True ∧ (((1 : Nat) = (1 : Nat) ∧ m = m) ∧ ((2 : Nat) = (2 : Nat) ∧ (0 : Nat) = (0 : Nat)) ∧ ((3 : Nat) = (3 : Nat) ∧ (0 : Nat) = (0 : Nat)) ∧ ((4 : Nat) = (4 : Nat) ∧ (0 
  : Nat) = (0 : Nat)) ∧ True) ∧ ((True ∧ True ∧ c = c) ∧ (True ∧ IntKind.i64 = IntKind.i64 ∧ a = a) ∧ (True ∧ (True ∧ s = s) ∧ (True ∧ i = i) ∧ ((0 : Nat) = (0 : Nat) ∧ n = n) ∧ True) 
  ∧ (True ∧ (True ∧ (0 : Int) = (0 : Int)) ∧ (True ∧ (0 : Int) = (0 : Int)) ∧ Value.slice none (0 : Nat) (0 : Nat) = Value.slice none (0 : Nat) (0 : Nat) ∧ True) ∧ (True ∧ (True ∧ s = 
  s) ∧ (True ∧ i = i) ∧ ((5 : Nat) = (5 : Nat) ∧ n = n) ∧ True) ∧ (True ∧ True ∧ List.replicate (Int.toNat (↑n : Int) * (3 : Nat)) (Sc.mk ((0 : Int)) ([])) = List.replicate (n * (3 : 
  Nat)) (Sc.mk ((0 : Int)) ([]))) ∧ True) ∧ True) ∧ True) ∧ True) ∧ (At ((0 : Int) ≤ (↑n : Int) ∧ (↑n : Int) ≤ (↑n : Int) ∧ (↑n : Int) ≤ (1000000000 : Int)) ∧ (True ∧ (((1 : Nat) = (1 
  : Nat) ∧ m = m) ∧ ((2 : Nat) = (2 : Nat) ∧ (0 : Nat) = (0 : Nat)) ∧ ((3 : Nat) = (3 : Nat) ∧ (0 : Nat) = (0 : Nat)) ∧ ((4 : Nat) = (4 : Nat) ∧ (0 : Nat) = (0 : Nat)) ∧ True) ∧ ((True 
  ∧ True ∧ c = c) ∧ (True ∧ IntKind.i64 = IntKind.i64 ∧ a = a) ∧ (True ∧ (True ∧ s = s) ∧ (True ∧ i = i) ∧ ((0 : Nat) = (0 : Nat) ∧ n = n) ∧ True) ∧ (True ∧ (True ∧ (0 : Int) = (0 : Int)) 
  ∧ (True ∧ (0 : Int) = (0 : Int)) ∧ Value.slice none (0 : Nat) (0 : Nat) = Value.slice none (0 : Nat) (0 : Nat) ∧ True) ∧ (True ∧ (True ∧ s = s) ∧ (True ∧ i = i) ∧ ((5 : Nat) = (5 : 
  Nat) ∧ n = n) ∧ True) ∧ (True ∧ True ∧ List.replicate (Int.toNat (↑n : Int) * (3 : Nat)) (Sc.mk ((0 : Int)) ([])) = List.replicate (n * (3 : Nat)) (Sc.mk ((0 : Int)) ([]))) ∧ True) 
  ∧ True) ∧ True) ∧ True) ∧ True) ∧ True) ∧ ((((At ((0 : Int) ≤ (↑n : Int) ∧ (↑n : Int) ≤ (↑n : Int) ∧ (↑n : Int) ≤ (1000000000 : Int)) ∧ ((True ∧ (((1 : Nat) = (1 : Nat) ∧ m = m) ∧ ((2 
  : Nat) = (2 : Nat) ∧ (0 : Nat) = (0 : Nat)) ∧ ((3 : Nat) = (3 : Nat) ∧ (0 : Nat) = (0 : Nat)) ∧ ((4 : Nat) = (4 : Nat) ∧ (0 : Nat) = (0 : Nat)) ∧ True) ∧ ((True ∧ True ∧ c = c) ∧ (True 
  ∧ IntKind.i64 = IntKind.i64 ∧ a = a) ∧ (True ∧ (True ∧ s = s) ∧ (True ∧ i = i) ∧ ((0 : Nat) = (0 : Nat) ∧ n = n) ∧ True) ∧ (True ∧ (True ∧ (0 : Int) = (0 : Int)) ∧ (True ∧ (0 : Int) 
  = (0 : Int)) ∧ Value.slice none (0 : Nat) (0 : Nat) = Value.slice none (0 : Nat) (0 : Nat) ∧ True) ∧ (True ∧ (True ∧ s = s) ∧ (True ∧ i = i) ∧ ((5 : Nat) = (5 : Nat) ∧ n = n) ∧ True) 
  ∧ (True ∧ True ∧ List.replicate (Int.toNat (↑n : Int) * (3 : Nat)) (Sc.mk ((0 : Int)) ([])) = List.replicate (n * (3 : Nat)) (Sc.mk ((0 : Int)) ([]))) ∧ True) ∧ True) ∧ True) ∧ True) 
  ∧ ((At ((0 : Int) ≤ (↑n : Int) ∧ (↑n : Int) ≤ (↑n : Int) ∧ (↑n : Int) ≤ (1000000000 : Int)) ∧ (True ∧ (((1 : Nat) = (1 : Nat) ∧ m = m) ∧ ((2 : Nat) = (2 : Nat) ∧ (0 : Nat) = (0 : Nat)) 
  ∧ ((3 : Nat) = (3 : Nat) ∧ (0 : Nat) = (0 : Nat)) ∧ ((4 : Nat) = (4 : Nat) ∧ (0 : Nat) = (0 : Nat)) ∧ True) ∧ ((True ∧ True ∧ c = c) ∧ (True ∧ IntKind.i64 = IntKind.i64 ∧ a = a) ∧ (True 
  ∧ (True ∧ s = s) ∧ (True ∧ i = i) ∧ ((0 : Nat) = (0 : Nat) ∧ n = n) ∧ True) ∧ (True ∧ (True ∧ (0 : Int) = (0 : Int)) ∧ (True ∧ (0 : Int) = (0 : Int)) ∧ Value.slice none (0 : Nat) (0 
  : Nat) = Value.slice none (0 : Nat) (0 : Nat) ∧ True) ∧ (True ∧ (True ∧ s = s) ∧ (True ∧ i = i) ∧ ((5 : Nat) = (5 : Nat) ∧ n = n) ∧ True) ∧ (True ∧ True ∧ List.replicate (Int.toNat 
  (↑n : Int) * (3 : Nat)) (Sc.mk ((0 : Int)) ([])) = List.replicate (n * (3 : Nat)) (Sc.mk ((0 : Int)) ([]))) ∧ True) ∧ True) ∧ True) ∧ True) ∧ True) ∧ (((At ((0 : Int) ≤ (↑n : Int) ∧ 
  (↑n : Int) ≤ (↑n : Int) ∧ (↑n : Int) ≤ (1000000000 : Int)) ∧ (True ∧ (((1 : Nat) = (1 : Nat) ∧ m = m) ∧ ((2 : Nat) = (2 : Nat) ∧ (0 : Nat) = (0 : Nat)) ∧ ((3 : Nat) = (3 : Nat) ∧ (0 
  : Nat) = (0 : Nat)) ∧ ((4 : Nat) = (4 : Nat) ∧ (0 : Nat) = (0 : Nat)) ∧ True) ∧ ((True ∧ True ∧ c = c) ∧ (True ∧ IntKind.i64 = IntKind.i64 ∧ a = a) ∧ (True ∧ (True ∧ s = s) ∧ (True 
  ∧ i = i) ∧ ((0 : Nat) = (0 : Nat) ∧ n = n) ∧ True) ∧ (True ∧ (True ∧ (0 : Int) = (0 : Int)) ∧ (True ∧ (0 : Int) = (0 : Int)) ∧ Value.slice none (0 : Nat) (0 : Nat) = Value.slice none 
  (0 : Nat) (0 : Nat) ∧ True) ∧ (True ∧ (True ∧ s = s) ∧ (True ∧ i = i) ∧ ((5 : Nat) = (5 : Nat) ∧ n = n) ∧ True) ∧ (True ∧ True ∧ List.replicate (Int.toNat (↑n : Int) * (3 : Nat)) (Sc.mk 
  ((0 : Int)) ([])) = List.replicate (n * (3 : Nat)) (Sc.mk ((0 : Int)) ([]))) ∧ True) ∧ True) ∧ True) ∧ True) ∧ True) ∧ True) ∧ (((At ((0 : Int) ≤ (↑n : Int) ∧ (↑n : Int) ≤ (↑n : Int) 
  ∧ (↑n : Int) ≤ (1000000000 : Int)) ∧ ((True ∧ (((1 : Nat) = (1 : Nat) ∧ m = m) ∧ ((2 : Nat) = (2 : Nat) ∧ (0 : Nat) = (0 : Nat)) ∧ ((3 : Nat) = (3 : Nat) ∧ (0 : Nat) = (0 : Nat)) ∧ 
  ((4 : Nat) = (4 : Nat) ∧ (0 : Nat) = (0 : Nat)) ∧ True) ∧ ((True ∧ True ∧ c = c) ∧ (True ∧ IntKind.i64 = IntKind.i64 ∧ a = a) ∧ (True ∧ (True ∧ s = s) ∧ (True ∧ i = i) ∧ ((0 : Nat) 
  = (0 : Nat) ∧ n = n) ∧ True) ∧ (True ∧ (True ∧ (0 : Int) = (0 : Int)) ∧ (True ∧ (0 : Int) = (0 : Int)) ∧ Value.slice none (0 : Nat) (0 : Nat) = Value.slice none (0 : Nat) (0 : Nat) 
  ∧ True) ∧ (True ∧ (True ∧ s = s) ∧ (True ∧ i = i) ∧ ((5 : Nat) = (5 : Nat) ∧ n = n) ∧ True) ∧ (True ∧ True ∧ List.replicate (Int.toNat (↑n : Int) * (3 : Nat)) (Sc.mk ((0 : Int)) ([])) 
  = List.replicate (n * (3 : Nat)) (Sc.mk ((0 : Int)) ([]))) ∧ True) ∧ True) ∧ True) ∧ True) ∧ ((At ((0 : Int) ≤ (↑n : Int) ∧ (↑n : Int) ≤ (↑n : Int) ∧ (↑n : Int) ≤ (1000000000 : Int)) 
  ∧ (True ∧ (((1 : Nat) = (1 : Nat) ∧ m = m) ∧ ((2 : Nat) = (2 : Nat) ∧ (0 : Nat) = (0 : Nat)) ∧ ((3 : Nat) = (3 : Nat) ∧ (0 : Nat) = (0 : Nat)) ∧ ((4 : Nat) = (4 : Nat) ∧ (0 : Nat) = 
  (0 : Nat)) ∧ True) ∧ ((True ∧ True ∧ c = c) ∧ (True ∧ IntKind.i64 = IntKind.i64 ∧ a = a) ∧ (True ∧ (True ∧ s = s) ∧ (True ∧ i = i) ∧ ((0 : Nat) = (0 : Nat) ∧ n = n) ∧ True) ∧ (True 
  ∧ (True ∧ (0 : Int) = (0 : Int)) ∧ (True ∧ (0 : Int) = (0 : Int)) ∧ Value.slice none (0 : Nat) (0 : Nat) = Value.slice none (0 : Nat) (0 : Nat) ∧ True) ∧ (True ∧ (True ∧ s = s) ∧ (True 
  ∧ i = i) ∧ ((5 : Nat) = (5 : Nat) ∧ n = n) ∧ True) ∧ (True ∧ True ∧ List.replicate (Int.toNat (↑n : Int) * (3 : Nat)) (Sc.mk ((0 : Int)) ([])) = List.replicate (n * (3 : Nat)) (Sc.mk 
  ((0 : Int)) ([]))) ∧ True) ∧ True) ∧ True) ∧ True) ∧ True) ∧ (At ((0 : Int) ≤ (↑n : Int) ∧ (↑n : Int) ≤ (↑n : Int) ∧ (↑n : Int) ≤ (1000000000 : Int)) ∧ (((True ∧ (((1 : Nat) = (1 : 
  Nat) ∧ m = m) ∧ ((2 : Nat) = (2 : Nat) ∧ (0 : Nat) = (0 : Nat)) ∧ ((3 : Nat) = (3 : Nat) ∧ (0 : Nat) = (0 : Nat)) ∧ ((4 : Nat) = (4 : Nat) ∧ (0 : Nat) = (0 : Nat)) ∧ True) ∧ ((True 
  ∧ True ∧ c = c) ∧ (True ∧ IntKind.i64 = IntKind.i64 ∧ a = a) ∧ (True ∧ (True ∧ s = s) ∧ (True ∧ i = i) ∧ ((0 : Nat) = (0 : Nat) ∧ n = n) ∧ True) ∧ (True ∧ (True ∧ (0 : Int) = (0 : Int)) 
  ∧ (True ∧ (0 : Int) = (0 : Int)) ∧ Value.slice none (0 : Nat) (0 : Nat) = Value.slice none (0 : Nat) (0 : Nat) ∧ True) ∧ (True ∧ (True ∧ s = s) ∧ (True ∧ i = i) ∧ ((5 : Nat) = (5 : 
  Nat) ∧ n = n) ∧ True) ∧ (True ∧ True ∧ List.replicate (Int.toNat (↑n : Int) * (3 : Nat)) (Sc.mk ((0 : Int)) ([])) = List.replicate (n * (3 : Nat)) (Sc.mk ((0 : Int)) ([]))) ∧ True) 
  ∧ True) ∧ True) ∧ True) ∧ ((True ∧ (((1 : Nat) = (1 : Nat) ∧ m = m) ∧ ((2 : Nat) = (2 : Nat) ∧ (0 : Nat) = (0 : Nat)) ∧ ((3 : Nat) = (3 : Nat) ∧ (0 : Nat) = (0 : Nat)) ∧ ((4 : Nat) 
  = (4 : Nat) ∧ (0 : Nat) = (0 : Nat)) ∧ True) ∧ ((True ∧ True ∧ c = c) ∧ (True ∧ IntKind.i64 = IntKind.i64 ∧ a = a) ∧ (True ∧ (True ∧ s = s) ∧ (True ∧ i = i) ∧ ((0 : Nat) = (0 : Nat) 
  ∧ n = n) ∧ True) ∧ (True ∧ (True ∧ (0 : Int) = (0 : Int)) ∧ (True ∧ (0 : Int) = (0 : Int)) ∧ Value.slice none (0 : Nat) (0 : Nat) = Value.slice none (0 : Nat) (0 : Nat) ∧ True) ∧ (True 
  ∧ (True ∧ s = s) ∧ (True ∧ i = i) ∧ ((5 : Nat) = (5 : Nat) ∧ n = n) ∧ True) ∧ (True ∧ True ∧ List.replicate (Int.toNat (↑n : Int) * (3 : Nat)) (Sc.mk ((0 : Int)) ([])) = List.replicate 
  (n * (3 : Nat)) (Sc.mk ((0 : Int)) ([]))) ∧ True) ∧ True) ∧ True) ∧ True) ∧ (((At ((0 : Int) ≤ (↑n : Int) ∧ (↑n : Int) ≤ (↑n : Int) ∧ (↑n : Int) ≤ (1000000000 : Int)) ∧ (True ∧ (((1 
  : Nat) = (1 : Nat) ∧ m = m) ∧ ((2 : Nat) = (2 : Nat) ∧ (0 : Nat) = (0 : Nat)) ∧ ((3 : Nat) = (3 : Nat) ∧ (0 : Nat) = (0 : Nat)) ∧ ((4 : Nat) = (4 : Nat) ∧ (0 : Nat) = (0 : Nat)) ∧ True) 
  ∧ ((True ∧ True ∧ c = c) ∧ (True ∧ IntKind.i64 = IntKind.i64 ∧ a = a) ∧ (True ∧ (True ∧ s = s) ∧ (True ∧ i = i) ∧ ((0 : Nat) = (0 : Nat) ∧ n = n) ∧ True) ∧ (True ∧ (True ∧ (0 : Int) 
  = (0 : Int)) ∧ (True ∧ (0 : Int) = (0 : Int)) ∧ Value.slice none (0 : Nat) (0 : Nat) = Value.slice none (0 : Nat) (0 : Nat) ∧ True) ∧ (True ∧ (True ∧ s = s) ∧ (True ∧ i = i) ∧ ((5 : 
  Nat) = (5 : Nat) ∧ n = n) ∧ True) ∧ (True ∧ True ∧ List.replicate (Int.toNat (↑n : Int) * (3 : Nat)) (Sc.mk ((0 : Int)) ([])) = List.replicate (n * (3 : Nat)) (Sc.mk ((0 : Int)) ([]))) 
  ∧ True) ∧ True) ∧ True) ∧ True) ∧ (At ((0 : Int) ≤ (↑n : Int) ∧ (↑n : Int) ≤ (↑n : Int) ∧ (↑n : Int) ≤ (1000000000 : Int)) ∧ (True ∧ (((1 : Nat) = (1 : Nat) ∧ m = m) ∧ ((2 : Nat) = 
  (2 : Nat) ∧ (0 : Nat) = (0 : Nat)) ∧ ((3 : Nat) = (3 : Nat) ∧ (0 : Nat) = (0 : Nat)) ∧ ((4 : Nat) = (4 : Nat) ∧ (0 : Nat) = (0 : Nat)) ∧ True) ∧ ((True ∧ True ∧ c = c) ∧ (True ∧ IntKind.i64 
  = IntKind.i64 ∧ a = a) ∧ (True ∧ (True ∧ s = s) ∧ (True ∧ i = i) ∧ ((0 : Nat) = (0 : Nat) ∧ n = n) ∧ True) ∧ (True ∧ (True ∧ (0 : Int) = (0 : Int)) ∧ (True ∧ (0 : Int) = (0 : Int)) 
  ∧ Value.slice none (0 : Nat) (0 : Nat) = Value.slice none (0 : Nat) (0 : Nat) ∧ True) ∧ (True ∧ (True ∧ s = s) ∧ (True ∧ i = i) ∧ ((5 : Nat) = (5 : Nat) ∧ n = n) ∧ True) ∧ (True ∧ True 
  ∧ List.replicate (Int.toNat (↑n : Int) * (3 : Nat)) (Sc.mk ((0 : Int)) ([])) = List.replicate (n * (3 : Nat)) (Sc.mk ((0 : Int)) ([]))) ∧ True) ∧ True) ∧ True) ∧ True) ∧ True) ∧ ((((At 
  ((0 : Int) ≤ (↑n : Int) ∧ (↑n : Int) ≤ (↑n : Int) ∧ (↑n : Int) ≤ (1000000000 : Int)) ∧ (True ∧ (((1 : Nat) = (1 : Nat) ∧ m = m) ∧ ((2 : Nat) = (2 : Nat) ∧ (0 : Nat) = (0 : Nat)) ∧ ((3 
  : Nat) = (3 : Nat) ∧ (0 : Nat) = (0 : Nat)) ∧ ((4 : Nat) = (4 : Nat) ∧ (0 : Nat) = (0 : Nat)) ∧ True) ∧ ((True ∧ True ∧ c = c) ∧ (True ∧ IntKind.i64 = IntKind.i64 ∧ a = a) ∧ (True ∧ 
  (True ∧ s = s) ∧ (True ∧ i = i) ∧ ((0 : Nat) = (0 : Nat) ∧ n = n) ∧ True) ∧ (True ∧ (True ∧ (0 : Int) = (0 : Int)) ∧ (True ∧ (0 : Int) = (0 : Int)) ∧ Value.slice none (0 : Nat) (0 : 
  Nat) = Value.slice none (0 : Nat) (0 : Nat) ∧ True) ∧ (True ∧ (True ∧ s = s) ∧ (True ∧ i = i) ∧ ((5 : Nat) = (5 : Nat) ∧ n = n) ∧ True) ∧ (True ∧ True ∧ List.replicate (Int.toNat (↑n 
  : Int) * (3 : Nat)) (Sc.mk ((0 : Int)) ([])) = List.replicate (n * (3 : Nat)) (Sc.mk ((0 : Int)) ([]))) ∧ True) ∧ True) ∧ True) ∧ True) ∧ True) ∧ (((At ((0 : Int) ≤ (↑n : Int) ∧ (↑n 
  : Int) ≤ (↑n : Int) ∧ (↑n : Int) ≤ (1000000000 : Int)) ∧ (True ∧ (((1 : Nat) = (1 : Nat) ∧ m = m) ∧ ((2 : Nat) = (2 : Nat) ∧ (0 : Nat) = (0 : Nat)) ∧ ((3 : Nat) = (3 : Nat) ∧ (0 : Nat) 
  = (0 : Nat)) ∧ ((4 : Nat) = (4 : Nat) ∧ (0 : Nat) = (0 : Nat)) ∧ True) ∧ ((True ∧ True ∧ c = c) ∧ (True ∧ IntKind.i64 = IntKind.i64 ∧ a = a) ∧ (True ∧ (True ∧ s = s) ∧ (True ∧ i = i) 
  ∧ ((0 : Nat) = (0 : Nat) ∧ n = n) ∧ True) ∧ (True ∧ (True ∧ (0 : Int) = (0 : Int)) ∧ (True ∧ (0 : Int) = (0 : Int)) ∧ Value.slice none (0 : Nat) (0 : Nat) = Value.slice none (0 : Nat) 
  (0 : Nat) ∧ True) ∧ (True ∧ (True ∧ s = s) ∧ (True ∧ i = i) ∧ ((5 : Nat) = (5 : Nat) ∧ n = n) ∧ True) ∧ (True ∧ True ∧ List.replicate (Int.toNat (↑n : Int) * (3 : Nat)) (Sc.mk ((0 : 
  Int)) ([])) = List.replicate (n * (3 : Nat)) (Sc.mk ((0 : Int)) ([]))) ∧ True) ∧ True) ∧ True) ∧ True) ∧ (At ((0 : Int) ≤ (↑n : Int) ∧ (↑n : Int) ≤ (↑n : Int) ∧ (↑n : Int) ≤ (1000000000 
  : Int)) ∧ (True ∧ (((1 : Nat) = (1 : Nat) ∧ m = m) ∧ ((2 : Nat) = (2 : Nat) ∧ (0 : Nat) = (0 : Nat)) ∧ ((3 : Nat) = (3 : Nat) ∧ (0 : Nat) = (0 : Nat)) ∧ ((4 : Nat) = (4 : Nat) ∧ (0 
  : Nat) = (0 : Nat)) ∧ True) ∧ ((True ∧ True ∧ c = c) ∧ (True ∧ IntKind.i64 = IntKind.i64 ∧ a = a) ∧ (True ∧ (True ∧ s = s) ∧ (True ∧ i = i) ∧ ((0 : Nat) = (0 : Nat) ∧ n = n) ∧ True) 
  ∧ (True ∧ (True ∧ (0 : Int) = (0 : Int)) ∧ (True ∧ (0 : Int) = (0 : Int)) ∧ Value.slice none (0 : Nat) (0 : Nat) = Value.slice none (0 : Nat) (0 : Nat) ∧ True) ∧ (True ∧ (True ∧ s = 
  s) ∧ (True ∧ i = i) ∧ ((5 : Nat) = (5 : Nat) ∧ n = n) ∧ True) ∧ (True ∧ True ∧ List.replicate (Int.toNat (↑n : Int) * (3 : Nat)) (Sc.mk ((0 : Int)) ([])) = List.replicate (n * (3 : 
  Nat)) (Sc.mk ((0 : Int)) ([]))) ∧ True) ∧ True) ∧ True) ∧ True) ∧ True) ∧ True) ∧ ((((At ((0 : Int) ≤ (↑n : Int) ∧ (↑n : Int) ≤ (↑n : Int) ∧ (↑n : Int) ≤ (1000000000 : Int)) ∧ ((True 
  ∧ (((1 : Nat) = (1 : Nat) ∧ m = m) ∧ ((2 : Nat) = (2 : Nat) ∧ (0 : Nat) = (0 : Nat)) ∧ ((3 : Nat) = (3 : Nat) ∧ (0 : Nat) = (0 : Nat)) ∧ ((4 : Nat) = (4 : Nat) ∧ (0 : Nat) = (0 : Nat)) 
  ∧ True) ∧ ((True ∧ True ∧ c = c) ∧ (True ∧ IntKind.i64 = IntKind.i64 ∧ a = a) ∧ (True ∧ (True ∧ s = s) ∧ (True ∧ i = i) ∧ ((0 : Nat) = (0 : Nat) ∧ n = n) ∧ True) ∧ (True ∧ (True ∧ (0 
  : Int) = (0 : Int)) ∧ (True ∧ (0 : Int) = (0 : Int)) ∧ Value.slice none (0 : Nat) (0 : Nat) = Value.slice none (0 : Nat) (0 : Nat) ∧ True) ∧ (True ∧ (True ∧ s = s) ∧ (True ∧ i = i) 
  ∧ ((5 : Nat) = (5 : Nat) ∧ n = n) ∧ True) ∧ (True ∧ True ∧ List.replicate (Int.toNat (↑n : Int) * (3 : Nat)) (Sc.mk ((0 : Int)) ([])) = List.replicate (n * (3 : Nat)) (Sc.mk ((0 : Int)) 
  ([]))) ∧ True) ∧ True) ∧ True) ∧ True) ∧ ((At ((0 : Int) ≤ (↑n : Int) ∧ (↑n : Int) ≤ (↑n : Int) ∧ (↑n : Int) ≤ (1000000000 : Int)) ∧ (True ∧ (((1 : Nat) = (1 : Nat) ∧ m = m) ∧ ((2 : 
  Nat) = (2 : Nat) ∧ (0 : Nat) = (0 : Nat)) ∧ ((3 : Nat) = (3 : Nat) ∧ (0 : Nat) = (0 : Nat)) ∧ ((4 : Nat) = (4 : Nat) ∧ (0 : Nat) = (0 : Nat)) ∧ True) ∧ ((True ∧ True ∧ c = c) ∧ (True 
  ∧ IntKind.i64 = IntKind.i64 ∧ a = a) ∧ (True ∧ (True ∧ s = s) ∧ (True ∧ i = i) ∧ ((0 : Nat) = (0 : Nat) ∧ n = n) ∧ True) ∧ (True ∧ (True ∧ (0 : Int) = (0 : Int)) ∧ (True ∧ (0 : Int) 
  = (0 : Int)) ∧ Value.slice none (0 : Nat) (0 : Nat) = Value.slice none (0 : Nat) (0 : Nat) ∧ True) ∧ (True ∧ (True ∧ s = s) ∧ (True ∧ i = i) ∧ ((5 : Nat) = (5 : Nat) ∧ n = n) ∧ True) 
  ∧ (True ∧ True ∧ List.replicate (Int.toNat (↑n : Int) * (3 : Nat)) (Sc.mk ((0 : Int)) ([])) = List.replicate (n * (3 : Nat)) (Sc.mk ((0 : Int)) ([]))) ∧ True) ∧ True) ∧ True) ∧ True) 
  ∧ True) ∧ (At ((0 : Int) ≤ (↑n : Int) ∧ (↑n : Int) ≤ (↑n : Int) ∧ (↑n : Int) ≤ (1000000000 : Int)) ∧ (((True ∧ (((1 : Nat) = (1 : Nat) ∧ m = m) ∧ ((2 : Nat) = (2 : Nat) ∧ (0 : Nat) 
  = (0 : Nat)) ∧ ((3 : Nat) = (3 : Nat) ∧ (0 : Nat) = (0 : Nat)) ∧ ((4 : Nat) = (4 : Nat) ∧ (0 : Nat) = (0 : Nat)) ∧ True) ∧ ((True ∧ True ∧ c = c) ∧ (True ∧ IntKind.i64 = IntKind.i64 
  ∧ a = a) ∧ (True ∧ (True ∧ s = s) ∧ (True ∧ i = i) ∧ ((0 : Nat) = (0 : Nat) ∧ n = n) ∧ True) ∧ (True ∧ (True ∧ (0 : Int) = (0 : Int)) ∧ (True ∧ (0 : Int) = (0 : Int)) ∧ Value.slice 
  none (0 : Nat) (0 : Nat) = Value.slice none (0 : Nat) (0 : Nat) ∧ True) ∧ (True ∧ (True ∧ s = s) ∧ (True ∧ i = i) ∧ ((5 : Nat) = (5 : Nat) ∧ n = n) ∧ True) ∧ (True ∧ True ∧ List.replicate 
  (Int.toNat (↑n : Int) * (3 : Nat)) (Sc.mk ((0 : Int)) ([])) = List.replicate (n * (3 : Nat)) (Sc.mk ((0 : Int)) ([]))) ∧ True) ∧ True) ∧ True) ∧ True) ∧ ((True ∧ (((1 : Nat) = (1 : 
  Nat) ∧ m = m) ∧ ((2 : Nat) = (2 : Nat) ∧ (0 : Nat) = (0 : Nat)) ∧ ((3 : Nat) = (3 : Nat) ∧ (0 : Nat) = (0 : Nat)) ∧ ((4 : Nat) = (4 : Nat) ∧ (0 : Nat) = (0 : Nat)) ∧ True) ∧ ((True 
  ∧ True ∧ c = c) ∧ (True ∧ IntKind.i64 = IntKind.i64 ∧ a = a) ∧ (True ∧ (True ∧ s = s) ∧ (True ∧ i = i) ∧ ((0 : Nat) = (0 : Nat) ∧ n = n) ∧ True) ∧ (True ∧ (True ∧ (0 : Int) = (0 : Int)) 
  ∧ (True ∧ (0 : Int) = (0 : Int)) ∧ Value.slice none (0 : Nat) (0 : Nat) = Value.slice none (0 : Nat) (0 : Nat) ∧ True) ∧ (True ∧ (True ∧ s = s) ∧ (True ∧ i = i) ∧ ((5 : Nat) = (5 : 
  Nat) ∧ n = n) ∧ True) ∧ (True ∧ True ∧ List.replicate (Int.toNat (↑n : Int) * (3 : Nat)) (Sc.mk ((0 : Int)) ([])) = List.replicate (n * (3 : Nat)) (Sc.mk ((0 : Int)) ([]))) ∧ True) 
  ∧ True) ∧ True) ∧ True) ∧ (((At ((0 : Int) ≤ (↑n : Int) ∧ (↑n : Int) ≤ (↑n : Int) ∧ (↑n : Int) ≤ (1000000000 : Int)) ∧ (True ∧ (((1 : Nat) = (1 : Nat) ∧ m = m) ∧ ((2 : Nat) = (2 : Nat) 
  ∧ (0 : Nat) = (0 : Nat)) ∧ ((3 : Nat) = (3 : Nat) ∧ (0 : Nat) = (0 : Nat)) ∧ ((4 : Nat) = (4 : Nat) ∧ (0 : Nat) = (0 : Nat)) ∧ True) ∧ ((True ∧ True ∧ c = c) ∧ (True ∧ IntKind.i64 = 
  IntKind.i64 ∧ a = a) ∧ (True ∧ (True ∧ s = s) ∧ (True ∧ i = i) ∧ ((0 : Nat) = (0 : Nat) ∧ n = n) ∧ True) ∧ (True ∧ (True ∧ (0 : Int) = (0 : Int)) ∧ (True ∧ (0 : Int) = (0 : Int)) ∧ 
  Value.slice none (0 : Nat) (0 : Nat) = Value.slice none (0 : Nat) (0 : Nat) ∧ True) ∧ (True ∧ (True ∧ s = s) ∧ (True ∧ i = i) ∧ ((5 : Nat) = (5 : Nat) ∧ n = n) ∧ True) ∧ (True ∧ True 
  ∧ List.replicate (Int.toNat (↑n : Int) * (3 : Nat)) (Sc.mk ((0 : Int)) ([])) = List.replicate (n * (3 : Nat)) (Sc.mk ((0 : Int)) ([]))) ∧ True) ∧ True) ∧ True) ∧ True) ∧ (At ((0 : Int) 
  ≤ (↑n : Int) ∧ (↑n : Int) ≤ (↑n : Int) ∧ (↑n : Int) ≤ (1000000000 : Int)) ∧ (True ∧ (((1 : Nat) = (1 : Nat) ∧ m = m) ∧ ((2 : Nat) = (2 : Nat) ∧ (0 : Nat) = (0 : Nat)) ∧ ((3 : Nat) = 
  (3 : Nat) ∧ (0 : Nat) = (0 : Nat)) ∧ ((4 : Nat) = (4 : Nat) ∧ (0 : Nat) = (0 : Nat)) ∧ True) ∧ ((True ∧ True ∧ c = c) ∧ (True ∧ IntKind.i64 = IntKind.i64 ∧ a = a) ∧ (True ∧ (True ∧ 
  s = s) ∧ (True ∧ i = i) ∧ ((0 : Nat) = (0 : Nat) ∧ n = n) ∧ True) ∧ (True ∧ (True ∧ (0 : Int) = (0 : Int)) ∧ (True ∧ (0 : Int) = (0 : Int)) ∧ Value.slice none (0 : Nat) (0 : Nat) = 
  Value.slice none (0 : Nat) (0 : Nat) ∧ True) ∧ (True ∧ (True ∧ s = s) ∧ (True ∧ i = i) ∧ ((5 : Nat) = (5 : Nat) ∧ n = n) ∧ True) ∧ (True ∧ True ∧ List.replicate (Int.toNat (↑n : Int) 
  * (3 : Nat)) (Sc.mk ((0 : Int)) ([])) = List.replicate (n * (3 : Nat)) (Sc.mk ((0 : Int)) ([]))) ∧ True) ∧ True) ∧ True) ∧ True) ∧ True) ∧ (((At ((0 : Int) ≤ (↑n : Int) ∧ (↑n : Int) 
  ≤ (↑n : Int) ∧ (↑n : Int) ≤ (1000000000 : Int)) ∧ ((True ∧ (((1 : Nat) = (1 : Nat) ∧ m = m) ∧ ((2 : Nat) = (2 : Nat) ∧ (0 : Nat) = (0 : Nat)) ∧ ((3 : Nat) = (3 : Nat) ∧ (0 : Nat) = 
  (0 : Nat)) ∧ ((4 : Nat) = (4 : Nat) ∧ (0 : Nat) = (0 : Nat)) ∧ True) ∧ ((True ∧ True ∧ c = c) ∧ (True ∧ IntKind.i64 = IntKind.i64 ∧ a = a) ∧ (True ∧ (True ∧ s = s) ∧ (True ∧ i = i) 
  ∧ ((0 : Nat) = (0 : Nat) ∧ n = n) ∧ True) ∧ (True ∧ (True ∧ (0 : Int) = (0 : Int)) ∧ (True ∧ (0 : Int) = (0 : Int)) ∧ Value.slice none (0 : Nat) (0 : Nat) = Value.slice none (0 : Nat) 
  (0 : Nat) ∧ True) ∧ (True ∧ (True ∧ s = s) ∧ (True ∧ i = i) ∧ ((5 : Nat) = (5 : Nat) ∧ n = n) ∧ True) ∧ (True ∧ True ∧ List.replicate (Int.toNat (↑n : Int) * (3 : Nat)) (Sc.mk ((0 : 
  Int)) ([])) = List.replicate (n * (3 : Nat)) (Sc.mk ((0 : Int)) ([]))) ∧ True) ∧ True) ∧ True) ∧ True) ∧ ((At ((0 : Int) ≤ (↑n : Int) ∧ (↑n : Int) ≤ (↑n : Int) ∧ (↑n : Int) ≤ (1000000000 
  : Int)) ∧ (True ∧ (((1 : Nat) = (1 : Nat) ∧ m = m) ∧ ((2 : Nat) = (2 : Nat) ∧ (0 : Nat) = (0 : Nat)) ∧ ((3 : Nat) = (3 : Nat) ∧ (0 : Nat) = (0 : Nat)) ∧ ((4 : Nat) = (4 : Nat) ∧ (0 
  : Nat) = (0 : Nat)) ∧ True) ∧ ((True ∧ True ∧ c = c) ∧ (True ∧ IntKind.i64 = IntKind.i64 ∧ a = a) ∧ (True ∧ (True ∧ s = s) ∧ (True ∧ i = i) ∧ ((0 : Nat) = (0 : Nat) ∧ n = n) ∧ True) 
  ∧ (True ∧ (True ∧ (0 : Int) = (0 : Int)) ∧ (True ∧ (0 : Int) = (0 : Int)) ∧ Value.slice none (0 : Nat) (0 : Nat) = Value.slice none (0 : Nat) (0 : Nat) ∧ True) ∧ (True ∧ (True ∧ s = 
  s) ∧ (True ∧ i = i) ∧ ((5 : Nat) = (5 : Nat) ∧ n = n) ∧ True) ∧ (True ∧ True ∧ List.replicate (Int.toNat (↑n : Int) * (3 : Nat)) (Sc.mk ((0 : Int)) ([])) = List.replicate (n * (3 : 
  Nat)) (Sc.mk ((0 : Int)) ([]))) ∧ True) ∧ True) ∧ True) ∧ True) ∧ True) ∧ (At ((0 : Int) ≤ (↑n : Int) ∧ (↑n : Int) ≤ (↑n : Int) ∧ (↑n : Int) ≤ (1000000000 : Int)) ∧ (((True ∧ (((1 : 
  Nat) = (1 : Nat) ∧ m = m) ∧ ((2 : Nat) = (2 : Nat) ∧ (0 : Nat) = (0 : Nat)) ∧ ((3 : Nat) = (3 : Nat) ∧ (0 : Nat) = (0 : Nat)) ∧ ((4 : Nat) = (4 : Nat) ∧ (0 : Nat) = (0 : Nat)) ∧ True) 
  ∧ ((True ∧ True ∧ c = c) ∧ (True ∧ IntKind.i64 = IntKind.i64 ∧ a = a) ∧ (True ∧ (True ∧ s = s) ∧ (True ∧ i = i) ∧ ((0 : Nat) = (0 : Nat) ∧ n = n) ∧ True) ∧ (True ∧ (True ∧ (0 : Int) 
  = (0 : Int)) ∧ (True ∧ (0 : Int) = (0 : Int)) ∧ Value.slice none (0 : Nat) (0 : Nat) = Value.slice none (0 : Nat) (0 : Nat) ∧ True) ∧ (True ∧ (True ∧ s = s) ∧ (True ∧ i = i) ∧ ((5 : 
  Nat) = (5 : Nat) ∧ n = n) ∧ True) ∧ (True ∧ True ∧ List.replicate (Int.toNat (↑n : Int) * (3 : Nat)) (Sc.mk ((0 : Int)) ([])) = List.replicate (n * (3 : Nat)) (Sc.mk ((0 : Int)) ([]))) 
  ∧ True) ∧ True) ∧ True) ∧ True) ∧ ((True ∧ (((1 : Nat) = (1 : Nat) ∧ m = m) ∧ ((2 : Nat) = (2 : Nat) ∧ (0 : Nat) = (0 : Nat)) ∧ ((3 : Nat) = (3 : Nat) ∧ (0 : Nat) = (0 : Nat)) ∧ ((4 
  : Nat) = (4 : Nat) ∧ (0 : Nat) = (0 : Nat)) ∧ True) ∧ ((True ∧ True ∧ c = c) ∧ (True ∧ IntKind.i64 = IntKind.i64 ∧ a = a) ∧ (True ∧ (True ∧ s = s) ∧ (True ∧ i = i) ∧ ((0 : Nat) = (0 
  : Nat) ∧ n = n) ∧ True) ∧ (True ∧ (True ∧ (0 : Int) = (0 : Int)) ∧ (True ∧ (0 : Int) = (0 : Int)) ∧ Value.slice none (0 : Nat) (0 : Nat) = Value.slice none (0 : Nat) (0 : Nat) ∧ True) 
  ∧ (True ∧ (True ∧ s = s) ∧ (True ∧ i = i) ∧ ((5 : Nat) = (5 : Nat) ∧ n = n) ∧ True) ∧ (True ∧ True ∧ List.replicate (Int.toNat (↑n : Int) * (3 : Nat)) (Sc.mk ((0 : Int)) ([])) = List.replicate 
  (n * (3 : Nat)) (Sc.mk ((0 : Int)) ([]))) ∧ True) ∧ True) ∧ True) ∧ True) ∧ (((At ((0 : Int) ≤ (↑n : Int) ∧ (↑n : Int) ≤ (↑n : Int) ∧ (↑n : Int) ≤ (1000000000 : Int)) ∧ (True ∧ (((1 
  : Nat) = (1 : Nat) ∧ m = m) ∧ ((2 : Nat) = (2 : Nat) ∧ (0 : Nat) = (0 : Nat)) ∧ ((3 : Nat) = (3 : Nat) ∧ (0 : Nat) = (0 : Nat)) ∧ ((4 : Nat) = (4 : Nat) ∧ (0 : Nat) = (0 : Nat)) ∧ True) 
  ∧ ((True ∧ True ∧ c = c) ∧ (True ∧ IntKind.i64 = IntKind.i64 ∧ a = a) ∧ (True ∧ (True ∧ s = s) ∧ (True ∧ i = i) ∧ ((0 : Nat) = (0 : Nat) ∧ n = n) ∧ True) ∧ (True ∧ (True ∧ (0 : Int) 
  = (0 : Int)) ∧ (True ∧ (0 : Int) = (0 : Int)) ∧ Value.slice none (0 : Nat) (0 : Nat) = Value.slice none (0 : Nat) (0 : Nat) ∧ True) ∧ (True ∧ (True ∧ s = s) ∧ (True ∧ i = i) ∧ ((5 : 
  Nat) = (5 : Nat) ∧ n = n) ∧ True) ∧ (True ∧ True ∧ List.replicate (Int.toNat (↑n : Int) * (3 : Nat)) (Sc.mk ((0 : Int)) ([])) = List.replicate (n * (3 : Nat)) (Sc.mk ((0 : Int)) ([]))) 
  ∧ True) ∧ True) ∧ True) ∧ True) ∧ (At ((0 : Int) ≤ (↑n : Int) ∧ (↑n : Int) ≤ (↑n : Int) ∧ (↑n : Int) ≤ (1000000000 : Int)) ∧ (True ∧ (((1 : Nat) = (1 : Nat) ∧ m = m) ∧ ((2 : Nat) = 
  (2 : Nat) ∧ (0 : Nat) = (0 : Nat)) ∧ ((3 : Nat) = (3 : Nat) ∧ (0 : Nat) = (0 : Nat)) ∧ ((4 : Nat) = (4 : Nat) ∧ (0 : Nat) = (0 : Nat)) ∧ True) ∧ ((True ∧ True ∧ c = c) ∧ (True ∧ IntKind.i64 
  = IntKind.i64 ∧ a = a) ∧ (True ∧ (True ∧ s = s) ∧ (True ∧ i = i) ∧ ((0 : Nat) = (0 : Nat) ∧ n = n) ∧ True) ∧ (True ∧ (True ∧ (0 : Int) = (0 : Int)) ∧ (True ∧ (0 : Int) = (0 : Int)) 
  ∧ Value.slice none (0 : Nat) (0 : Nat) = Value.slice none (0 : Nat) (0 : Nat) ∧ True) ∧ (True ∧ (True ∧ s = s) ∧ (True ∧ i = i) ∧ ((5 : Nat) = (5 : Nat) ∧ n = n) ∧ True) ∧ (True ∧ True 
  ∧ List.replicate (Int.toNat (↑n : Int) * (3 : Nat)) (Sc.mk ((0 : Int)) ([])) = List.replicate (n * (3 : Nat)) (Sc.mk ((0 : Int)) ([]))) ∧ True) ∧ True) ∧ True) ∧ True) ∧ True) ∧ (At 
  ((0 : Int) ≤ (↑n : Int) ∧ (↑n : Int) ≤ (↑n : Int) ∧ (↑n : Int) ≤ (1000000000 : Int)) ∧ ((((True ∧ (((1 : Nat) = (1 : Nat) ∧ m = m) ∧ ((2 : Nat) = (2 : Nat) ∧ (0 : Nat) = (0 : Nat)) 
  ∧ ((3 : Nat) = (3 : Nat) ∧ (0 : Nat) = (0 : Nat)) ∧ ((4 : Nat) = (4 : Nat) ∧ (0 : Nat) = (0 : Nat)) ∧ True) ∧ ((True ∧ True ∧ c = c) ∧ (True ∧ IntKind.i64 = IntKind.i64 ∧ a = a) ∧ (True 
  ∧ (True ∧ s = s) ∧ (True ∧ i = i) ∧ ((0 : Nat) = (0 : Nat) ∧ n = n) ∧ True) ∧ (True ∧ (True ∧ (0 : Int) = (0 : Int)) ∧ (True ∧ (0 : Int) = (0 : Int)) ∧ Value.slice none (0 : Nat) (0 
  : Nat) = Value.slice none (0 : Nat) (0 : Nat) ∧ True) ∧ (True ∧ (True ∧ s = s) ∧ (True ∧ i = i) ∧ ((5 : Nat) = (5 : Nat) ∧ n = n) ∧ True) ∧ (True ∧ True ∧ List.replicate (Int.toNat 
  (↑n : Int) * (3 : Nat)) (Sc.mk ((0 : Int)) ([])) = List.replicate (n * (3 : Nat)) (Sc.mk ((0 : Int)) ([]))) ∧ True) ∧ True) ∧ True) ∧ True) ∧ ((True ∧ (((1 : Nat) = (1 : Nat) ∧ m = 
  m) ∧ ((2 : Nat) = (2 : Nat) ∧ (0 : Nat) = (0 : Nat)) ∧ ((3 : Nat) = (3 : Nat) ∧ (0 : Nat) = (0 : Nat)) ∧ ((4 : Nat) = (4 : Nat) ∧ (0 : Nat) = (0 : Nat)) ∧ True) ∧ ((True ∧ True ∧ c 
  = c) ∧ (True ∧ IntKind.i64 = IntKind.i64 ∧ a = a) ∧ (True ∧ (True ∧ s = s) ∧ (True ∧ i = i) ∧ ((0 : Nat) = (0 : Nat) ∧ n = n) ∧ True) ∧ (True ∧ (True ∧ (0 : Int) = (0 : Int)) ∧ (True 
  ∧ (0 : Int) = (0 : Int)) ∧ Value.slice none (0 : Nat) (0 : Nat) = Value.slice none (0 : Nat) (0 : Nat) ∧ True) ∧ (True ∧ (True ∧ s = s) ∧ (True ∧ i = i) ∧ ((5 : Nat) = (5 : Nat) ∧ n 
  = n) ∧ True) ∧ (True ∧ True ∧ List.replicate (Int.toNat (↑n : Int) * (3 : Nat)) (Sc.mk ((0 : Int)) ([])) = List.replicate (n * (3 : Nat)) (Sc.mk ((0 : Int)) ([]))) ∧ True) ∧ True) ∧ 
  True) ∧ True) ∧ ((((True ∧ (((1 : Nat) = (1 : Nat) ∧ m = m) ∧ ((2 : Nat) = (2 : Nat) ∧ (0 : Nat) = (0 : Nat)) ∧ ((3 : Nat) = (3 : Nat) ∧ (0 : Nat) = (0 : Nat)) ∧ ((4 : Nat) = (4 : Nat) 
  ∧ (0 : Nat) = (0 : Nat)) ∧ True) ∧ ((True ∧ True ∧ c = c) ∧ (True ∧ IntKind.i64 = IntKind.i64 ∧ a = a) ∧ (True ∧ (True ∧ s = s) ∧ (True ∧ i = i) ∧ ((0 : Nat) = (0 : Nat) ∧ n = n) ∧ 
  True) ∧ (True ∧ (True ∧ (0 : Int) = (0 : Int)) ∧ (True ∧ (0 : Int) = (0 : Int)) ∧ Value.slice none (0 : Nat) (0 : Nat) = Value.slice none (0 : Nat) (0 : Nat) ∧ True) ∧ (True ∧ (True 
  ∧ s = s) ∧ (True ∧ i = i) ∧ ((5 : Nat) = (5 : Nat) ∧ n = n) ∧ True) ∧ (True ∧ True ∧ List.replicate (Int.toNat (↑n : Int) * (3 : Nat)) (Sc.mk ((0 : Int)) ([])) = List.replicate (n * 
  (3 : Nat)) (Sc.mk ((0 : Int)) ([]))) ∧ True) ∧ True) ∧ True) ∧ True) ∧ ((True ∧ (((1 : Nat) = (1 : Nat) ∧ m = m) ∧ ((2 : Nat) = (2 : Nat) ∧ (0 : Nat) = (0 : Nat)) ∧ ((3 : Nat) = (3 
  : Nat) ∧ (0 : Nat) = (0 : Nat)) ∧ ((4 : Nat) = (4 : Nat) ∧ (0 : Nat) = (0 : Nat)) ∧ True) ∧ ((True ∧ True ∧ c = c) ∧ (True ∧ IntKind.i64 = IntKind.i64 ∧ a = a) ∧ (True ∧ (True ∧ s = 
  s) ∧ (True ∧ i = i) ∧ ((0 : Nat) = (0 : Nat) ∧ n = n) ∧ True) ∧ (True ∧ (True ∧ (0 : Int) = (0 : Int)) ∧ (True ∧ (0 : Int) = (0 : Int)) ∧ Value.slice none (0 : Nat) (0 : Nat) = Value.slice 
  none (0 : Nat) (0 : Nat) ∧ True) ∧ (True ∧ (True ∧ s = s) ∧ (True ∧ i = i) ∧ ((5 : Nat) = (5 : Nat) ∧ n = n) ∧ True) ∧ (True ∧ True ∧ List.replicate (Int.toNat (↑n : Int) * (3 : Nat)) 
  (Sc.mk ((0 : Int)) ([])) = List.replicate (n * (3 : Nat)) (Sc.mk ((0 : Int)) ([]))) ∧ True) ∧ True) ∧ True) ∧ True) ∧ ((True ∧ (((1 : Nat) = (1 : Nat) ∧ m = m) ∧ ((2 : Nat) = (2 : Nat) 
  ∧ (0 : Nat) = (0 : Nat)) ∧ ((3 : Nat) = (3 : Nat) ∧ (0 : Nat) = (0 : Nat)) ∧ ((4 : Nat) = (4 : Nat) ∧ (0 : Nat) = (0 : Nat)) ∧ True) ∧ ((True ∧ True ∧ c = c) ∧ (True ∧ IntKind.i64 = 
  IntKind.i64 ∧ a = a) ∧ (True ∧ (True ∧ s = s) ∧ (True ∧ i = i) ∧ ((0 : Nat) = (0 : Nat) ∧ n = n) ∧ True) ∧ (True ∧ (True ∧ (0 : Int) = (0 : Int)) ∧ (True ∧ (0 : Int) = (0 : Int)) ∧ 
  Value.slice none (0 : Nat) (0 : Nat) = Value.slice none (0 : Nat) (0 : Nat) ∧ True) ∧ (True ∧ (True ∧ s = s) ∧ (True ∧ i = i) ∧ ((5 : Nat) = (5 : Nat) ∧ n = n) ∧ True) ∧ (True ∧ True 
  ∧ List.replicate (Int.toNat (↑n : Int) * (3 : Nat)) (Sc.mk ((0 : Int)) ([])) = List.replicate (n * (3 : Nat)) (Sc.mk ((0 : Int)) ([]))) ∧ True) ∧ True) ∧ True) ∧ True) ∧ ((((At ((0 
  : Int) ≤ (↑n : Int) ∧ (↑n : Int) ≤ (↑n : Int) ∧ (↑n : Int) ≤ (1000000000 : Int)) ∧ (True ∧ (((1 : Nat) = (1 : Nat) ∧ m = m) ∧ ((2 : Nat) = (2 : Nat) ∧ (0 : Nat) = (0 : Nat)) ∧ ((3 : 
  Nat) = (3 : Nat) ∧ (0 : Nat) = (0 : Nat)) ∧ ((4 : Nat) = (4 : Nat) ∧ (0 : Nat) = (0 : Nat)) ∧ True) ∧ ((True ∧ True ∧ c = c) ∧ (True ∧ IntKind.i64 = IntKind.i64 ∧ a = a) ∧ (True ∧ (True 
  ∧ s = s) ∧ (True ∧ i = i) ∧ ((0 : Nat) = (0 : Nat) ∧ n = n) ∧ True) ∧ (True ∧ (True ∧ (0 : Int) = (0 : Int)) ∧ (True ∧ (0 : Int) = (0 : Int)) ∧ Value.slice none (0 : Nat) (0 : Nat) 
  = Value.slice none (0 : Nat) (0 : Nat) ∧ True) ∧ (True ∧ (True ∧ s = s) ∧ (True ∧ i = i) ∧ ((5 : Nat) = (5 : Nat) ∧ n = n) ∧ True) ∧ (True ∧ True ∧ List.replicate (Int.toNat (↑n : Int) 
  * (3 : Nat)) (Sc.mk ((0 : Int)) ([])) = List.replicate (n * (3 : Nat)) (Sc.mk ((0 : Int)) ([]))) ∧ True) ∧ True) ∧ True) ∧ True) ∧ (At ((0 : Int) ≤ (↑n : Int) ∧ (↑n : Int) ≤ (↑n : Int) 
  ∧ (↑n : Int) ≤ (1000000000 : Int)) ∧ (True ∧ (((1 : Nat) = (1 : Nat) ∧ m = m) ∧ ((2 : Nat) = (2 : Nat) ∧ (0 : Nat) = (0 : Nat)) ∧ ((3 : Nat) = (3 : Nat) ∧ (0 : Nat) = (0 : Nat)) ∧ ((4 
  : Nat) = (4 : Nat) ∧ (0 : Nat) = (0 : Nat)) ∧ True) ∧ ((True ∧ True ∧ c = c) ∧ (True ∧ IntKind.i64 = IntKind.i64 ∧ a = a) ∧ (True ∧ (True ∧ s = s) ∧ (True ∧ i = i) ∧ ((0 : Nat) = (0 
  : Nat) ∧ n = n) ∧ True) ∧ (True ∧ (True ∧ (0 : Int) = (0 : Int)) ∧ (True ∧ (0 : Int) = (0 : Int)) ∧ Value.slice none (0 : Nat) (0 : Nat) = Value.slice none (0 : Nat) (0 : Nat) ∧ True) 
  ∧ (True ∧ (True ∧ s = s) ∧ (True ∧ i = i) ∧ ((5 : Nat) = (5 : Nat) ∧ n = n) ∧ True) ∧ (True ∧ True ∧ List.replicate (Int.toNat (↑n : Int) * (3 : Nat)) (Sc.mk ((0 : Int)) ([])) = List.replicate 
  (n * (3 : Nat)) (Sc.mk ((0 : Int)) ([]))) ∧ True) ∧ True) ∧ True) ∧ True) ∧ (((At ((0 : Int) ≤ (↑n : Int) ∧ (↑n : Int) ≤ (↑n : Int) ∧ (↑n : Int) ≤ (1000000000 : Int)) ∧ (True ∧ (((1 
  : Nat) = (1 : Nat) ∧ m = m) ∧ ((2 : Nat) = (2 : Nat) ∧ (0 : Nat) = (0 : Nat)) ∧ ((3 : Nat) = (3 : Nat) ∧ (0 : Nat) = (0 : Nat)) ∧ ((4 : Nat) = (4 : Nat) ∧ (0 : Nat) = (0 : Nat)) ∧ True) 
  ∧ ((True ∧ True ∧ c = c) ∧ (True ∧ IntKind.i64 = IntKind.i64 ∧ a = a) ∧ (True ∧ (True ∧ s = s) ∧ (True ∧ i = i) ∧ ((0 : Nat) = (0 : Nat) ∧ n = n) ∧ True) ∧ (True ∧ (True ∧ (0 : Int) 
  = (0 : Int)) ∧ (True ∧ (0 : Int) = (0 : Int)) ∧ Value.slice none (0 : Nat) (0 : Nat) = Value.slice none (0 : Nat) (0 : Nat) ∧ True) ∧ (True ∧ (True ∧ s = s) ∧ (True ∧ i = i) ∧ ((5 : 
  Nat) = (5 : Nat) ∧ n = n) ∧ True) ∧ (True ∧ True ∧ List.replicate (Int.toNat (↑n : Int) * (3 : Nat)) (Sc.mk ((0 : Int)) ([])) = List.replicate (n * (3 : Nat)) (Sc.mk ((0 : Int)) ([]))) 
  ∧ True) ∧ True) ∧ True) ∧ True) ∧ (At ((0 : Int) ≤ (↑n : Int) ∧ (↑n : Int) ≤ (↑n : Int) ∧ (↑n : Int) ≤ (1000000000 : Int)) ∧ (True ∧ (((1 : Nat) = (1 : Nat) ∧ m = m) ∧ ((2 : Nat) = 
  (2 : Nat) ∧ (0 : Nat) = (0 : Nat)) ∧ ((3 : Nat) = (3 : Nat) ∧ (0 : Nat) = (0 : Nat)) ∧ ((4 : Nat) = (4 : Nat) ∧ (0 : Nat) = (0 : Nat)) ∧ True) ∧ ((True ∧ True ∧ c = c) ∧ (True ∧ IntKind.i64 
  = IntKind.i64 ∧ a = a) ∧ (True ∧ (True ∧ s = s) ∧ (True ∧ i = i) ∧ ((0 : Nat) = (0 : Nat) ∧ n = n) ∧ True) ∧ (True ∧ (True ∧ (0 : Int) = (0 : Int)) ∧ (True ∧ (0 : Int) = (0 : Int)) 
  ∧ Value.slice none (0 : Nat) (0 : Nat) = Value.slice none (0 : Nat) (0 : Nat) ∧ True) ∧ (True ∧ (True ∧ s = s) ∧ (True ∧ i = i) ∧ ((5 : Nat) = (5 : Nat) ∧ n = n) ∧ True) ∧ (True ∧ True 
  ∧ List.replicate (Int.toNat (↑n : Int) * (3 : Nat)) (Sc.mk ((0 : Int)) ([])) = List.replicate (n * (3 : Nat)) (Sc.mk ((0 : Int)) ([]))) ∧ True) ∧ True) ∧ True) ∧ True) ∧ (At ((0 : Int) 
  ≤ (↑n : Int) ∧ (↑n : Int) ≤ (↑n : Int) ∧ (↑n : Int) ≤ (1000000000 : Int)) ∧ (True ∧ (((1 : Nat) = (1 : Nat) ∧ m = m) ∧ ((2 : Nat) = (2 : Nat) ∧ (0 : Nat) = (0 : Nat)) ∧ ((3 : Nat) = 
  (3 : Nat) ∧ (0 : Nat) = (0 : Nat)) ∧ ((4 : Nat) = (4 : Nat) ∧ (0 : Nat) = (0 : Nat)) ∧ True) ∧ ((True ∧ True ∧ c = c) ∧ (True ∧ IntKind.i64 = IntKind.i64 ∧ a = a) ∧ (True ∧ (True ∧ 
  s = s) ∧ (True ∧ i = i) ∧ ((0 : Nat) = (0 : Nat) ∧ n = n) ∧ True) ∧ (True ∧ (True ∧ (0 : Int) = (0 : Int)) ∧ (True ∧ (0 : Int) = (0 : Int)) ∧ Value.slice none (0 : Nat) (0 : Nat) = 
  Value.slice none (0 : Nat) (0 : Nat) ∧ True) ∧ (True ∧ (True ∧ s = s) ∧ (True ∧ i = i) ∧ ((5 : Nat) = (5 : Nat) ∧ n = n) ∧ True) ∧ (True ∧ True ∧ List.replicate (Int.toNat (↑n : Int) 
  * (3 : Nat)) (Sc.mk ((0 : Int)) ([])) = List.replicate (n * (3 : Nat)) (Sc.mk ((0 : Int)) ([]))) ∧ True) ∧ True) ∧ True) ∧ True) ∧ True) ∧ (((((At ((0 : Int) ≤ (↑n : Int) ∧ (↑n : Int) 
  ≤ (↑n : Int) ∧ (↑n : Int) ≤ (1000000000 : Int)) ∧ (True ∧ (((1 : Nat) = (1 : Nat) ∧ m = m) ∧ ((2 : Nat) = (2 : Nat) ∧ (0 : Nat) = (0 : Nat)) ∧ ((3 : Nat) = (3 : Nat) ∧ (0 : Nat) = (0 
  : Nat)) ∧ ((4 : Nat) = (4 : Nat) ∧ (0 : Nat) = (0 : Nat)) ∧ True) ∧ ((True ∧ True ∧ c = c) ∧ (True ∧ IntKind.i64 = IntKind.i64 ∧ a = a) ∧ (True ∧ (True ∧ s = s) ∧ (True ∧ i = i) ∧ ((0 
  : Nat) = (0 : Nat) ∧ n = n) ∧ True) ∧ (True ∧ (True ∧ (0 : Int) = (0 : Int)) ∧ (True ∧ (0 : Int) = (0 : Int)) ∧ Value.slice none (0 : Nat) (0 : Nat) = Value.slice none (0 : Nat) (0 
  : Nat) ∧ True) ∧ (True ∧ (True ∧ s = s) ∧ (True ∧ i = i) ∧ ((5 : Nat) = (5 : Nat) ∧ n = n) ∧ True) ∧ (True ∧ True ∧ List.replicate (Int.toNat (↑n : Int) * (3 : Nat)) (Sc.mk ((0 : Int)) 
  ([])) = List.replicate (n * (3 : Nat)) (Sc.mk ((0 : Int)) ([]))) ∧ True) ∧ True) ∧ True) ∧ True) ∧ True) ∧ (((At ((0 : Int) ≤ (↑n : Int) ∧ (↑n : Int) ≤ (↑n : Int) ∧ (↑n : Int) ≤ (1000000000 
  : Int)) ∧ (True ∧ (((1 : Nat) = (1 : Nat) ∧ m = m) ∧ ((2 : Nat) = (2 : Nat) ∧ (0 : Nat) = (0 : Nat)) ∧ ((3 : Nat) = (3 : Nat) ∧ (0 : Nat) = (0 : Nat)) ∧ ((4 : Nat) = (4 : Nat) ∧ (0 
  : Nat) = (0 : Nat)) ∧ True) ∧ ((True ∧ True ∧ c = c) ∧ (True ∧ IntKind.i64 = IntKind.i64 ∧ a = a) ∧ (True ∧ (True ∧ s = s) ∧ (True ∧ i = i) ∧ ((0 : Nat) = (0 : Nat) ∧ n = n) ∧ True) 
  ∧ (True ∧ (True ∧ (0 : Int) = (0 : Int)) ∧ (True ∧ (0 : Int) = (0 : Int)) ∧ Value.slice none (0 : Nat) (0 : Nat) = Value.slice none (0 : Nat) (0 : Nat) ∧ True) ∧ (True ∧ (True ∧ s = 
  s) ∧ (True ∧ i = i) ∧ ((5 : Nat) = (5 : Nat) ∧ n = n) ∧ True) ∧ (True ∧ True ∧ List.replicate (Int.toNat (↑n : Int) * (3 : Nat)) (Sc.mk ((0 : Int)) ([])) = List.replicate (n * (3 : 
  Nat)) (Sc.mk ((0 : Int)) ([]))) ∧ True) ∧ True) ∧ True) ∧ True) ∧ (At ((0 : Int) ≤ (↑n : Int) ∧ (↑n : Int) ≤ (↑n : Int) ∧ (↑n : Int) ≤ (1000000000 : Int)) ∧ (True ∧ (((1 : Nat) = (1 
  : Nat) ∧ m = m) ∧ ((2 : Nat) = (2 : Nat) ∧ (0 : Nat) = (0 : Nat)) ∧ ((3 : Nat) = (3 : Nat) ∧ (0 : Nat) = (0 : Nat)) ∧ ((4 : Nat) = (4 : Nat) ∧ (0 : Nat) = (0 : Nat)) ∧ True) ∧ ((True 
  ∧ True ∧ c = c) ∧ (True ∧ IntKind.i64 = IntKind.i64 ∧ a = a) ∧ (True ∧ (True ∧ s = s) ∧ (True ∧ i = i) ∧ ((0 : Nat) = (0 : Nat) ∧ n = n) ∧ True) ∧ (True ∧ (True ∧ (0 : Int) = (0 : Int)) 
  ∧ (True ∧ (0 : Int) = (0 : Int)) ∧ Value.slice none (0 : Nat) (0 : Nat) = Value.slice none (0 : Nat) (0 : Nat) ∧ True) ∧ (True ∧ (True ∧ s = s) ∧ (True ∧ i = i) ∧ ((5 : Nat) = (5 : 
  Nat) ∧ n = n) ∧ True) ∧ (True ∧ True ∧ List.replicate (Int.toNat (↑n : Int) * (3 : Nat)) (Sc.mk ((0 : Int)) ([])) = List.replicate (n * (3 : Nat)) (Sc.mk ((0 : Int)) ([]))) ∧ True) 
  ∧ True) ∧ True) ∧ True) ∧ True) ∧ ((((At ((0 : Int) ≤ (↑n : Int) ∧ (↑n : Int) ≤ (↑n : Int) ∧ (↑n : Int) ≤ (1000000000 : Int)) ∧ (True ∧ (((1 : Nat) = (1 : Nat) ∧ m = m) ∧ ((2 : Nat) 
  = (2 : Nat) ∧ (0 : Nat) = (0 : Nat)) ∧ ((3 : Nat) = (3 : Nat) ∧ (0 : Nat) = (0 : Nat)) ∧ ((4 : Nat) = (4 : Nat) ∧ (0 : Nat) = (0 : Nat)) ∧ True) ∧ ((True ∧ True ∧ c = c) ∧ (True ∧ IntKind.i64 
  = IntKind.i64 ∧ a = a) ∧ (True ∧ (True ∧ s = s) ∧ (True ∧ i = i) ∧ ((0 : Nat) = (0 : Nat) ∧ n = n) ∧ True) ∧ (True ∧ (True ∧ (0 : Int) = (0 : Int)) ∧ (True ∧ (0 : Int) = (0 : Int)) 
  ∧ Value.slice none (0 : Nat) (0 : Nat) = Value.slice none (0 : Nat) (0 : Nat) ∧ True) ∧ (True ∧ (True ∧ s = s) ∧ (True ∧ i = i) ∧ ((5 : Nat) = (5 : Nat) ∧ n = n) ∧ True) ∧ (True ∧ True 
  ∧ List.replicate (Int.toNat (↑n : Int) * (3 : Nat)) (Sc.mk ((0 : Int)) ([])) = List.replicate (n * (3 : Nat)) (Sc.mk ((0 : Int)) ([]))) ∧ True) ∧ True) ∧ True) ∧ True) ∧ True) ∧ (((At 
  ((0 : Int) ≤ (↑n : Int) ∧ (↑n : Int) ≤ (↑n : Int) ∧ (↑n : Int) ≤ (1000000000 : Int)) ∧ (True ∧ (((1 : Nat) = (1 : Nat) ∧ m = m) ∧ ((2 : Nat) = (2 : Nat) ∧ (0 : Nat) = (0 : Nat)) ∧ ((3 
  : Nat) = (3 : Nat) ∧ (0 : Nat) = (0 : Nat)) ∧ ((4 : Nat) = (4 : Nat) ∧ (0 : Nat) = (0 : Nat)) ∧ True) ∧ ((True ∧ True ∧ c = c) ∧ (True ∧ IntKind.i64 = IntKind.i64 ∧ a = a) ∧ (True ∧ 
  (True ∧ s = s) ∧ (True ∧ i = i) ∧ ((0 : Nat) = (0 : Nat) ∧ n = n) ∧ True) ∧ (True ∧ (True ∧ (0 : Int) = (0 : Int)) ∧ (True ∧ (0 : Int) = (0 : Int)) ∧ Value.slice none (0 : Nat) (0 : 
  Nat) = Value.slice none (0 : Nat) (0 : Nat) ∧ True) ∧ (True ∧ (True ∧ s = s) ∧ (True ∧ i = i) ∧ ((5 : Nat) = (5 : Nat) ∧ n = n) ∧ True) ∧ (True ∧ True ∧ List.replicate (Int.toNat (↑n 
  : Int) * (3 : Nat)) (Sc.mk ((0 : Int)) ([])) = List.replicate (n * (3 : Nat)) (Sc.mk ((0 : Int)) ([]))) ∧ True) ∧ True) ∧ True) ∧ True) ∧ (At ((0 : Int) ≤ (↑n : Int) ∧ (↑n : Int) ≤ 
  (↑n : Int) ∧ (↑n : Int) ≤ (1000000000 : Int)) ∧ (True ∧ (((1 : Nat) = (1 : Nat) ∧ m = m) ∧ ((2 : Nat) = (2 : Nat) ∧ (0 : Nat) = (0 : Nat)) ∧ ((3 : Nat) = (3 : Nat) ∧ (0 : Nat) = (0 
  : Nat)) ∧ ((4 : Nat) = (4 : Nat) ∧ (0 : Nat) = (0 : Nat)) ∧ True) ∧ ((True ∧ True ∧ c = c) ∧ (True ∧ IntKind.i64 = IntKind.i64 ∧ a = a) ∧ (True ∧ (True ∧ s = s) ∧ (True ∧ i = i) ∧ ((0 
  : Nat) = (0 : Nat) ∧ n = n) ∧ True) ∧ (True ∧ (True ∧ (0 : Int) = (0 : Int)) ∧ (True ∧ (0 : Int) = (0 : Int)) ∧ Value.slice none (0 : Nat) (0 : Nat) = Value.slice none (0 : Nat) (0 
  : Nat) ∧ True) ∧ (True ∧ (True ∧ s = s) ∧ (True ∧ i = i) ∧ ((5 : Nat) = (5 : Nat) ∧ n = n) ∧ True) ∧ (True ∧ True ∧ List.replicate (Int.toNat (↑n : Int) * (3 : Nat)) (Sc.mk ((0 : Int)) 
  ([])) = List.replicate (n * (3 : Nat)) (Sc.mk ((0 : Int)) ([]))) ∧ True) ∧ True) ∧ True) ∧ True) ∧ True) ∧ ((((At ((0 : Int) ≤ (↑n : Int) ∧ (↑n : Int) ≤ (↑n : Int) ∧ (↑n : Int) ≤ (1000000000 
  : Int)) ∧ (True ∧ (((1 : Nat) = (1 : Nat) ∧ m = m) ∧ ((2 : Nat) = (2 : Nat) ∧ (0 : Nat) = (0 : Nat)) ∧ ((3 : Nat) = (3 : Nat) ∧ (0 : Nat) = (0 : Nat)) ∧ ((4 : Nat) = (4 : Nat) ∧ (0 
  : Nat) = (0 : Nat)) ∧ True) ∧ ((True ∧ True ∧ c = c) ∧ (True ∧ IntKind.i64 = IntKind.i64 ∧ a = a) ∧ (True ∧ (True ∧ s = s) ∧ (True ∧ i = i) ∧ ((0 : Nat) = (0 : Nat) ∧ n = n) ∧ True) 
  ∧ (True ∧ (True ∧ (0 : Int) = (0 : Int)) ∧ (True ∧ (0 : Int) = (0 : Int)) ∧ Value.slice none (0 : Nat) (0 : Nat) = Value.slice none (0 : Nat) (0 : Nat) ∧ True) ∧ (True ∧ (True ∧ s = 
  s) ∧ (True ∧ i = i) ∧ ((5 : Nat) = (5 : Nat) ∧ n = n) ∧ True) ∧ (True ∧ True ∧ List.replicate (Int.toNat (↑n : Int) * (3 : Nat)) (Sc.mk ((0 : Int)) ([])) = List.replicate (n * (3 : 
  Nat)) (Sc.mk ((0 : Int)) ([]))) ∧ True) ∧ True) ∧ True) ∧ True) ∧ (At ((0 : Int) ≤ (↑n : Int) ∧ (↑n : Int) ≤ (↑n : Int) ∧ (↑n : Int) ≤ (1000000000 : Int)) ∧ (True ∧ (((1 : Nat) = (1 
  : Nat) ∧ m = m) ∧ ((2 : Nat) = (2 : Nat) ∧ (0 : Nat) = (0 : Nat)) ∧ ((3 : Nat) = (3 : Nat) ∧ (0 : Nat) = (0 : Nat)) ∧ ((4 : Nat) = (4 : Nat) ∧ (0 : Nat) = (0 : Nat)) ∧ True) ∧ ((True 
  ∧ True ∧ c = c) ∧ (True ∧ IntKind.i64 = IntKind.i64 ∧ a = a) ∧ (True ∧ (True ∧ s = s) ∧ (True ∧ i = i) ∧ ((0 : Nat) = (0 : Nat) ∧ n = n) ∧ True) ∧ (True ∧ (True ∧ (0 : Int) = (0 : Int)) 
  ∧ (True ∧ (0 : Int) = (0 : Int)) ∧ Value.slice none (0 : Nat) (0 : Nat) = Value.slice none (0 : Nat) (0 : Nat) ∧ True) ∧ (True ∧ (True ∧ s = s) ∧ (True ∧ i = i) ∧ ((5 : Nat) = (5 : 
  Nat) ∧ n = n) ∧ True) ∧ (True ∧ True ∧ List.replicate (Int.toNat (↑n : Int) * (3 : Nat)) (Sc.mk ((0 : Int)) ([])) = List.replicate (n * (3 : Nat)) (Sc.mk ((0 : Int)) ([]))) ∧ True) 
  ∧ True) ∧ True) ∧ True) ∧ (((At ((0 : Int) ≤ (↑n : Int) ∧ (↑n : Int) ≤ (↑n : Int) ∧ (↑n : Int) ≤ (1000000000 : Int)) ∧ (True ∧ (((1 : Nat) = (1 : Nat) ∧ m = m) ∧ ((2 : Nat) = (2 : Nat) 
  ∧ (0 : Nat) = (0 : Nat)) ∧ ((3 : Nat) = (3 : Nat) ∧ (0 : Nat) = (0 : Nat)) ∧ ((4 : Nat) = (4 : Nat) ∧ (0 : Nat) = (0 : Nat)) ∧ True) ∧ ((True ∧ True ∧ c = c) ∧ (True ∧ IntKind.i64 = 
  IntKind.i64 ∧ a = a) ∧ (True ∧ (True ∧ s = s) ∧ (True ∧ i = i) ∧ ((0 : Nat) = (0 : Nat) ∧ n = n) ∧ True) ∧ (True ∧ (True ∧ (0 : Int) = (0 : Int)) ∧ (True ∧ (0 : Int) = (0 : Int)) ∧ 
  Value.slice none (0 : Nat) (0 : Nat) = Value.slice none (0 : Nat) (0 : Nat) ∧ True) ∧ (True ∧ (True ∧ s = s) ∧ (True ∧ i = i) ∧ ((5 : Nat) = (5 : Nat) ∧ n = n) ∧ True) ∧ (True ∧ True 
  ∧ List.replicate (Int.toNat (↑n : Int) * (3 : Nat)) (Sc.mk ((0 : Int)) ([])) = List.replicate (n * (3 : Nat)) (Sc.mk ((0 : Int)) ([]))) ∧ True) ∧ True) ∧ True) ∧ True) ∧ (At ((0 : Int) 
  ≤ (↑n : Int) ∧ (↑n : Int) ≤ (↑n : Int) ∧ (↑n : Int) ≤ (1000000000 : Int)) ∧ (True ∧ (((1 : Nat) = (1 : Nat) ∧ m = m) ∧ ((2 : Nat) = (2 : Nat) ∧ (0 : Nat) = (0 : Nat)) ∧ ((3 : Nat) = 
  (3 : Nat) ∧ (0 : Nat) = (0 : Nat)) ∧ ((4 : Nat) = (4 : Nat) ∧ (0 : Nat) = (0 : Nat)) ∧ True) ∧ ((True ∧ True ∧ c = c) ∧ (True ∧ IntKind.i64 = IntKind.i64 ∧ a = a) ∧ (True ∧ (True ∧ 
  s = s) ∧ (True ∧ i = i) ∧ ((0 : Nat) = (0 : Nat) ∧ n = n) ∧ True) ∧ (True ∧ (True ∧ (0 : Int) = (0 : Int)) ∧ (True ∧ (0 : Int) = (0 : Int)) ∧ Value.slice none (0 : Nat) (0 : Nat) = 
  Value.slice none (0 : Nat) (0 : Nat) ∧ True) ∧ (True ∧ (True ∧ s = s) ∧ (True ∧ i = i) ∧ ((5 : Nat) = (5 : Nat) ∧ n = n) ∧ True) ∧ (True ∧ True ∧ List.replicate (Int.toNat (↑n : Int) 
  * (3 : Nat)) (Sc.mk ((0 : Int)) ([])) = List.replicate (n * (3 : Nat)) (Sc.mk ((0 : Int)) ([]))) ∧ True) ∧ True) ∧ True) ∧ True) ∧ (At ((0 : Int) ≤ (↑n : Int) ∧ (↑n : Int) ≤ (↑n : Int) 
  ∧ (↑n : Int) ≤ (1000000000 : Int)) ∧ (True ∧ (((1 : Nat) = (1 : Nat) ∧ m = m) ∧ ((2 : Nat) = (2 : Nat) ∧ (0 : Nat) = (0 : Nat)) ∧ ((3 : Nat) = (3 : Nat) ∧ (0 : Nat) = (0 : Nat)) ∧ ((4 
  : Nat) = (4 : Nat) ∧ (0 : Nat) = (0 : Nat)) ∧ True) ∧ ((True ∧ True ∧ c = c) ∧ (True ∧ IntKind.i64 = IntKind.i64 ∧ a = a) ∧ (True ∧ (True ∧ s = s) ∧ (True ∧ i = i) ∧ ((0 : Nat) = (0 
  : Nat) ∧ n = n) ∧ True) ∧ (True ∧ (True ∧ (0 : Int) = (0 : Int)) ∧ (True ∧ (0 : Int) = (0 : Int)) ∧ Value.slice none (0 : Nat) (0 : Nat) = Value.slice none (0 : Nat) (0 : Nat) ∧ True) 
  ∧ (True ∧ (True ∧ s = s) ∧ (True ∧ i = i) ∧ ((5 : Nat) = (5 : Nat) ∧ n = n) ∧ True) ∧ (True ∧ True ∧ List.replicate (Int.toNat (↑n : Int) * (3 : Nat)) (Sc.mk ((0 : Int)) ([])) = List.replicate 
  (n * (3 : Nat)) (Sc.mk ((0 : Int)) ([]))) ∧ True) ∧ True) ∧ True) ∧ True) ∧ True) ∧ True) ∧ True ∧ (((1 : Nat) = (1 : Nat) ∧ m = m) ∧ ((2 : Nat) = (2 : Nat) ∧ (0 : Nat) = (0 : Nat)) 
  ∧ ((3 : Nat) = (3 : Nat) ∧ (0 : Nat) = (0 : Nat)) ∧ ((4 : Nat) = (4 : Nat) ∧ (0 : Nat) = (0 : Nat)) ∧ True) ∧ ((True ∧ True ∧ c = c) ∧ (True ∧ IntKind.i64 = IntKind.i64 ∧ a = a) ∧ (True 
  ∧ (True ∧ s = s) ∧ (True ∧ i = i) ∧ ((0 : Nat) = (0 : Nat) ∧ n = n) ∧ True) ∧ (True ∧ (True ∧ (0 : Int) = (0 : Int)) ∧ (True ∧ (0 : Int) = (0 : Int)) ∧ Value.slice none (0 : Nat) (0 
  : Nat) = Value.slice none (0 : Nat) (0 : Nat) ∧ True) ∧ (True ∧ (True ∧ s = s) ∧ (True ∧ i = i) ∧ ((5 : Nat) = (5 : Nat) ∧ n = n) ∧ True) ∧ (True ∧ True ∧ List.replicate (n * (3 : Nat)) 
  (Sc.mk ((0 : Int)) ([])) = List.replicate (n * (3 : Nat)) (Sc.mk ((0 : Int)) ([]))) ∧ True) ∧ True) ∧ ((((1 : Nat) = (1 : Nat) ∧ m = m) ∧ ((2 : Nat) = (2 : Nat) ∧ (0 : Nat) = (0 : Nat)) 
  ∧ ((3 : Nat) = (3 : Nat) ∧ (0 : Nat) = (0 : Nat)) ∧ ((4 : Nat) = (4 : Nat) ∧ (0 : Nat) = (0 : Nat)) ∧ ((0 : Nat) = (0 : Nat) ∧ n = n) ∧ (True ∧ (↑n : Int) = (↑n : Int)) ∧ (True ∧ (0 
  : Int) = (0 : Int)) ∧ True) ∧ ((True ∧ True ∧ c = c) ∧ (True ∧ IntKind.i64 = IntKind.i64 ∧ a = a) ∧ (True ∧ (True ∧ s = s) ∧ (True ∧ i = i) ∧ ((0 : Nat) = (0 : Nat) ∧ n = n) ∧ True) 
  ∧ (True ∧ (True ∧ (0 : Int) = (0 : Int)) ∧ (True ∧ (0 : Int) = (0 : Int)) ∧ Value.slice none (0 : Nat) (0 : Nat) = Value.slice none (0 : Nat) (0 : Nat) ∧ True) ∧ (True ∧ (True ∧ s = 
  s) ∧ (True ∧ i = i) ∧ ((5 : Nat) = (5 : Nat) ∧ n = n) ∧ True) ∧ (True ∧ True ∧ List.replicate (n * (3 : Nat)) (Sc.mk ((0 : Int)) ([])) = flat3 (laidR (posS (Int.toNat i) a) (valS a) 
  (rows3 c) (Int.toNat (0 : Int)) (zeroR (List.length (rows3 c))))) ∧ True) ∧ True) ∧ At (miInv (gdS s i (rows3 c) a) n (0 : Int)) ∧ ∀ (a_3 : Int), miInv (gdS s i (rows3 c) a) n a_3 → 
  (decide (a_3 < (↑n : Int)) = true → At ((0 : Int) ≤ a_3 ∧ a_3 < (↑n : Int)) ∧ At (Int.toNat a_3 * (3 : Nat) + (3 : Nat) ≤ List.length c ∧ Int.toNat a_3 * (3 : Nat) % (3 : Nat) = (0 
  : Nat)) ∧ True ∧ At (i ≠ (0 : Int)) ∧ At ((0 : Int) ≤ IntKind.wrap IntKind.i64 (Int.tdiv a_3 i) ∧ IntKind.wrap IntKind.i64 (Int.tdiv a_3 i) < (↑m : Int)) ∧ At (Int.toNat (IntKind.wrap 
  IntKind.i64 (Int.tdiv a_3 i)) < List.length a) ∧ At (i ≠ (0 : Int)) ∧ At ((0 : Int) ≤ Sc.i (List.getD c (Int.toNat a_3 * (3 : Nat) + (1 : Nat) + (1 : Nat)) (Sc.mk ((0 : Int)) ([]))) 
  ∧ Sc.i (List.getD c (Int.toNat a_3 * (3 : Nat) + (1 : Nat) + (1 : Nat)) (Sc.mk ((0 : Int)) ([]))) < (↑m : Int)) ∧ At (Int.toNat (Sc.i (List.getD c (Int.toNat a_3 * (3 : Nat) + (1 : 
  Nat) + (1 : Nat)) (Sc.mk ((0 : Int)) ([])))) < List.length a) ∧ At ((0 : Int) ≤ IntKind.wrap IntKind.i64 (IntKind.wrap IntKind.i64 (List.getD a (Int.toNat (IntKind.wrap IntKind.i64 
  (Int.tdiv a_3 i))) (0 : Int) * i) + Int.tmod a_3 i) ∧ IntKind.wrap IntKind.i64 (IntKind.wrap IntKind.i64 (List.getD a (Int.toNat (IntKind.wrap IntKind.i64 (Int.tdiv a_3 i))) (0 : Int) 
  * i) + Int.tmod a_3 i) < (↑n : Int)) ∧ At (Int.toNat (IntKind.wrap IntKind.i64 (IntKind.wrap IntKind.i64 (List.getD a (Int.toNat (IntKind.wrap IntKind.i64 (Int.tdiv a_3 i))) (0 : Int) 
  * i) + Int.tmod a_3 i)) * (3 : Nat) + (3 : Nat) ≤ List.length (flat3 (laidR (posS (Int.toNat i) a) (valS a) (rows3 c) (Int.toNat a_3) (zeroR (List.length (rows3 c))))) ∧ Int.toNat (IntKind.wrap 
  IntKind.i64 (IntKind.wrap IntKind.i64 (List.getD a (Int.toNat (IntKind.wrap IntKind.i64 (Int.tdiv a_3 i))) (0 : Int) * i) + Int.tmod a_3 i)) * (3 : Nat) % (3 : Nat) = (0 : Nat)) ∧ ((((1 
  : Nat) = (1 : Nat) ∧ m = m) ∧ ((2 : Nat) = (2 : Nat) ∧ (0 : Nat) = (0 : Nat)) ∧ ((3 : Nat) = (3 : Nat) ∧ (0 : Nat) = (0 : Nat)) ∧ ((4 : Nat) = (4 : Nat) ∧ (0 : Nat) = (0 : Nat)) ∧ ((0 
  : Nat) = (0 : Nat) ∧ n = n) ∧ (True ∧ (↑n : Int) = (↑n : Int)) ∧ (True ∧ IntKind.wrap IntKind.i64 (a_3 + (1 : Int)) = IntKind.wrap IntKind.i64 (a_3 + (1 : Int))) ∧ True) ∧ ((True ∧ 
  True ∧ c = c) ∧ (True ∧ IntKind.i64 = IntKind.i64 ∧ a = a) ∧ (True ∧ (True ∧ s = s) ∧ (True ∧ i = i) ∧ ((0 : Nat) = (0 : Nat) ∧ n = n) ∧ True) ∧ (True ∧ (True ∧ (0 : Int) = (0 : Int)) 
  ∧ (True ∧ (0 : Int) = (0 : Int)) ∧ Value.slice none (0 : Nat) (0 : Nat) = Value.slice none (0 : Nat) (0 : Nat) ∧ True) ∧ (True ∧ (True ∧ s = s) ∧ (True ∧ i = i) ∧ ((5 : Nat) = (5 : 
  Nat) ∧ n = n) ∧ True) ∧ (True ∧ True ∧ setScs (flat3 (laidR (posS (Int.toNat i) a) (valS a) (rows3 c) (Int.toNat a_3) (zeroR (List.length (rows3 c))))) (Int.toNat (IntKind.wrap IntKind.i64 
  (IntKind.wrap IntKind.i64 (List.getD a (Int.toNat (IntKind.wrap IntKind.i64 (Int.tdiv a_3 i))) (0 : Int) * i) + Int.tmod a_3 i)) * (3 : Nat)) [(Sc.mk (Sc.i (List.getD c (Int.toNat a_3 
  * (3 : Nat)) (Sc.mk ((0 : Int)) ([]))) ) ([])), (Sc.mk ((0 : Int)) (Sc.s (List.getD c (Int.toNat a_3 * (3 : Nat) + (1 : Nat)) { i := (0 : Int), s := [] }))), (Sc.mk (List.getD a (Int.toNat 
  (Sc.i (List.getD c (Int.toNat a_3 * (3 : Nat) + (1 : Nat) + (1 : Nat)) (Sc.mk ((0 : Int)) ([]))))) (0 : Int) ) ([]))] = flat3 (laidR (posS (Int.toNat i) a) (valS a) (rows3 c) (Int.toNat 
  (IntKind.wrap IntKind.i64 (a_3 + (1 : Int)))) (zeroR (List.length (rows3 c))))) ∧ True) ∧ True) ∧ At (miInv (gdS s i (rows3 c) a) n (IntKind.wrap IntKind.i64 (a_3 + (1 : Int))) ∧ Int.toNat 
  ((↑n : Int) - IntKind.wrap IntKind.i64 (a_3 + (1 : Int))) < Int.toNat ((↑n : Int) - a_3))) ∧ (decide (a_3 < (↑n : Int)) = false → K (V.tup [V.agg [V.int IntKind.i64 s, V.int IntKind.i64 
  i, V.row (5 : Nat) n], V.lit true]) [{ cs := Cells.recs [Sh.int IntKind.i64, Sh.str, Sh.int IntKind.i64] c, elem := 47, kind := Kind.rows (3 : Nat) }, { cs := Cells.ints IntKind.i64 a, elem := 3, kind := Kind.row }, 
  { cs := Cells.vals [V.int IntKind.i64 s, V.int IntKind.i64 i, V.row (0 : Nat) n], elem := 29, kind := Kind.box }, { cs := Cells.vals [V.int IntKind.i64 s, V.int IntKind.i64 i, V.row (5 : Nat) n], elem := 29, kind := Kind.box }, 
  { cs := Cells.vals [V.int IntKind.i64 s, V.int IntKind.i64 i, V.row (5 : Nat) n], elem := 29, kind := Kind.box }, { cs := Cells.recs [Sh.int IntKind.i64, Sh.str, Sh.int IntKind.i64] (flat3 (laidR (posS (Int.toNat i) a) (valS a) (rows3 c) (Int.toNat a_3) (zeroR (List.length (rows3 c))))), elem := 47, kind := Kind.rows (3 : Nat) }])))

def VC_impl_RenameStates (s : Int) (i : Int) (n : Nat) (c : List Sc) (m : Nat) (a : List Int) (g0 : List UInt8) (g1 : List UInt8) (g2 : List UInt8) (g3 : List UInt8) (K : V → List Blk → Prop) : Prop := At (is3 c n ∧ n ≤ (2000000 : Nat) ∧ isSg g0 g1 g2 g3) ∧ ((!tabB s i (rows3 c)) = true → K (V.tup [V.agg [V.int IntKind.i64 (0 : Int), V.int IntKind.i64 (0 : Int), V.raw (Value.slice none (0 : Nat) (0 : Nat))], V.lit false]) [{ cs := Cells.recs [Sh.int IntKind.i64, Sh.str, Sh.int IntKind.i64] c, elem := 47, kind := Kind.rows (3 : Nat) }, { cs := Cells.ints IntKind.i64 a, elem := 3, kind := Kind.row }, { cs := Cells.vals [V.str g0, V.str g1, V.str g2, V.str g3], elem := 9, kind := Kind.gl (0 : Nat) }, { cs := Cells.vals [V.int IntKind.i64 s, V.int IntKind.i64 i, V.row (0 : Nat) n], elem := 29, kind := Kind.box }, { cs := Cells.vals [V.row (1 : Nat) m], elem := 25, kind := Kind.box }, { cs := Cells.vals [V.int IntKind.i64 (0 : Int), V.int IntKind.i64 (0 : Int), V.raw (Value.slice none (0 : Nat) (0 : Nat))], elem := 29, kind := Kind.box }]) ∧ ((!tabB s i (rows3 c)) = false → At (List.length a = m ∧ m ≤ (2000000 : Nat) ∧ (1 : Int) ≤ s ∧ s ≤ (4 : Int)) ∧ ((!ordB s a) = true → K (V.tup [V.agg [V.int IntKind.i64 (0 : Int), V.int IntKind.i64 (0 : Int), V.raw (Value.slice none (0 : Nat) (0 : Nat))], V.lit false]) [{ cs := Cells.recs [Sh.int IntKind.i64, Sh.str, Sh.int IntKind.i64] c, elem := 47, kind := Kind.rows (3 : Nat) }, { cs := Cells.ints IntKind.i64 a, elem := 3, kind := Kind.row }, { cs := Cells.vals [V.str g0, V.str g1, V.str g2, V.str g3], elem := 9, kind := Kind.gl (0 : Nat) }, { cs := Cells.vals [V.int IntKind.i64 s, V.int IntKind.i64 i, V.row (0 : Nat) n], elem := 29, kind := Kind.box }, { cs := Cells.vals [V.row (1 : Nat) m], elem := 25, kind := Kind.box }, { cs := Cells.vals [V.int IntKind.i64 (0 : Int), V.int IntKind.i64 (0 : Int), V.raw (Value.slice none (0 : Nat) (0 : Nat))], elem := 29, kind := Kind.box }]) ∧ ((!ordB s a) = false → At (is3 c n ∧ n ≤ (2000000 : Nat) ∧ (1 : Nat) ≤ n) ∧ ((((31 : Nat) = (31 : Nat) ∧ [(1 : Nat)] = [(1 : Nat)]) ∧ ((3 : Nat) = (3 : Nat) ∧ (0 : Nat) = (0 : Nat)) ∧ ((4 : Nat) = (4 : Nat) ∧ (0 : Nat) = (0 : Nat)) ∧ ((6 : Nat) = (6 : Nat) ∧ (0 : Nat) = (0 : Nat)) ∧ ((0 : Nat) = (0 : Nat) ∧ n = n) ∧ (True ∧ (↑n : Int) = (↑n : Int)) ∧ (True ∧ (0 : Int) = (0 : Int)) ∧ True) ∧ ((True ∧ True ∧ c = c) ∧ (True ∧ ((2 : Nat) = (2 : Nat) ∧ m = m) ∧ True) ∧ (True ∧ IntKind.i64 = IntKind.i64 ∧ a = a) ∧ (True ∧ (True ∧ s = s) ∧ (True ∧ i = i) ∧ ((0 : Nat) = (0 : Nat) ∧ n = n) ∧ True) ∧ (True ∧ (True ∧ (0 : Int) = (0 : Int)) ∧ (True ∧ (0 : Int) = (0 : Int)) ∧ Value.slice none (0 : Nat) (0 : Nat) = Value.slice none (0 : Nat) (0 : Nat) ∧ True) ∧ (True ∧ True ∧ c = flat3 (laidR (posS (Int.toNat i) a) (valS a) (rows3 c) (Int.toNat (0 : Int)) (rows3 c))) ∧ (True ∧ (True ∧ s = s) ∧ (True ∧ i = i) ∧ ((5 : Nat) = (5 : Nat) ∧ n = n) ∧ True) ∧ True) ∧ True) ∧ At (miInv (gdS s i (rows3 c) a) n (0 : Int)) ∧ ∀ (a_3 : Int), miInv (gdS s i (rows3 c) a) n a_3 → (decide (a_3 < (↑n : Int)) = true → At ((0 : Int) ≤ a_3 ∧ a_3 < (↑n : Int)) ∧ At (Int.toNat a_3 * (3 : Nat) + (3 : Nat) ≤ List.length c ∧ Int.toNat a_3 * (3 : Nat) % (3 : Nat) = (0 : Nat)) ∧ True ∧ At (i ≠ (0 : Int)) ∧ At (i ≠ (0 : Int)) ∧ At (List.length a = m ∧ m ≤ (2000000 : Nat) ∧ (0 : Int) ≤ IntKind.wrap IntKind.i64 (Int.tdiv a_3 i) ∧ IntKind.wrap IntKind.i64 (Int.tdiv a_3 i) < (↑m : Int)) ∧ At (List.length a = m ∧ m ≤ (2000000 : Nat) ∧ (0 : Int) ≤ Sc.i (List.getD c (Int.toNat a_3 * (3 : Nat) + (1 : Nat) + (1 : Nat)) (Sc.mk ((0 : Int)) ([]))) ∧ Sc.i (List.getD c (Int.toNat a_3 * (3 : Nat) + (1 : Nat) + (1 : Nat)) (Sc.mk ((0 : Int)) ([]))) < (↑m : Int)) ∧ At ((0 : Int) ≤ IntKind.wrap IntKind.i64 (IntKind.wrap IntKind.i64 (List.getD a (Int.toNat (IntKind.wrap IntKind.i64 (Int.tdiv a_3 i))) (0 : Int) * i) + Int.tmod a_3 i) ∧ IntKind.wrap IntKind.i64 (IntKind.wrap IntKind.i64 (List.getD a (Int.toNat (IntKind.wrap IntKind.i64 (Int.tdiv a_3 i))) (0 : Int) * i) + Int.tmod a_3 i) < (↑n : Int)) ∧ At (Int.toNat (IntKind.wrap IntKind.i64 (IntKind.wrap IntKind.i64 (List.getD a (Int.toNat (IntKind.wrap IntKind.i64 (Int.tdiv a_3 i))) (0 : Int) * i) + Int.tmod a_3 i)) * (3 : Nat) + (3 : Nat) ≤ List.length (flat3 (laidR (posS (Int.toNat i) a) (valS a) (rows3 c) (Int.toNat a_3) (rows3 c))) ∧ Int.toNat (IntKind.wrap IntKind.i64 (IntKind.wrap IntKind.i64 (List.getD a (Int.toNat (IntKind.wrap IntKind.i64 (Int.tdiv a_3 i))) (0 : Int) * i) + Int.tmod a_3 i)) * (3 : Nat) % (3 : Nat) = (0 : Nat)) ∧ ((((31 : Nat) = (31 : Nat) ∧ [(1 : Nat)] = [(1 : Nat)]) ∧ ((3 : Nat) = (3 : Nat) ∧ (0 : Nat) = (0 : Nat)) ∧ ((4 : Nat) = (4 : Nat) ∧ (0 : Nat) = (0 : Nat)) ∧ ((6 : Nat) = (6 : Nat) ∧ (0 : Nat) = (0 : Nat)) ∧ ((0 : Nat) = (0 : Nat) ∧ n = n) ∧ (True ∧ (↑n : Int) = (↑n : Int)) ∧ (True ∧ IntKind.wrap IntKind.i64 (a_3 + (1 : Int)) = IntKind.wrap IntKind.i64 (a_3 + (1 : Int))) ∧ True) ∧ ((True ∧ True ∧ c = c) ∧ (True ∧ ((2 : Nat) = (2 : Nat) ∧ m = m) ∧ True) ∧ (True ∧ IntKind.i64 = IntKind.i64 ∧ a = a) ∧ (True ∧ (True ∧ s = s) ∧ (True ∧ i = i) ∧ ((0 : Nat) = (0 : Nat) ∧ n = n) ∧ True) ∧ (True ∧ (True ∧ (0 : Int) = (0 : Int)) ∧ (True ∧ (0 : Int) = (0 : Int)) ∧ Value.slice none (0 : Nat) (0 : Nat) = Value.slice none (0 : Nat) (0 : Nat) ∧ True) ∧ (True ∧ True ∧ setScs (flat3 (laidR (posS (Int.toNat i) a) (valS a) (rows3 c) (Int.toNat a_3) (rows3 c))) (Int.toNat (IntKind.wrap IntKind.i64 (IntKind.wrap IntKind.i64 (List.getD a (Int.toNat (IntKind.wrap IntKind.i64 (Int.tdiv a_3 i))) (0 : Int) * i) + Int.tmod a_3 i)) * (3 : Nat)) [(Sc.mk (Sc.i (List.getD c (Int.toNat a_3 * (3 : Nat)) (Sc.mk ((0 : Int)) ([])))
) ([])), (Sc.mk ((0 : Int)) (Sc.s (List.getD c (Int.toNat a_3 * (3 : Nat) + (1 : Nat)) { i := (0 : Int), s := [] }))), (Sc.mk (List.getD a (Int.toNat (Sc.i (List.getD c (Int.toNat a_3 * (3 : Nat) + (1 : Nat) + (1 : Nat)) (Sc.mk ((0 : Int)) ([]))))) (0 : Int)
) ([]))] = flat3 (laidR (posS (Int.toNat i) a) (valS a) (rows3 c) (Int.toNat (IntKind.wrap IntKind.i64 (a_3 + (1 : Int)))) (rows3 c))) ∧ (True ∧ (True ∧ s = s) ∧ (True ∧ i = i) ∧ ((5 : Nat) = (5 : Nat) ∧ n = n) ∧ True) ∧ True) ∧ True) ∧ At (miInv (gdS s i (rows3 c) a) n (IntKind.wrap IntKind.i64 (a_3 + (1 : Int))) ∧ Int.toNat ((↑n : Int) - IntKind.wrap IntKind.i64 (a_3 + (1 : Int))) < Int.toNat ((↑n : Int) - a_3))) ∧ (decide (a_3 < (↑n : Int)) = false → K (V.tup [V.agg [V.int IntKind.i64 s, V.int IntKind.i64 i, V.row (6 : Nat) n], V.lit true]) [{ cs := Cells.recs [Sh.int IntKind.i64, Sh.str, Sh.int IntKind.i64] c, elem := 47, kind := Kind.rows (3 : Nat) }, { cs := Cells.ints IntKind.i64 a, elem := 3, kind := Kind.row }, { cs := Cells.vals [V.str g0, V.str g1, V.str g2, V.str g3], elem := 9, kind := Kind.gl (0 : Nat) }, { cs := Cells.vals [V.int IntKind.i64 s, V.int IntKind.i64 i, V.row (0 : Nat) n], elem := 29, kind := Kind.box }, { cs := Cells.vals [V.row (1 : Nat) m], elem := 25, kind := Kind.box }, { cs := Cells.vals [V.int IntKind.i64 s, V.int IntKind.i64 i, V.row (6 : Nat) n], elem := 29, kind := Kind.box }, { cs := Cells.recs [Sh.int IntKind.i64, Sh.str, Sh.int IntKind.i64] (flat3 (laidR (posS (Int.toNat i) a) (valS a) (rows3 c) (Int.toNat a_3) (rows3 c))), elem := 47, kind := Kind.rows (3 : Nat) }]))) 

end Go.Vi
