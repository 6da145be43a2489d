/- The conditions, reckoned out by program: texts alone. -/
import Derived.Test.YtllocclgllappabDoorTSDefs
namespace Go.Vi
set_option linter.unusedVariables false
def VC_spec_l1Rising (lo : Int) (hi : Int) (n : Nat) (a : List Int) (K : V → List Blk → Prop) : Prop :=
  ((((0 : Nat) = (0 : Nat) ∧ n = n) ∧
      (True ∧ lo = lo) ∧
        (True ∧ hi = hi) ∧
          ((0 : Nat) = (0 : Nat) ∧ n = n) ∧ (True ∧ (↑n : Int) = (↑n : Int)) ∧ (True ∧ (0 : Int) = (0 : Int)) ∧ True) ∧
    ((True ∧ IntKind.i64 = IntKind.i64 ∧ a = a) ∧ True) ∧ True) ∧
  At (riInv a lo hi (0 : Int)) ∧
    ∀ (a_1 : Int),
      riInv a lo hi a_1 →
        (decide (a_1 < (↑n : Int)) = true →
            At ((0 : Int) ≤ a_1 ∧ a_1 < (↑n : Int)) ∧
              At (Int.toNat a_1 < List.length a) ∧
                At True ∧
                  ((!inB (List.getD a (Int.toNat a_1) (0 : Int)) lo hi) = true →
                      K (V.lit false) [{ cs := Cells.ints IntKind.i64 a, elem := 3, kind := Kind.row }]) ∧
                    ((!inB (List.getD a (Int.toNat a_1) (0 : Int)) lo hi) = false →
                      (decide (a_1 > (0 : Int)) = true →
                          At
                              ((0 : Int) ≤ IntKind.wrap IntKind.i64 (a_1 - (1 : Int)) ∧
                                IntKind.wrap IntKind.i64 (a_1 - (1 : Int)) < (↑n : Int)) ∧
                            At (Int.toNat (IntKind.wrap IntKind.i64 (a_1 - (1 : Int))) < List.length a) ∧
                              (decide
                                      (List.getD a (Int.toNat (IntKind.wrap IntKind.i64 (a_1 - (1 : Int)))) (0 : Int) ≥
                                        List.getD a (Int.toNat a_1) (0 : Int)) =
                                    true →
                                  K (V.lit false)
                                    [{ cs := Cells.ints IntKind.i64 a, elem := 3, kind := Kind.row }]) ∧
                                (decide
                                      (List.getD a (Int.toNat (IntKind.wrap IntKind.i64 (a_1 - (1 : Int)))) (0 : Int) ≥
                                        List.getD a (Int.toNat a_1) (0 : Int)) =
                                    false →
                                  ((((0 : Nat) = (0 : Nat) ∧ n = n) ∧
                                        (True ∧ lo = lo) ∧
                                          (True ∧ hi = hi) ∧
                                            ((0 : Nat) = (0 : Nat) ∧ n = n) ∧
                                              (True ∧ (↑n : Int) = (↑n : Int)) ∧
                                                (True ∧
                                                    IntKind.wrap IntKind.i64 (a_1 + (1 : Int)) =
                                                      IntKind.wrap IntKind.i64 (a_1 + (1 : Int))) ∧
                                                  True) ∧
                                      ((True ∧ IntKind.i64 = IntKind.i64 ∧ a = a) ∧ True) ∧ True) ∧
                                    At
                                      (riInv a lo hi (IntKind.wrap IntKind.i64 (a_1 + (1 : Int))) ∧
                                        Int.toNat
                                            ((↑(List.length a) : Int) - IntKind.wrap IntKind.i64 (a_1 + (1 : Int))) <
                                          Int.toNat ((↑(List.length a) : Int) - a_1)))) ∧
                        (decide (a_1 > (0 : Int)) = false →
                          ((((0 : Nat) = (0 : Nat) ∧ n = n) ∧
                                (True ∧ lo = lo) ∧
                                  (True ∧ hi = hi) ∧
                                    ((0 : Nat) = (0 : Nat) ∧ n = n) ∧
                                      (True ∧ (↑n : Int) = (↑n : Int)) ∧
                                        (True ∧
                                            IntKind.wrap IntKind.i64 (a_1 + (1 : Int)) =
                                              IntKind.wrap IntKind.i64 (a_1 + (1 : Int))) ∧
                                          True) ∧
                              ((True ∧ IntKind.i64 = IntKind.i64 ∧ a = a) ∧ True) ∧ True) ∧
                            At
                              (riInv a lo hi (IntKind.wrap IntKind.i64 (a_1 + (1 : Int))) ∧
                                Int.toNat ((↑(List.length a) : Int) - IntKind.wrap IntKind.i64 (a_1 + (1 : Int))) <
                                  Int.toNat ((↑(List.length a) : Int) - a_1))))) ∧
          (decide (a_1 < (↑n : Int)) = false →
            K (V.lit true) [{ cs := Cells.ints IntKind.i64 a, elem := 3, kind := Kind.row }])

def VC_spec_l1Has (v : Int) (n : Nat) (a : List Int) (K : V → List Blk → Prop) : Prop :=
  (((True ∧ v = v) ∧
      ((0 : Nat) = (0 : Nat) ∧ n = n) ∧ (True ∧ (↑n : Int) = (↑n : Int)) ∧ (True ∧ (0 : Int) = (0 : Int)) ∧ True) ∧
    ((True ∧ IntKind.i64 = IntKind.i64 ∧ a = a) ∧ True) ∧ True) ∧
  At (hasInv a v (0 : Int)) ∧
    ∀ (a_1 : Int),
      hasInv a v a_1 →
        (decide (a_1 < (↑n : Int)) = true →
            At ((0 : Int) ≤ a_1 ∧ a_1 < (↑n : Int)) ∧
              At (Int.toNat a_1 < List.length a) ∧
                ((List.getD a (Int.toNat a_1) (0 : Int) == v) = true →
                    K (V.lit true) [{ cs := Cells.ints IntKind.i64 a, elem := 3, kind := Kind.row }]) ∧
                  ((List.getD a (Int.toNat a_1) (0 : Int) == v) = false →
                    (((True ∧ v = v) ∧
                          ((0 : Nat) = (0 : Nat) ∧ n = n) ∧
                            (True ∧ (↑n : Int) = (↑n : Int)) ∧
                              (True ∧
                                  IntKind.wrap IntKind.i64 (a_1 + (1 : Int)) =
                                    IntKind.wrap IntKind.i64 (a_1 + (1 : Int))) ∧
                                True) ∧
                        ((True ∧ IntKind.i64 = IntKind.i64 ∧ a = a) ∧ True) ∧ True) ∧
                      At
                        (hasInv a v (IntKind.wrap IntKind.i64 (a_1 + (1 : Int))) ∧
                          Int.toNat ((↑(List.length a) : Int) - IntKind.wrap IntKind.i64 (a_1 + (1 : Int))) <
                            Int.toNat ((↑(List.length a) : Int) - a_1)))) ∧
          (decide (a_1 < (↑n : Int)) = false →
            K (V.lit false) [{ cs := Cells.ints IntKind.i64 a, elem := 3, kind := Kind.row }])

def VC_impl_areNumbersOfParts (p : Int) (n : Nat) (a : List Int) (K : V → List Blk → Prop) : Prop :=
  ((((0 : Nat) = (0 : Nat) ∧ n = n) ∧
      (True ∧ p = p) ∧
        ((0 : Nat) = (0 : Nat) ∧ n = n) ∧ (True ∧ (↑n : Int) = (↑n : Int)) ∧ (True ∧ (0 : Int) = (0 : Int)) ∧ True) ∧
    ((True ∧ IntKind.i64 = IntKind.i64 ∧ a = a) ∧ True) ∧ True) ∧
  At (riInv a (1 : Int) p (0 : Int)) ∧
    ∀ (a_1 : Int),
      riInv a (1 : Int) p a_1 →
        (decide (a_1 < (↑n : Int)) = true →
            At ((0 : Int) ≤ a_1 ∧ a_1 < (↑n : Int)) ∧
              At (Int.toNat a_1 < List.length a) ∧
                At True ∧
                  ((!inB (List.getD a (Int.toNat a_1) (0 : Int)) (1 : Int) p) = true →
                      K (V.lit false) [{ cs := Cells.ints IntKind.i64 a, elem := 3, kind := Kind.row }]) ∧
                    ((!inB (List.getD a (Int.toNat a_1) (0 : Int)) (1 : Int) p) = false →
                      (decide (a_1 > (0 : Int)) = true →
                          At
                              ((0 : Int) ≤ IntKind.wrap IntKind.i64 (a_1 - (1 : Int)) ∧
                                IntKind.wrap IntKind.i64 (a_1 - (1 : Int)) < (↑n : Int)) ∧
                            At (Int.toNat (IntKind.wrap IntKind.i64 (a_1 - (1 : Int))) < List.length a) ∧
                              (decide
                                      (List.getD a (Int.toNat (IntKind.wrap IntKind.i64 (a_1 - (1 : Int)))) (0 : Int) ≥
                                        List.getD a (Int.toNat a_1) (0 : Int)) =
                                    true →
                                  K (V.lit false)
                                    [{ cs := Cells.ints IntKind.i64 a, elem := 3, kind := Kind.row }]) ∧
                                (decide
                                      (List.getD a (Int.toNat (IntKind.wrap IntKind.i64 (a_1 - (1 : Int)))) (0 : Int) ≥
                                        List.getD a (Int.toNat a_1) (0 : Int)) =
                                    false →
                                  ((((0 : Nat) = (0 : Nat) ∧ n = n) ∧
                                        (True ∧ p = p) ∧
                                          ((0 : Nat) = (0 : Nat) ∧ n = n) ∧
                                            (True ∧ (↑n : Int) = (↑n : Int)) ∧
                                              (True ∧
                                                  IntKind.wrap IntKind.i64 (a_1 + (1 : Int)) =
                                                    IntKind.wrap IntKind.i64 (a_1 + (1 : Int))) ∧
                                                True) ∧
                                      ((True ∧ IntKind.i64 = IntKind.i64 ∧ a = a) ∧ True) ∧ True) ∧
                                    At
                                      (riInv a (1 : Int) p (IntKind.wrap IntKind.i64 (a_1 + (1 : Int))) ∧
                                        Int.toNat
                                            ((↑(List.length a) : Int) - IntKind.wrap IntKind.i64 (a_1 + (1 : Int))) <
                                          Int.toNat ((↑(List.length a) : Int) - a_1)))) ∧
                        (decide (a_1 > (0 : Int)) = false →
                          ((((0 : Nat) = (0 : Nat) ∧ n = n) ∧
                                (True ∧ p = p) ∧
                                  ((0 : Nat) = (0 : Nat) ∧ n = n) ∧
                                    (True ∧ (↑n : Int) = (↑n : Int)) ∧
                                      (True ∧
                                          IntKind.wrap IntKind.i64 (a_1 + (1 : Int)) =
                                            IntKind.wrap IntKind.i64 (a_1 + (1 : Int))) ∧
                                        True) ∧
                              ((True ∧ IntKind.i64 = IntKind.i64 ∧ a = a) ∧ True) ∧ True) ∧
                            At
                              (riInv a (1 : Int) p (IntKind.wrap IntKind.i64 (a_1 + (1 : Int))) ∧
                                Int.toNat ((↑(List.length a) : Int) - IntKind.wrap IntKind.i64 (a_1 + (1 : Int))) <
                                  Int.toNat ((↑(List.length a) : Int) - a_1))))) ∧
          (decide (a_1 < (↑n : Int)) = false →
            K (V.lit true) [{ cs := Cells.ints IntKind.i64 a, elem := 3, kind := Kind.row }])

def VC_laws_toIntS (n : Nat) (a : List Int) (e : TypeId) (k : Kind) (K : V → List Blk → Prop) : Prop :=
  At ((0 : Int) ≤ (↑n : Int) ∧ (↑n : Int) ≤ (↑n : Int) ∧ (↑n : Int) ≤ (1000000000 : Int)) ∧
  (True ∧
      (((0 : Nat) = (0 : Nat) ∧ n = List.length a) ∧
          ((1 : Nat) = (1 : Nat) ∧ n = List.length a) ∧ (True ∧ (0 : Int) = (0 : Int)) ∧ True) ∧
        ((Bool.rec False True (Nat.beq e e && decide (k = k)) ∧ IntKind.i64 = IntKind.i64 ∧ a = a) ∧
            (True ∧
                IntKind.i64 = IntKind.i64 ∧
                  List.replicate (Int.toNat (↑n : Int)) (0 : Int) =
                    List.take (Int.toNat (0 : Int)) a ++
                      List.replicate (List.length a - Int.toNat (0 : Int)) (0 : Int)) ∧
              True) ∧
          True) ∧
    At (ixInv (List.length a) (0 : Int)) ∧
      ∀ (a_1 : Int),
        ixInv (List.length a) a_1 →
          (decide (a_1 < (↑(List.length a) : Int)) = true →
              At ((0 : Int) ≤ a_1 ∧ a_1 < (↑(List.length a) : Int)) ∧
                At (Int.toNat a_1 < List.length a) ∧
                  At ((0 : Int) ≤ a_1 ∧ a_1 < (↑(List.length a) : Int)) ∧
                    At
                        (Int.toNat a_1 <
                          List.length
                            (List.take (Int.toNat a_1) a ++ List.replicate (List.length a - Int.toNat a_1) (0 : Int))) ∧
                      (True ∧
                          (((0 : Nat) = (0 : Nat) ∧ List.length a = List.length a) ∧
                              ((1 : Nat) = (1 : Nat) ∧ List.length a = List.length a) ∧
                                (True ∧
                                    IntKind.wrap IntKind.i64 (a_1 + (1 : Int)) =
                                      IntKind.wrap IntKind.i64 (a_1 + (1 : Int))) ∧
                                  True) ∧
                            ((Bool.rec False True (Nat.beq e e && decide (k = k)) ∧ IntKind.i64 = IntKind.i64 ∧ a = a) ∧
                                (True ∧
                                    IntKind.i64 = IntKind.i64 ∧
                                      List.set
                                          (List.take (Int.toNat a_1) a ++
                                            List.replicate (List.length a - Int.toNat a_1) (0 : Int))
                                          (Int.toNat a_1) (List.getD a (Int.toNat a_1) (0 : Int)) =
                                        List.take (Int.toNat (IntKind.wrap IntKind.i64 (a_1 + (1 : Int)))) a ++
                                          List.replicate
                                            (List.length a - Int.toNat (IntKind.wrap IntKind.i64 (a_1 + (1 : Int))))
                                            (0 : Int)) ∧
                                  True) ∧
                              True) ∧
                        At
                          (ixInv (List.length a) (IntKind.wrap IntKind.i64 (a_1 + (1 : Int))) ∧
                            Int.toNat ((↑(List.length a) : Int) - IntKind.wrap IntKind.i64 (a_1 + (1 : Int))) <
                              Int.toNat ((↑(List.length a) : Int) - a_1))) ∧
            (decide (a_1 < (↑(List.length a) : Int)) = false →
              K (V.row (1 : Nat) (List.length a))
                [{ cs := Cells.ints IntKind.i64 a, elem := e, kind := k },
                  {
                    cs :=
                      Cells.ints IntKind.i64
                        (List.take (Int.toNat a_1) a ++ List.replicate (List.length a - Int.toNat a_1) (0 : Int)),
                    elem := 3, kind := Kind.row }])

def VC_spec_SpiralProgram (p : Int) (n : Nat) (a : List Int) (K : V → List Blk → Prop) : Prop :=
  At True ∧
  ((!inB p (1 : Int) (9 : Int)) = true →
      K (V.tup [V.str (Array.toList #[]), V.lit false])
        [{ cs := Cells.ints IntKind.i64 a, elem := 3, kind := Kind.row }]) ∧
    ((!inB p (1 : Int) (9 : Int)) = false →
      At (List.length a = n ∧ n ≤ (2000000 : Nat)) ∧
        ((!risB a (1 : Int) p) = true →
            K (V.tup [V.str (Array.toList #[]), V.lit false])
              [{ cs := Cells.ints IntKind.i64 a, elem := 3, kind := Kind.row }]) ∧
          ((!risB a (1 : Int) p) = false →
            (((True ∧ p = p) ∧
                  ((0 : Nat) = (0 : Nat) ∧ n = n) ∧
                    nilB = spF a (Int.toNat ((1 : Int) - (1 : Int))) ∧ (True ∧ (1 : Int) = (1 : Int)) ∧ True) ∧
                ((True ∧ IntKind.i64 = IntKind.i64 ∧ a = a) ∧ True) ∧ True) ∧
              At (skInv p a (1 : Int)) ∧
                ∀ (a_3 : Int),
                  skInv p a a_3 →
                    (decide (a_3 ≤ p) = true →
                        At ((0 : Int) ≤ a_3 ∧ a_3 ≤ (9 : Int)) ∧
                          At
                              (List.length (spF a (Int.toNat (a_3 - (1 : Int)))) + List.length (num1 a_3) ≤
                                (9223372036854775807 : Nat)) ∧
                            At (List.length a = n ∧ n ≤ (2000000 : Nat)) ∧
                              (hasI a a_3 = true →
                                  At
                                      (List.length (spF a (Int.toNat (a_3 - (1 : Int))) ++ num1 a_3) +
                                          List.length (Array.toList #[(76 : UInt8)]) ≤
                                        (9223372036854775807 : Nat)) ∧
                                    (((True ∧ p = p) ∧
                                          ((0 : Nat) = (0 : Nat) ∧ n = n) ∧
                                            spF a (Int.toNat (a_3 - (1 : Int))) ++ num1 a_3 ++
                                                  Array.toList #[(76 : UInt8)] =
                                                spF a
                                                  (Int.toNat (IntKind.wrap IntKind.i64 (a_3 + (1 : Int)) - (1 : Int))) ∧
                                              (True ∧
                                                  IntKind.wrap IntKind.i64 (a_3 + (1 : Int)) =
                                                    IntKind.wrap IntKind.i64 (a_3 + (1 : Int))) ∧
                                                True) ∧
                                        ((True ∧ IntKind.i64 = IntKind.i64 ∧ a = a) ∧ True) ∧ True) ∧
                                      At
                                        (skInv p a (IntKind.wrap IntKind.i64 (a_3 + (1 : Int))) ∧
                                          Int.toNat (p + (1 : Int) - IntKind.wrap IntKind.i64 (a_3 + (1 : Int))) <
                                            Int.toNat (p + (1 : Int) - a_3))) ∧
                                (hasI a a_3 = false →
                                  At
                                      (List.length (spF a (Int.toNat (a_3 - (1 : Int))) ++ num1 a_3) +
                                          List.length (Array.toList #[(82 : UInt8)]) ≤
                                        (9223372036854775807 : Nat)) ∧
                                    (((True ∧ p = p) ∧
                                          ((0 : Nat) = (0 : Nat) ∧ n = n) ∧
                                            spF a (Int.toNat (a_3 - (1 : Int))) ++ num1 a_3 ++
                                                  Array.toList #[(82 : UInt8)] =
                                                spF a
                                                  (Int.toNat (IntKind.wrap IntKind.i64 (a_3 + (1 : Int)) - (1 : Int))) ∧
                                              (True ∧
                                                  IntKind.wrap IntKind.i64 (a_3 + (1 : Int)) =
                                                    IntKind.wrap IntKind.i64 (a_3 + (1 : Int))) ∧
                                                True) ∧
                                        ((True ∧ IntKind.i64 = IntKind.i64 ∧ a = a) ∧ True) ∧ True) ∧
                                      At
                                        (skInv p a (IntKind.wrap IntKind.i64 (a_3 + (1 : Int))) ∧
                                          Int.toNat (p + (1 : Int) - IntKind.wrap IntKind.i64 (a_3 + (1 : Int))) <
                                            Int.toNat (p + (1 : Int) - a_3)))) ∧
                      (decide (a_3 ≤ p) = false →
                        K (V.tup [V.str (spF a (Int.toNat (a_3 - (1 : Int)))), V.lit true])
                          [{ cs := Cells.ints IntKind.i64 a, elem := 3, kind := Kind.row }])))

def VC_impl_SpiralProgram (p : Int) (n : Nat) (a : List Int) (K : V → List Blk → Prop) : Prop := At True ∧ ((!inB p (1 : Int) (9 : Int)) = true → K (V.tup [V.str (Array.toList #[]), V.lit false]) [{ cs := Cells.ints IntKind.i64 a, elem := 3, kind := Kind.row }]) ∧ ((!inB p (1 : Int) (9 : Int)) = false → At (List.length a = n ∧ n ≤ (2000000 : Nat)) ∧ ((!risB a (1 : Int) p) = true → K (V.tup [V.str (Array.toList #[]), V.lit false]) [{ cs := Cells.ints IntKind.i64 a, elem := 3, kind := Kind.row }]) ∧ ((!risB a (1 : Int) p) = false → At ((0 : Int) ≤ p ∧ p ≤ p ∧ p ≤ (1000000000 : Int)) ∧ ((((0 : Nat) = (0 : Nat) ∧ n = List.length a) ∧ ((1 : Nat) = (1 : Nat) ∧ Int.toNat p = Int.toNat p) ∧ (True ∧ (↑(Int.toNat p) : Int) = (↑(Int.toNat p) : Int)) ∧ (True ∧ (0 : Int) = (0 : Int)) ∧ True) ∧ ((True ∧ IntKind.i64 = IntKind.i64 ∧ a = a) ∧ (True ∧ True ∧ List.replicate (Int.toNat p * (2 : Nat)) (Sc.mk ((0 : Int)) ([])) = fl2 (Int.toNat p) (spM (Int.toNat (0 : Int)))) ∧ True) ∧ True) ∧ At (sxInv (Int.toNat p) a (Int.toNat p) (0 : Int)) ∧ ∀ (a_3 : Int), sxInv (Int.toNat p) a (Int.toNat p) a_3 → (decide (a_3 < (↑(Int.toNat p) : Int)) = true → At ((0 : Int) ≤ a_3 ∧ a_3 < (↑(Int.toNat p) : Int)) ∧ At (Int.toNat a_3 * (2 : Nat) + (2 : Nat) ≤ List.length (fl2 (Int.toNat p) (spM (Int.toNat a_3))) ∧ Int.toNat a_3 * (2 : Nat) % (2 : Nat) = (0 : Nat)) ∧ ((((0 : Nat) = (0 : Nat) ∧ List.length a = List.length a) ∧ ((1 : Nat) = (1 : Nat) ∧ Int.toNat p = Int.toNat p) ∧ (True ∧ (↑(Int.toNat p) : Int) = (↑(Int.toNat p) : Int)) ∧ (True ∧ IntKind.wrap IntKind.i64 (a_3 + (1 : Int)) = IntKind.wrap IntKind.i64 (a_3 + (1 : Int))) ∧ True) ∧ ((True ∧ IntKind.i64 = IntKind.i64 ∧ a = a) ∧ (True ∧ True ∧ setScs (fl2 (Int.toNat p) (spM (Int.toNat a_3))) (Int.toNat a_3 * (2 : Nat)) [(Sc.mk (IntKind.wrap IntKind.i64 (a_3 + (1 : Int))) ([])), (Sc.mk ((82 : Int)) ([]))] = fl2 (Int.toNat p) (spM (Int.toNat (IntKind.wrap IntKind.i64 (a_3 + (1 : Int)))))) ∧ True) ∧ True) ∧ At (sxInv (Int.toNat p) a (Int.toNat p) (IntKind.wrap IntKind.i64 (a_3 + (1 : Int))) ∧ Int.toNat ((↑(Int.toNat p) : Int) - IntKind.wrap IntKind.i64 (a_3 + (1 : Int))) < Int.toNat ((↑(Int.toNat p) : Int) - a_3))) ∧ (decide (a_3 < (↑(Int.toNat p) : Int)) = false → ((((1 : Nat) = (1 : Nat) ∧ Int.toNat p = Int.toNat p) ∧ ((0 : Nat) = (0 : Nat) ∧ List.length a = List.length a) ∧ (True ∧ (↑(List.length a) : Int) = (↑(List.length a) : Int)) ∧ (True ∧ (0 : Int) = (0 : Int)) ∧ True) ∧ ((True ∧ IntKind.i64 = IntKind.i64 ∧ a = a) ∧ (True ∧ True ∧ fl2 (Int.toNat p) (spM (Int.toNat a_3)) = fl2 (Int.toNat p) (spL (List.take (Int.toNat (0 : Int)) a))) ∧ True) ∧ True) ∧ At (sxInv (Int.toNat p) a (List.length a) (0 : Int)) ∧ ∀ (a_6 : Int), sxInv (Int.toNat p) a (List.length a) a_6 → (decide (a_6 < (↑(List.length a) : Int)) = true → At ((0 : Int) ≤ a_6 ∧ a_6 < (↑(List.length a) : Int)) ∧ At (Int.toNat a_6 < List.length a) ∧ At ((0 : Int) ≤ IntKind.wrap IntKind.i64 (List.getD a (Int.toNat a_6) (0 : Int) - (1 : Int)) ∧ IntKind.wrap IntKind.i64 (List.getD a (Int.toNat a_6) (0 : Int) - (1 : Int)) < (↑(Int.toNat p) : Int)) ∧ At (Int.toNat (IntKind.wrap IntKind.i64 (List.getD a (Int.toNat a_6) (0 : Int) - (1 : Int))) * (2 : Nat) + (1 : Nat) < List.length (fl2 (Int.toNat p) (spL (List.take (Int.toNat a_6) a))) ∧ shAt [Sh.int IntKind.i64, Sh.int IntKind.u8] (Int.toNat (IntKind.wrap IntKind.i64 (List.getD a (Int.toNat a_6) (0 : Int) - (1 : Int))) * (2 : Nat) + (1 : Nat)) = Sh.int IntKind.u8) ∧ ((((1 : Nat) = (1 : Nat) ∧ Int.toNat p = Int.toNat p) ∧ ((0 : Nat) = (0 : Nat) ∧ List.length a = List.length a) ∧ (True ∧ (↑(List.length a) : Int) = (↑(List.length a) : Int)) ∧ (True ∧ IntKind.wrap IntKind.i64 (a_6 + (1 : Int)) = IntKind.wrap IntKind.i64 (a_6 + (1 : Int))) ∧ True) ∧ ((True ∧ IntKind.i64 = IntKind.i64 ∧ a = a) ∧ (True ∧ True ∧ List.set (fl2 (Int.toNat p) (spL (List.take (Int.toNat a_6) a))) (Int.toNat (IntKind.wrap IntKind.i64 (List.getD a (Int.toNat a_6) (0 : Int) - (1 : Int))) * (2 : Nat) + (1 : Nat)) (Sc.mk ((76 : Int)) ([])) = fl2 (Int.toNat p) (spL (List.take (Int.toNat (IntKind.wrap IntKind.i64 (a_6 + (1 : Int)))) a))) ∧ True) ∧ True) ∧ At (sxInv (Int.toNat p) a (List.length a) (IntKind.wrap IntKind.i64 (a_6 + (1 : Int))) ∧ Int.toNat ((↑(List.length a) : Int) - IntKind.wrap IntKind.i64 (a_6 + (1 : Int))) < Int.toNat ((↑(List.length a) : Int) - a_6))) ∧ (decide (a_6 < (↑(List.length a) : Int)) = false → At (List.length (fl2 (Int.toNat p) (spL (List.take (Int.toNat a_6) a))) = Int.toNat p * (2 : Nat) ∧ Int.toNat p ≤ (9 : Nat) ∧ okC (fl2 (Int.toNat p) (spL (List.take (Int.toNat a_6) a))) ∧ sgC (fl2 (Int.toNat p) (spL (List.take (Int.toNat a_6) a)))) ∧ K (V.tup [V.str (prS (fl2 (Int.toNat p) (spL (List.take (Int.toNat a_6) a)))), V.lit true]) [{ cs := Cells.ints IntKind.i64 a, elem := 3, kind := Kind.row }, { cs := Cells.recs [Sh.int IntKind.i64, Sh.int IntKind.u8] (fl2 (Int.toNat p) (spL (List.take (Int.toNat a_6) a))), elem := 38, kind := Kind.rows (2 : Nat) }])))) 

end Go.Vi
