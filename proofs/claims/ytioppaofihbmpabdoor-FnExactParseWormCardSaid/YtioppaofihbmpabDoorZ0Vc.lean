/- The conditions, reckoned out by program: texts alone. -/
import Derived.Test.YtioppaofihbmpabDoorZ0Defs
namespace Go.Vi
set_option linter.unusedVariables false
def VC_spec_l1Split (s : List UInt8) (b : Int) (K : V → List Blk → Prop) : Prop :=
  (True ∧
    (s = s ∧
        (True ∧ b = b) ∧
          ((0 : Nat) = (0 : Nat) ∧ (0 : Nat) = (0 : Nat)) ∧
            (True ∧ (0 : Int) = (↑(Prod.snd (spl (UInt8.ofNat (Int.toNat b)) s (Int.toNat (0 : Int)))) : Int)) ∧
              (True ∧ (0 : Int) = (0 : Int)) ∧ True) ∧
      ((True ∧ nilS = Prod.fst (spl (UInt8.ofNat (Int.toNat b)) s (Int.toNat (0 : Int)))) ∧ True) ∧ True) ∧
  At (splInv s (0 : Int)) ∧
    ∀ (a : Int),
      splInv s a →
        (decide (a < (↑(List.length s) : Int)) = true →
            At ((0 : Int) ≤ a ∧ a < (↑(List.length s) : Int)) ∧
              (((↑(UInt8.toNat (List.getD s (Int.toNat a) (0 : UInt8))) : Int) == b) = true →
                  At
                      ((0 : Int) ≤ (↑(Prod.snd (spl (UInt8.ofNat (Int.toNat b)) s (Int.toNat a))) : Int) ∧
                        (↑(Prod.snd (spl (UInt8.ofNat (Int.toNat b)) s (Int.toNat a))) : Int) ≤ a ∧
                          a ≤ (↑(List.length s) : Int)) ∧
                    At
                        ((List.length (Prod.fst (spl (UInt8.ofNat (Int.toNat b)) s (Int.toNat a))) =
                              List.length (Prod.fst (spl (UInt8.ofNat (Int.toNat b)) s (Int.toNat a))) * (1 : Nat) ∧
                            (1 : Nat) * (1 : Nat) ≤
                              List.length
                                [List.drop
                                    (Int.toNat (↑(Prod.snd (spl (UInt8.ofNat (Int.toNat b)) s (Int.toNat a))) : Int))
                                    (List.take (Int.toNat a) s)]) ∧
                          (0 : Nat) < (1 : Nat) ∧
                            List.length (Prod.fst (spl (UInt8.ofNat (Int.toNat b)) s (Int.toNat a))) + (1 : Nat) ≤
                              (1000000000 : Nat)) ∧
                      (True ∧
                          (s = s ∧
                              (True ∧ b = b) ∧
                                ((0 : Nat) = (0 : Nat) ∧
                                    List.length (Prod.fst (spl (UInt8.ofNat (Int.toNat b)) s (Int.toNat a))) +
                                        (1 : Nat) =
                                      List.length
                                        (Prod.fst
                                          (spl (UInt8.ofNat (Int.toNat b)) s
                                            (Int.toNat (IntKind.wrap IntKind.i64 (a + (1 : Int))))))) ∧
                                  (True ∧
                                      IntKind.wrap IntKind.i64 (a + (1 : Int)) =
                                        (↑(Prod.snd
                                              (spl (UInt8.ofNat (Int.toNat b)) s
                                                (Int.toNat (IntKind.wrap IntKind.i64 (a + (1 : Int)))))) :
                                          Int)) ∧
                                    (True ∧
                                        IntKind.wrap IntKind.i64 (a + (1 : Int)) =
                                          IntKind.wrap IntKind.i64 (a + (1 : Int))) ∧
                                      True) ∧
                            ((True ∧
                                  Prod.fst (spl (UInt8.ofNat (Int.toNat b)) s (Int.toNat a)) ++
                                      List.take ((1 : Nat) * (1 : Nat))
                                        [List.drop
                                            (Int.toNat
                                              (↑(Prod.snd (spl (UInt8.ofNat (Int.toNat b)) s (Int.toNat a))) : Int))
                                            (List.take (Int.toNat a) s)] =
                                    Prod.fst
                                      (spl (UInt8.ofNat (Int.toNat b)) s
                                        (Int.toNat (IntKind.wrap IntKind.i64 (a + (1 : Int)))))) ∧
                                True) ∧
                              True) ∧
                        At
                          (splInv s (IntKind.wrap IntKind.i64 (a + (1 : Int))) ∧
                            Int.toNat ((↑(List.length s) : Int) - IntKind.wrap IntKind.i64 (a + (1 : Int))) <
                              Int.toNat ((↑(List.length s) : Int) - a))) ∧
                (((↑(UInt8.toNat (List.getD s (Int.toNat a) (0 : UInt8))) : Int) == b) = false →
                  (True ∧
                      (s = s ∧
                          (True ∧ b = b) ∧
                            ((0 : Nat) = (0 : Nat) ∧
                                List.length (Prod.fst (spl (UInt8.ofNat (Int.toNat b)) s (Int.toNat a))) =
                                  List.length
                                    (Prod.fst
                                      (spl (UInt8.ofNat (Int.toNat b)) s
                                        (Int.toNat (IntKind.wrap IntKind.i64 (a + (1 : Int))))))) ∧
                              (True ∧
                                  (↑(Prod.snd (spl (UInt8.ofNat (Int.toNat b)) s (Int.toNat a))) : Int) =
                                    (↑(Prod.snd
                                          (spl (UInt8.ofNat (Int.toNat b)) s
                                            (Int.toNat (IntKind.wrap IntKind.i64 (a + (1 : Int)))))) :
                                      Int)) ∧
                                (True ∧
                                    IntKind.wrap IntKind.i64 (a + (1 : Int)) =
                                      IntKind.wrap IntKind.i64 (a + (1 : Int))) ∧
                                  True) ∧
                        ((True ∧
                              Prod.fst (spl (UInt8.ofNat (Int.toNat b)) s (Int.toNat a)) =
                                Prod.fst
                                  (spl (UInt8.ofNat (Int.toNat b)) s
                                    (Int.toNat (IntKind.wrap IntKind.i64 (a + (1 : Int)))))) ∧
                            True) ∧
                          True) ∧
                    At
                      (splInv s (IntKind.wrap IntKind.i64 (a + (1 : Int))) ∧
                        Int.toNat ((↑(List.length s) : Int) - IntKind.wrap IntKind.i64 (a + (1 : Int))) <
                          Int.toNat ((↑(List.length s) : Int) - a)))) ∧
          (decide (a < (↑(List.length s) : Int)) = false →
            At
                ((0 : Int) ≤ (↑(Prod.snd (spl (UInt8.ofNat (Int.toNat b)) s (Int.toNat a))) : Int) ∧
                  (↑(Prod.snd (spl (UInt8.ofNat (Int.toNat b)) s (Int.toNat a))) : Int) ≤ (↑(List.length s) : Int)) ∧
              At
                  ((List.length (Prod.fst (spl (UInt8.ofNat (Int.toNat b)) s (Int.toNat a))) =
                        List.length (Prod.fst (spl (UInt8.ofNat (Int.toNat b)) s (Int.toNat a))) * (1 : Nat) ∧
                      (1 : Nat) * (1 : Nat) ≤
                        List.length
                          [List.drop (Int.toNat (↑(Prod.snd (spl (UInt8.ofNat (Int.toNat b)) s (Int.toNat a))) : Int))
                              s]) ∧
                    (0 : Nat) < (1 : Nat) ∧
                      List.length (Prod.fst (spl (UInt8.ofNat (Int.toNat b)) s (Int.toNat a))) + (1 : Nat) ≤
                        (1000000000 : Nat)) ∧
                K
                  (V.row (2 : Nat)
                    (List.length (Prod.fst (spl (UInt8.ofNat (Int.toNat b)) s (Int.toNat a))) + (1 : Nat)))
                  [{ cs := Cells.dead, elem := 9, kind := Kind.row },
                    {
                      cs :=
                        Cells.strs
                          [List.drop (Int.toNat (↑(Prod.snd (spl (UInt8.ofNat (Int.toNat b)) s (Int.toNat a))) : Int))
                              s],
                      elem := 9, kind := Kind.row },
                    {
                      cs :=
                        Cells.strs
                          (Prod.fst (spl (UInt8.ofNat (Int.toNat b)) s (Int.toNat a)) ++
                            List.take ((1 : Nat) * (1 : Nat))
                              [List.drop
                                  (Int.toNat (↑(Prod.snd (spl (UInt8.ofNat (Int.toNat b)) s (Int.toNat a))) : Int)) s]),
                      elem := 9, kind := Kind.row }])

def VC_spec_l1Read (s : List UInt8) (K : V → Prop) : Prop :=
  At True ∧
  ((!inB (↑(List.length s) : Int) (1 : Int) (6 : Int)) = true → K (V.int IntKind.i64 (-1 : Int))) ∧
    ((!inB (↑(List.length s) : Int) (1 : Int) (6 : Int)) = false →
      At ((0 : Int) ≤ (0 : Int) ∧ (0 : Int) < (↑(List.length s) : Int)) ∧
        (((↑(UInt8.toNat (List.getD s (Int.toNat (0 : Int)) (0 : UInt8))) : Int) == (48 : Int)) = true →
            (decide ((↑(List.length s) : Int) > (1 : Int)) = true → K (V.int IntKind.i64 (-1 : Int))) ∧
              (decide ((↑(List.length s) : Int) > (1 : Int)) = false →
                ((s = s ∧ (True ∧ (0 : Int) = valD s (Int.toNat (0 : Int))) ∧ (True ∧ (0 : Int) = (0 : Int)) ∧ True) ∧
                    True ∧ True) ∧
                  At (redInv s (0 : Int)) ∧
                    ∀ (a : Int),
                      redInv s a →
                        (decide (a < (↑(List.length s) : Int)) = true →
                            At ((0 : Int) ≤ a ∧ a < (↑(List.length s) : Int)) ∧
                              (decide ((↑(UInt8.toNat (List.getD s (Int.toNat a) (0 : UInt8))) : Int) < (48 : Int)) =
                                    true →
                                  K (V.int IntKind.i64 (-1 : Int))) ∧
                                (decide ((↑(UInt8.toNat (List.getD s (Int.toNat a) (0 : UInt8))) : Int) < (48 : Int)) =
                                    false →
                                  At ((0 : Int) ≤ a ∧ a < (↑(List.length s) : Int)) ∧
                                    (decide
                                            ((↑(UInt8.toNat (List.getD s (Int.toNat a) (0 : UInt8))) : Int) >
                                              (57 : Int)) =
                                          true →
                                        K (V.int IntKind.i64 (-1 : Int))) ∧
                                      (decide
                                            ((↑(UInt8.toNat (List.getD s (Int.toNat a) (0 : UInt8))) : Int) >
                                              (57 : Int)) =
                                          false →
                                        At ((0 : Int) ≤ a ∧ a < (↑(List.length s) : Int)) ∧
                                          ((s = s ∧
                                                (True ∧
                                                    IntKind.wrap IntKind.i64
                                                        (IntKind.wrap IntKind.i64 ((10 : Int) * valD s (Int.toNat a)) +
                                                          IntKind.wrap IntKind.i64
                                                            (IntKind.wrap IntKind.u8
                                                              ((↑(UInt8.toNat (List.getD s (Int.toNat a) (0 : UInt8))) :
                                                                  Int) -
                                                                (48 : Int)))) =
                                                      valD s (Int.toNat (IntKind.wrap IntKind.i64 (a + (1 : Int))))) ∧
                                                  (True ∧
                                                      IntKind.wrap IntKind.i64 (a + (1 : Int)) =
                                                        IntKind.wrap IntKind.i64 (a + (1 : Int))) ∧
                                                    True) ∧
                                              True ∧ True) ∧
                                            At
                                              (redInv s (IntKind.wrap IntKind.i64 (a + (1 : Int))) ∧
                                                Int.toNat
                                                    ((↑(List.length s) : Int) -
                                                      IntKind.wrap IntKind.i64 (a + (1 : Int))) <
                                                  Int.toNat ((↑(List.length s) : Int) - a))))) ∧
                          (decide (a < (↑(List.length s) : Int)) = false →
                            K (V.int IntKind.i64 (valD s (Int.toNat a)))))) ∧
          (((↑(UInt8.toNat (List.getD s (Int.toNat (0 : Int)) (0 : UInt8))) : Int) == (48 : Int)) = false →
            ((s = s ∧ (True ∧ (0 : Int) = valD s (Int.toNat (0 : Int))) ∧ (True ∧ (0 : Int) = (0 : Int)) ∧ True) ∧
                True ∧ True) ∧
              At (redInv s (0 : Int)) ∧
                ∀ (a : Int),
                  redInv s a →
                    (decide (a < (↑(List.length s) : Int)) = true →
                        At ((0 : Int) ≤ a ∧ a < (↑(List.length s) : Int)) ∧
                          (decide ((↑(UInt8.toNat (List.getD s (Int.toNat a) (0 : UInt8))) : Int) < (48 : Int)) = true →
                              K (V.int IntKind.i64 (-1 : Int))) ∧
                            (decide ((↑(UInt8.toNat (List.getD s (Int.toNat a) (0 : UInt8))) : Int) < (48 : Int)) =
                                false →
                              At ((0 : Int) ≤ a ∧ a < (↑(List.length s) : Int)) ∧
                                (decide ((↑(UInt8.toNat (List.getD s (Int.toNat a) (0 : UInt8))) : Int) > (57 : Int)) =
                                      true →
                                    K (V.int IntKind.i64 (-1 : Int))) ∧
                                  (decide
                                        ((↑(UInt8.toNat (List.getD s (Int.toNat a) (0 : UInt8))) : Int) > (57 : Int)) =
                                      false →
                                    At ((0 : Int) ≤ a ∧ a < (↑(List.length s) : Int)) ∧
                                      ((s = s ∧
                                            (True ∧
                                                IntKind.wrap IntKind.i64
                                                    (IntKind.wrap IntKind.i64 ((10 : Int) * valD s (Int.toNat a)) +
                                                      IntKind.wrap IntKind.i64
                                                        (IntKind.wrap IntKind.u8
                                                          ((↑(UInt8.toNat (List.getD s (Int.toNat a) (0 : UInt8))) :
                                                              Int) -
                                                            (48 : Int)))) =
                                                  valD s (Int.toNat (IntKind.wrap IntKind.i64 (a + (1 : Int))))) ∧
                                              (True ∧
                                                  IntKind.wrap IntKind.i64 (a + (1 : Int)) =
                                                    IntKind.wrap IntKind.i64 (a + (1 : Int))) ∧
                                                True) ∧
                                          True ∧ True) ∧
                                        At
                                          (redInv s (IntKind.wrap IntKind.i64 (a + (1 : Int))) ∧
                                            Int.toNat
                                                ((↑(List.length s) : Int) - IntKind.wrap IntKind.i64 (a + (1 : Int))) <
                                              Int.toNat ((↑(List.length s) : Int) - a))))) ∧
                      (decide (a < (↑(List.length s) : Int)) = false → K (V.int IntKind.i64 (valD s (Int.toNat a))))))

end Go.Vi
