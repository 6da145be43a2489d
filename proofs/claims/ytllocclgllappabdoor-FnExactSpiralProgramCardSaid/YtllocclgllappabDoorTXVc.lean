/- The conditions, reckoned out by program: texts alone. -/
import Derived.Test.YtllocclgllappabDoorTXDefs
namespace Go.Vi
set_option linter.unusedVariables false
def VC_spec_woOther (s : List UInt8) (K : V → Prop) : Prop :=
  ((s = s ∧ nilB = othR (List.take (Int.toNat (0 : Int)) s) ∧ (True ∧ (0 : Int) = (0 : Int)) ∧ True) ∧ True ∧ True) ∧
  At (othInv s (0 : Int)) ∧
    ∀ (a : Int),
      othInv s a →
        (decide (a < (↑(List.length s) : Int)) = true →
            At ((0 : Int) ≤ a ∧ a < (↑(List.length s) : Int)) ∧
              (((↑(UInt8.toNat (List.getD s (Int.toNat a) (0 : UInt8))) : Int) == (76 : Int)) = true →
                  At
                      (List.length (othR (List.take (Int.toNat a) s)) + List.length (Array.toList #[(82 : UInt8)]) ≤
                        (9223372036854775807 : Nat)) ∧
                    ((s = s ∧
                          othR (List.take (Int.toNat a) s) ++ Array.toList #[(82 : UInt8)] =
                              othR (List.take (Int.toNat (IntKind.wrap IntKind.i64 (a + (1 : Int)))) s) ∧
                            (True ∧
                                IntKind.wrap IntKind.i64 (a + (1 : Int)) = IntKind.wrap IntKind.i64 (a + (1 : Int))) ∧
                              True) ∧
                        True ∧ True) ∧
                      At
                        (othInv s (IntKind.wrap IntKind.i64 (a + (1 : Int))) ∧
                          Int.toNat ((↑(List.length s) : Int) - IntKind.wrap IntKind.i64 (a + (1 : Int))) <
                            Int.toNat ((↑(List.length s) : Int) - a))) ∧
                (((↑(UInt8.toNat (List.getD s (Int.toNat a) (0 : UInt8))) : Int) == (76 : Int)) = false →
                  (((↑(UInt8.toNat (List.getD s (Int.toNat a) (0 : UInt8))) : Int) == (82 : Int)) = true →
                      At
                          (List.length (othR (List.take (Int.toNat a) s)) + List.length (Array.toList #[(76 : UInt8)]) ≤
                            (9223372036854775807 : Nat)) ∧
                        ((s = s ∧
                              othR (List.take (Int.toNat a) s) ++ Array.toList #[(76 : UInt8)] =
                                  othR (List.take (Int.toNat (IntKind.wrap IntKind.i64 (a + (1 : Int)))) s) ∧
                                (True ∧
                                    IntKind.wrap IntKind.i64 (a + (1 : Int)) =
                                      IntKind.wrap IntKind.i64 (a + (1 : Int))) ∧
                                  True) ∧
                            True ∧ True) ∧
                          At
                            (othInv s (IntKind.wrap IntKind.i64 (a + (1 : Int))) ∧
                              Int.toNat ((↑(List.length s) : Int) - IntKind.wrap IntKind.i64 (a + (1 : Int))) <
                                Int.toNat ((↑(List.length s) : Int) - a))) ∧
                    (((↑(UInt8.toNat (List.getD s (Int.toNat a) (0 : UInt8))) : Int) == (82 : Int)) = false →
                      At
                          ((0 : Int) ≤ a ∧
                            a ≤ IntKind.wrap IntKind.i64 (a + (1 : Int)) ∧
                              IntKind.wrap IntKind.i64 (a + (1 : Int)) ≤ (↑(List.length s) : Int)) ∧
                        At
                            (List.length (othR (List.take (Int.toNat a) s)) +
                                List.length
                                  (List.drop (Int.toNat a)
                                    (List.take (Int.toNat (IntKind.wrap IntKind.i64 (a + (1 : Int)))) s)) ≤
                              (9223372036854775807 : Nat)) ∧
                          ((s = s ∧
                                othR (List.take (Int.toNat a) s) ++
                                      List.drop (Int.toNat a)
                                        (List.take (Int.toNat (IntKind.wrap IntKind.i64 (a + (1 : Int)))) s) =
                                    othR (List.take (Int.toNat (IntKind.wrap IntKind.i64 (a + (1 : Int)))) s) ∧
                                  (True ∧
                                      IntKind.wrap IntKind.i64 (a + (1 : Int)) =
                                        IntKind.wrap IntKind.i64 (a + (1 : Int))) ∧
                                    True) ∧
                              True ∧ True) ∧
                            At
                              (othInv s (IntKind.wrap IntKind.i64 (a + (1 : Int))) ∧
                                Int.toNat ((↑(List.length s) : Int) - IntKind.wrap IntKind.i64 (a + (1 : Int))) <
                                  Int.toNat ((↑(List.length s) : Int) - a))))) ∧
          (decide (a < (↑(List.length s) : Int)) = false → K (V.str (othR (List.take (Int.toNat a) s))))

def VC_impl_exchanged (s : List UInt8) (K : V → Prop) : Prop :=
  At (List.length s ≤ (9223372036854775807 : Nat)) ∧
  ((((0 : Nat) = (0 : Nat) ∧ List.length s = List.length s) ∧
        ((0 : Nat) = (0 : Nat) ∧ List.length s = List.length s) ∧
          (True ∧ (↑(List.length s) : Int) = (↑(List.length s) : Int)) ∧ (True ∧ (0 : Int) = (0 : Int)) ∧ True) ∧
      ((True ∧ s = othRow s (0 : Int)) ∧ True) ∧ True) ∧
    At (othInv s (0 : Int)) ∧
      ∀ (a : Int),
        othInv s a →
          (decide (a < (↑(List.length s) : Int)) = true →
              At ((0 : Int) ≤ a ∧ a < (↑(List.length s) : Int)) ∧
                At (Int.toNat a < List.length (othRow s a)) ∧
                  (((↑(UInt8.toNat (List.getD (othRow s a) (Int.toNat a) (0 : UInt8))) : Int) == (76 : Int)) = true →
                      At ((0 : Int) ≤ a ∧ a < (↑(List.length s) : Int)) ∧
                        At
                            (Int.toNat a < List.length (othRow s a) ∧
                              (0 : Int) ≤ (82 : Int) ∧ (82 : Int) < (256 : Int)) ∧
                          ((((0 : Nat) = (0 : Nat) ∧ List.length s = List.length s) ∧
                                ((0 : Nat) = (0 : Nat) ∧ List.length s = List.length s) ∧
                                  (True ∧ (↑(List.length s) : Int) = (↑(List.length s) : Int)) ∧
                                    (True ∧
                                        IntKind.wrap IntKind.i64 (a + (1 : Int)) =
                                          IntKind.wrap IntKind.i64 (a + (1 : Int))) ∧
                                      True) ∧
                              ((True ∧
                                    List.set (othRow s a) (Int.toNat a) (UInt8.ofNat (Int.toNat (82 : Int))) =
                                      othRow s (IntKind.wrap IntKind.i64 (a + (1 : Int)))) ∧
                                  True) ∧
                                True) ∧
                            At
                              (othInv s (IntKind.wrap IntKind.i64 (a + (1 : Int))) ∧
                                Int.toNat ((↑(List.length s) : Int) - IntKind.wrap IntKind.i64 (a + (1 : Int))) <
                                  Int.toNat ((↑(List.length s) : Int) - a))) ∧
                    (((↑(UInt8.toNat (List.getD (othRow s a) (Int.toNat a) (0 : UInt8))) : Int) == (76 : Int)) = false →
                      (((↑(UInt8.toNat (List.getD (othRow s a) (Int.toNat a) (0 : UInt8))) : Int) == (82 : Int)) =
                            true →
                          At ((0 : Int) ≤ a ∧ a < (↑(List.length s) : Int)) ∧
                            At
                                (Int.toNat a < List.length (othRow s a) ∧
                                  (0 : Int) ≤ (76 : Int) ∧ (76 : Int) < (256 : Int)) ∧
                              ((((0 : Nat) = (0 : Nat) ∧ List.length s = List.length s) ∧
                                    ((0 : Nat) = (0 : Nat) ∧ List.length s = List.length s) ∧
                                      (True ∧ (↑(List.length s) : Int) = (↑(List.length s) : Int)) ∧
                                        (True ∧
                                            IntKind.wrap IntKind.i64 (a + (1 : Int)) =
                                              IntKind.wrap IntKind.i64 (a + (1 : Int))) ∧
                                          True) ∧
                                  ((True ∧
                                        List.set (othRow s a) (Int.toNat a) (UInt8.ofNat (Int.toNat (76 : Int))) =
                                          othRow s (IntKind.wrap IntKind.i64 (a + (1 : Int)))) ∧
                                      True) ∧
                                    True) ∧
                                At
                                  (othInv s (IntKind.wrap IntKind.i64 (a + (1 : Int))) ∧
                                    Int.toNat ((↑(List.length s) : Int) - IntKind.wrap IntKind.i64 (a + (1 : Int))) <
                                      Int.toNat ((↑(List.length s) : Int) - a))) ∧
                        (((↑(UInt8.toNat (List.getD (othRow s a) (Int.toNat a) (0 : UInt8))) : Int) == (82 : Int)) =
                            false →
                          ((((0 : Nat) = (0 : Nat) ∧ List.length s = List.length s) ∧
                                ((0 : Nat) = (0 : Nat) ∧ List.length s = List.length s) ∧
                                  (True ∧ (↑(List.length s) : Int) = (↑(List.length s) : Int)) ∧
                                    (True ∧
                                        IntKind.wrap IntKind.i64 (a + (1 : Int)) =
                                          IntKind.wrap IntKind.i64 (a + (1 : Int))) ∧
                                      True) ∧
                              ((True ∧ othRow s a = othRow s (IntKind.wrap IntKind.i64 (a + (1 : Int)))) ∧ True) ∧
                                True) ∧
                            At
                              (othInv s (IntKind.wrap IntKind.i64 (a + (1 : Int))) ∧
                                Int.toNat ((↑(List.length s) : Int) - IntKind.wrap IntKind.i64 (a + (1 : Int))) <
                                  Int.toNat ((↑(List.length s) : Int) - a))))) ∧
            (decide (a < (↑(List.length s) : Int)) = false →
              At (List.length s ≤ List.length (othRow s a)) ∧ K (V.str (List.take (List.length s) (othRow s a))))

end Go.Vi
