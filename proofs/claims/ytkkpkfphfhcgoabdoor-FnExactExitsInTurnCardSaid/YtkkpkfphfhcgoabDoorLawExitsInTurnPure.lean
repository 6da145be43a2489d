/- The conditions of FnExactExitsInTurn. -/
import Derived.Test.YtkkpkfphfhcgoabDoorY1Pf
namespace Go.Vi
set_option linter.unusedVariables false
def VC_LawExitsInTurn (a0w : Int) (a0h : Int) (a0c : List UInt8) (a0u : Bool) (a1 : Int) (a2 : Int) (K : V → Prop) : Prop :=
  At
    ((0 : Int) ≤ (1048576 : Int) ∧
      (1048576 : Int) ≤ (1000000000 : Int) ∧ (↑(List.length a0c) : Int) ≤ (9223372036854775807 : Int)) ∧
  (decide (szM a0c (1048576 : Int) < (0 : Int)) = true → K (V.lit true)) ∧
    (decide (szM a0c (1048576 : Int) < (0 : Int)) = false →
      At True ∧
        At True ∧
          At True ∧
            At True ∧
              At
                  (List.length (eiL a0w a0h a0c a0u a1 a2) = List.length (eiL a0w a0h a0c a0u a1 a2) ∧
                    List.length (eiL a0w a0h a0c a0u a1 a2) = List.length (eiL a0w a0h a0c a0u a1 a2) ∧
                      List.length (eiL a0w a0h a0c a0u a1 a2) ≤ (1000 : Nat) ∧
                        List.length (eiL a0w a0h a0c a0u a1 a2) ≤ (1000 : Nat)) ∧
                ((!eiL a0w a0h a0c a0u a1 a2 == eiL a0w a0h a0c a0u a1 a2) = true → K (V.lit false)) ∧
                  ((!eiL a0w a0h a0c a0u a1 a2 == eiL a0w a0h a0c a0u a1 a2) = false →
                    ((!eiB a0w a0h a0c a0u a1 a2 == eiB a0w a0h a0c a0u a1 a2) = true → K (V.lit false)) ∧
                      ((!eiB a0w a0h a0c a0u a1 a2 == eiB a0w a0h a0c a0u a1 a2) = false →
                        At
                            (List.length (eiL a0w a0h a0c a0u a1 a2) = List.length (eiL a0w a0h a0c a0u a1 a2) ∧
                              List.length (eiL a0w a0h a0c a0u a1 a2) ≤ (1000 : Nat) ∧
                                (0 : Int) ≤ (1 : Int) ∧ (1 : Int) ≤ (1000 : Int)) ∧
                          At
                              (List.length (eiL a0w a0h a0c a0u a1 a2) =
                                  List.length (ramp (1 : Int) (List.length (eiL a0w a0h a0c a0u a1 a2))) ∧
                                List.length (eiL a0w a0h a0c a0u a1 a2) ≤ (1000 : Nat) ∧
                                  (0 : Int) ≤ (1 : Int) ∧ (1 : Int) ≤ (1000 : Int)) ∧
                            (decide
                                    ((bif
                                          ramp (1 : Int) (List.length (eiL a0w a0h a0c a0u a1 a2)) ==
                                            ramp (1 : Int) (List.length (eiL a0w a0h a0c a0u a1 a2)) then
                                        (1 : Int) + (↑(List.length (eiL a0w a0h a0c a0u a1 a2)) : Int)
                                      else (-1 : Int)) <
                                      (0 : Int)) =
                                  true →
                                K (V.lit false)) ∧
                              (decide
                                    ((bif
                                          ramp (1 : Int) (List.length (eiL a0w a0h a0c a0u a1 a2)) ==
                                            ramp (1 : Int) (List.length (eiL a0w a0h a0c a0u a1 a2)) then
                                        (1 : Int) + (↑(List.length (eiL a0w a0h a0c a0u a1 a2)) : Int)
                                      else (-1 : Int)) <
                                      (0 : Int)) =
                                  false →
                                (((bif
                                            ramp (1 : Int) (List.length (eiL a0w a0h a0c a0u a1 a2)) ==
                                              ramp (1 : Int) (List.length (eiL a0w a0h a0c a0u a1 a2)) then
                                          (1 : Int) + (↑(List.length (eiL a0w a0h a0c a0u a1 a2)) : Int)
                                        else (-1 : Int)) !=
                                        (1 : Int) + (↑(List.length (eiL a0w a0h a0c a0u a1 a2)) : Int)) =
                                      true →
                                    K (V.lit false)) ∧
                                  (((bif
                                            ramp (1 : Int) (List.length (eiL a0w a0h a0c a0u a1 a2)) ==
                                              ramp (1 : Int) (List.length (eiL a0w a0h a0c a0u a1 a2)) then
                                          (1 : Int) + (↑(List.length (eiL a0w a0h a0c a0u a1 a2)) : Int)
                                        else (-1 : Int)) !=
                                        (1 : Int) + (↑(List.length (eiL a0w a0h a0c a0u a1 a2)) : Int)) =
                                      false →
                                    At True ∧
                                      At True ∧
                                        At
                                            (List.length (eiL a0w a0h a0c a0u a1 a2) =
                                                List.length (eiL a0w a0h a0c a0u a1 a2) ∧
                                              List.length (eiL a0w a0h a0c a0u a1 a2) =
                                                  List.length (eiL a0w a0h a0c a0u a1 a2) ∧
                                                List.length (eiL a0w a0h a0c a0u a1 a2) ≤ (1000 : Nat) ∧
                                                  List.length (eiL a0w a0h a0c a0u a1 a2) ≤ (1000 : Nat)) ∧
                                          ((!eiL a0w a0h a0c a0u a1 a2 == eiL a0w a0h a0c a0u a1 a2) = true →
                                              K (V.lit false)) ∧
                                            ((!eiL a0w a0h a0c a0u a1 a2 == eiL a0w a0h a0c a0u a1 a2) = false →
                                              ((!eiB a0w a0h a0c a0u a1 a2 == eiB a0w a0h a0c a0u a1 a2) = true →
                                                  K (V.lit false)) ∧
                                                ((!eiB a0w a0h a0c a0u a1 a2 == eiB a0w a0h a0c a0u a1 a2) = false →
                                                  At
                                                      (List.length (eiL a0w a0h a0c a0u a1 a2) =
                                                          List.length
                                                            (ramp (1 : Int) (List.length (eiL a0w a0h a0c a0u a1 a2))) ∧
                                                        List.length (eiL a0w a0h a0c a0u a1 a2) ≤ (1000 : Nat) ∧
                                                          (0 : Int) ≤ (1 : Int) ∧ (1 : Int) ≤ (1000 : Int)) ∧
                                                    (decide
                                                            ((bif
                                                                  ramp (1 : Int)
                                                                      (List.length (eiL a0w a0h a0c a0u a1 a2)) ==
                                                                    ramp (1 : Int)
                                                                      (List.length (eiL a0w a0h a0c a0u a1 a2)) then
                                                                (1 : Int) +
                                                                  (↑(List.length (eiL a0w a0h a0c a0u a1 a2)) : Int)
                                                              else (-1 : Int)) <
                                                              (0 : Int)) =
                                                          true →
                                                        K (V.lit false)) ∧
                                                      (decide
                                                            ((bif
                                                                  ramp (1 : Int)
                                                                      (List.length (eiL a0w a0h a0c a0u a1 a2)) ==
                                                                    ramp (1 : Int)
                                                                      (List.length (eiL a0w a0h a0c a0u a1 a2)) then
                                                                (1 : Int) +
                                                                  (↑(List.length (eiL a0w a0h a0c a0u a1 a2)) : Int)
                                                              else (-1 : Int)) <
                                                              (0 : Int)) =
                                                          false →
                                                        (((bif
                                                                    ramp (1 : Int)
                                                                        (List.length (eiL a0w a0h a0c a0u a1 a2)) ==
                                                                      ramp (1 : Int)
                                                                        (List.length (eiL a0w a0h a0c a0u a1 a2)) then
                                                                  (1 : Int) +
                                                                    (↑(List.length (eiL a0w a0h a0c a0u a1 a2)) : Int)
                                                                else (-1 : Int)) !=
                                                                (1 : Int) +
                                                                  (↑(List.length (eiL a0w a0h a0c a0u a1 a2)) : Int)) =
                                                              true →
                                                            K (V.lit false)) ∧
                                                          (((bif
                                                                    ramp (1 : Int)
                                                                        (List.length (eiL a0w a0h a0c a0u a1 a2)) ==
                                                                      ramp (1 : Int)
                                                                        (List.length (eiL a0w a0h a0c a0u a1 a2)) then
                                                                  (1 : Int) +
                                                                    (↑(List.length (eiL a0w a0h a0c a0u a1 a2)) : Int)
                                                                else (-1 : Int)) !=
                                                                (1 : Int) +
                                                                  (↑(List.length (eiL a0w a0h a0c a0u a1 a2)) : Int)) =
                                                              false →
                                                            K (V.lit true))))))))))

theorem vc_LawExitsInTurn (a0w : Int) (a0h : Int) (a0c : List UInt8) (a0u : Bool) (a1 : Int) (a2 : Int) (ha0w : -9223372036854775808 ≤ a0w ∧ a0w ≤ 9223372036854775807) (ha0h : -9223372036854775808 ≤ a0h ∧ a0h ≤ 9223372036854775807) (ha0c : (a0c.length : Int) ≤ 9223372036854775807) (ha1 : -9223372036854775808 ≤ a1 ∧ a1 ≤ 9223372036854775807) (ha2 : -9223372036854775808 ≤ a2 ∧ a2 ≤ 9223372036854775807) : VC_LawExitsInTurn a0w a0h a0c a0u a1 a2 (retP (.bool true)) := by
  unfold VC_LawExitsInTurn
  have hl := ei_le a0w a0h a0c a0u a1 a2
  simp [retP_lit, ramp_len, hl, ha0c]
  intro _
  omega
end Go.Vi
