/- The conditions of FnExactFirstPlain. -/
import Derived.Test.YtbchncdchanomaaF1Pf
namespace Go.Vi
set_option linter.unusedVariables false
def VC_LawFirstPlain (a0 : List UInt8) (K : V → Prop) : Prop :=
  (decide ((↑(List.length a0) : Int) > (1048576 : Int)) = true → K (V.lit true)) ∧
  (decide ((↑(List.length a0) : Int) > (1048576 : Int)) = false →
    At True ∧
      At True ∧
        At
            (List.length nilI = (3 : Nat) * (0 : Nat) ∧
              List.length nilI = (3 : Nat) * (0 : Nat) ∧ (0 : Nat) ≤ (2000000 : Nat) ∧ (0 : Nat) ≤ (2000000 : Nat)) ∧
          ((!(((bif ruleB a0 then a0 else []) == bif ruleB a0 then a0 else []) && nilI == nilI &&
                        (0 : Int) == (0 : Int) &&
                      (0 : Int) == (0 : Int) &&
                    (0 : Int) == (0 : Int))) =
                true →
              K (V.lit false)) ∧
            ((!(((bif ruleB a0 then a0 else []) == bif ruleB a0 then a0 else []) && nilI == nilI &&
                        (0 : Int) == (0 : Int) &&
                      (0 : Int) == (0 : Int) &&
                    (0 : Int) == (0 : Int))) =
                false →
              ((!ruleB a0 == ruleB a0) = true → K (V.lit false)) ∧
                ((!ruleB a0 == ruleB a0) = false →
                  At
                      (List.length nilI = (3 : Nat) * (0 : Nat) ∧
                        (0 : Nat) ≤ (2000000 : Nat) ∧ (0 : Int) ≤ (1 : Int) ∧ (1 : Int) ≤ (1000 : Int)) ∧
                    At
                        (List.length (ramp (1 : Int) ((3 : Nat) * (0 : Nat))) = (3 : Nat) * (0 : Nat) ∧
                          (0 : Nat) ≤ (2000000 : Nat) ∧ (0 : Int) ≤ (1 : Int) ∧ (1 : Int) ≤ (1000 : Int)) ∧
                      (decide
                              ((bif
                                    ramp (1 : Int) ((3 : Nat) * (0 : Nat)) ==
                                      ramp (1 : Int) ((3 : Nat) * (0 : Nat)) then
                                  (1 : Int) + (↑((3 : Nat) * (0 : Nat)) : Int)
                                else (-1 : Int)) <
                                (0 : Int)) =
                            true →
                          (decide ((-1 : Int) < (0 : Int)) = true → K (V.lit false)) ∧
                            (decide ((-1 : Int) < (0 : Int)) = false →
                              (((-1 : Int) != (1 : Int) + (↑((3 : Nat) * (0 : Nat)) : Int)) = true → K (V.lit false)) ∧
                                (((-1 : Int) != (1 : Int) + (↑((3 : Nat) * (0 : Nat)) : Int)) = false →
                                  At True ∧
                                    At
                                        (List.length nilI = (3 : Nat) * (0 : Nat) ∧
                                          List.length nilI = (3 : Nat) * (0 : Nat) ∧
                                            (0 : Nat) ≤ (2000000 : Nat) ∧ (0 : Nat) ≤ (2000000 : Nat)) ∧
                                      ((!(((bif ruleB a0 then a0 else []) == bif ruleB a0 then a0 else []) &&
                                                      nilI == nilI &&
                                                    (0 : Int) == (0 : Int) &&
                                                  (0 : Int) == (0 : Int) &&
                                                (0 : Int) == (0 : Int))) =
                                            true →
                                          K (V.lit false)) ∧
                                        ((!(((bif ruleB a0 then a0 else []) == bif ruleB a0 then a0 else []) &&
                                                      nilI == nilI &&
                                                    (0 : Int) == (0 : Int) &&
                                                  (0 : Int) == (0 : Int) &&
                                                (0 : Int) == (0 : Int))) =
                                            false →
                                          ((!ruleB a0 == ruleB a0) = true → K (V.lit false)) ∧
                                            ((!ruleB a0 == ruleB a0) = false →
                                              At
                                                  (List.length (ramp (1 : Int) ((3 : Nat) * (0 : Nat))) =
                                                      (3 : Nat) * (0 : Nat) ∧
                                                    (0 : Nat) ≤ (2000000 : Nat) ∧
                                                      (0 : Int) ≤ (1 : Int) ∧ (1 : Int) ≤ (1000 : Int)) ∧
                                                (decide
                                                        ((bif
                                                              ramp (1 : Int) ((3 : Nat) * (0 : Nat)) ==
                                                                ramp (1 : Int) ((3 : Nat) * (0 : Nat)) then
                                                            (1 : Int) + (↑((3 : Nat) * (0 : Nat)) : Int)
                                                          else (-1 : Int)) <
                                                          (0 : Int)) =
                                                      true →
                                                    (decide ((-1 : Int) < (0 : Int)) = true → K (V.lit false)) ∧
                                                      (decide ((-1 : Int) < (0 : Int)) = false →
                                                        (((-1 : Int) != (1 : Int) + (↑((3 : Nat) * (0 : Nat)) : Int)) =
                                                              true →
                                                            K (V.lit false)) ∧
                                                          (((-1 : Int) !=
                                                                (1 : Int) + (↑((3 : Nat) * (0 : Nat)) : Int)) =
                                                              false →
                                                            K (V.lit true)))) ∧
                                                  (decide
                                                        ((bif
                                                              ramp (1 : Int) ((3 : Nat) * (0 : Nat)) ==
                                                                ramp (1 : Int) ((3 : Nat) * (0 : Nat)) then
                                                            (1 : Int) + (↑((3 : Nat) * (0 : Nat)) : Int)
                                                          else (-1 : Int)) <
                                                          (0 : Int)) =
                                                      false →
                                                    (decide
                                                            ((bif
                                                                  ramp (1 : Int) ((3 : Nat) * (0 : Nat)) ==
                                                                    ramp (1 : Int) ((3 : Nat) * (0 : Nat)) then
                                                                (1 : Int) + (↑((3 : Nat) * (0 : Nat)) : Int)
                                                              else (-1 : Int)) <
                                                              (0 : Int)) =
                                                          true →
                                                        K (V.lit false)) ∧
                                                      (decide
                                                            ((bif
                                                                  ramp (1 : Int) ((3 : Nat) * (0 : Nat)) ==
                                                                    ramp (1 : Int) ((3 : Nat) * (0 : Nat)) then
                                                                (1 : Int) + (↑((3 : Nat) * (0 : Nat)) : Int)
                                                              else (-1 : Int)) <
                                                              (0 : Int)) =
                                                          false →
                                                        (((bif
                                                                    ramp (1 : Int) ((3 : Nat) * (0 : Nat)) ==
                                                                      ramp (1 : Int) ((3 : Nat) * (0 : Nat)) then
                                                                  (1 : Int) + (↑((3 : Nat) * (0 : Nat)) : Int)
                                                                else (-1 : Int)) !=
                                                                (1 : Int) + (↑((3 : Nat) * (0 : Nat)) : Int)) =
                                                              true →
                                                            K (V.lit false)) ∧
                                                          (((bif
                                                                    ramp (1 : Int) ((3 : Nat) * (0 : Nat)) ==
                                                                      ramp (1 : Int) ((3 : Nat) * (0 : Nat)) then
                                                                  (1 : Int) + (↑((3 : Nat) * (0 : Nat)) : Int)
                                                                else (-1 : Int)) !=
                                                                (1 : Int) + (↑((3 : Nat) * (0 : Nat)) : Int)) =
                                                              false →
                                                            K (V.lit true))))))))) ∧
                        (decide
                              ((bif
                                    ramp (1 : Int) ((3 : Nat) * (0 : Nat)) ==
                                      ramp (1 : Int) ((3 : Nat) * (0 : Nat)) then
                                  (1 : Int) + (↑((3 : Nat) * (0 : Nat)) : Int)
                                else (-1 : Int)) <
                                (0 : Int)) =
                            false →
                          (decide
                                  ((bif
                                        ramp (1 : Int) ((3 : Nat) * (0 : Nat)) ==
                                          ramp (1 : Int) ((3 : Nat) * (0 : Nat)) then
                                      (1 : Int) + (↑((3 : Nat) * (0 : Nat)) : Int)
                                    else (-1 : Int)) <
                                    (0 : Int)) =
                                true →
                              K (V.lit false)) ∧
                            (decide
                                  ((bif
                                        ramp (1 : Int) ((3 : Nat) * (0 : Nat)) ==
                                          ramp (1 : Int) ((3 : Nat) * (0 : Nat)) then
                                      (1 : Int) + (↑((3 : Nat) * (0 : Nat)) : Int)
                                    else (-1 : Int)) <
                                    (0 : Int)) =
                                false →
                              (((bif
                                          ramp (1 : Int) ((3 : Nat) * (0 : Nat)) ==
                                            ramp (1 : Int) ((3 : Nat) * (0 : Nat)) then
                                        (1 : Int) + (↑((3 : Nat) * (0 : Nat)) : Int)
                                      else (-1 : Int)) !=
                                      (1 : Int) + (↑((3 : Nat) * (0 : Nat)) : Int)) =
                                    true →
                                  K (V.lit false)) ∧
                                (((bif
                                          ramp (1 : Int) ((3 : Nat) * (0 : Nat)) ==
                                            ramp (1 : Int) ((3 : Nat) * (0 : Nat)) then
                                        (1 : Int) + (↑((3 : Nat) * (0 : Nat)) : Int)
                                      else (-1 : Int)) !=
                                      (1 : Int) + (↑((3 : Nat) * (0 : Nat)) : Int)) =
                                    false →
                                  At True ∧
                                    At
                                        (List.length nilI = (3 : Nat) * (0 : Nat) ∧
                                          List.length nilI = (3 : Nat) * (0 : Nat) ∧
                                            (0 : Nat) ≤ (2000000 : Nat) ∧ (0 : Nat) ≤ (2000000 : Nat)) ∧
                                      ((!(((bif ruleB a0 then a0 else []) == bif ruleB a0 then a0 else []) &&
                                                      nilI == nilI &&
                                                    (0 : Int) == (0 : Int) &&
                                                  (0 : Int) == (0 : Int) &&
                                                (0 : Int) == (0 : Int))) =
                                            true →
                                          K (V.lit false)) ∧
                                        ((!(((bif ruleB a0 then a0 else []) == bif ruleB a0 then a0 else []) &&
                                                      nilI == nilI &&
                                                    (0 : Int) == (0 : Int) &&
                                                  (0 : Int) == (0 : Int) &&
                                                (0 : Int) == (0 : Int))) =
                                            false →
                                          ((!ruleB a0 == ruleB a0) = true → K (V.lit false)) ∧
                                            ((!ruleB a0 == ruleB a0) = false →
                                              At
                                                  (List.length (ramp (1 : Int) ((3 : Nat) * (0 : Nat))) =
                                                      (3 : Nat) * (0 : Nat) ∧
                                                    (0 : Nat) ≤ (2000000 : Nat) ∧
                                                      (0 : Int) ≤ (1 : Int) ∧ (1 : Int) ≤ (1000 : Int)) ∧
                                                (decide
                                                        ((bif
                                                              ramp (1 : Int) ((3 : Nat) * (0 : Nat)) ==
                                                                ramp (1 : Int) ((3 : Nat) * (0 : Nat)) then
                                                            (1 : Int) + (↑((3 : Nat) * (0 : Nat)) : Int)
                                                          else (-1 : Int)) <
                                                          (0 : Int)) =
                                                      true →
                                                    (decide ((-1 : Int) < (0 : Int)) = true → K (V.lit false)) ∧
                                                      (decide ((-1 : Int) < (0 : Int)) = false →
                                                        (((-1 : Int) != (1 : Int) + (↑((3 : Nat) * (0 : Nat)) : Int)) =
                                                              true →
                                                            K (V.lit false)) ∧
                                                          (((-1 : Int) !=
                                                                (1 : Int) + (↑((3 : Nat) * (0 : Nat)) : Int)) =
                                                              false →
                                                            K (V.lit true)))) ∧
                                                  (decide
                                                        ((bif
                                                              ramp (1 : Int) ((3 : Nat) * (0 : Nat)) ==
                                                                ramp (1 : Int) ((3 : Nat) * (0 : Nat)) then
                                                            (1 : Int) + (↑((3 : Nat) * (0 : Nat)) : Int)
                                                          else (-1 : Int)) <
                                                          (0 : Int)) =
                                                      false →
                                                    (decide
                                                            ((bif
                                                                  ramp (1 : Int) ((3 : Nat) * (0 : Nat)) ==
                                                                    ramp (1 : Int) ((3 : Nat) * (0 : Nat)) then
                                                                (1 : Int) + (↑((3 : Nat) * (0 : Nat)) : Int)
                                                              else (-1 : Int)) <
                                                              (0 : Int)) =
                                                          true →
                                                        K (V.lit false)) ∧
                                                      (decide
                                                            ((bif
                                                                  ramp (1 : Int) ((3 : Nat) * (0 : Nat)) ==
                                                                    ramp (1 : Int) ((3 : Nat) * (0 : Nat)) then
                                                                (1 : Int) + (↑((3 : Nat) * (0 : Nat)) : Int)
                                                              else (-1 : Int)) <
                                                              (0 : Int)) =
                                                          false →
                                                        (((bif
                                                                    ramp (1 : Int) ((3 : Nat) * (0 : Nat)) ==
                                                                      ramp (1 : Int) ((3 : Nat) * (0 : Nat)) then
                                                                  (1 : Int) + (↑((3 : Nat) * (0 : Nat)) : Int)
                                                                else (-1 : Int)) !=
                                                                (1 : Int) + (↑((3 : Nat) * (0 : Nat)) : Int)) =
                                                              true →
                                                            K (V.lit false)) ∧
                                                          (((bif
                                                                    ramp (1 : Int) ((3 : Nat) * (0 : Nat)) ==
                                                                      ramp (1 : Int) ((3 : Nat) * (0 : Nat)) then
                                                                  (1 : Int) + (↑((3 : Nat) * (0 : Nat)) : Int)
                                                                else (-1 : Int)) !=
                                                                (1 : Int) + (↑((3 : Nat) * (0 : Nat)) : Int)) =
                                                              false →
                                                            K (V.lit true))))))))))))

theorem vc_LawFirstPlain (a0 : List UInt8) (ha0 : (a0.length : Int) ≤ 9223372036854775807) : VC_LawFirstPlain a0 (retP (.bool true)) := by
  unfold VC_LawFirstPlain
  simp [retP_lit, ramp]
end Go.Vi
