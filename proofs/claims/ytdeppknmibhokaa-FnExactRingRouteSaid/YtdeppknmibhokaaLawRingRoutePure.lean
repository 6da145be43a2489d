/- The conditions of FnExactRingRoute. -/
import Derived.Test.YtdeppknmibhokaaRBPf
namespace Go.Vi
set_option linter.unusedVariables false
def VC_LawRingRoute (a0 : Int) (K : V → Prop) : Prop :=
  At True ∧
  At True ∧
    At
        (List.length (ringM a0 (ringN a0)) = ringN a0 ∧
          List.length (List.replicate (ringN a0) (0 : Int)) = ringN a0 ∧
            smallM (ringM a0 (ringN a0)) ∧
              ringN a0 ≤ (2000000 : Nat) ∧
                List.length (ringM a0 (ringN a0)) = ringN a0 ∧
                  List.length (List.replicate (ringN a0) (0 : Int)) = ringN a0 ∧
                    smallM (ringM a0 (ringN a0)) ∧ ringN a0 ≤ (2000000 : Nat)) ∧
      ((!(ringM a0 (ringN a0) == ringM a0 (ringN a0) &&
                List.replicate (ringN a0) (0 : Int) == List.replicate (ringN a0) (0 : Int))) =
            true →
          K (V.lit false)) ∧
        ((!(ringM a0 (ringN a0) == ringM a0 (ringN a0) &&
                List.replicate (ringN a0) (0 : Int) == List.replicate (ringN a0) (0 : Int))) =
            false →
          ((!inB a0 (1 : Int) (10 : Int) == inB a0 (1 : Int) (10 : Int)) = true → K (V.lit false)) ∧
            ((!inB a0 (1 : Int) (10 : Int) == inB a0 (1 : Int) (10 : Int)) = false →
              At
                  (List.length (ringM a0 (ringN a0)) = ringN a0 ∧
                    List.length (List.replicate (ringN a0) (0 : Int)) = ringN a0 ∧
                      smallM (ringM a0 (ringN a0)) ∧
                        ringN a0 ≤ (2000000 : Nat) ∧ (0 : Int) ≤ (1 : Int) ∧ (1 : Int) ≤ (1000 : Int)) ∧
                At
                    (List.length (rampM (1 : Int) (ringM a0 (ringN a0))) = ringN a0 ∧
                      List.length (ramp ((1 : Int) + (↑(totL (ringM a0 (ringN a0))) : Int)) (ringN a0)) = ringN a0 ∧
                        smallM (rampM (1 : Int) (ringM a0 (ringN a0))) ∧
                          ringN a0 ≤ (2000000 : Nat) ∧ (0 : Int) ≤ (1 : Int) ∧ (1 : Int) ≤ (1000 : Int)) ∧
                  (decide
                          ((bif
                                rampM (1 : Int) (ringM a0 (ringN a0)) ==
                                    rampM (1 : Int) (rampM (1 : Int) (ringM a0 (ringN a0))) &&
                                  ramp ((1 : Int) + (↑(totL (ringM a0 (ringN a0))) : Int)) (ringN a0) ==
                                    ramp ((1 : Int) + (↑(totL (rampM (1 : Int) (ringM a0 (ringN a0)))) : Int))
                                      (ringN a0) then
                              (1 : Int) + (↑(totL (rampM (1 : Int) (ringM a0 (ringN a0)))) : Int) + (↑(ringN a0) : Int)
                            else (-1 : Int)) <
                            (0 : Int)) =
                        true →
                      K (V.lit false)) ∧
                    (decide
                          ((bif
                                rampM (1 : Int) (ringM a0 (ringN a0)) ==
                                    rampM (1 : Int) (rampM (1 : Int) (ringM a0 (ringN a0))) &&
                                  ramp ((1 : Int) + (↑(totL (ringM a0 (ringN a0))) : Int)) (ringN a0) ==
                                    ramp ((1 : Int) + (↑(totL (rampM (1 : Int) (ringM a0 (ringN a0)))) : Int))
                                      (ringN a0) then
                              (1 : Int) + (↑(totL (rampM (1 : Int) (ringM a0 (ringN a0)))) : Int) + (↑(ringN a0) : Int)
                            else (-1 : Int)) <
                            (0 : Int)) =
                        false →
                      (((bif
                                  rampM (1 : Int) (ringM a0 (ringN a0)) ==
                                      rampM (1 : Int) (rampM (1 : Int) (ringM a0 (ringN a0))) &&
                                    ramp ((1 : Int) + (↑(totL (ringM a0 (ringN a0))) : Int)) (ringN a0) ==
                                      ramp ((1 : Int) + (↑(totL (rampM (1 : Int) (ringM a0 (ringN a0)))) : Int))
                                        (ringN a0) then
                                (1 : Int) + (↑(totL (rampM (1 : Int) (ringM a0 (ringN a0)))) : Int) +
                                  (↑(ringN a0) : Int)
                              else (-1 : Int)) !=
                              (1 : Int) + (↑(totL (ringM a0 (ringN a0))) : Int) + (↑(ringN a0) : Int)) =
                            true →
                          K (V.lit false)) ∧
                        (((bif
                                  rampM (1 : Int) (ringM a0 (ringN a0)) ==
                                      rampM (1 : Int) (rampM (1 : Int) (ringM a0 (ringN a0))) &&
                                    ramp ((1 : Int) + (↑(totL (ringM a0 (ringN a0))) : Int)) (ringN a0) ==
                                      ramp ((1 : Int) + (↑(totL (rampM (1 : Int) (ringM a0 (ringN a0)))) : Int))
                                        (ringN a0) then
                                (1 : Int) + (↑(totL (rampM (1 : Int) (ringM a0 (ringN a0)))) : Int) +
                                  (↑(ringN a0) : Int)
                              else (-1 : Int)) !=
                              (1 : Int) + (↑(totL (ringM a0 (ringN a0))) : Int) + (↑(ringN a0) : Int)) =
                            false →
                          At True ∧
                            At
                                (List.length (ringM a0 (ringN a0)) = ringN a0 ∧
                                  List.length (List.replicate (ringN a0) (0 : Int)) = ringN a0 ∧
                                    smallM (ringM a0 (ringN a0)) ∧
                                      ringN a0 ≤ (2000000 : Nat) ∧
                                        List.length (ringM a0 (ringN a0)) = ringN a0 ∧
                                          List.length (List.replicate (ringN a0) (0 : Int)) = ringN a0 ∧
                                            smallM (ringM a0 (ringN a0)) ∧ ringN a0 ≤ (2000000 : Nat)) ∧
                              ((!(ringM a0 (ringN a0) == ringM a0 (ringN a0) &&
                                        List.replicate (ringN a0) (0 : Int) == List.replicate (ringN a0) (0 : Int))) =
                                    true →
                                  K (V.lit false)) ∧
                                ((!(ringM a0 (ringN a0) == ringM a0 (ringN a0) &&
                                        List.replicate (ringN a0) (0 : Int) == List.replicate (ringN a0) (0 : Int))) =
                                    false →
                                  ((!inB a0 (1 : Int) (10 : Int) == inB a0 (1 : Int) (10 : Int)) = true →
                                      K (V.lit false)) ∧
                                    ((!inB a0 (1 : Int) (10 : Int) == inB a0 (1 : Int) (10 : Int)) = false →
                                      At
                                          (List.length (rampM (1 : Int) (ringM a0 (ringN a0))) = ringN a0 ∧
                                            List.length
                                                  (ramp ((1 : Int) + (↑(totL (ringM a0 (ringN a0))) : Int))
                                                    (ringN a0)) =
                                                ringN a0 ∧
                                              smallM (rampM (1 : Int) (ringM a0 (ringN a0))) ∧
                                                ringN a0 ≤ (2000000 : Nat) ∧
                                                  (0 : Int) ≤ (1 : Int) ∧ (1 : Int) ≤ (1000 : Int)) ∧
                                        (decide
                                                ((bif
                                                      rampM (1 : Int) (ringM a0 (ringN a0)) ==
                                                          rampM (1 : Int) (rampM (1 : Int) (ringM a0 (ringN a0))) &&
                                                        ramp ((1 : Int) + (↑(totL (ringM a0 (ringN a0))) : Int))
                                                            (ringN a0) ==
                                                          ramp
                                                            ((1 : Int) +
                                                              (↑(totL (rampM (1 : Int) (ringM a0 (ringN a0)))) : Int))
                                                            (ringN a0) then
                                                    (1 : Int) +
                                                        (↑(totL (rampM (1 : Int) (ringM a0 (ringN a0)))) : Int) +
                                                      (↑(ringN a0) : Int)
                                                  else (-1 : Int)) <
                                                  (0 : Int)) =
                                              true →
                                            K (V.lit false)) ∧
                                          (decide
                                                ((bif
                                                      rampM (1 : Int) (ringM a0 (ringN a0)) ==
                                                          rampM (1 : Int) (rampM (1 : Int) (ringM a0 (ringN a0))) &&
                                                        ramp ((1 : Int) + (↑(totL (ringM a0 (ringN a0))) : Int))
                                                            (ringN a0) ==
                                                          ramp
                                                            ((1 : Int) +
                                                              (↑(totL (rampM (1 : Int) (ringM a0 (ringN a0)))) : Int))
                                                            (ringN a0) then
                                                    (1 : Int) +
                                                        (↑(totL (rampM (1 : Int) (ringM a0 (ringN a0)))) : Int) +
                                                      (↑(ringN a0) : Int)
                                                  else (-1 : Int)) <
                                                  (0 : Int)) =
                                              false →
                                            (((bif
                                                        rampM (1 : Int) (ringM a0 (ringN a0)) ==
                                                            rampM (1 : Int) (rampM (1 : Int) (ringM a0 (ringN a0))) &&
                                                          ramp ((1 : Int) + (↑(totL (ringM a0 (ringN a0))) : Int))
                                                              (ringN a0) ==
                                                            ramp
                                                              ((1 : Int) +
                                                                (↑(totL (rampM (1 : Int) (ringM a0 (ringN a0)))) : Int))
                                                              (ringN a0) then
                                                      (1 : Int) +
                                                          (↑(totL (rampM (1 : Int) (ringM a0 (ringN a0)))) : Int) +
                                                        (↑(ringN a0) : Int)
                                                    else (-1 : Int)) !=
                                                    (1 : Int) + (↑(totL (ringM a0 (ringN a0))) : Int) +
                                                      (↑(ringN a0) : Int)) =
                                                  true →
                                                K (V.lit false)) ∧
                                              (((bif
                                                        rampM (1 : Int) (ringM a0 (ringN a0)) ==
                                                            rampM (1 : Int) (rampM (1 : Int) (ringM a0 (ringN a0))) &&
                                                          ramp ((1 : Int) + (↑(totL (ringM a0 (ringN a0))) : Int))
                                                              (ringN a0) ==
                                                            ramp
                                                              ((1 : Int) +
                                                                (↑(totL (rampM (1 : Int) (ringM a0 (ringN a0)))) : Int))
                                                              (ringN a0) then
                                                      (1 : Int) +
                                                          (↑(totL (rampM (1 : Int) (ringM a0 (ringN a0)))) : Int) +
                                                        (↑(ringN a0) : Int)
                                                    else (-1 : Int)) !=
                                                    (1 : Int) + (↑(totL (ringM a0 (ringN a0))) : Int) +
                                                      (↑(ringN a0) : Int)) =
                                                  false →
                                                K (V.lit true)))))))))

theorem vc_LawRingRoute (a0 : Int) (ha0 : -9223372036854775808 ≤ a0 ∧ a0 ≤ 9223372036854775807) : VC_LawRingRoute a0 (retP (.bool true)) := by
  unfold VC_LawRingRoute
  have h1 := ringM_small (nodes := a0)
  have h2 := smallM_ramp (q := 1) h1
  have h3 := ringN_small a0
  have h4 : (0 : Int) ≤ 1 + (totL (ringM a0 (ringN a0)) : Nat) + (ringN a0 : Nat) := by omega
  simp only [retP_lit, ringM_len, rampM_len, ramp_len, List.length_replicate, rampM_idem, totL_ramp, h1, h2, h3, at_iff, true_and, and_true, and_self, beq_self_eq_true, Bool.not_true, Bool.and_self, cond_true, bne_self_eq_false, Bool.false_eq_true, false_implies, implies_true, decide_eq_true_eq, Int.not_lt.2 h4]
  simp
end Go.Vi
