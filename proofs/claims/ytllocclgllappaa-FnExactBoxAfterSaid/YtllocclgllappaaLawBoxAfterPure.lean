/- The conditions of FnExactBoxAfter. -/
import Derived.Test.YtllocclgllappaaTVPf
namespace Go.Vi
set_option linter.unusedVariables false
set_option linter.unusedSimpArgs false
def VC_LawBoxAfter (a0 : List UInt8) (a1 : Int) (K : V → Prop) : Prop :=
  (decide ((↑(List.length a0) : Int) > (1048576 : Int)) = true → K (V.lit true)) ∧
  (decide ((↑(List.length a0) : Int) > (1048576 : Int)) = false →
    At ((↑(List.length a0) : Int) ≤ (9223372036854775807 : Int)) ∧
      At ((↑(List.length a0) : Int) ≤ (9223372036854775807 : Int)) ∧
        At
            (List.length (bxR a0 a1) = bxN a0 a1 ∧
              List.length (bxR a0 a1) = bxN a0 a1 ∧ bxN a0 a1 ≤ (2000000 : Nat) ∧ bxN a0 a1 ≤ (2000000 : Nat)) ∧
          ((!bxR a0 a1 == bxR a0 a1) = true → K (V.lit false)) ∧
            ((!bxR a0 a1 == bxR a0 a1) = false →
              ((!fewB a0 a1 == fewB a0 a1) = true → K (V.lit false)) ∧
                ((!fewB a0 a1 == fewB a0 a1) = false →
                  At
                      (List.length (bxR a0 a1) = bxN a0 a1 ∧
                        bxN a0 a1 ≤ (2000000 : Nat) ∧ (0 : Int) ≤ (1 : Int) ∧ (1 : Int) ≤ (1000000000000000 : Int)) ∧
                    At
                        (List.length (ramp (1 : Int) (bxN a0 a1)) = bxN a0 a1 ∧
                          bxN a0 a1 ≤ (2000000 : Nat) ∧ (0 : Int) ≤ (1 : Int) ∧ (1 : Int) ≤ (1000000000000000 : Int)) ∧
                      (decide
                              ((bif ramp (1 : Int) (bxN a0 a1) == ramp (1 : Int) (bxN a0 a1) then
                                  (1 : Int) + (↑(bxN a0 a1) : Int)
                                else (-1 : Int)) <
                                (0 : Int)) =
                            true →
                          K (V.lit false)) ∧
                        (decide
                              ((bif ramp (1 : Int) (bxN a0 a1) == ramp (1 : Int) (bxN a0 a1) then
                                  (1 : Int) + (↑(bxN a0 a1) : Int)
                                else (-1 : Int)) <
                                (0 : Int)) =
                            false →
                          (((bif ramp (1 : Int) (bxN a0 a1) == ramp (1 : Int) (bxN a0 a1) then
                                    (1 : Int) + (↑(bxN a0 a1) : Int)
                                  else (-1 : Int)) !=
                                  (1 : Int) + (↑(bxN a0 a1) : Int)) =
                                true →
                              K (V.lit false)) ∧
                            (((bif ramp (1 : Int) (bxN a0 a1) == ramp (1 : Int) (bxN a0 a1) then
                                    (1 : Int) + (↑(bxN a0 a1) : Int)
                                  else (-1 : Int)) !=
                                  (1 : Int) + (↑(bxN a0 a1) : Int)) =
                                false →
                              At ((↑(List.length a0) : Int) ≤ (9223372036854775807 : Int)) ∧
                                At
                                    (List.length (bxR a0 a1) = bxN a0 a1 ∧
                                      List.length (bxR a0 a1) = bxN a0 a1 ∧
                                        bxN a0 a1 ≤ (2000000 : Nat) ∧ bxN a0 a1 ≤ (2000000 : Nat)) ∧
                                  ((!bxR a0 a1 == bxR a0 a1) = true → K (V.lit false)) ∧
                                    ((!bxR a0 a1 == bxR a0 a1) = false →
                                      ((!fewB a0 a1 == fewB a0 a1) = true → K (V.lit false)) ∧
                                        ((!fewB a0 a1 == fewB a0 a1) = false →
                                          At
                                              (List.length (ramp (1 : Int) (bxN a0 a1)) = bxN a0 a1 ∧
                                                bxN a0 a1 ≤ (2000000 : Nat) ∧
                                                  (0 : Int) ≤ (1 : Int) ∧ (1 : Int) ≤ (1000000000000000 : Int)) ∧
                                            (decide
                                                    ((bif ramp (1 : Int) (bxN a0 a1) == ramp (1 : Int) (bxN a0 a1) then
                                                        (1 : Int) + (↑(bxN a0 a1) : Int)
                                                      else (-1 : Int)) <
                                                      (0 : Int)) =
                                                  true →
                                                K (V.lit false)) ∧
                                              (decide
                                                    ((bif ramp (1 : Int) (bxN a0 a1) == ramp (1 : Int) (bxN a0 a1) then
                                                        (1 : Int) + (↑(bxN a0 a1) : Int)
                                                      else (-1 : Int)) <
                                                      (0 : Int)) =
                                                  false →
                                                (((bif ramp (1 : Int) (bxN a0 a1) == ramp (1 : Int) (bxN a0 a1) then
                                                          (1 : Int) + (↑(bxN a0 a1) : Int)
                                                        else (-1 : Int)) !=
                                                        (1 : Int) + (↑(bxN a0 a1) : Int)) =
                                                      true →
                                                    K (V.lit false)) ∧
                                                  (((bif ramp (1 : Int) (bxN a0 a1) == ramp (1 : Int) (bxN a0 a1) then
                                                          (1 : Int) + (↑(bxN a0 a1) : Int)
                                                        else (-1 : Int)) !=
                                                        (1 : Int) + (↑(bxN a0 a1) : Int)) =
                                                      false →
                                                    K (V.lit true))))))))))

theorem vc_LawBoxAfter (a0 : List UInt8) (a1 : Int) (ha0 : (a0.length : Int) ≤ 9223372036854775807) (ha1 : -9223372036854775808 ≤ a1 ∧ a1 ≤ 9223372036854775807) : VC_LawBoxAfter a0 a1 (retP (.bool true)) := by
  unfold VC_LawBoxAfter
  have h1 := bxR_ok a0 a1
  have h4 : (0 : Int) ≤ 1 + (bxN a0 a1 : Nat) := by omega
  simp only [retP_lit, h1.1, h1.2, ramp_len, ha0, at_iff, true_and, and_true, and_self, beq_self_eq_true, Bool.not_true, Bool.and_self, cond_true, bne_self_eq_false, Bool.false_eq_true, false_implies, implies_true, decide_eq_true_eq, Int.not_lt.2 h4]
  simp
end Go.Vi
