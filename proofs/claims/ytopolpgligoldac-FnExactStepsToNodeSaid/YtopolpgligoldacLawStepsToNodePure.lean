/- The conditions of FnExactStepsToNode. -/
import Derived.Test.YtopolpgligoldacREPf
namespace Go.Vi
set_option linter.unusedVariables false
def VC_LawStepsToNode (a0on : Nat) (a0o : List (List Int)) (a0rn : Nat) (a0r : List Int) (a1 : Int) (a2 : Int) (K : V → Prop) : Prop :=
  At
    ((0 : Int) ≤ (1048576 : Int) ∧
      (1048576 : Int) ≤ (1048576 : Int) ∧
        (↑a0on : Int) ≤ (9223372036854775807 : Int) ∧
          List.length a0o = a0on ∧
            (∀ (r : List Int), r ∈ a0o → (↑(List.length r) : Int) ≤ (9223372036854775807 : Int)) ∧
              List.length a0r = a0rn ∧ (↑a0rn : Int) ≤ (9223372036854775807 : Int)) ∧
  (decide (szR a0o a0r (1048576 : Int) < (0 : Int)) = true → K (V.lit true)) ∧
    (decide (szR a0o a0r (1048576 : Int) < (0 : Int)) = false →
      At (List.length a0o = a0on ∧ List.length a0r = a0rn ∧ smallM a0o ∧ a0rn ≤ (2000000 : Nat)) ∧
        At (List.length a0o = a0on ∧ List.length a0r = a0rn ∧ smallM a0o ∧ a0rn ≤ (2000000 : Nat)) ∧
          At (List.length a0o = a0on ∧ List.length a0r = a0rn ∧ smallM a0o ∧ a0rn ≤ (2000000 : Nat)) ∧
            At (List.length a0o = a0on ∧ List.length a0r = a0rn ∧ smallM a0o ∧ a0rn ≤ (2000000 : Nat)) ∧
              (((↑(stN a0o a0r a0on a1 a2) : Int) != (↑(stN a0o a0r a0on a1 a2) : Int)) = true → K (V.lit false)) ∧
                (((↑(stN a0o a0r a0on a1 a2) : Int) != (↑(stN a0o a0r a0on a1 a2) : Int)) = false →
                  ((!decide ((0 : Nat) < stN a0o a0r a0on a1 a2) == decide ((0 : Nat) < stN a0o a0r a0on a1 a2)) =
                        true →
                      K (V.lit false)) ∧
                    ((!decide ((0 : Nat) < stN a0o a0r a0on a1 a2) == decide ((0 : Nat) < stN a0o a0r a0on a1 a2)) =
                        false →
                      (((At (List.length a0o = a0on ∧ List.length a0r = a0rn ∧ smallM a0o ∧ a0rn ≤ (2000000 : Nat)) ∧
                              (At
                                    (List.length a0o = a0on ∧
                                      List.length a0r = a0rn ∧
                                        smallM a0o ∧
                                          a0rn ≤ (2000000 : Nat) ∧
                                            List.length a0o = a0on ∧
                                              List.length a0r = a0rn ∧ smallM a0o ∧ a0rn ≤ (2000000 : Nat)) ∧
                                  ((!(a0o == a0o && a0r == a0r)) = true → K (V.lit false)) ∧
                                    ((!(a0o == a0o && a0r == a0r)) = false → K (V.lit true))) ∧
                                True) ∧
                            True) ∧
                          True) ∧
                        (((At (List.length a0o = a0on ∧ List.length a0r = a0rn ∧ smallM a0o ∧ a0rn ≤ (2000000 : Nat)) ∧
                                (At
                                      (List.length a0o = a0on ∧
                                        List.length a0r = a0rn ∧
                                          smallM a0o ∧
                                            a0rn ≤ (2000000 : Nat) ∧
                                              List.length a0o = a0on ∧
                                                List.length a0r = a0rn ∧ smallM a0o ∧ a0rn ≤ (2000000 : Nat)) ∧
                                    ((!(a0o == a0o && a0r == a0r)) = true → K (V.lit false)) ∧
                                      ((!(a0o == a0o && a0r == a0r)) = false → K (V.lit true))) ∧
                                  True) ∧
                              True) ∧
                            (At
                                  (List.length a0o = a0on ∧
                                    List.length a0r = a0rn ∧ smallM a0o ∧ a0rn ≤ (2000000 : Nat)) ∧
                                ((At
                                        (List.length a0o = a0on ∧
                                          List.length a0r = a0rn ∧
                                            smallM a0o ∧
                                              a0rn ≤ (2000000 : Nat) ∧
                                                List.length a0o = a0on ∧
                                                  List.length a0r = a0rn ∧ smallM a0o ∧ a0rn ≤ (2000000 : Nat)) ∧
                                      ((!(a0o == a0o && a0r == a0r)) = true → K (V.lit false)) ∧
                                        ((!(a0o == a0o && a0r == a0r)) = false → K (V.lit true))) ∧
                                    True) ∧
                                  True) ∧
                              True) ∧
                          True)))

theorem vc_LawStepsToNode (a0on : Nat) (a0o : List (List Int)) (a0rn : Nat) (a0r : List Int) (a1 : Int) (a2 : Int) (ha0o : a0o.length = a0on ∧ (a0on : Int) ≤ 9223372036854775807 ∧ ∀ r ∈ a0o, (r.length : Int) ≤ 9223372036854775807) (ha0r : a0r.length = a0rn * 1 ∧ (a0rn : Int) ≤ 9223372036854775807) (ha1 : -9223372036854775808 ≤ a1 ∧ a1 ≤ 9223372036854775807) (ha2 : -9223372036854775808 ≤ a2 ∧ a2 ≤ 9223372036854775807) : VC_LawStepsToNode a0on a0o a0rn a0r a1 a2 (retP (.bool true)) := by
  obtain ⟨ho1, ho2, ho3⟩ := ha0o
  obtain ⟨hr1, hr2⟩ := ha0r
  rw [Nat.mul_one] at hr1
  subst ho1; subst hr1
  unfold VC_LawStepsToNode
  refine ⟨⟨by omega, by omega, ho2, rfl, ho3, rfl, hr2⟩, fun _ => by simp [retP_lit], fun hs => ?_⟩
  have hs := of_decide_eq_false hs
  obtain ⟨s1, s2⟩ := szR_nn (l := a0o) (ro := a0r) (left := 1048576) (by omega) (by omega)
  simp [retP_lit, s1, s2]
end Go.Vi
