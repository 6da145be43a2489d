/- The conditions of FnExactSpiralProgram. -/
import Derived.Test.YtllocclgllappabDoorTSPf
namespace Go.Vi
set_option linter.unusedVariables false
set_option linter.unusedSimpArgs false
def VC_LawSpiralProgram (a0 : Int) (a1n : Nat) (a1 : List Int) (K : V → Prop) : Prop :=
  (decide ((↑a1n : Int) > (1048576 : Int)) = true → K (V.lit true)) ∧
  (decide ((↑a1n : Int) > (1048576 : Int)) = false →
    At (List.length a1 = a1n ∧ a1n ≤ (2000000 : Nat)) ∧
      At (List.length a1 = a1n ∧ a1n ≤ (2000000 : Nat)) ∧
        At (List.length a1 = a1n ∧ a1n ≤ (2000000 : Nat)) ∧
          At (List.length a1 = a1n ∧ a1n ≤ (2000000 : Nat)) ∧
            ((!spS a0 a1 == spS a0 a1) = true → K (V.lit false)) ∧
              ((!spS a0 a1 == spS a0 a1) = false →
                ((!spB a0 a1 == spB a0 a1) = true → K (V.lit false)) ∧
                  ((!spB a0 a1 == spB a0 a1) = false →
                    At (List.length a1 = a1n ∧ a1n ≤ (2000000 : Nat)) ∧
                      At (List.length a1 = a1n ∧ List.length a1 = a1n ∧ a1n ≤ (2000000 : Nat) ∧ a1n ≤ (2000000 : Nat)) ∧
                        ((!a1 == a1) = true → K (V.lit false)) ∧ ((!a1 == a1) = false → K (V.lit true)))))

theorem vc_LawSpiralProgram (a0 : Int) (a1n : Nat) (a1 : List Int) (ha0 : -9223372036854775808 ≤ a0 ∧ a0 ≤ 9223372036854775807) (ha1 : a1.length = a1n * 1 ∧ (a1n : Int) ≤ 9223372036854775807) : VC_LawSpiralProgram a0 a1n a1 (retP (.bool true)) := by
  obtain ⟨hr1, hr2⟩ := ha1
  rw [Nat.mul_one] at hr1
  subst hr1
  unfold VC_LawSpiralProgram
  refine ⟨fun _ => by simp [retP_lit], fun hs => ?_⟩
  have hs := of_decide_eq_false hs
  have hl : a1.length ≤ 2000000 := by omega
  simp [retP_lit, hl]
end Go.Vi
