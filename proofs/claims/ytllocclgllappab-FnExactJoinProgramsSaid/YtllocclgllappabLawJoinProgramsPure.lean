/- The conditions of FnExactJoinPrograms. -/
import Derived.Test.YtllocclgllappabTOPf
namespace Go.Vi
set_option linter.unusedVariables false
set_option linter.unusedSimpArgs false
def VC_LawJoinPrograms (a0 : List UInt8) (a1 : List UInt8) (K : V → Prop) : Prop :=
  (decide ((↑(List.length a0) : Int) > (1048576 : Int)) = true → K (V.lit true)) ∧
  (decide ((↑(List.length a0) : Int) > (1048576 : Int)) = false →
    (decide ((↑(List.length a1) : Int) > (1048576 : Int)) = true → K (V.lit true)) ∧
      (decide ((↑(List.length a1) : Int) > (1048576 : Int)) = false →
        At
            ((↑(List.length a0) : Int) ≤ (9223372036854775807 : Int) ∧
              (↑(List.length a1) : Int) ≤ (9223372036854775807 : Int)) ∧
          At
              ((↑(List.length a0) : Int) ≤ (9223372036854775807 : Int) ∧
                (↑(List.length a1) : Int) ≤ (9223372036854775807 : Int)) ∧
            ((!joinS a0 a1 == joinS a0 a1) = true → K (V.lit false)) ∧
              ((!joinS a0 a1 == joinS a0 a1) = false →
                ((!joinB a0 a1 == joinB a0 a1) = true → K (V.lit false)) ∧
                  ((!joinB a0 a1 == joinB a0 a1) = false → K (V.lit true)))))

theorem vc_LawJoinPrograms (a0 : List UInt8) (a1 : List UInt8) (ha0 : (a0.length : Int) ≤ 9223372036854775807) (ha1 : (a1.length : Int) ≤ 9223372036854775807) : VC_LawJoinPrograms a0 a1 (retP (.bool true)) := by
  unfold VC_LawJoinPrograms
  simp [retP_lit, ha0, ha1]
end Go.Vi
