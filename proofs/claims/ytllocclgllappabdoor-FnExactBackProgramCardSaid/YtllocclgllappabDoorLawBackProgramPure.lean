/- The conditions of FnExactBackProgram. -/
import Derived.Test.YtllocclgllappabDoorTGPf
namespace Go.Vi
set_option linter.unusedVariables false
set_option linter.unusedSimpArgs false
def VC_LawBackProgram (a0 : List UInt8) (K : V → Prop) : Prop :=
  (decide ((↑(List.length a0) : Int) > (1048576 : Int)) = true → K (V.lit true)) ∧
  (decide ((↑(List.length a0) : Int) > (1048576 : Int)) = false →
    At ((↑(List.length a0) : Int) ≤ (9223372036854775807 : Int)) ∧
      At ((↑(List.length a0) : Int) ≤ (9223372036854775807 : Int)) ∧
        ((!bkS a0 == bkS a0) = true → K (V.lit false)) ∧
          ((!bkS a0 == bkS a0) = false →
            ((!progB a0 == progB a0) = true → K (V.lit false)) ∧ ((!progB a0 == progB a0) = false → K (V.lit true))))

theorem vc_LawBackProgram (a0 : List UInt8) (ha0 : (a0.length : Int) ≤ 9223372036854775807) : VC_LawBackProgram a0 (retP (.bool true)) := by
  unfold VC_LawBackProgram
  simp [retP_lit, ha0]
end Go.Vi
