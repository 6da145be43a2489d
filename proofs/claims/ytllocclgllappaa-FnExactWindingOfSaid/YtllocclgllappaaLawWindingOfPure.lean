/- The conditions of FnExactWindingOf. -/
import Derived.Test.YtllocclgllappaaTVPf
namespace Go.Vi
set_option linter.unusedVariables false
set_option linter.unusedSimpArgs false
def VC_LawWindingOf (a0 : List UInt8) (K : V → Prop) : Prop :=
  (decide ((↑(List.length a0) : Int) > (1048576 : Int)) = true → K (V.lit true)) ∧
  (decide ((↑(List.length a0) : Int) > (1048576 : Int)) = false →
    At ((↑(List.length a0) : Int) ≤ (9223372036854775807 : Int)) ∧
      At ((↑(List.length a0) : Int) ≤ (9223372036854775807 : Int)) ∧
        ((wiF a0 != wiF a0) = true → K (V.lit false)) ∧
          ((wiF a0 != wiF a0) = false →
            ((!wiB a0 == wiB a0) = true → K (V.lit false)) ∧ ((!wiB a0 == wiB a0) = false → K (V.lit true))))

theorem vc_LawWindingOf (a0 : List UInt8) (ha0 : (a0.length : Int) ≤ 9223372036854775807) : VC_LawWindingOf a0 (retP (.bool true)) := by
  unfold VC_LawWindingOf
  simp [retP_lit, ha0]
end Go.Vi
