/- The conditions of FnExactQuartersOf. -/
import Derived.Test.YtllocclgllappaaTUPf
namespace Go.Vi
set_option linter.unusedVariables false
def VC_LawQuartersOf (a0 : List UInt8) (K : V → Prop) : Prop :=
  (decide ((↑(List.length a0) : Int) > (1048576 : Int)) = true → K (V.lit true)) ∧
  (decide ((↑(List.length a0) : Int) > (1048576 : Int)) = false →
    At ((↑(List.length a0) : Int) ≤ (9223372036854775807 : Int)) ∧
      At ((↑(List.length a0) : Int) ≤ (9223372036854775807 : Int)) ∧
        (((bif progB a0 then quC (ptS a0) else (0 : Int)) != bif progB a0 then quC (ptS a0) else (0 : Int)) = true →
            K (V.lit false)) ∧
          (((bif progB a0 then quC (ptS a0) else (0 : Int)) != bif progB a0 then quC (ptS a0) else (0 : Int)) = false →
            ((!progB a0 == progB a0) = true → K (V.lit false)) ∧ ((!progB a0 == progB a0) = false → K (V.lit true))))

theorem vc_LawQuartersOf (a0 : List UInt8) (ha0 : (a0.length : Int) ≤ 9223372036854775807) : VC_LawQuartersOf a0 (retP (.bool true)) := by
  unfold VC_LawQuartersOf
  simp [retP_lit, ha0]
end Go.Vi
