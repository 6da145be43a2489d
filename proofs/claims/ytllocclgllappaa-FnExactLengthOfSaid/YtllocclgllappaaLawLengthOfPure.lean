/- The conditions of FnExactLengthOf. -/
import Derived.Test.YtllocclgllappaaTUPf
namespace Go.Vi
set_option linter.unusedVariables false
def VC_LawLengthOf (a0 : List UInt8) (a1 : Int) (K : V → Prop) : Prop :=
  (decide ((↑(List.length a0) : Int) > (1048576 : Int)) = true → K (V.lit true)) ∧
  (decide ((↑(List.length a0) : Int) > (1048576 : Int)) = false →
    At ((↑(List.length a0) : Int) ≤ (9223372036854775807 : Int)) ∧
      At ((↑(List.length a0) : Int) ≤ (9223372036854775807 : Int)) ∧
        (((bif askB a0 a1 then lenC (ptS a0) * a1 else (0 : Int)) !=
                bif askB a0 a1 then lenC (ptS a0) * a1 else (0 : Int)) =
              true →
            K (V.lit false)) ∧
          (((bif askB a0 a1 then lenC (ptS a0) * a1 else (0 : Int)) !=
                bif askB a0 a1 then lenC (ptS a0) * a1 else (0 : Int)) =
              false →
            ((!askB a0 a1 == askB a0 a1) = true → K (V.lit false)) ∧
              ((!askB a0 a1 == askB a0 a1) = false → K (V.lit true))))

theorem vc_LawLengthOf (a0 : List UInt8) (a1 : Int) (ha0 : (a0.length : Int) ≤ 9223372036854775807) (ha1 : -9223372036854775808 ≤ a1 ∧ a1 ≤ 9223372036854775807) : VC_LawLengthOf a0 a1 (retP (.bool true)) := by
  unfold VC_LawLengthOf
  simp [retP_lit, ha0]
end Go.Vi
