/- The conditions of FnExactGrowProgram. -/
import Derived.Test.YtllocclgllappabDoorTGPf
namespace Go.Vi
set_option linter.unusedVariables false
set_option linter.unusedSimpArgs false
def VC_LawGrowProgram (a0 : List UInt8) (a1 : Int) (K : V → Prop) : Prop :=
  (decide ((↑(List.length a0) : Int) > (1048576 : Int)) = true → K (V.lit true)) ∧
  (decide ((↑(List.length a0) : Int) > (1048576 : Int)) = false →
    At ((↑(List.length a0) : Int) ≤ (9223372036854775807 : Int)) ∧
      At ((↑(List.length a0) : Int) ≤ (9223372036854775807 : Int)) ∧
        ((!gwS a0 a1 == gwS a0 a1) = true → K (V.lit false)) ∧
          ((!gwS a0 a1 == gwS a0 a1) = false →
            ((!gwB a0 a1 == gwB a0 a1) = true → K (V.lit false)) ∧
              ((!gwB a0 a1 == gwB a0 a1) = false → K (V.lit true))))

theorem vc_LawGrowProgram (a0 : List UInt8) (a1 : Int) (ha0 : (a0.length : Int) ≤ 9223372036854775807) (ha1 : -9223372036854775808 ≤ a1 ∧ a1 ≤ 9223372036854775807) : VC_LawGrowProgram a0 a1 (retP (.bool true)) := by
  unfold VC_LawGrowProgram
  simp [retP_lit, ha0]
end Go.Vi
