/- The conditions of FnExactOtherProgram. -/
import Derived.Test.YtllocclgllappabTOPf
namespace Go.Vi
set_option linter.unusedVariables false
set_option linter.unusedSimpArgs false
def VC_LawOtherProgram (a0 : List UInt8) (K : V → Prop) : Prop :=
  (decide ((↑(List.length a0) : Int) > (1048576 : Int)) = true → K (V.lit true)) ∧
  (decide ((↑(List.length a0) : Int) > (1048576 : Int)) = false →
    At ((↑(List.length a0) : Int) ≤ (9223372036854775807 : Int)) ∧
      At ((↑(List.length a0) : Int) ≤ (9223372036854775807 : Int)) ∧
        ((!(bif progB a0 then othR a0 else []) == bif progB a0 then othR a0 else []) = true → K (V.lit false)) ∧
          ((!(bif progB a0 then othR a0 else []) == bif progB a0 then othR a0 else []) = false →
            ((!progB a0 == progB a0) = true → K (V.lit false)) ∧ ((!progB a0 == progB a0) = false → K (V.lit true))))

theorem vc_LawOtherProgram (a0 : List UInt8) (ha0 : (a0.length : Int) ≤ 9223372036854775807) : VC_LawOtherProgram a0 (retP (.bool true)) := by
  unfold VC_LawOtherProgram
  simp [retP_lit, ha0]
end Go.Vi
