/- The conditions of FnExactIsRule. -/
import Derived.Test.YtccahaefpbkelaaL1Pf
namespace Go.Vi
set_option linter.unusedVariables false
def VC_LawIsRule (a0 : List UInt8) (K : V → Prop) : Prop :=
  (decide ((↑(List.length a0) : Int) > (1048576 : Int)) = true → K (V.lit true)) ∧
  (decide ((↑(List.length a0) : Int) > (1048576 : Int)) = false →
    At True ∧
      At True ∧ ((!ruleB a0 == ruleB a0) = true → K (V.lit false)) ∧ ((!ruleB a0 == ruleB a0) = false → K (V.lit true)))

theorem vc_LawIsRule (a0 : List UInt8) (ha0 : (a0.length : Int) ≤ 9223372036854775807) : VC_LawIsRule a0 (retP (.bool true)) := by
  unfold VC_LawIsRule
  simp [retP_lit]
end Go.Vi
