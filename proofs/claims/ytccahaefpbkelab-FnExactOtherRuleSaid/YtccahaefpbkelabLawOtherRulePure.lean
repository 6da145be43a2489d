/- The conditions of FnExactOtherRule. -/
import Derived.Test.YtccahaefpbkelabR1Pf
namespace Go.Vi
set_option linter.unusedVariables false
def VC_LawOtherRule (a0 : List UInt8) (K : V → Prop) : Prop :=
  (decide ((↑(List.length a0) : Int) > (1048576 : Int)) = true → K (V.lit true)) ∧
  (decide ((↑(List.length a0) : Int) > (1048576 : Int)) = false →
    At True ∧
      At True ∧
        ((!(bif ruleB a0 then othR a0 else []) == bif ruleB a0 then othR a0 else []) = true → K (V.lit false)) ∧
          ((!(bif ruleB a0 then othR a0 else []) == bif ruleB a0 then othR a0 else []) = false →
            ((!ruleB a0 == ruleB a0) = true → K (V.lit false)) ∧ ((!ruleB a0 == ruleB a0) = false → K (V.lit true))))

theorem vc_LawOtherRule (a0 : List UInt8) (ha0 : (a0.length : Int) ≤ 9223372036854775807) : VC_LawOtherRule a0 (retP (.bool true)) := by
  unfold VC_LawOtherRule
  simp [retP_lit]
end Go.Vi
