/- The conditions of FnExactCountUndoable. -/
import Derived.Test.YtopolpgligoldabTCPf
namespace Go.Vi
set_option linter.unusedVariables false
def VC_LawCountUndoable (a0 : Int) (a1 : Int) (K : V → Prop) : Prop :=
  At True ∧
  At True ∧
    ((cuF a0 a1 != cuF a0 a1) = true → K (V.lit false)) ∧
      ((cuF a0 a1 != cuF a0 a1) = false →
        ((!cntB a0 a1 == cntB a0 a1) = true → K (V.lit false)) ∧ ((!cntB a0 a1 == cntB a0 a1) = false → K (V.lit true)))

theorem vc_LawCountUndoable (a0 : Int) (a1 : Int) (ha0 : -9223372036854775808 ≤ a0 ∧ a0 ≤ 9223372036854775807) (ha1 : -9223372036854775808 ≤ a1 ∧ a1 ≤ 9223372036854775807) : VC_LawCountUndoable a0 a1 (retP (.bool true)) := by
  unfold VC_LawCountUndoable
  simp [retP_lit]
end Go.Vi
