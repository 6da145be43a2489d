/- The conditions of FnExactFillLine. -/
import Derived.Test.YtdeppknmibhokabFAPf
namespace Go.Vi
set_option linter.unusedVariables false
def VC_LawFillLine (a0 : Int) (K : V → Prop) : Prop :=
  At True ∧
  At True ∧
    (((bif inB a0 (1 : Int) (40 : Int) then fLo a0 else (0 : Int)) !=
            bif inB a0 (1 : Int) (40 : Int) then fLo a0 else (0 : Int)) =
          true →
        K (V.lit false)) ∧
      (((bif inB a0 (1 : Int) (40 : Int) then fLo a0 else (0 : Int)) !=
            bif inB a0 (1 : Int) (40 : Int) then fLo a0 else (0 : Int)) =
          false →
        (((bif inB a0 (1 : Int) (40 : Int) then fHi a0 else (0 : Int)) !=
                bif inB a0 (1 : Int) (40 : Int) then fHi a0 else (0 : Int)) =
              true →
            K (V.lit false)) ∧
          (((bif inB a0 (1 : Int) (40 : Int) then fHi a0 else (0 : Int)) !=
                bif inB a0 (1 : Int) (40 : Int) then fHi a0 else (0 : Int)) =
              false →
            ((!inB a0 (1 : Int) (40 : Int) == inB a0 (1 : Int) (40 : Int)) = true → K (V.lit false)) ∧
              ((!inB a0 (1 : Int) (40 : Int) == inB a0 (1 : Int) (40 : Int)) = false → K (V.lit true))))

theorem vc_LawFillLine (a0 : Int) (ha0 : -9223372036854775808 ≤ a0 ∧ a0 ≤ 9223372036854775807) : VC_LawFillLine a0 (retP (.bool true)) := by
  unfold VC_LawFillLine
  simp [retP_lit, at_iff]
end Go.Vi
