/- The conditions of FnExactCountBoards. -/
import Derived.Test.YtbdhilflnfllaabPBPf
namespace Go.Vi
set_option linter.unusedVariables false
set_option linter.unusedSimpArgs false
def VC_LawCountBoards (a0 : List UInt8) (a1 : Int) (a2 : Int) (K : V → Prop) : Prop :=
  (decide ((↑(List.length a0) : Int) > (1048576 : Int)) = true → K (V.lit true)) ∧
  (decide ((↑(List.length a0) : Int) > (1048576 : Int)) = false →
    At True ∧
      At True ∧
        ((cntB a0 a1 a2 != cntB a0 a1 a2) = true → K (V.lit false)) ∧
          ((cntB a0 a1 a2 != cntB a0 a1 a2) = false →
            ((!sizeB a0 a1 a2 == sizeB a0 a1 a2) = true → K (V.lit false)) ∧
              ((!sizeB a0 a1 a2 == sizeB a0 a1 a2) = false → K (V.lit true))))

theorem vc_LawCountBoards (a0 : List UInt8) (a1 : Int) (a2 : Int) (ha0 : (a0.length : Int) ≤ 9223372036854775807) (ha1 : -9223372036854775808 ≤ a1 ∧ a1 ≤ 9223372036854775807) (ha2 : -9223372036854775808 ≤ a2 ∧ a2 ≤ 9223372036854775807) : VC_LawCountBoards a0 a1 a2 (retP (.bool true)) := by
  unfold VC_LawCountBoards
  simp [retP_lit]
end Go.Vi
