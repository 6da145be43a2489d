/- The conditions of FnExactIsClue. -/
import Derived.Test.YtbdhilflnfllaaaPAPf
namespace Go.Vi
set_option linter.unusedVariables false
set_option linter.unusedSimpArgs false
def VC_LawIsClue (a0 : List UInt8) (a1 : Int) (a2x : Int) (a2y : Int) (a2k : Int) (K : V → Prop) : Prop :=
  (decide ((↑(List.length a0) : Int) > (1048576 : Int)) = true → K (V.lit true)) ∧
  (decide ((↑(List.length a0) : Int) > (1048576 : Int)) = false →
    At True ∧
      At True ∧
        At True ∧
          At True ∧
            ((!isClueB a0 a1 a2x a2y a2k == isClueB a0 a1 a2x a2y a2k) = true → K (V.lit false)) ∧
              ((!isClueB a0 a1 a2x a2y a2k == isClueB a0 a1 a2x a2y a2k) = false → K (V.lit true)))

theorem vc_LawIsClue (a0 : List UInt8) (a1 : Int) (a2x : Int) (a2y : Int) (a2k : Int) (ha0 : (a0.length : Int) ≤ 9223372036854775807) (ha1 : -9223372036854775808 ≤ a1 ∧ a1 ≤ 9223372036854775807) (ha2x : -9223372036854775808 ≤ a2x ∧ a2x ≤ 9223372036854775807) (ha2y : -9223372036854775808 ≤ a2y ∧ a2y ≤ 9223372036854775807) (ha2k : -9223372036854775808 ≤ a2k ∧ a2k ≤ 9223372036854775807) : VC_LawIsClue a0 a1 a2x a2y a2k (retP (.bool true)) := by
  unfold VC_LawIsClue
  simp [retP_lit]
end Go.Vi
