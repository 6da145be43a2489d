/- The conditions of FnExactIsTaste. -/
import Derived.Test.YtioppaofihbmpaaDoorWAPf
namespace Go.Vi
set_option linter.unusedVariables false
set_option linter.unusedSimpArgs false
def VC_LawIsTaste (a0 : List UInt8) (g0 : List UInt8) (g1 : List UInt8) (g2 : List UInt8) (g3 : List UInt8) (g4 : List UInt8) (g5 : List UInt8) (K : V → Prop) : Prop :=
  (decide ((↑(List.length a0) : Int) > (1048576 : Int)) = true → K (V.lit true)) ∧
  (decide ((↑(List.length a0) : Int) > (1048576 : Int)) = false →
    At True ∧
      At (isTs g0 g1 g2 g3 g4 g5) ∧
        ((!tasB a0 == tasB a0) = true → K (V.lit false)) ∧ ((!tasB a0 == tasB a0) = false → K (V.lit true)))

theorem vc_LawIsTaste (a0 : List UInt8) (g0 g1 g2 g3 g4 g5 : List UInt8) (ha0 : (a0.length : Int) ≤ 9223372036854775807) (hg : isTs g0 g1 g2 g3 g4 g5) : VC_LawIsTaste a0 g0 g1 g2 g3 g4 g5 (retP (.bool true)) := by
  unfold VC_LawIsTaste
  simp [retP_lit, hg]
end Go.Vi
