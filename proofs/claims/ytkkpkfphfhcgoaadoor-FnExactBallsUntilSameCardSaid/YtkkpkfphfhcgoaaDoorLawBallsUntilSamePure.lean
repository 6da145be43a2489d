/- The conditions of FnExactBallsUntilSame. -/
import Derived.Test.YtkkpkfphfhcgoaaDoorD1Pf
namespace Go.Vi
set_option linter.unusedVariables false
def VC_LawBallsUntilSame (a0w : Int) (a0h : Int) (a0c : List UInt8) (a0u : Bool) (a1 : Int) (K : V → Prop) : Prop :=
  At
    ((0 : Int) ≤ (1048576 : Int) ∧
      (1048576 : Int) ≤ (1000000000 : Int) ∧ (↑(List.length a0c) : Int) ≤ (9223372036854775807 : Int)) ∧
  (decide (szM a0c (1048576 : Int) < (0 : Int)) = true → K (V.lit true)) ∧
    (decide (szM a0c (1048576 : Int) < (0 : Int)) = false →
      At True ∧
        At True ∧
          At True ∧
            At True ∧
              ((bsN a0w a0h a0c a0u a1 != bsN a0w a0h a0c a0u a1) = true → K (V.lit false)) ∧
                ((bsN a0w a0h a0c a0u a1 != bsN a0w a0h a0c a0u a1) = false →
                  ((!bsB a0w a0h a0c a0u a1 == bsB a0w a0h a0c a0u a1) = true → K (V.lit false)) ∧
                    ((!bsB a0w a0h a0c a0u a1 == bsB a0w a0h a0c a0u a1) = false → K (V.lit true))))

theorem vc_LawBallsUntilSame (a0w : Int) (a0h : Int) (a0c : List UInt8) (a0u : Bool) (a1 : Int) (ha0w : -9223372036854775808 ≤ a0w ∧ a0w ≤ 9223372036854775807) (ha0h : -9223372036854775808 ≤ a0h ∧ a0h ≤ 9223372036854775807) (ha0c : (a0c.length : Int) ≤ 9223372036854775807) (ha1 : -9223372036854775808 ≤ a1 ∧ a1 ≤ 9223372036854775807) : VC_LawBallsUntilSame a0w a0h a0c a0u a1 (retP (.bool true)) := by
  unfold VC_LawBallsUntilSame
  simp [retP_lit, ha0c]
end Go.Vi
