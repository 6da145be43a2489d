/- The conditions of FnExactFreshWorm. -/
import Derived.Test.YtioppaofihbmpaaWXPf
namespace Go.Vi
set_option linter.unusedVariables false
set_option linter.unusedSimpArgs false
def VC_LawFreshWorm (a0 : Int) (a1 : Int) (K : V → Prop) : Prop :=
  At True ∧
  At True ∧
    At True ∧
      ((!eqWo
                (bif inB a0 (3 : Int) (6 : Int) && inB a1 (3 : Int) (6 : Int) then
                  { w := a0, h := a1, r := List.replicate (Int.toNat (a0 * a1)) (49 : UInt8),
                    n := List.replicate (Int.toNat (a0 * a1)) (49 : UInt8), x := (0 : Int), y := (0 : Int),
                    d := (0 : Int) }
                else zeroWo)
                (bif inB a0 (3 : Int) (6 : Int) && inB a1 (3 : Int) (6 : Int) then
                  { w := a0, h := a1, r := List.replicate (Int.toNat (a0 * a1)) (49 : UInt8),
                    n := List.replicate (Int.toNat (a0 * a1)) (49 : UInt8), x := (0 : Int), y := (0 : Int),
                    d := (0 : Int) }
                else zeroWo)) =
            true →
          K (V.lit false)) ∧
        ((!eqWo
                (bif inB a0 (3 : Int) (6 : Int) && inB a1 (3 : Int) (6 : Int) then
                  { w := a0, h := a1, r := List.replicate (Int.toNat (a0 * a1)) (49 : UInt8),
                    n := List.replicate (Int.toNat (a0 * a1)) (49 : UInt8), x := (0 : Int), y := (0 : Int),
                    d := (0 : Int) }
                else zeroWo)
                (bif inB a0 (3 : Int) (6 : Int) && inB a1 (3 : Int) (6 : Int) then
                  { w := a0, h := a1, r := List.replicate (Int.toNat (a0 * a1)) (49 : UInt8),
                    n := List.replicate (Int.toNat (a0 * a1)) (49 : UInt8), x := (0 : Int), y := (0 : Int),
                    d := (0 : Int) }
                else zeroWo)) =
            false →
          ((!(inB a0 (3 : Int) (6 : Int) && inB a1 (3 : Int) (6 : Int)) ==
                    (inB a0 (3 : Int) (6 : Int) && inB a1 (3 : Int) (6 : Int))) =
                true →
              K (V.lit false)) ∧
            ((!(inB a0 (3 : Int) (6 : Int) && inB a1 (3 : Int) (6 : Int)) ==
                    (inB a0 (3 : Int) (6 : Int) && inB a1 (3 : Int) (6 : Int))) =
                false →
              K (V.lit true)))

theorem vc_LawFreshWorm (a0 : Int) (a1 : Int) (ha0 : -9223372036854775808 ≤ a0 ∧ a0 ≤ 9223372036854775807) (ha1 : -9223372036854775808 ≤ a1 ∧ a1 ≤ 9223372036854775807) : VC_LawFreshWorm a0 a1 (retP (.bool true)) := by
  unfold VC_LawFreshWorm
  simp [retP_lit, eqWo_self]
end Go.Vi
