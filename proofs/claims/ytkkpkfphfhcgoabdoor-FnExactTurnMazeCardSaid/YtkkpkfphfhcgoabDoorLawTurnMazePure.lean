/- The conditions of FnExactTurnMaze. -/
import Derived.Test.YtkkpkfphfhcgoabDoorU1Pf
namespace Go.Vi
set_option linter.unusedVariables false
def VC_LawTurnMaze (a0w : Int) (a0h : Int) (a0c : List UInt8) (a0u : Bool) (K : V → Prop) : Prop :=
  At
    ((0 : Int) ≤ (1048576 : Int) ∧
      (1048576 : Int) ≤ (1000000000 : Int) ∧ (↑(List.length a0c) : Int) ≤ (9223372036854775807 : Int)) ∧
  (decide (szM a0c (1048576 : Int) < (0 : Int)) = true → K (V.lit true)) ∧
    (decide (szM a0c (1048576 : Int) < (0 : Int)) = false →
      At True ∧
        At True ∧
          At True ∧
            At True ∧
              At True ∧
                ((!eqM
                          { w := tnW a0w a0h a0c a0u, h := tnH a0w a0h a0c a0u, c := tnC a0w a0h a0c a0u,
                            t := tnU a0w a0h a0c a0u }
                          { w := tnW a0w a0h a0c a0u, h := tnH a0w a0h a0c a0u, c := tnC a0w a0h a0c a0u,
                            t := tnU a0w a0h a0c a0u }) =
                      true →
                    K (V.lit false)) ∧
                  ((!eqM
                          { w := tnW a0w a0h a0c a0u, h := tnH a0w a0h a0c a0u, c := tnC a0w a0h a0c a0u,
                            t := tnU a0w a0h a0c a0u }
                          { w := tnW a0w a0h a0c a0u, h := tnH a0w a0h a0c a0u, c := tnC a0w a0h a0c a0u,
                            t := tnU a0w a0h a0c a0u }) =
                      false →
                    ((!mzB { w := a0w, h := a0h, c := a0c, t := a0u } ==
                              mzB { w := a0w, h := a0h, c := a0c, t := a0u }) =
                          true →
                        K (V.lit false)) ∧
                      ((!mzB { w := a0w, h := a0h, c := a0c, t := a0u } ==
                              mzB { w := a0w, h := a0h, c := a0c, t := a0u }) =
                          false →
                        K (V.lit true))))

theorem vc_LawTurnMaze (a0w : Int) (a0h : Int) (a0c : List UInt8) (a0u : Bool) (ha0w : -9223372036854775808 ≤ a0w ∧ a0w ≤ 9223372036854775807) (ha0h : -9223372036854775808 ≤ a0h ∧ a0h ≤ 9223372036854775807) (ha0c : (a0c.length : Int) ≤ 9223372036854775807) : VC_LawTurnMaze a0w a0h a0c a0u (retP (.bool true)) := by
  unfold VC_LawTurnMaze
  simp [retP_lit, eqM, ha0c]
end Go.Vi
