/- The conditions of FnExactHitCell. -/
import Derived.Test.YteleacldecambaaDoorK2Pf
namespace Go.Vi
set_option linter.unusedVariables false
def VC_LawHitCell (a0w : Int) (a0h : Int) (a0c : List UInt8) (a0u : Bool) (a1x : Int) (a1y : Int) (a1d : Int) (K : V → Prop) : Prop :=
  At
    ((0 : Int) ≤ (1048576 : Int) ∧
      (1048576 : Int) ≤ (1000000000 : Int) ∧ (↑(List.length a0c) : Int) ≤ (9223372036854775807 : Int)) ∧
  (decide (szM a0c (1048576 : Int) < (0 : Int)) = true → K (V.lit true)) ∧
    (decide (szM a0c (1048576 : Int) < (0 : Int)) = false →
      At True ∧
        At True ∧
          At True ∧
            ((((At True ∧
                      At True ∧
                        At True ∧
                          ((((At True ∧
                                    ((!eqM
                                              { w := hcW a0w a0h a0c a0u a1x a1y a1d,
                                                h := hcH a0w a0h a0c a0u a1x a1y a1d,
                                                c := hcC a0w a0h a0c a0u a1x a1y a1d,
                                                t := hcU a0w a0h a0c a0u a1x a1y a1d }
                                              { w := hcW a0w a0h a0c a0u a1x a1y a1d,
                                                h := hcH a0w a0h a0c a0u a1x a1y a1d,
                                                c := hcC a0w a0h a0c a0u a1x a1y a1d,
                                                t := hcU a0w a0h a0c a0u a1x a1y a1d }) =
                                          true →
                                        K (V.lit false)) ∧
                                      ((!eqM
                                              { w := hcW a0w a0h a0c a0u a1x a1y a1d,
                                                h := hcH a0w a0h a0c a0u a1x a1y a1d,
                                                c := hcC a0w a0h a0c a0u a1x a1y a1d,
                                                t := hcU a0w a0h a0c a0u a1x a1y a1d }
                                              { w := hcW a0w a0h a0c a0u a1x a1y a1d,
                                                h := hcH a0w a0h a0c a0u a1x a1y a1d,
                                                c := hcC a0w a0h a0c a0u a1x a1y a1d,
                                                t := hcU a0w a0h a0c a0u a1x a1y a1d }) =
                                          false →
                                        At True ∧
                                          ((!(hcX a0w a0h a0c a0u a1x a1y a1d == hcX a0w a0h a0c a0u a1x a1y a1d &&
                                                      hcY a0w a0h a0c a0u a1x a1y a1d ==
                                                        hcY a0w a0h a0c a0u a1x a1y a1d &&
                                                    hcD a0w a0h a0c a0u a1x a1y a1d ==
                                                      hcD a0w a0h a0c a0u a1x a1y a1d)) =
                                                true →
                                              K (V.lit false)) ∧
                                            ((!(hcX a0w a0h a0c a0u a1x a1y a1d == hcX a0w a0h a0c a0u a1x a1y a1d &&
                                                      hcY a0w a0h a0c a0u a1x a1y a1d ==
                                                        hcY a0w a0h a0c a0u a1x a1y a1d &&
                                                    hcD a0w a0h a0c a0u a1x a1y a1d ==
                                                      hcD a0w a0h a0c a0u a1x a1y a1d)) =
                                                false →
                                              ((!hcB a0w a0h a0c a0u a1x a1y a1d == hcB a0w a0h a0c a0u a1x a1y a1d) =
                                                    true →
                                                  K (V.lit false)) ∧
                                                ((!hcB a0w a0h a0c a0u a1x a1y a1d == hcB a0w a0h a0c a0u a1x a1y a1d) =
                                                    false →
                                                  K (V.lit true))))) ∧
                                  True) ∧
                                True) ∧
                              True) ∧
                            ((((At True ∧
                                      ((!eqM
                                                { w := hcW a0w a0h a0c a0u a1x a1y a1d,
                                                  h := hcH a0w a0h a0c a0u a1x a1y a1d,
                                                  c := hcC a0w a0h a0c a0u a1x a1y a1d,
                                                  t := hcU a0w a0h a0c a0u a1x a1y a1d }
                                                { w := hcW a0w a0h a0c a0u a1x a1y a1d,
                                                  h := hcH a0w a0h a0c a0u a1x a1y a1d,
                                                  c := hcC a0w a0h a0c a0u a1x a1y a1d,
                                                  t := hcU a0w a0h a0c a0u a1x a1y a1d }) =
                                            true →
                                          K (V.lit false)) ∧
                                        ((!eqM
                                                { w := hcW a0w a0h a0c a0u a1x a1y a1d,
                                                  h := hcH a0w a0h a0c a0u a1x a1y a1d,
                                                  c := hcC a0w a0h a0c a0u a1x a1y a1d,
                                                  t := hcU a0w a0h a0c a0u a1x a1y a1d }
                                                { w := hcW a0w a0h a0c a0u a1x a1y a1d,
                                                  h := hcH a0w a0h a0c a0u a1x a1y a1d,
                                                  c := hcC a0w a0h a0c a0u a1x a1y a1d,
                                                  t := hcU a0w a0h a0c a0u a1x a1y a1d }) =
                                            false →
                                          At True ∧
                                            ((!(hcX a0w a0h a0c a0u a1x a1y a1d == hcX a0w a0h a0c a0u a1x a1y a1d &&
                                                        hcY a0w a0h a0c a0u a1x a1y a1d ==
                                                          hcY a0w a0h a0c a0u a1x a1y a1d &&
                                                      hcD a0w a0h a0c a0u a1x a1y a1d ==
                                                        hcD a0w a0h a0c a0u a1x a1y a1d)) =
                                                  true →
                                                K (V.lit false)) ∧
                                              ((!(hcX a0w a0h a0c a0u a1x a1y a1d == hcX a0w a0h a0c a0u a1x a1y a1d &&
                                                        hcY a0w a0h a0c a0u a1x a1y a1d ==
                                                          hcY a0w a0h a0c a0u a1x a1y a1d &&
                                                      hcD a0w a0h a0c a0u a1x a1y a1d ==
                                                        hcD a0w a0h a0c a0u a1x a1y a1d)) =
                                                  false →
                                                ((!hcB a0w a0h a0c a0u a1x a1y a1d == hcB a0w a0h a0c a0u a1x a1y a1d) =
                                                      true →
                                                    K (V.lit false)) ∧
                                                  ((!hcB a0w a0h a0c a0u a1x a1y a1d ==
                                                          hcB a0w a0h a0c a0u a1x a1y a1d) =
                                                      false →
                                                    K (V.lit true))))) ∧
                                    True) ∧
                                  True) ∧
                                True) ∧
                              True) ∧
                    True) ∧
                  True) ∧
                True) ∧
              ((((At True ∧
                        At True ∧
                          At True ∧
                            ((((At True ∧
                                      ((!eqM
                                                { w := hcW a0w a0h a0c a0u a1x a1y a1d,
                                                  h := hcH a0w a0h a0c a0u a1x a1y a1d,
                                                  c := hcC a0w a0h a0c a0u a1x a1y a1d,
                                                  t := hcU a0w a0h a0c a0u a1x a1y a1d }
                                                { w := hcW a0w a0h a0c a0u a1x a1y a1d,
                                                  h := hcH a0w a0h a0c a0u a1x a1y a1d,
                                                  c := hcC a0w a0h a0c a0u a1x a1y a1d,
                                                  t := hcU a0w a0h a0c a0u a1x a1y a1d }) =
                                            true →
                                          K (V.lit false)) ∧
                                        ((!eqM
                                                { w := hcW a0w a0h a0c a0u a1x a1y a1d,
                                                  h := hcH a0w a0h a0c a0u a1x a1y a1d,
                                                  c := hcC a0w a0h a0c a0u a1x a1y a1d,
                                                  t := hcU a0w a0h a0c a0u a1x a1y a1d }
                                                { w := hcW a0w a0h a0c a0u a1x a1y a1d,
                                                  h := hcH a0w a0h a0c a0u a1x a1y a1d,
                                                  c := hcC a0w a0h a0c a0u a1x a1y a1d,
                                                  t := hcU a0w a0h a0c a0u a1x a1y a1d }) =
                                            false →
                                          At True ∧
                                            ((!(hcX a0w a0h a0c a0u a1x a1y a1d == hcX a0w a0h a0c a0u a1x a1y a1d &&
                                                        hcY a0w a0h a0c a0u a1x a1y a1d ==
                                                          hcY a0w a0h a0c a0u a1x a1y a1d &&
                                                      hcD a0w a0h a0c a0u a1x a1y a1d ==
                                                        hcD a0w a0h a0c a0u a1x a1y a1d)) =
                                                  true →
                                                K (V.lit false)) ∧
                                              ((!(hcX a0w a0h a0c a0u a1x a1y a1d == hcX a0w a0h a0c a0u a1x a1y a1d &&
                                                        hcY a0w a0h a0c a0u a1x a1y a1d ==
                                                          hcY a0w a0h a0c a0u a1x a1y a1d &&
                                                      hcD a0w a0h a0c a0u a1x a1y a1d ==
                                                        hcD a0w a0h a0c a0u a1x a1y a1d)) =
                                                  false →
                                                ((!hcB a0w a0h a0c a0u a1x a1y a1d == hcB a0w a0h a0c a0u a1x a1y a1d) =
                                                      true →
                                                    K (V.lit false)) ∧
                                                  ((!hcB a0w a0h a0c a0u a1x a1y a1d ==
                                                          hcB a0w a0h a0c a0u a1x a1y a1d) =
                                                      false →
                                                    K (V.lit true))))) ∧
                                    True) ∧
                                  True) ∧
                                True) ∧
                              ((((At True ∧
                                        ((!eqM
                                                  { w := hcW a0w a0h a0c a0u a1x a1y a1d,
                                                    h := hcH a0w a0h a0c a0u a1x a1y a1d,
                                                    c := hcC a0w a0h a0c a0u a1x a1y a1d,
                                                    t := hcU a0w a0h a0c a0u a1x a1y a1d }
                                                  { w := hcW a0w a0h a0c a0u a1x a1y a1d,
                                                    h := hcH a0w a0h a0c a0u a1x a1y a1d,
                                                    c := hcC a0w a0h a0c a0u a1x a1y a1d,
                                                    t := hcU a0w a0h a0c a0u a1x a1y a1d }) =
                                              true →
                                            K (V.lit false)) ∧
                                          ((!eqM
                                                  { w := hcW a0w a0h a0c a0u a1x a1y a1d,
                                                    h := hcH a0w a0h a0c a0u a1x a1y a1d,
                                                    c := hcC a0w a0h a0c a0u a1x a1y a1d,
                                                    t := hcU a0w a0h a0c a0u a1x a1y a1d }
                                                  { w := hcW a0w a0h a0c a0u a1x a1y a1d,
                                                    h := hcH a0w a0h a0c a0u a1x a1y a1d,
                                                    c := hcC a0w a0h a0c a0u a1x a1y a1d,
                                                    t := hcU a0w a0h a0c a0u a1x a1y a1d }) =
                                              false →
                                            At True ∧
                                              ((!(hcX a0w a0h a0c a0u a1x a1y a1d == hcX a0w a0h a0c a0u a1x a1y a1d &&
                                                          hcY a0w a0h a0c a0u a1x a1y a1d ==
                                                            hcY a0w a0h a0c a0u a1x a1y a1d &&
                                                        hcD a0w a0h a0c a0u a1x a1y a1d ==
                                                          hcD a0w a0h a0c a0u a1x a1y a1d)) =
                                                    true →
                                                  K (V.lit false)) ∧
                                                ((!(hcX a0w a0h a0c a0u a1x a1y a1d ==
                                                            hcX a0w a0h a0c a0u a1x a1y a1d &&
                                                          hcY a0w a0h a0c a0u a1x a1y a1d ==
                                                            hcY a0w a0h a0c a0u a1x a1y a1d &&
                                                        hcD a0w a0h a0c a0u a1x a1y a1d ==
                                                          hcD a0w a0h a0c a0u a1x a1y a1d)) =
                                                    false →
                                                  ((!hcB a0w a0h a0c a0u a1x a1y a1d ==
                                                            hcB a0w a0h a0c a0u a1x a1y a1d) =
                                                        true →
                                                      K (V.lit false)) ∧
                                                    ((!hcB a0w a0h a0c a0u a1x a1y a1d ==
                                                            hcB a0w a0h a0c a0u a1x a1y a1d) =
                                                        false →
                                                      K (V.lit true))))) ∧
                                      True) ∧
                                    True) ∧
                                  True) ∧
                                True) ∧
                      True) ∧
                    True) ∧
                  True) ∧
                True)

theorem vc_LawHitCell (a0w : Int) (a0h : Int) (a0c : List UInt8) (a0u : Bool) (a1x : Int) (a1y : Int) (a1d : Int) (ha0w : -9223372036854775808 ≤ a0w ∧ a0w ≤ 9223372036854775807) (ha0h : -9223372036854775808 ≤ a0h ∧ a0h ≤ 9223372036854775807) (ha0c : (a0c.length : Int) ≤ 9223372036854775807) (ha1x : -9223372036854775808 ≤ a1x ∧ a1x ≤ 9223372036854775807) (ha1y : -9223372036854775808 ≤ a1y ∧ a1y ≤ 9223372036854775807) (ha1d : -9223372036854775808 ≤ a1d ∧ a1d ≤ 9223372036854775807) : VC_LawHitCell a0w a0h a0c a0u a1x a1y a1d (retP (.bool true)) := by
  unfold VC_LawHitCell
  simp [retP_lit, eqM, ha0c]
end Go.Vi
