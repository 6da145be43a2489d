/- The conditions of FnExactStepsBetween. -/
import Derived.Test.YtlechboepjmmhabDoorQ1Pf
namespace Go.Vi
set_option linter.unusedVariables false
def VC_LawStepsBetween (a0r : List UInt8) (a0w : Int) (a0h : Int) (a0c : List UInt8) (a0x : Int) (a0y : Int) (a0d : Int) (a1r : List UInt8) (a1w : Int) (a1h : Int) (a1c : List UInt8) (a1x : Int) (a1y : Int) (a1d : Int) (K : V → Prop) : Prop :=
  At
    ((0 : Int) ≤ (1048576 : Int) ∧
      (1048576 : Int) ≤ (1000000000 : Int) ∧
        (↑(List.length a0r) : Int) ≤ (9223372036854775807 : Int) ∧
          (↑(List.length a0c) : Int) ≤ (9223372036854775807 : Int)) ∧
  (decide (szW { r := a0r, w := a0w, h := a0h, c := a0c, x := a0x, y := a0y, d := a0d } (1048576 : Int) < (0 : Int)) =
        true →
      K (V.lit true)) ∧
    (decide (szW { r := a0r, w := a0w, h := a0h, c := a0c, x := a0x, y := a0y, d := a0d } (1048576 : Int) < (0 : Int)) =
        false →
      At
          ((0 : Int) ≤ szW { r := a0r, w := a0w, h := a0h, c := a0c, x := a0x, y := a0y, d := a0d } (1048576 : Int) ∧
            szW { r := a0r, w := a0w, h := a0h, c := a0c, x := a0x, y := a0y, d := a0d } (1048576 : Int) ≤
                (1000000000 : Int) ∧
              (↑(List.length a1r) : Int) ≤ (9223372036854775807 : Int) ∧
                (↑(List.length a1c) : Int) ≤ (9223372036854775807 : Int)) ∧
        (decide
                (szW { r := a1r, w := a1w, h := a1h, c := a1c, x := a1x, y := a1y, d := a1d }
                    (szW { r := a0r, w := a0w, h := a0h, c := a0c, x := a0x, y := a0y, d := a0d } (1048576 : Int)) <
                  (0 : Int)) =
              true →
            K (V.lit true)) ∧
          (decide
                (szW { r := a1r, w := a1w, h := a1h, c := a1c, x := a1x, y := a1y, d := a1d }
                    (szW { r := a0r, w := a0w, h := a0h, c := a0c, x := a0x, y := a0y, d := a0d } (1048576 : Int)) <
                  (0 : Int)) =
              false →
            True ∧
              At True ∧
                At True ∧
                  At True ∧
                    True ∧
                      At True ∧
                        At True ∧
                          At True ∧
                            ((optI
                                      (untilW
                                        (goodB
                                            { r := a0r, w := a0w, h := a0h, c := a0c, x := a0x, y := a0y, d := a0d } &&
                                          goodB
                                            { r := a1r, w := a1w, h := a1h, c := a1c, x := a1x, y := a1y, d := a1d })
                                        (pPer { r := a1r, w := a1w, h := a1h, c := a1c, x := a1x, y := a1y, d := a1d })
                                        (0 : Int)
                                        { r := a0r, w := a0w, h := a0h, c := a0c, x := a0x, y := a0y, d := a0d }) !=
                                    optI
                                      (untilW
                                        (goodB
                                            { r := a0r, w := a0w, h := a0h, c := a0c, x := a0x, y := a0y, d := a0d } &&
                                          goodB
                                            { r := a1r, w := a1w, h := a1h, c := a1c, x := a1x, y := a1y, d := a1d })
                                        (pPer { r := a1r, w := a1w, h := a1h, c := a1c, x := a1x, y := a1y, d := a1d })
                                        (0 : Int)
                                        { r := a0r, w := a0w, h := a0h, c := a0c, x := a0x, y := a0y, d := a0d })) =
                                  true →
                                K (V.lit false)) ∧
                              ((optI
                                      (untilW
                                        (goodB
                                            { r := a0r, w := a0w, h := a0h, c := a0c, x := a0x, y := a0y, d := a0d } &&
                                          goodB
                                            { r := a1r, w := a1w, h := a1h, c := a1c, x := a1x, y := a1y, d := a1d })
                                        (pPer { r := a1r, w := a1w, h := a1h, c := a1c, x := a1x, y := a1y, d := a1d })
                                        (0 : Int)
                                        { r := a0r, w := a0w, h := a0h, c := a0c, x := a0x, y := a0y, d := a0d }) !=
                                    optI
                                      (untilW
                                        (goodB
                                            { r := a0r, w := a0w, h := a0h, c := a0c, x := a0x, y := a0y, d := a0d } &&
                                          goodB
                                            { r := a1r, w := a1w, h := a1h, c := a1c, x := a1x, y := a1y, d := a1d })
                                        (pPer { r := a1r, w := a1w, h := a1h, c := a1c, x := a1x, y := a1y, d := a1d })
                                        (0 : Int)
                                        { r := a0r, w := a0w, h := a0h, c := a0c, x := a0x, y := a0y, d := a0d })) =
                                  false →
                                ((!Option.isSome
                                            (untilW
                                              (goodB
                                                  { r := a0r, w := a0w, h := a0h, c := a0c, x := a0x, y := a0y,
                                                    d := a0d } &&
                                                goodB
                                                  { r := a1r, w := a1w, h := a1h, c := a1c, x := a1x, y := a1y,
                                                    d := a1d })
                                              (pPer
                                                { r := a1r, w := a1w, h := a1h, c := a1c, x := a1x, y := a1y,
                                                  d := a1d })
                                              (0 : Int)
                                              { r := a0r, w := a0w, h := a0h, c := a0c, x := a0x, y := a0y,
                                                d := a0d }) ==
                                          Option.isSome
                                            (untilW
                                              (goodB
                                                  { r := a0r, w := a0w, h := a0h, c := a0c, x := a0x, y := a0y,
                                                    d := a0d } &&
                                                goodB
                                                  { r := a1r, w := a1w, h := a1h, c := a1c, x := a1x, y := a1y,
                                                    d := a1d })
                                              (pPer
                                                { r := a1r, w := a1w, h := a1h, c := a1c, x := a1x, y := a1y,
                                                  d := a1d })
                                              (0 : Int)
                                              { r := a0r, w := a0w, h := a0h, c := a0c, x := a0x, y := a0y,
                                                d := a0d })) =
                                      true →
                                    K (V.lit false)) ∧
                                  ((!Option.isSome
                                            (untilW
                                              (goodB
                                                  { r := a0r, w := a0w, h := a0h, c := a0c, x := a0x, y := a0y,
                                                    d := a0d } &&
                                                goodB
                                                  { r := a1r, w := a1w, h := a1h, c := a1c, x := a1x, y := a1y,
                                                    d := a1d })
                                              (pPer
                                                { r := a1r, w := a1w, h := a1h, c := a1c, x := a1x, y := a1y,
                                                  d := a1d })
                                              (0 : Int)
                                              { r := a0r, w := a0w, h := a0h, c := a0c, x := a0x, y := a0y,
                                                d := a0d }) ==
                                          Option.isSome
                                            (untilW
                                              (goodB
                                                  { r := a0r, w := a0w, h := a0h, c := a0c, x := a0x, y := a0y,
                                                    d := a0d } &&
                                                goodB
                                                  { r := a1r, w := a1w, h := a1h, c := a1c, x := a1x, y := a1y,
                                                    d := a1d })
                                              (pPer
                                                { r := a1r, w := a1w, h := a1h, c := a1c, x := a1x, y := a1y,
                                                  d := a1d })
                                              (0 : Int)
                                              { r := a0r, w := a0w, h := a0h, c := a0c, x := a0x, y := a0y,
                                                d := a0d })) =
                                      false →
                                    K (V.lit true)))))

theorem vc_LawStepsBetween (a0r : List UInt8) (a0w : Int) (a0h : Int) (a0c : List UInt8) (a0x : Int) (a0y : Int) (a0d : Int) (a1r : List UInt8) (a1w : Int) (a1h : Int) (a1c : List UInt8) (a1x : Int) (a1y : Int) (a1d : Int) (ha0r : (a0r.length : Int) ≤ 9223372036854775807) (ha0w : -9223372036854775808 ≤ a0w ∧ a0w ≤ 9223372036854775807) (ha0h : -9223372036854775808 ≤ a0h ∧ a0h ≤ 9223372036854775807) (ha0c : (a0c.length : Int) ≤ 9223372036854775807) (ha0x : -9223372036854775808 ≤ a0x ∧ a0x ≤ 9223372036854775807) (ha0y : -9223372036854775808 ≤ a0y ∧ a0y ≤ 9223372036854775807) (ha0d : -9223372036854775808 ≤ a0d ∧ a0d ≤ 9223372036854775807) (ha1r : (a1r.length : Int) ≤ 9223372036854775807) (ha1w : -9223372036854775808 ≤ a1w ∧ a1w ≤ 9223372036854775807) (ha1h : -9223372036854775808 ≤ a1h ∧ a1h ≤ 9223372036854775807) (ha1c : (a1c.length : Int) ≤ 9223372036854775807) (ha1x : -9223372036854775808 ≤ a1x ∧ a1x ≤ 9223372036854775807) (ha1y : -9223372036854775808 ≤ a1y ∧ a1y ≤ 9223372036854775807) (ha1d : -9223372036854775808 ≤ a1d ∧ a1d ≤ 9223372036854775807) : VC_LawStepsBetween a0r a0w a0h a0c a0x a0y a0d a1r a1w a1h a1c a1x a1y a1d (retP (.bool true)) := by
  unfold VC_LawStepsBetween
  simp [retP_lit, ha0r, ha0c, ha1r, ha1c]
  intro h0
  have := szW_le (w := ⟨a0r, a0w, a0h, a0c, a0x, a0y, a0d⟩) (left := 1048576) (by decide)
  exact ⟨h0, by omega⟩
end Go.Vi
