/- The conditions of FnExactCellsVisited. -/
import Derived.Test.YtlechboepjmmhabDoorV1Pf
namespace Go.Vi
set_option linter.unusedVariables false
def VC_LawCellsVisited (a0r : List UInt8) (a0w : Int) (a0h : Int) (a0c : List UInt8) (a0x : Int) (a0y : Int) (a0d : Int) (a1 : Int) (K : V → Prop) : Prop :=
  At
    ((0 : Int) ≤ (1048576 : Int) ∧
      (1048576 : Int) ≤ (1000000000 : Int) ∧
        (↑(List.length a0r) : Int) ≤ (9223372036854775807 : Int) ∧
          (↑(List.length a0c) : Int) ≤ (9223372036854775807 : Int)) ∧
  (decide (szW { r := a0r, w := a0w, h := a0h, c := a0c, x := a0x, y := a0y, d := a0d } (1048576 : Int) < (0 : Int)) =
        true →
      K (V.lit true)) ∧
    (decide (szW { r := a0r, w := a0w, h := a0h, c := a0c, x := a0x, y := a0y, d := a0d } (1048576 : Int) < (0 : Int)) =
        false →
      At True ∧
        At True ∧
          At True ∧
            At True ∧
              ((cntP
                        (visW
                          (goodB { r := a0r, w := a0w, h := a0h, c := a0c, x := a0x, y := a0y, d := a0d } &&
                            inB a1 (0 : Int) (3000 : Int))
                          a1 { r := a0r, w := a0w, h := a0h, c := a0c, x := a0x, y := a0y, d := a0d }) !=
                      cntP
                        (visW
                          (goodB { r := a0r, w := a0w, h := a0h, c := a0c, x := a0x, y := a0y, d := a0d } &&
                            inB a1 (0 : Int) (3000 : Int))
                          a1 { r := a0r, w := a0w, h := a0h, c := a0c, x := a0x, y := a0y, d := a0d })) =
                    true →
                  K (V.lit false)) ∧
                ((cntP
                        (visW
                          (goodB { r := a0r, w := a0w, h := a0h, c := a0c, x := a0x, y := a0y, d := a0d } &&
                            inB a1 (0 : Int) (3000 : Int))
                          a1 { r := a0r, w := a0w, h := a0h, c := a0c, x := a0x, y := a0y, d := a0d }) !=
                      cntP
                        (visW
                          (goodB { r := a0r, w := a0w, h := a0h, c := a0c, x := a0x, y := a0y, d := a0d } &&
                            inB a1 (0 : Int) (3000 : Int))
                          a1 { r := a0r, w := a0w, h := a0h, c := a0c, x := a0x, y := a0y, d := a0d })) =
                    false →
                  ((!(goodB { r := a0r, w := a0w, h := a0h, c := a0c, x := a0x, y := a0y, d := a0d } &&
                              inB a1 (0 : Int) (3000 : Int)) ==
                            (goodB { r := a0r, w := a0w, h := a0h, c := a0c, x := a0x, y := a0y, d := a0d } &&
                              inB a1 (0 : Int) (3000 : Int))) =
                        true →
                      K (V.lit false)) ∧
                    ((!(goodB { r := a0r, w := a0w, h := a0h, c := a0c, x := a0x, y := a0y, d := a0d } &&
                              inB a1 (0 : Int) (3000 : Int)) ==
                            (goodB { r := a0r, w := a0w, h := a0h, c := a0c, x := a0x, y := a0y, d := a0d } &&
                              inB a1 (0 : Int) (3000 : Int))) =
                        false →
                      K (V.lit true))))

theorem vc_LawCellsVisited (a0r : List UInt8) (a0w : Int) (a0h : Int) (a0c : List UInt8) (a0x : Int) (a0y : Int) (a0d : Int) (a1 : Int) (ha0r : (a0r.length : Int) ≤ 9223372036854775807) (ha0w : -9223372036854775808 ≤ a0w ∧ a0w ≤ 9223372036854775807) (ha0h : -9223372036854775808 ≤ a0h ∧ a0h ≤ 9223372036854775807) (ha0c : (a0c.length : Int) ≤ 9223372036854775807) (ha0x : -9223372036854775808 ≤ a0x ∧ a0x ≤ 9223372036854775807) (ha0y : -9223372036854775808 ≤ a0y ∧ a0y ≤ 9223372036854775807) (ha0d : -9223372036854775808 ≤ a0d ∧ a0d ≤ 9223372036854775807) (ha1 : -9223372036854775808 ≤ a1 ∧ a1 ≤ 9223372036854775807) : VC_LawCellsVisited a0r a0w a0h a0c a0x a0y a0d a1 (retP (.bool true)) := by
  unfold VC_LawCellsVisited
  simp [retP_lit, ha0r, ha0c]
end Go.Vi
