/- The conditions of FnExactShiftWorld. -/
import Derived.Test.YteleacldecambaaN2Pf
namespace Go.Vi
set_option linter.unusedVariables false
def VC_LawShiftWorld (a0r : List UInt8) (a0w : Int) (a0h : Int) (a0c : List UInt8) (a0x : Int) (a0y : Int) (a0d : Int) (a1 : Int) (a2 : Int) (K : V → Prop) : Prop :=
  At
    ((0 : Int) ≤ (1048576 : Int) ∧
      (1048576 : Int) ≤ (1000000000 : Int) ∧
        (↑(List.length a0r) : Int) ≤ (9223372036854775807 : Int) ∧
          (↑(List.length a0c) : Int) ≤ (9223372036854775807 : Int)) ∧
  (decide (szW { r := a0r, w := a0w, h := a0h, c := a0c, x := a0x, y := a0y, d := a0d } (1048576 : Int) < (0 : Int)) =
        true →
      K (V.lit true)) ∧
    (decide (szW { r := a0r, w := a0w, h := a0h, c := a0c, x := a0x, y := a0y, d := a0d } (1048576 : Int) < (0 : Int)) =
        false →
      At True ∧
        At True ∧
          At True ∧
            ((!eqW
                      (bif
                          goodB { r := a0r, w := a0w, h := a0h, c := a0c, x := a0x, y := a0y, d := a0d } &&
                            hasB { r := a0r, w := a0w, h := a0h, c := a0c, x := a0x, y := a0y, d := a0d } a1 a2 then
                        shiftW { r := a0r, w := a0w, h := a0h, c := a0c, x := a0x, y := a0y, d := a0d } a1 a2
                      else zeroWd)
                      (bif
                          goodB { r := a0r, w := a0w, h := a0h, c := a0c, x := a0x, y := a0y, d := a0d } &&
                            hasB { r := a0r, w := a0w, h := a0h, c := a0c, x := a0x, y := a0y, d := a0d } a1 a2 then
                        shiftW { r := a0r, w := a0w, h := a0h, c := a0c, x := a0x, y := a0y, d := a0d } a1 a2
                      else zeroWd)) =
                  true →
                K (V.lit false)) ∧
              ((!eqW
                      (bif
                          goodB { r := a0r, w := a0w, h := a0h, c := a0c, x := a0x, y := a0y, d := a0d } &&
                            hasB { r := a0r, w := a0w, h := a0h, c := a0c, x := a0x, y := a0y, d := a0d } a1 a2 then
                        shiftW { r := a0r, w := a0w, h := a0h, c := a0c, x := a0x, y := a0y, d := a0d } a1 a2
                      else zeroWd)
                      (bif
                          goodB { r := a0r, w := a0w, h := a0h, c := a0c, x := a0x, y := a0y, d := a0d } &&
                            hasB { r := a0r, w := a0w, h := a0h, c := a0c, x := a0x, y := a0y, d := a0d } a1 a2 then
                        shiftW { r := a0r, w := a0w, h := a0h, c := a0c, x := a0x, y := a0y, d := a0d } a1 a2
                      else zeroWd)) =
                  false →
                ((!(goodB { r := a0r, w := a0w, h := a0h, c := a0c, x := a0x, y := a0y, d := a0d } &&
                            hasB { r := a0r, w := a0w, h := a0h, c := a0c, x := a0x, y := a0y, d := a0d } a1 a2) ==
                          (goodB { r := a0r, w := a0w, h := a0h, c := a0c, x := a0x, y := a0y, d := a0d } &&
                            hasB { r := a0r, w := a0w, h := a0h, c := a0c, x := a0x, y := a0y, d := a0d } a1 a2)) =
                      true →
                    K (V.lit false)) ∧
                  ((!(goodB { r := a0r, w := a0w, h := a0h, c := a0c, x := a0x, y := a0y, d := a0d } &&
                            hasB { r := a0r, w := a0w, h := a0h, c := a0c, x := a0x, y := a0y, d := a0d } a1 a2) ==
                          (goodB { r := a0r, w := a0w, h := a0h, c := a0c, x := a0x, y := a0y, d := a0d } &&
                            hasB { r := a0r, w := a0w, h := a0h, c := a0c, x := a0x, y := a0y, d := a0d } a1 a2)) =
                      false →
                    K (V.lit true))))

theorem vc_LawShiftWorld (a0r : List UInt8) (a0w : Int) (a0h : Int) (a0c : List UInt8) (a0x : Int) (a0y : Int) (a0d : Int) (a1 : Int) (a2 : Int) (ha0r : (a0r.length : Int) ≤ 9223372036854775807) (ha0w : -9223372036854775808 ≤ a0w ∧ a0w ≤ 9223372036854775807) (ha0h : -9223372036854775808 ≤ a0h ∧ a0h ≤ 9223372036854775807) (ha0c : (a0c.length : Int) ≤ 9223372036854775807) (ha0x : -9223372036854775808 ≤ a0x ∧ a0x ≤ 9223372036854775807) (ha0y : -9223372036854775808 ≤ a0y ∧ a0y ≤ 9223372036854775807) (ha0d : -9223372036854775808 ≤ a0d ∧ a0d ≤ 9223372036854775807) (ha1 : -9223372036854775808 ≤ a1 ∧ a1 ≤ 9223372036854775807) (ha2 : -9223372036854775808 ≤ a2 ∧ a2 ≤ 9223372036854775807) : VC_LawShiftWorld a0r a0w a0h a0c a0x a0y a0d a1 a2 (retP (.bool true)) := by
  unfold VC_LawShiftWorld
  simp [retP_lit, eqW_self, ha0r, ha0c]
end Go.Vi
