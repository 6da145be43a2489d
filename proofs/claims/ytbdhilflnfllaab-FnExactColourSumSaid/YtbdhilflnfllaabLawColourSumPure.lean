/- The conditions of FnExactColourSum. -/
import Derived.Test.YtbdhilflnfllaabCSPf
namespace Go.Vi
set_option linter.unusedVariables false
set_option linter.unusedSimpArgs false
def VC_LawColourSum (a0r : List UInt8) (a0w : Int) (a0h : Int) (a0c : List UInt8) (a0x : Int) (a0y : Int) (a0d : Int) (K : V → Prop) : Prop :=
  At
    ((0 : Int) ≤ (1048576 : Int) ∧
      (1048576 : Int) ≤ (1000000000 : Int) ∧
        (↑(List.length a0r) : Int) ≤ (9223372036854775807 : Int) ∧
          (↑(List.length a0c) : Int) ≤ (9223372036854775807 : Int)) ∧
  (decide (szW { r := a0r, w := a0w, h := a0h, c := a0c, x := a0x, y := a0y, d := a0d } (1048576 : Int) < (0 : Int)) =
        true →
      K (V.lit true)) ∧
    (decide (szW { r := a0r, w := a0w, h := a0h, c := a0c, x := a0x, y := a0y, d := a0d } (1048576 : Int) < (0 : Int)) =
        false →
      At True ∧
        At True ∧
          (((bif goodB { r := a0r, w := a0w, h := a0h, c := a0c, x := a0x, y := a0y, d := a0d } then
                    sumC a0c % (↑(List.length a0r) : Int)
                  else (0 : Int)) !=
                  bif goodB { r := a0r, w := a0w, h := a0h, c := a0c, x := a0x, y := a0y, d := a0d } then
                    sumC a0c % (↑(List.length a0r) : Int)
                  else (0 : Int)) =
                true →
              K (V.lit false)) ∧
            (((bif goodB { r := a0r, w := a0w, h := a0h, c := a0c, x := a0x, y := a0y, d := a0d } then
                    sumC a0c % (↑(List.length a0r) : Int)
                  else (0 : Int)) !=
                  bif goodB { r := a0r, w := a0w, h := a0h, c := a0c, x := a0x, y := a0y, d := a0d } then
                    sumC a0c % (↑(List.length a0r) : Int)
                  else (0 : Int)) =
                false →
              ((!goodB { r := a0r, w := a0w, h := a0h, c := a0c, x := a0x, y := a0y, d := a0d } ==
                        goodB { r := a0r, w := a0w, h := a0h, c := a0c, x := a0x, y := a0y, d := a0d }) =
                    true →
                  K (V.lit false)) ∧
                ((!goodB { r := a0r, w := a0w, h := a0h, c := a0c, x := a0x, y := a0y, d := a0d } ==
                        goodB { r := a0r, w := a0w, h := a0h, c := a0c, x := a0x, y := a0y, d := a0d }) =
                    false →
                  K (V.lit true))))

theorem vc_LawColourSum (a0r : List UInt8) (a0w : Int) (a0h : Int) (a0c : List UInt8) (a0x : Int) (a0y : Int) (a0d : Int) (ha0r : (a0r.length : Int) ≤ 9223372036854775807) (ha0w : -9223372036854775808 ≤ a0w ∧ a0w ≤ 9223372036854775807) (ha0h : -9223372036854775808 ≤ a0h ∧ a0h ≤ 9223372036854775807) (ha0c : (a0c.length : Int) ≤ 9223372036854775807) (ha0x : -9223372036854775808 ≤ a0x ∧ a0x ≤ 9223372036854775807) (ha0y : -9223372036854775808 ≤ a0y ∧ a0y ≤ 9223372036854775807) (ha0d : -9223372036854775808 ≤ a0d ∧ a0d ≤ 9223372036854775807) : VC_LawColourSum a0r a0w a0h a0c a0x a0y a0d (retP (.bool true)) := by
  unfold VC_LawColourSum
  simp [retP_lit, ha0r, ha0c]
end Go.Vi
