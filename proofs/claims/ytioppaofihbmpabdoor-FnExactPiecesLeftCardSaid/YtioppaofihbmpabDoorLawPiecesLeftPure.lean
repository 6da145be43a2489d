/- The conditions of FnExactPiecesLeft. -/
import Derived.Test.YtioppaofihbmpabDoorWPPf
namespace Go.Vi
set_option linter.unusedVariables false
set_option linter.unusedSimpArgs false
def VC_LawPiecesLeft (a0w : Int) (a0h : Int) (a0r : List UInt8) (a0n : List UInt8) (a0x : Int) (a0y : Int) (a0d : Int) (K : V → Prop) : Prop :=
  At
    ((0 : Int) ≤ (1048576 : Int) ∧
      (1048576 : Int) ≤ (1000000000 : Int) ∧
        (↑(List.length a0r) : Int) ≤ (9223372036854775807 : Int) ∧
          (↑(List.length a0n) : Int) ≤ (9223372036854775807 : Int)) ∧
  (decide (szWo a0r a0n (1048576 : Int) < (0 : Int)) = true → K (V.lit true)) ∧
    (decide (szWo a0r a0n (1048576 : Int) < (0 : Int)) = false →
      At True ∧
        At True ∧
          At True ∧
            At True ∧
              (((bif womB { w := a0w, h := a0h, r := a0r, n := a0n, x := a0x, y := a0y, d := a0d } then
                        pieW { w := a0w, h := a0h, r := a0r, n := a0n, x := a0x, y := a0y, d := a0d }
                      else (0 : Int)) !=
                      bif womB { w := a0w, h := a0h, r := a0r, n := a0n, x := a0x, y := a0y, d := a0d } then
                        pieW { w := a0w, h := a0h, r := a0r, n := a0n, x := a0x, y := a0y, d := a0d }
                      else (0 : Int)) =
                    true →
                  K (V.lit false)) ∧
                (((bif womB { w := a0w, h := a0h, r := a0r, n := a0n, x := a0x, y := a0y, d := a0d } then
                        pieW { w := a0w, h := a0h, r := a0r, n := a0n, x := a0x, y := a0y, d := a0d }
                      else (0 : Int)) !=
                      bif womB { w := a0w, h := a0h, r := a0r, n := a0n, x := a0x, y := a0y, d := a0d } then
                        pieW { w := a0w, h := a0h, r := a0r, n := a0n, x := a0x, y := a0y, d := a0d }
                      else (0 : Int)) =
                    false →
                  ((!womB { w := a0w, h := a0h, r := a0r, n := a0n, x := a0x, y := a0y, d := a0d } ==
                            womB { w := a0w, h := a0h, r := a0r, n := a0n, x := a0x, y := a0y, d := a0d }) =
                        true →
                      K (V.lit false)) ∧
                    ((!womB { w := a0w, h := a0h, r := a0r, n := a0n, x := a0x, y := a0y, d := a0d } ==
                            womB { w := a0w, h := a0h, r := a0r, n := a0n, x := a0x, y := a0y, d := a0d }) =
                        false →
                      K (V.lit true))))

theorem vc_LawPiecesLeft (a0w : Int) (a0h : Int) (a0r : List UInt8) (a0n : List UInt8) (a0x : Int) (a0y : Int) (a0d : Int) (ha0w : -9223372036854775808 ≤ a0w ∧ a0w ≤ 9223372036854775807) (ha0h : -9223372036854775808 ≤ a0h ∧ a0h ≤ 9223372036854775807) (ha0r : (a0r.length : Int) ≤ 9223372036854775807) (ha0n : (a0n.length : Int) ≤ 9223372036854775807) (ha0x : -9223372036854775808 ≤ a0x ∧ a0x ≤ 9223372036854775807) (ha0y : -9223372036854775808 ≤ a0y ∧ a0y ≤ 9223372036854775807) (ha0d : -9223372036854775808 ≤ a0d ∧ a0d ≤ 9223372036854775807) : VC_LawPiecesLeft a0w a0h a0r a0n a0x a0y a0d (retP (.bool true)) := by
  unfold VC_LawPiecesLeft
  simp [retP_lit, ha0r, ha0n]
end Go.Vi
