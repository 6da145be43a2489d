/- The conditions of FnExactOddNodes. -/
import Derived.Test.YtioppaofihbmpabDoorWEPf
namespace Go.Vi
set_option linter.unusedVariables false
set_option linter.unusedSimpArgs false
def VC_LawOddNodes (a0w : Int) (a0h : Int) (a0r : List UInt8) (a0n : List UInt8) (a0x : Int) (a0y : Int) (a0d : Int) (K : V → Prop) : Prop :=
  At
    ((0 : Int) ≤ (1048576 : Int) ∧
      (1048576 : Int) ≤ (1000000000 : Int) ∧
        (↑(List.length a0r) : Int) ≤ (9223372036854775807 : Int) ∧
          (↑(List.length a0n) : Int) ≤ (9223372036854775807 : Int)) ∧
  (decide (szWo a0r a0n (1048576 : Int) < (0 : Int)) = true → K (V.lit true)) ∧
    (decide (szWo a0r a0n (1048576 : Int) < (0 : Int)) = false →
      At True ∧
        At True ∧
          At True ∧
            At True ∧
              At
                  (List.length (odR { w := a0w, h := a0h, r := a0r, n := a0n, x := a0x, y := a0y, d := a0d }) =
                      List.length (odR { w := a0w, h := a0h, r := a0r, n := a0n, x := a0x, y := a0y, d := a0d }) ∧
                    List.length (odR { w := a0w, h := a0h, r := a0r, n := a0n, x := a0x, y := a0y, d := a0d }) =
                        List.length (odR { w := a0w, h := a0h, r := a0r, n := a0n, x := a0x, y := a0y, d := a0d }) ∧
                      List.length (odR { w := a0w, h := a0h, r := a0r, n := a0n, x := a0x, y := a0y, d := a0d }) ≤
                          (2000000 : Nat) ∧
                        List.length (odR { w := a0w, h := a0h, r := a0r, n := a0n, x := a0x, y := a0y, d := a0d }) ≤
                          (2000000 : Nat)) ∧
                ((!odR { w := a0w, h := a0h, r := a0r, n := a0n, x := a0x, y := a0y, d := a0d } ==
                          odR { w := a0w, h := a0h, r := a0r, n := a0n, x := a0x, y := a0y, d := a0d }) =
                      true →
                    K (V.lit false)) ∧
                  ((!odR { w := a0w, h := a0h, r := a0r, n := a0n, x := a0x, y := a0y, d := a0d } ==
                          odR { w := a0w, h := a0h, r := a0r, n := a0n, x := a0x, y := a0y, d := a0d }) =
                      false →
                    ((!womB { w := a0w, h := a0h, r := a0r, n := a0n, x := a0x, y := a0y, d := a0d } ==
                              womB { w := a0w, h := a0h, r := a0r, n := a0n, x := a0x, y := a0y, d := a0d }) =
                          true →
                        K (V.lit false)) ∧
                      ((!womB { w := a0w, h := a0h, r := a0r, n := a0n, x := a0x, y := a0y, d := a0d } ==
                              womB { w := a0w, h := a0h, r := a0r, n := a0n, x := a0x, y := a0y, d := a0d }) =
                          false →
                        At
                            (List.length
                                  (odR { w := a0w, h := a0h, r := a0r, n := a0n, x := a0x, y := a0y, d := a0d }) =
                                List.length
                                  (odR { w := a0w, h := a0h, r := a0r, n := a0n, x := a0x, y := a0y, d := a0d }) ∧
                              List.length
                                    (odR { w := a0w, h := a0h, r := a0r, n := a0n, x := a0x, y := a0y, d := a0d }) ≤
                                  (2000000 : Nat) ∧
                                (0 : Int) ≤ (1 : Int) ∧ (1 : Int) ≤ (1000000000000000 : Int)) ∧
                          At
                              (List.length
                                    (ramp (1 : Int)
                                      (List.length
                                        (odR
                                          { w := a0w, h := a0h, r := a0r, n := a0n, x := a0x, y := a0y, d := a0d }))) =
                                  List.length
                                    (odR { w := a0w, h := a0h, r := a0r, n := a0n, x := a0x, y := a0y, d := a0d }) ∧
                                List.length
                                      (odR { w := a0w, h := a0h, r := a0r, n := a0n, x := a0x, y := a0y, d := a0d }) ≤
                                    (2000000 : Nat) ∧
                                  (0 : Int) ≤ (1 : Int) ∧ (1 : Int) ≤ (1000000000000000 : Int)) ∧
                            (decide
                                    ((bif
                                          ramp (1 : Int)
                                              (List.length
                                                (odR
                                                  { w := a0w, h := a0h, r := a0r, n := a0n, x := a0x, y := a0y,
                                                    d := a0d })) ==
                                            ramp (1 : Int)
                                              (List.length
                                                (odR
                                                  { w := a0w, h := a0h, r := a0r, n := a0n, x := a0x, y := a0y,
                                                    d := a0d })) then
                                        (1 : Int) +
                                          (↑(List.length
                                                (odR
                                                  { w := a0w, h := a0h, r := a0r, n := a0n, x := a0x, y := a0y,
                                                    d := a0d })) :
                                            Int)
                                      else (-1 : Int)) <
                                      (0 : Int)) =
                                  true →
                                K (V.lit false)) ∧
                              (decide
                                    ((bif
                                          ramp (1 : Int)
                                              (List.length
                                                (odR
                                                  { w := a0w, h := a0h, r := a0r, n := a0n, x := a0x, y := a0y,
                                                    d := a0d })) ==
                                            ramp (1 : Int)
                                              (List.length
                                                (odR
                                                  { w := a0w, h := a0h, r := a0r, n := a0n, x := a0x, y := a0y,
                                                    d := a0d })) then
                                        (1 : Int) +
                                          (↑(List.length
                                                (odR
                                                  { w := a0w, h := a0h, r := a0r, n := a0n, x := a0x, y := a0y,
                                                    d := a0d })) :
                                            Int)
                                      else (-1 : Int)) <
                                      (0 : Int)) =
                                  false →
                                (((bif
                                            ramp (1 : Int)
                                                (List.length
                                                  (odR
                                                    { w := a0w, h := a0h, r := a0r, n := a0n, x := a0x, y := a0y,
                                                      d := a0d })) ==
                                              ramp (1 : Int)
                                                (List.length
                                                  (odR
                                                    { w := a0w, h := a0h, r := a0r, n := a0n, x := a0x, y := a0y,
                                                      d := a0d })) then
                                          (1 : Int) +
                                            (↑(List.length
                                                  (odR
                                                    { w := a0w, h := a0h, r := a0r, n := a0n, x := a0x, y := a0y,
                                                      d := a0d })) :
                                              Int)
                                        else (-1 : Int)) !=
                                        (1 : Int) +
                                          (↑(List.length
                                                (odR
                                                  { w := a0w, h := a0h, r := a0r, n := a0n, x := a0x, y := a0y,
                                                    d := a0d })) :
                                            Int)) =
                                      true →
                                    K (V.lit false)) ∧
                                  (((bif
                                            ramp (1 : Int)
                                                (List.length
                                                  (odR
                                                    { w := a0w, h := a0h, r := a0r, n := a0n, x := a0x, y := a0y,
                                                      d := a0d })) ==
                                              ramp (1 : Int)
                                                (List.length
                                                  (odR
                                                    { w := a0w, h := a0h, r := a0r, n := a0n, x := a0x, y := a0y,
                                                      d := a0d })) then
                                          (1 : Int) +
                                            (↑(List.length
                                                  (odR
                                                    { w := a0w, h := a0h, r := a0r, n := a0n, x := a0x, y := a0y,
                                                      d := a0d })) :
                                              Int)
                                        else (-1 : Int)) !=
                                        (1 : Int) +
                                          (↑(List.length
                                                (odR
                                                  { w := a0w, h := a0h, r := a0r, n := a0n, x := a0x, y := a0y,
                                                    d := a0d })) :
                                            Int)) =
                                      false →
                                    At True ∧
                                      At True ∧
                                        At
                                            (List.length
                                                  (odR
                                                    { w := a0w, h := a0h, r := a0r, n := a0n, x := a0x, y := a0y,
                                                      d := a0d }) =
                                                List.length
                                                  (odR
                                                    { w := a0w, h := a0h, r := a0r, n := a0n, x := a0x, y := a0y,
                                                      d := a0d }) ∧
                                              List.length
                                                    (odR
                                                      { w := a0w, h := a0h, r := a0r, n := a0n, x := a0x, y := a0y,
                                                        d := a0d }) =
                                                  List.length
                                                    (odR
                                                      { w := a0w, h := a0h, r := a0r, n := a0n, x := a0x, y := a0y,
                                                        d := a0d }) ∧
                                                List.length
                                                      (odR
                                                        { w := a0w, h := a0h, r := a0r, n := a0n, x := a0x, y := a0y,
                                                          d := a0d }) ≤
                                                    (2000000 : Nat) ∧
                                                  List.length
                                                      (odR
                                                        { w := a0w, h := a0h, r := a0r, n := a0n, x := a0x, y := a0y,
                                                          d := a0d }) ≤
                                                    (2000000 : Nat)) ∧
                                          ((!odR
                                                      { w := a0w, h := a0h, r := a0r, n := a0n, x := a0x, y := a0y,
                                                        d := a0d } ==
                                                    odR
                                                      { w := a0w, h := a0h, r := a0r, n := a0n, x := a0x, y := a0y,
                                                        d := a0d }) =
                                                true →
                                              K (V.lit false)) ∧
                                            ((!odR
                                                      { w := a0w, h := a0h, r := a0r, n := a0n, x := a0x, y := a0y,
                                                        d := a0d } ==
                                                    odR
                                                      { w := a0w, h := a0h, r := a0r, n := a0n, x := a0x, y := a0y,
                                                        d := a0d }) =
                                                false →
                                              ((!womB
                                                          { w := a0w, h := a0h, r := a0r, n := a0n, x := a0x, y := a0y,
                                                            d := a0d } ==
                                                        womB
                                                          { w := a0w, h := a0h, r := a0r, n := a0n, x := a0x, y := a0y,
                                                            d := a0d }) =
                                                    true →
                                                  K (V.lit false)) ∧
                                                ((!womB
                                                          { w := a0w, h := a0h, r := a0r, n := a0n, x := a0x, y := a0y,
                                                            d := a0d } ==
                                                        womB
                                                          { w := a0w, h := a0h, r := a0r, n := a0n, x := a0x, y := a0y,
                                                            d := a0d }) =
                                                    false →
                                                  At
                                                      (List.length
                                                            (ramp (1 : Int)
                                                              (List.length
                                                                (odR
                                                                  { w := a0w, h := a0h, r := a0r, n := a0n, x := a0x,
                                                                    y := a0y, d := a0d }))) =
                                                          List.length
                                                            (odR
                                                              { w := a0w, h := a0h, r := a0r, n := a0n, x := a0x,
                                                                y := a0y, d := a0d }) ∧
                                                        List.length
                                                              (odR
                                                                { w := a0w, h := a0h, r := a0r, n := a0n, x := a0x,
                                                                  y := a0y, d := a0d }) ≤
                                                            (2000000 : Nat) ∧
                                                          (0 : Int) ≤ (1 : Int) ∧
                                                            (1 : Int) ≤ (1000000000000000 : Int)) ∧
                                                    (decide
                                                            ((bif
                                                                  ramp (1 : Int)
                                                                      (List.length
                                                                        (odR
                                                                          { w := a0w, h := a0h, r := a0r, n := a0n,
                                                                            x := a0x, y := a0y, d := a0d })) ==
                                                                    ramp (1 : Int)
                                                                      (List.length
                                                                        (odR
                                                                          { w := a0w, h := a0h, r := a0r, n := a0n,
                                                                            x := a0x, y := a0y, d := a0d })) then
                                                                (1 : Int) +
                                                                  (↑(List.length
                                                                        (odR
                                                                          { w := a0w, h := a0h, r := a0r, n := a0n,
                                                                            x := a0x, y := a0y, d := a0d })) :
                                                                    Int)
                                                              else (-1 : Int)) <
                                                              (0 : Int)) =
                                                          true →
                                                        K (V.lit false)) ∧
                                                      (decide
                                                            ((bif
                                                                  ramp (1 : Int)
                                                                      (List.length
                                                                        (odR
                                                                          { w := a0w, h := a0h, r := a0r, n := a0n,
                                                                            x := a0x, y := a0y, d := a0d })) ==
                                                                    ramp (1 : Int)
                                                                      (List.length
                                                                        (odR
                                                                          { w := a0w, h := a0h, r := a0r, n := a0n,
                                                                            x := a0x, y := a0y, d := a0d })) then
                                                                (1 : Int) +
                                                                  (↑(List.length
                                                                        (odR
                                                                          { w := a0w, h := a0h, r := a0r, n := a0n,
                                                                            x := a0x, y := a0y, d := a0d })) :
                                                                    Int)
                                                              else (-1 : Int)) <
                                                              (0 : Int)) =
                                                          false →
                                                        (((bif
                                                                    ramp (1 : Int)
                                                                        (List.length
                                                                          (odR
                                                                            { w := a0w, h := a0h, r := a0r, n := a0n,
                                                                              x := a0x, y := a0y, d := a0d })) ==
                                                                      ramp (1 : Int)
                                                                        (List.length
                                                                          (odR
                                                                            { w := a0w, h := a0h, r := a0r, n := a0n,
                                                                              x := a0x, y := a0y, d := a0d })) then
                                                                  (1 : Int) +
                                                                    (↑(List.length
                                                                          (odR
                                                                            { w := a0w, h := a0h, r := a0r, n := a0n,
                                                                              x := a0x, y := a0y, d := a0d })) :
                                                                      Int)
                                                                else (-1 : Int)) !=
                                                                (1 : Int) +
                                                                  (↑(List.length
                                                                        (odR
                                                                          { w := a0w, h := a0h, r := a0r, n := a0n,
                                                                            x := a0x, y := a0y, d := a0d })) :
                                                                    Int)) =
                                                              true →
                                                            K (V.lit false)) ∧
                                                          (((bif
                                                                    ramp (1 : Int)
                                                                        (List.length
                                                                          (odR
                                                                            { w := a0w, h := a0h, r := a0r, n := a0n,
                                                                              x := a0x, y := a0y, d := a0d })) ==
                                                                      ramp (1 : Int)
                                                                        (List.length
                                                                          (odR
                                                                            { w := a0w, h := a0h, r := a0r, n := a0n,
                                                                              x := a0x, y := a0y, d := a0d })) then
                                                                  (1 : Int) +
                                                                    (↑(List.length
                                                                          (odR
                                                                            { w := a0w, h := a0h, r := a0r, n := a0n,
                                                                              x := a0x, y := a0y, d := a0d })) :
                                                                      Int)
                                                                else (-1 : Int)) !=
                                                                (1 : Int) +
                                                                  (↑(List.length
                                                                        (odR
                                                                          { w := a0w, h := a0h, r := a0r, n := a0n,
                                                                            x := a0x, y := a0y, d := a0d })) :
                                                                    Int)) =
                                                              false →
                                                            K (V.lit true))))))))))

theorem vc_LawOddNodes (a0w : Int) (a0h : Int) (a0r : List UInt8) (a0n : List UInt8) (a0x : Int) (a0y : Int) (a0d : Int) (ha0w : -9223372036854775808 ≤ a0w ∧ a0w ≤ 9223372036854775807) (ha0h : -9223372036854775808 ≤ a0h ∧ a0h ≤ 9223372036854775807) (ha0r : (a0r.length : Int) ≤ 9223372036854775807) (ha0n : (a0n.length : Int) ≤ 9223372036854775807) (ha0x : -9223372036854775808 ≤ a0x ∧ a0x ≤ 9223372036854775807) (ha0y : -9223372036854775808 ≤ a0y ∧ a0y ≤ 9223372036854775807) (ha0d : -9223372036854775808 ≤ a0d ∧ a0d ≤ 9223372036854775807) : VC_LawOddNodes a0w a0h a0r a0n a0x a0y a0d (retP (.bool true)) := by
  unfold VC_LawOddNodes
  have hl := odR_len ⟨a0w, a0h, a0r, a0n, a0x, a0y, a0d⟩
  simp [retP_lit, ramp_len, hl, ha0r, ha0n]
  intros
  omega
end Go.Vi
