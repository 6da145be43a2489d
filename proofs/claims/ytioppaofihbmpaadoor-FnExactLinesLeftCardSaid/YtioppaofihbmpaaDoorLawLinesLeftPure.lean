/- The conditions of FnExactLinesLeft. -/
import Derived.Test.YtioppaofihbmpaaDoorWAPf
namespace Go.Vi
set_option linter.unusedVariables false
set_option linter.unusedSimpArgs false
def VC_LawLinesLeft (a0w : Int) (a0h : Int) (a0r : List UInt8) (a0n : List UInt8) (a0x : Int) (a0y : Int) (a0d : Int) (K : V → Prop) : Prop :=
  At
    ((0 : Int) ≤ (1048576 : Int) ∧
      (1048576 : Int) ≤ (1000000000 : Int) ∧
        (↑(List.length a0r) : Int) ≤ (9223372036854775807 : Int) ∧
          (↑(List.length a0n) : Int) ≤ (9223372036854775807 : Int)) ∧
  (decide (szWo a0r a0n (1048576 : Int) < (0 : Int)) = true → K (V.lit true)) ∧
    (decide (szWo a0r a0n (1048576 : Int) < (0 : Int)) = false →
      At True ∧
        At True ∧
          ((!womB { w := a0w, h := a0h, r := a0r, n := a0n, x := a0x, y := a0y, d := a0d }) = true →
              At True ∧
                At True ∧
                  ((!womB { w := a0w, h := a0h, r := a0r, n := a0n, x := a0x, y := a0y, d := a0d }) = true →
                      (((0 : Int) != (0 : Int)) = true → K (V.lit false)) ∧
                        (((0 : Int) != (0 : Int)) = false →
                          ((!false == false) = true → K (V.lit false)) ∧
                            ((!false == false) = false → K (V.lit true)))) ∧
                    ((!womB { w := a0w, h := a0h, r := a0r, n := a0n, x := a0x, y := a0y, d := a0d }) = false →
                      True ∧
                        At (List.length (Array.toList #[(49 : UInt8)]) = (1 : Nat)) ∧
                          At (List.length (Array.toList #[(49 : UInt8)]) = (1 : Nat)) ∧
                            ((IntKind.wrap IntKind.i64
                                      (cntB (List.getD (Array.toList #[(49 : UInt8)]) (0 : Nat) (0 : UInt8)) a0r +
                                        cntB (List.getD (Array.toList #[(49 : UInt8)]) (0 : Nat) (0 : UInt8)) a0n) !=
                                    (0 : Int)) =
                                  true →
                                K (V.lit false)) ∧
                              ((IntKind.wrap IntKind.i64
                                      (cntB (List.getD (Array.toList #[(49 : UInt8)]) (0 : Nat) (0 : UInt8)) a0r +
                                        cntB (List.getD (Array.toList #[(49 : UInt8)]) (0 : Nat) (0 : UInt8)) a0n) !=
                                    (0 : Int)) =
                                  false →
                                ((!true == false) = true → K (V.lit false)) ∧
                                  ((!true == false) = false → K (V.lit true))))) ∧
            ((!womB { w := a0w, h := a0h, r := a0r, n := a0n, x := a0x, y := a0y, d := a0d }) = false →
              True ∧
                At (List.length a0r ≤ (1000 : Nat)) ∧
                  At (List.length a0n ≤ (1000 : Nat)) ∧
                    At True ∧
                      At True ∧
                        ((!womB { w := a0w, h := a0h, r := a0r, n := a0n, x := a0x, y := a0y, d := a0d }) = true →
                            (((0 : Int) != IntKind.wrap IntKind.i64 (cntB (49 : UInt8) a0r + cntB (49 : UInt8) a0n)) =
                                  true →
                                K (V.lit false)) ∧
                              (((0 : Int) != IntKind.wrap IntKind.i64 (cntB (49 : UInt8) a0r + cntB (49 : UInt8) a0n)) =
                                  false →
                                ((!false == true) = true → K (V.lit false)) ∧
                                  ((!false == true) = false → K (V.lit true)))) ∧
                          ((!womB { w := a0w, h := a0h, r := a0r, n := a0n, x := a0x, y := a0y, d := a0d }) = false →
                            True ∧
                              At (List.length (Array.toList #[(49 : UInt8)]) = (1 : Nat)) ∧
                                At (List.length (Array.toList #[(49 : UInt8)]) = (1 : Nat)) ∧
                                  ((IntKind.wrap IntKind.i64
                                            (cntB (List.getD (Array.toList #[(49 : UInt8)]) (0 : Nat) (0 : UInt8)) a0r +
                                              cntB (List.getD (Array.toList #[(49 : UInt8)]) (0 : Nat) (0 : UInt8))
                                                a0n) !=
                                          IntKind.wrap IntKind.i64 (cntB (49 : UInt8) a0r + cntB (49 : UInt8) a0n)) =
                                        true →
                                      K (V.lit false)) ∧
                                    ((IntKind.wrap IntKind.i64
                                            (cntB (List.getD (Array.toList #[(49 : UInt8)]) (0 : Nat) (0 : UInt8)) a0r +
                                              cntB (List.getD (Array.toList #[(49 : UInt8)]) (0 : Nat) (0 : UInt8))
                                                a0n) !=
                                          IntKind.wrap IntKind.i64 (cntB (49 : UInt8) a0r + cntB (49 : UInt8) a0n)) =
                                        false →
                                      ((!true == true) = true → K (V.lit false)) ∧
                                        ((!true == true) = false → K (V.lit true))))))

theorem vc_LawLinesLeft (a0w : Int) (a0h : Int) (a0r : List UInt8) (a0n : List UInt8) (a0x : Int) (a0y : Int) (a0d : Int) (ha0w : -9223372036854775808 ≤ a0w ∧ a0w ≤ 9223372036854775807) (ha0h : -9223372036854775808 ≤ a0h ∧ a0h ≤ 9223372036854775807) (ha0r : (a0r.length : Int) ≤ 9223372036854775807) (ha0n : (a0n.length : Int) ≤ 9223372036854775807) (ha0x : -9223372036854775808 ≤ a0x ∧ a0x ≤ 9223372036854775807) (ha0y : -9223372036854775808 ≤ a0y ∧ a0y ≤ 9223372036854775807) (ha0d : -9223372036854775808 ≤ a0d ∧ a0d ≤ 9223372036854775807) : VC_LawLinesLeft a0w a0h a0r a0n a0x a0y a0d (retP (.bool true)) := by
  unfold VC_LawLinesLeft
  cases hb : womB ⟨a0w, a0h, a0r, a0n, a0x, a0y, a0d⟩ with
  | false => simp [retP_lit, ha0r, ha0n]
  | true =>
    have h := wom_iff.1 hb
    have hm := mul_bd6 h.1 h.2.1
    simp only at h hm
    have h1 : a0r.length ≤ 1000 := by omega
    have h2 : a0n.length ≤ 1000 := by omega
    simp [retP_lit, ha0r, ha0n, h1, h2]
end Go.Vi
