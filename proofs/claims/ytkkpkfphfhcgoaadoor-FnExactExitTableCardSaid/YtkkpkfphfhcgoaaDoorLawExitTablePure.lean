/- The conditions of FnExactExitTable. -/
import Derived.Test.YtkkpkfphfhcgoaaDoorX1Pf
namespace Go.Vi
set_option linter.unusedVariables false
def VC_LawExitTable (a0w : Int) (a0h : Int) (a0c : List UInt8) (a0u : Bool) (K : V → Prop) : Prop :=
  At
    ((0 : Int) ≤ (1048576 : Int) ∧
      (1048576 : Int) ≤ (1000000000 : Int) ∧ (↑(List.length a0c) : Int) ≤ (9223372036854775807 : Int)) ∧
  (decide (szM a0c (1048576 : Int) < (0 : Int)) = true → K (V.lit true)) ∧
    (decide (szM a0c (1048576 : Int) < (0 : Int)) = false →
      At True ∧
        At True ∧
          At True ∧
            At True ∧
              At
                  (List.length (etL a0w a0h a0c a0u) = List.length (etL a0w a0h a0c a0u) ∧
                    List.length (etL a0w a0h a0c a0u) = List.length (etL a0w a0h a0c a0u) ∧
                      List.length (etL a0w a0h a0c a0u) ≤ (1000 : Nat) ∧
                        List.length (etL a0w a0h a0c a0u) ≤ (1000 : Nat)) ∧
                ((!etL a0w a0h a0c a0u == etL a0w a0h a0c a0u) = true → K (V.lit false)) ∧
                  ((!etL a0w a0h a0c a0u == etL a0w a0h a0c a0u) = false →
                    ((!mzB { w := a0w, h := a0h, c := a0c, t := a0u } ==
                              mzB { w := a0w, h := a0h, c := a0c, t := a0u }) =
                          true →
                        K (V.lit false)) ∧
                      ((!mzB { w := a0w, h := a0h, c := a0c, t := a0u } ==
                              mzB { w := a0w, h := a0h, c := a0c, t := a0u }) =
                          false →
                        At
                            (List.length (etL a0w a0h a0c a0u) = List.length (etL a0w a0h a0c a0u) ∧
                              List.length (etL a0w a0h a0c a0u) ≤ (1000 : Nat) ∧
                                (0 : Int) ≤ (1 : Int) ∧ (1 : Int) ≤ (1000 : Int)) ∧
                          At
                              (List.length (etL a0w a0h a0c a0u) =
                                  List.length (ramp (1 : Int) (List.length (etL a0w a0h a0c a0u))) ∧
                                List.length (etL a0w a0h a0c a0u) ≤ (1000 : Nat) ∧
                                  (0 : Int) ≤ (1 : Int) ∧ (1 : Int) ≤ (1000 : Int)) ∧
                            (decide
                                    ((bif
                                          ramp (1 : Int) (List.length (etL a0w a0h a0c a0u)) ==
                                            ramp (1 : Int) (List.length (etL a0w a0h a0c a0u)) then
                                        (1 : Int) + (↑(List.length (etL a0w a0h a0c a0u)) : Int)
                                      else (-1 : Int)) <
                                      (0 : Int)) =
                                  true →
                                K (V.lit false)) ∧
                              (decide
                                    ((bif
                                          ramp (1 : Int) (List.length (etL a0w a0h a0c a0u)) ==
                                            ramp (1 : Int) (List.length (etL a0w a0h a0c a0u)) then
                                        (1 : Int) + (↑(List.length (etL a0w a0h a0c a0u)) : Int)
                                      else (-1 : Int)) <
                                      (0 : Int)) =
                                  false →
                                (((bif
                                            ramp (1 : Int) (List.length (etL a0w a0h a0c a0u)) ==
                                              ramp (1 : Int) (List.length (etL a0w a0h a0c a0u)) then
                                          (1 : Int) + (↑(List.length (etL a0w a0h a0c a0u)) : Int)
                                        else (-1 : Int)) !=
                                        (1 : Int) + (↑(List.length (etL a0w a0h a0c a0u)) : Int)) =
                                      true →
                                    K (V.lit false)) ∧
                                  (((bif
                                            ramp (1 : Int) (List.length (etL a0w a0h a0c a0u)) ==
                                              ramp (1 : Int) (List.length (etL a0w a0h a0c a0u)) then
                                          (1 : Int) + (↑(List.length (etL a0w a0h a0c a0u)) : Int)
                                        else (-1 : Int)) !=
                                        (1 : Int) + (↑(List.length (etL a0w a0h a0c a0u)) : Int)) =
                                      false →
                                    At True ∧
                                      At True ∧
                                        At
                                            (List.length (etL a0w a0h a0c a0u) = List.length (etL a0w a0h a0c a0u) ∧
                                              List.length (etL a0w a0h a0c a0u) = List.length (etL a0w a0h a0c a0u) ∧
                                                List.length (etL a0w a0h a0c a0u) ≤ (1000 : Nat) ∧
                                                  List.length (etL a0w a0h a0c a0u) ≤ (1000 : Nat)) ∧
                                          ((!etL a0w a0h a0c a0u == etL a0w a0h a0c a0u) = true → K (V.lit false)) ∧
                                            ((!etL a0w a0h a0c a0u == etL a0w a0h a0c a0u) = false →
                                              ((!mzB { w := a0w, h := a0h, c := a0c, t := a0u } ==
                                                        mzB { w := a0w, h := a0h, c := a0c, t := a0u }) =
                                                    true →
                                                  K (V.lit false)) ∧
                                                ((!mzB { w := a0w, h := a0h, c := a0c, t := a0u } ==
                                                        mzB { w := a0w, h := a0h, c := a0c, t := a0u }) =
                                                    false →
                                                  At
                                                      (List.length (etL a0w a0h a0c a0u) =
                                                          List.length
                                                            (ramp (1 : Int) (List.length (etL a0w a0h a0c a0u))) ∧
                                                        List.length (etL a0w a0h a0c a0u) ≤ (1000 : Nat) ∧
                                                          (0 : Int) ≤ (1 : Int) ∧ (1 : Int) ≤ (1000 : Int)) ∧
                                                    (decide
                                                            ((bif
                                                                  ramp (1 : Int) (List.length (etL a0w a0h a0c a0u)) ==
                                                                    ramp (1 : Int)
                                                                      (List.length (etL a0w a0h a0c a0u)) then
                                                                (1 : Int) + (↑(List.length (etL a0w a0h a0c a0u)) : Int)
                                                              else (-1 : Int)) <
                                                              (0 : Int)) =
                                                          true →
                                                        K (V.lit false)) ∧
                                                      (decide
                                                            ((bif
                                                                  ramp (1 : Int) (List.length (etL a0w a0h a0c a0u)) ==
                                                                    ramp (1 : Int)
                                                                      (List.length (etL a0w a0h a0c a0u)) then
                                                                (1 : Int) + (↑(List.length (etL a0w a0h a0c a0u)) : Int)
                                                              else (-1 : Int)) <
                                                              (0 : Int)) =
                                                          false →
                                                        (((bif
                                                                    ramp (1 : Int)
                                                                        (List.length (etL a0w a0h a0c a0u)) ==
                                                                      ramp (1 : Int)
                                                                        (List.length (etL a0w a0h a0c a0u)) then
                                                                  (1 : Int) +
                                                                    (↑(List.length (etL a0w a0h a0c a0u)) : Int)
                                                                else (-1 : Int)) !=
                                                                (1 : Int) +
                                                                  (↑(List.length (etL a0w a0h a0c a0u)) : Int)) =
                                                              true →
                                                            K (V.lit false)) ∧
                                                          (((bif
                                                                    ramp (1 : Int)
                                                                        (List.length (etL a0w a0h a0c a0u)) ==
                                                                      ramp (1 : Int)
                                                                        (List.length (etL a0w a0h a0c a0u)) then
                                                                  (1 : Int) +
                                                                    (↑(List.length (etL a0w a0h a0c a0u)) : Int)
                                                                else (-1 : Int)) !=
                                                                (1 : Int) +
                                                                  (↑(List.length (etL a0w a0h a0c a0u)) : Int)) =
                                                              false →
                                                            K (V.lit true))))))))))

theorem vc_LawExitTable (a0w : Int) (a0h : Int) (a0c : List UInt8) (a0u : Bool) (ha0w : -9223372036854775808 ≤ a0w ∧ a0w ≤ 9223372036854775807) (ha0h : -9223372036854775808 ≤ a0h ∧ a0h ≤ 9223372036854775807) (ha0c : (a0c.length : Int) ≤ 9223372036854775807) : VC_LawExitTable a0w a0h a0c a0u (retP (.bool true)) := by
  unfold VC_LawExitTable
  have hl := et_le a0w a0h a0c a0u
  simp [retP_lit, ramp_len, hl, ha0c]
  intro _
  omega
end Go.Vi
