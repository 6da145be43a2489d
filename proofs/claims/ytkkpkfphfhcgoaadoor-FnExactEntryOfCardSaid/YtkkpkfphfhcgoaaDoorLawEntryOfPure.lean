/- The conditions of FnExactEntryOf. -/
import Derived.Test.YtkkpkfphfhcgoaaDoorA1Pf
namespace Go.Vi
set_option linter.unusedVariables false
def VC_LawEntryOf (a0w : Int) (a0h : Int) (a0c : List UInt8) (a0u : Bool) (a1 : Int) (K : V → Prop) : Prop :=
  At
    ((0 : Int) ≤ (1048576 : Int) ∧
      (1048576 : Int) ≤ (1000000000 : Int) ∧ (↑(List.length a0c) : Int) ≤ (9223372036854775807 : Int)) ∧
  (decide (szM a0c (1048576 : Int) < (0 : Int)) = true → K (V.lit true)) ∧
    (decide (szM a0c (1048576 : Int) < (0 : Int)) = false →
      At True ∧
        At True ∧
          At True ∧
            At True ∧
              At True ∧
                ((!((((bif enB { w := a0w, h := a0h, c := a0c, t := a0u } a1 then entX a0w a0h a1 else (0 : Int)) ==
                              bif enB { w := a0w, h := a0h, c := a0c, t := a0u } a1 then entX a0w a0h a1
                              else (0 : Int)) &&
                            (bif enB { w := a0w, h := a0h, c := a0c, t := a0u } a1 then entY a0w a0h a1
                              else (0 : Int)) ==
                              bif enB { w := a0w, h := a0h, c := a0c, t := a0u } a1 then entY a0w a0h a1
                              else (0 : Int)) &&
                          (bif enB { w := a0w, h := a0h, c := a0c, t := a0u } a1 then entD a0w a0h a1 else (0 : Int)) ==
                            bif enB { w := a0w, h := a0h, c := a0c, t := a0u } a1 then entD a0w a0h a1
                            else (0 : Int))) =
                      true →
                    K (V.lit false)) ∧
                  ((!((((bif enB { w := a0w, h := a0h, c := a0c, t := a0u } a1 then entX a0w a0h a1 else (0 : Int)) ==
                              bif enB { w := a0w, h := a0h, c := a0c, t := a0u } a1 then entX a0w a0h a1
                              else (0 : Int)) &&
                            (bif enB { w := a0w, h := a0h, c := a0c, t := a0u } a1 then entY a0w a0h a1
                              else (0 : Int)) ==
                              bif enB { w := a0w, h := a0h, c := a0c, t := a0u } a1 then entY a0w a0h a1
                              else (0 : Int)) &&
                          (bif enB { w := a0w, h := a0h, c := a0c, t := a0u } a1 then entD a0w a0h a1 else (0 : Int)) ==
                            bif enB { w := a0w, h := a0h, c := a0c, t := a0u } a1 then entD a0w a0h a1
                            else (0 : Int))) =
                      false →
                    ((!enB { w := a0w, h := a0h, c := a0c, t := a0u } a1 ==
                              enB { w := a0w, h := a0h, c := a0c, t := a0u } a1) =
                          true →
                        K (V.lit false)) ∧
                      ((!enB { w := a0w, h := a0h, c := a0c, t := a0u } a1 ==
                              enB { w := a0w, h := a0h, c := a0c, t := a0u } a1) =
                          false →
                        K (V.lit true))))

theorem vc_LawEntryOf (a0w : Int) (a0h : Int) (a0c : List UInt8) (a0u : Bool) (a1 : Int) (ha0w : -9223372036854775808 ≤ a0w ∧ a0w ≤ 9223372036854775807) (ha0h : -9223372036854775808 ≤ a0h ∧ a0h ≤ 9223372036854775807) (ha0c : (a0c.length : Int) ≤ 9223372036854775807) (ha1 : -9223372036854775808 ≤ a1 ∧ a1 ≤ 9223372036854775807) : VC_LawEntryOf a0w a0h a0c a0u a1 (retP (.bool true)) := by
  unfold VC_LawEntryOf
  simp [retP_lit, ha0c]
end Go.Vi
