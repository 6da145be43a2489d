/- The conditions of FnExactCountWorlds. -/
import Derived.Test.YtlechboepjmmhaaC1Pf
namespace Go.Vi
set_option linter.unusedVariables false
def VC_LawCountWorlds (a0 : List UInt8) (a1 : Int) (a2 : Int) (K : V → Prop) : Prop :=
  (decide ((↑(List.length a0) : Int) > (1048576 : Int)) = true → K (V.lit true)) ∧
  (decide ((↑(List.length a0) : Int) > (1048576 : Int)) = false →
    At True ∧
      At True ∧
        (((bif asked a0 a1 a2 then manyW a0 a1 a2 else (0 : Int)) !=
                bif asked a0 a1 a2 then manyW a0 a1 a2 else (0 : Int)) =
              true →
            K (V.lit false)) ∧
          (((bif asked a0 a1 a2 then manyW a0 a1 a2 else (0 : Int)) !=
                bif asked a0 a1 a2 then manyW a0 a1 a2 else (0 : Int)) =
              false →
            ((!asked a0 a1 a2 == asked a0 a1 a2) = true → K (V.lit false)) ∧
              ((!asked a0 a1 a2 == asked a0 a1 a2) = false → K (V.lit true))))

theorem vc_LawCountWorlds (a0 : List UInt8) (a1 : Int) (a2 : Int) (ha0 : (a0.length : Int) ≤ 9223372036854775807) (ha1 : -9223372036854775808 ≤ a1 ∧ a1 ≤ 9223372036854775807) (ha2 : -9223372036854775808 ≤ a2 ∧ a2 ≤ 9223372036854775807) : VC_LawCountWorlds a0 a1 a2 (retP (.bool true)) := by
  unfold VC_LawCountWorlds
  simp [retP_lit]
end Go.Vi
