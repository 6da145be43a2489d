/- The conditions of FnExactParseWorld. -/
import Derived.Test.YteleacldecambaaDoorZ2Pf
namespace Go.Vi
set_option linter.unusedVariables false
def VC_LawParseWorld (a0 : List UInt8) (K : V → Prop) : Prop :=
  (decide ((↑(List.length a0) : Int) > (1048576 : Int)) = true → K (V.lit true)) ∧
  (decide ((↑(List.length a0) : Int) > (1048576 : Int)) = false →
    At (List.length a0 ≤ (1048576 : Nat)) ∧
      At (List.length a0 ≤ (1048576 : Nat)) ∧
        At True ∧
          ((!eqW (bif okW a0 then parW a0 else zeroWd) (bif okW a0 then parW a0 else zeroWd)) = true →
              K (V.lit false)) ∧
            ((!eqW (bif okW a0 then parW a0 else zeroWd) (bif okW a0 then parW a0 else zeroWd)) = false →
              ((!okW a0 == okW a0) = true → K (V.lit false)) ∧ ((!okW a0 == okW a0) = false → K (V.lit true))))

theorem vc_LawParseWorld (a0 : List UInt8) (ha0 : (a0.length : Int) ≤ 9223372036854775807) : VC_LawParseWorld a0 (retP (.bool true)) := by
  unfold VC_LawParseWorld
  refine ⟨fun _ => by simp [retP_lit], fun h => ?_⟩
  have hl : a0.length ≤ 1048576 := by
    have := of_decide_eq_false h
    omega
  simp [retP_lit, eqW_self, hl]
end Go.Vi
