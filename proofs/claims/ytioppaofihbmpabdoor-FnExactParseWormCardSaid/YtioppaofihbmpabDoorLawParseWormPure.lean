/- The conditions of FnExactParseWorm. -/
import Derived.Test.YtioppaofihbmpabDoorWHPf
namespace Go.Vi
set_option linter.unusedVariables false
set_option linter.unusedSimpArgs false
def VC_LawParseWorm (a0 : List UInt8) (K : V → Prop) : Prop :=
  (decide ((↑(List.length a0) : Int) > (1048576 : Int)) = true → K (V.lit true)) ∧
  (decide ((↑(List.length a0) : Int) > (1048576 : Int)) = false →
    At (List.length a0 ≤ (1048576 : Nat)) ∧
      At (List.length a0 ≤ (1048576 : Nat)) ∧
        At True ∧
          ((!eqWo (bif okT a0 then parT a0 else zeroWo) (bif okT a0 then parT a0 else zeroWo)) = true →
              K (V.lit false)) ∧
            ((!eqWo (bif okT a0 then parT a0 else zeroWo) (bif okT a0 then parT a0 else zeroWo)) = false →
              ((!okT a0 == okT a0) = true → K (V.lit false)) ∧ ((!okT a0 == okT a0) = false → K (V.lit true))))

theorem vc_LawParseWorm (a0 : List UInt8) (ha0 : (a0.length : Int) ≤ 9223372036854775807) : VC_LawParseWorm a0 (retP (.bool true)) := by
  unfold VC_LawParseWorm
  refine ⟨fun _ => by simp [retP_lit], fun h => ?_⟩
  have hl : a0.length ≤ 1048576 := by
    have := of_decide_eq_false h
    omega
  simp [retP_lit, eqWo_self, hl]
end Go.Vi
