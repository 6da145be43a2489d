/- The conditions of FnExactParseMaze. -/
import Derived.Test.YteleacldecambaaDoorZ1Pf
namespace Go.Vi
set_option linter.unusedVariables false
def VC_LawParseMaze (a0 : List UInt8) (K : V → Prop) : Prop :=
  (decide ((↑(List.length a0) : Int) > (1048576 : Int)) = true → K (V.lit true)) ∧
  (decide ((↑(List.length a0) : Int) > (1048576 : Int)) = false →
    At (List.length a0 ≤ (1048576 : Nat)) ∧
      At (List.length a0 ≤ (1048576 : Nat)) ∧
        At True ∧
          ((!eqM (okMz a0) (okMz a0)) = true → K (V.lit false)) ∧
            ((!eqM (okMz a0) (okMz a0)) = false →
              ((!okM a0 == okM a0) = true → K (V.lit false)) ∧ ((!okM a0 == okM a0) = false → K (V.lit true))))

theorem vc_LawParseMaze (a0 : List UInt8) (ha0 : (a0.length : Int) ≤ 9223372036854775807) : VC_LawParseMaze a0 (retP (.bool true)) := by
  unfold VC_LawParseMaze
  refine ⟨fun _ => by simp [retP_lit], fun h => ?_⟩
  have hl : a0.length ≤ 1048576 := by
    have := of_decide_eq_false h
    omega
  have he : eqM (okMz a0) (okMz a0) = true := by simp [eqM]
  simp [retP_lit, he, hl]
end Go.Vi
