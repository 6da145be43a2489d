/- The contracts of the two functions that ask for a rule. -/
import Derived.Test.YtccahaefpbkelaaProg
import Derived.Test.YtccahaefpbkelaaRulePure
import Derived.KernelRfl
namespace Go.Proofs.Ytccahaefpbkelaa
open Go Go.Vi
set_option linter.unusedVariables false

def annRule : FuncId → Nat → St → Option Ann := fun f =>
  if f = 30 then ann_woRule else if f = 11 then ann_implIsRule else fun _ _ => none
theorem noΩ : ∀ f S, (fun _ : FuncId => (none : Option VSpec)) f = some S → OK Try.prog f S := fun _ _ h => by cases h
theorem eq_woRule (s : List UInt8) (K : V → List Blk → Prop) : VC_woRule s K = vin Try.prog (fun _ => none) annRule 3 30 [.str s] [] K := by kernel_rfl
theorem eq_implIsRule (s : List UInt8) (K : V → List Blk → Prop) : VC_implIsRule s K = vin Try.prog (fun _ => none) annRule 3 11 [.str s] [] K := by kernel_rfl
theorem ok_woRule : OK Try.prog 30 S_rule := (vin_ok noΩ annRule 3 _).le fun args m k h => by
  unfold S_rule at h
  split at h
  · rename_i s
    exact ⟨_, _, h, (eq_woRule s _).mp (vc_woRule s)⟩
  · exact h.elim
theorem ok_implIsRule : OK Try.prog 11 S_rule := (vin_ok noΩ annRule 3 _).le fun args m k h => by
  unfold S_rule at h
  split at h
  · rename_i s
    exact ⟨_, _, h, (eq_implIsRule s _).mp (vc_implIsRule s)⟩
  · exact h.elim
def ΩRule : FuncId → Option VSpec := fun f => if f = 30 then some S_rule else if f = 11 then some S_rule else none
theorem ΩRule_ok : ∀ f S, ΩRule f = some S → OK Try.prog f S := by
  intro f S h
  unfold ΩRule at h
  split at h
  · rename_i e; injection h with h; subst e; subst h; exact ok_woRule
  · split at h
    · rename_i e; injection h with h; subst e; subst h; exact ok_implIsRule
    · cases h
end Go.Proofs.Ytccahaefpbkelaa
