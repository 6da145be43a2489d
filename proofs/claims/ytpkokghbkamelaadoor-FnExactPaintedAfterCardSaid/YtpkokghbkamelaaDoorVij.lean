/- Contracts of callees that are proved elsewhere, for every world. -/
import Derived.Test.YtpkokghbkamelaaDoorVif
namespace Go.Vi
open Go.RowKit

section
variable {P : Program}
def hasBody (P : Program) (f : FuncId) : Bool :=
 match P.funcs[f]? with
 | none => false
 | some fn => !(fn.name == "runtime.NumGoroutine") && fn.body.isSome
theorem hasBody_enter {f : FuncId} (h : hasBody P f = true) (xs : Array Value) (w : World) : (callFunc f xs).run P w = .ok (.enter f xs) w := by
 unfold hasBody at h
 split at h
 ·cases h
 ·rename_i fn hf
  simp only [Bool.and_eq_true, Bool.not_eq_true'] at h
  obtain ⟨c, hb⟩ := Option.isSome_iff_exists.1 h.2
  simp only [callFunc, Sem.run_bind, run_program, Result.andThen_ok, hf, h.1, hb, Bool.false_eq_true, if_false, Option.isNone_some]
  rfl
/-- Nothing of the caller's goes in, nothing that was there turns. -/
theorem OK.ofCalls {f : FuncId} {F : FSpec} (he : hasBody P f = true)
  (hc : ∀ args m p R, F args m = some (p, R) -> p -> m = [] /\ ∀ xs, RepL [] args xs -> ∀ w, Calls P f xs.toArray w fun e w' => ∃ x, e = .returned x /\ Rep [] R x /\ Below w.heap.size w w') : OK P f F.spec := by
 refine ⟨fun args m k ht xs w => hasBody_enter he xs w, fun args m k ht ρ w xs hm hx => ?_⟩
 unfold FSpec.spec at ht
 split at ht
 ·rename_i p R hF
  obtain ⟨rfl, h⟩ := hc args m p R hF ht.1.out
  obtain rfl : ρ = [] := List.eq_nil_of_length_eq_zero hm.len
  refine (h xs hx w).mono fun e w' ⟨x, hE, hR, hB⟩ => ?_
  exact ⟨R, [], [], x, hE, ht.2, List.prefix_refl _, hR, ⟨rfl, fun b blk p hb => by simp at hb, fun b b' blk blk' p p' hb => by simp at hb⟩, Keep.of_below hB, fun j hj => Or.inl hj⟩
 ·exact ht.elim
end
end Go.Vi
