/- strings.Contains at one byte, by its contract. -/
import Derived.Shelf.Strings.Search3
import Derived.Shelf.Lay
import Derived.Ground.NamesProg
import Derived.Test.YtllocclgllappaaProg
import Derived.Test.YtllocclgllappaaVij
import Derived.Test.YtllocclgllappaaTVSpec
import Derived.KernelRfl
namespace Go.Proofs
open Go Go.Vi Go.Shelf Go.RowKit

shelf_lay Lays.n144 Nm 144 at Try as Try.laysContains

theorem idx_hasU : ∀ s : List UInt8, decide (0 ≤ Lib.indexByte s 85) = hasU s
  | [] => rfl
  | b :: l => by
    have ih := idx_hasU l
    have hg := Lib.indexByte_ge l 85
    unfold Lib.indexByte hasU
    rw [List.any_cons]
    change decide (0 ≤ Lib.indexByte l 85) = l.any (· == 85) at ih
    cases h : b == 85
    · rw [Bool.false_or, ← ih]
      simp only [Bool.false_eq_true, if_false, beq_iff_eq]
      by_cases h1 : Lib.indexByte l 85 = -1
      · rw [if_pos h1, h1]
      · rw [if_neg h1]
        exact decide_eq_decide.2 (by omega)
    · simp
theorem Try.libContains : OK Try.prog 63 F_strings_Contains.spec := by
  refine OK.ofCalls (by kernel_rfl) fun args m p R hF hp => ?_
  unfold F_strings_Contains at hF
  split at hF
  · rename_i s q
    injection hF with hF
    injection hF with h1 h2
    subst h1; subst h2
    refine ⟨rfl, fun xs hx w => ?_⟩
    simp only [RepL, Rep] at hx
    obtain ⟨_, _, rfl, rfl, _, _, rfl, rfl, rfl⟩ := hx
    subst hp
    have h := Any.strings_Contains_one Try.laysContains (ofL s) 85 w
    rw [show Try.laysContains_ren.f 144 = 63 by kernel_rfl] at h
    refine h.mono fun e w' ⟨he, hb⟩ => ⟨_, he, ?_, by rw [hb]; exact Below.refl _ _⟩
    have e1 : (ofL s).data.toList = s := by simp [ofL]
    simp only [Rep]
    rw [e1, idx_hasU]
  · cases hF
end Go.Proofs
