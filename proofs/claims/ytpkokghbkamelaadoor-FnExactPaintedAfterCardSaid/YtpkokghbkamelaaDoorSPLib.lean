/- strings.Count by its contract. -/
import Derived.Shelf.Strings.Count
import Derived.Shelf.Lay
import Derived.Ground.NamesProg
import Derived.Test.YtpkokghbkamelaaDoorProg
import Derived.Test.YtpkokghbkamelaaDoorVij
import Derived.Test.YtpkokghbkamelaaDoorSPSpec
import Derived.KernelRfl
namespace Go.Proofs
open Go Go.Vi Go.Shelf Go.RowKit

shelf_lay Lays.n138 Nm 138 at Tryd as Tryd.laysCount

theorem countByte_eq (c : UInt8) : ∀ s : List UInt8, (Lib.countByte s c : Int) = cntC c s
 | [] => by simp [Lib.countByte, cntC]
 | b :: r => by
  have ih := countByte_eq c r
  simp only [Lib.countByte] at ih ⊢
  simp only [cntC, <- ih]
  cases h : (b == c) <;> simp_all
  omega
theorem YtpkokghbkamelaaDoor.libCount : OK Tryd.prog 73 F_strings_Count.spec := by
 refine OK.ofCalls (by kernel_rfl) fun args m p R hF hp => ?_
 unfold F_strings_Count at hF
 split at hF
 ·rename_i s q
  injection hF with hF
  injection hF with h1 h2
  subst h1; subst h2
  refine ⟨rfl, fun xs hx w => ?_⟩
  simp only [RepL, Rep] at hx
  obtain ⟨_, _, rfl, rfl, _, _, rfl, rfl, rfl⟩ := hx
  obtain ⟨c, rfl⟩ := List.length_eq_one_iff.1 hp
  have h := Any.strings_Count_one Tryd.laysCount (ofL s) c w
  rw [show Tryd.laysCount_ren.f 138 = 73 by kernel_rfl] at h
  exact h.mono fun e w' ⟨he, hb⟩ => ⟨_, he, by simp [Rep, ofL, countByte_eq], by rw [hb]; exact Below.refl _ _⟩
 ·cases hF
end Go.Proofs
