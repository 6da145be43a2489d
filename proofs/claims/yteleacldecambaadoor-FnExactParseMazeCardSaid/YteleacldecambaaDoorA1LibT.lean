/- strings.Trim by its contract, where strings.Count is not there. -/
import Derived.Shelf.Strings.SlTrimAscii
import Derived.Shelf.Lay
import Derived.Ground.NamesProg
import Derived.Test.YteleacldecambaaDoorProg
import Derived.Test.YteleacldecambaaDoorVij
import Derived.Test.YteleacldecambaaDoorA1Spec
import Derived.KernelRfl
namespace Go.Proofs
open Go Go.Vi Go.Shelf Go.RowKit

shelf_lay Lays.n160 Nm 160 at Tryd as Tryd.laysTrim

theorem Tryd.libTrim : OK Tryd.prog 47 F_strings_Trim.spec := by
  refine OK.ofCalls (by kernel_rfl) fun args m p R hF hp => ?_
  unfold F_strings_Trim at hF
  split at hF
  · rename_i s q
    injection hF with hF
    injection hF with h1 h2
    subst h1; subst h2
    refine ⟨rfl, fun xs hx w => ?_⟩
    simp only [RepL, Rep] at hx
    obtain ⟨_, _, rfl, rfl, _, _, rfl, rfl, rfl⟩ := hx
    obtain ⟨rfl, h1⟩ := hp
    have h := Any.strings_Trim_laid Tryd.laysTrim (by kernel_rfl) (ofL s) (ofL [46, 90, 83]) w (by rw [ofL_size]; omega) (by decide) (ascii_of_all (by decide))
    rw [show Tryd.laysTrim_ren.f 160 = 47 by kernel_rfl] at h
    exact h.mono fun e w' ⟨he, hb⟩ => ⟨_, he, by simp [Rep, ofL], hb⟩
  · cases hF
end Go.Proofs
