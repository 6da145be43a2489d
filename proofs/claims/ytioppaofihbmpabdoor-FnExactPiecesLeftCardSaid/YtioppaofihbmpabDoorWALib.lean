/- strings.Trim and strings.Count by their contracts. -/
import Derived.Shelf.Strings.SlTrimAscii
import Derived.Shelf.Strings.Count
import Derived.Shelf.Lay
import Derived.Ground.NamesProg
import Derived.Test.YtioppaofihbmpabDoorProg
import Derived.Test.YtioppaofihbmpabDoorVij
import Derived.Test.YtioppaofihbmpabDoorWASpec
import Derived.KernelRfl
namespace Go.Proofs
open Go Go.Vi Go.Shelf Go.RowKit

shelf_lay Lays.n160 Nm 160 at Tryd as Tryd.laysTrim
shelf_lay Lays.n138 Nm 138 at Tryd as Tryd.laysCount

theorem Tryd.libTrim : OK Tryd.prog 71 F_strings_Trim.spec := by
  refine OK.ofCalls (by kernel_rfl) fun args m p R hF hp => ?_
  unfold F_strings_Trim at hF
  split at hF
  · rename_i s q
    injection hF with hF
    injection hF with h1 h2
    subst h1; subst h2
    refine ⟨rfl, fun xs hx w => ?_⟩
    simp only [RepL, Rep] at hx
    obtain ⟨_, _, rfl, rfl, _, _, rfl, rfl, rfl⟩ := hx
    obtain ⟨rfl, h1⟩ := hp
    have h := Any.strings_Trim_laid Tryd.laysTrim (by kernel_rfl) (ofL s) (ofL [48, 49]) w (by rw [ofL_size]; omega) (by decide) (ascii_of_all (by decide))
    rw [show Tryd.laysTrim_ren.f 160 = 71 by kernel_rfl] at h
    exact h.mono fun e w' ⟨he, hb⟩ => ⟨_, he, by simp [Rep, ofL], hb⟩
  · cases hF
theorem countByte_eq (s : List UInt8) (c : UInt8) : (Lib.countByte s c : Int) = cntB c s := by
  unfold cntB
  simp [Lib.countByte, List.count]
theorem Tryd.libCount : OK Tryd.prog 79 F_strings_Count.spec := by
  refine OK.ofCalls (by kernel_rfl) fun args m p R hF hp => ?_
  unfold F_strings_Count at hF
  split at hF
  · rename_i s q
    injection hF with hF
    injection hF with h1 h2
    subst h1; subst h2
    refine ⟨rfl, fun xs hx w => ?_⟩
    simp only [RepL, Rep] at hx
    obtain ⟨_, _, rfl, rfl, _, _, rfl, rfl, rfl⟩ := hx
    obtain ⟨c, rfl⟩ := List.length_eq_one_iff.1 hp
    have h := Any.strings_Count_one Tryd.laysCount (ofL s) c w
    rw [show Tryd.laysCount_ren.f 138 = 79 by kernel_rfl] at h
    exact h.mono fun e w' ⟨he, hb⟩ => ⟨_, he, by simp [Rep, ofL, countByte_eq], by rw [hb]; exact Below.refl _ _⟩
  · cases hF
end Go.Proofs
