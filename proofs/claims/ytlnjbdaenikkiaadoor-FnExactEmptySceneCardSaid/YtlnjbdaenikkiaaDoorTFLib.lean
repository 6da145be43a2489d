/- strings.Repeat by its contract. -/
import Derived.Shelf.Strings.Repeat
import Derived.Shelf.Lay
import Derived.Ground.NamesProg
import Derived.Test.YtlnjbdaenikkiaaDoorProg
import Derived.Test.YtlnjbdaenikkiaaDoorVij
import Derived.Test.YtlnjbdaenikkiaaDoorTFSpec
import Derived.KernelRfl
namespace Go.Proofs
open Go Go.Vi Go.Shelf Go.RowKit

shelf_lay Lays.n105 Nm 105 at Tryd as Tryd.laysRepeat

theorem Tryd.extraRepeat : Builder.Extra Tryd.prog Tryd.laysRepeat_ren where
  sizeBuilder := by kernel_rfl
  liesBuilder := by kernel_rfl
  t5 := Tryd.laysRepeat.t5
  a5 := Tryd.laysRepeat.a5
  z5 := Tryd.laysRepeat.z5
  v5 := Tryd.laysRepeat.v5
  infoByte := by kernel_rfl
  cellsByte := by kernel_rfl
  sizeByte := by kernel_rfl
  neB5 := by decide

theorem Tryd.libRepeat : OK Tryd.prog 40 F_strings_Repeat.spec := by
  refine OK.ofCalls (by kernel_rfl) fun args m p R hF hp => ?_
  unfold F_strings_Repeat at hF
  split at hF
  · rename_i s n
    injection hF with hF
    injection hF with h1 h2
    subst h1; subst h2
    refine ⟨rfl, fun xs hx w => ?_⟩
    simp only [RepL, Rep] at hx
    obtain ⟨_, _, rfl, rfl, _, _, rfl, rfl, rfl⟩ := hx
    obtain ⟨h0, h1, h2⟩ := hp
    obtain ⟨c, rfl⟩ : ∃ c : Nat, n = c := ⟨n.toNat, by omega⟩
    have h := Any.strings_Repeat Tryd.laysRepeat Tryd.extraRepeat (ofL s) c w (by omega) (by simpa [ofL, ByteArray.size] using h2)
    rw [show Tryd.laysRepeat_ren.f 105 = 40 by kernel_rfl] at h
    exact h.mono fun e w' ⟨he, hb⟩ => ⟨_, he, by simp [Rep, ofL], hb⟩
  · cases hF
end Go.Proofs
