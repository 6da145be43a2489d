/- strings.Repeat by its contract. -/
import Derived.Shelf.Strings.Repeat
import Derived.Shelf.Lay
import Derived.Ground.NamesProg
import Derived.Test.YtioppaofihbmpaaProg
import Derived.Test.YtioppaofihbmpaaVij
import Derived.Test.YtioppaofihbmpaaWXSpec
import Derived.KernelRfl
namespace Go.Proofs
open Go Go.Vi Go.Shelf Go.RowKit

shelf_lay Lays.n105 Nm 105 at Try as Try.laysRepeat

theorem Try.extraRepeat : Builder.Extra Try.prog Try.laysRepeat_ren where
  sizeBuilder := by kernel_rfl
  liesBuilder := by kernel_rfl
  t5 := Try.laysRepeat.t5
  a5 := Try.laysRepeat.a5
  z5 := Try.laysRepeat.z5
  v5 := Try.laysRepeat.v5
  infoByte := by kernel_rfl
  cellsByte := by kernel_rfl
  sizeByte := by kernel_rfl
  neB5 := by decide

theorem Try.libRepeat : OK Try.prog 10 F_strings_Repeat.spec := by
  refine OK.ofCalls (by kernel_rfl) fun args m p R hF hp => ?_
  unfold F_strings_Repeat at hF
  split at hF
  · rename_i s n
    injection hF with hF
    injection hF with h1 h2
    subst h1; subst h2
    refine ⟨rfl, fun xs hx w => ?_⟩
    simp only [RepL, Rep] at hx
    obtain ⟨_, _, rfl, rfl, _, _, rfl, rfl, rfl⟩ := hx
    obtain ⟨h0, h1, h2⟩ := hp
    obtain ⟨c, rfl⟩ : ∃ c : Nat, n = c := ⟨n.toNat, by omega⟩
    have h := Any.strings_Repeat Try.laysRepeat Try.extraRepeat (ofL s) c w (by omega) (by simpa [ofL, ByteArray.size] using h2)
    rw [show Try.laysRepeat_ren.f 105 = 10 by kernel_rfl] at h
    exact h.mono fun e w' ⟨he, hb⟩ => ⟨_, he, by simp [Rep, ofL], hb⟩
  · cases hF
end Go.Proofs
