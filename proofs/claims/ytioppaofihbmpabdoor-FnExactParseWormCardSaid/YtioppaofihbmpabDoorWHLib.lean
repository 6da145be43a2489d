/- strings.genSplit by its contract, at one byte. -/
import Derived.Shelf.Strings.SlTrimAscii
import Derived.Shelf.Strings.SplitCore
import Derived.Shelf.Strings.Search3
import Derived.Shelf.Strings.Count
import Derived.Lib.SplitLaws
import Derived.Shelf.Lay
import Derived.Ground.NamesProg
import Derived.Test.YtioppaofihbmpabDoorProg
import Derived.Test.YtioppaofihbmpabDoorVij
import Derived.Test.YtioppaofihbmpabDoorWHSpec
import Derived.KernelRfl
namespace Go.Proofs
open Go Go.Vi Go.Shelf Go.RowKit

shelf_lay Lays.n221 Nm 221 at Tryd as Tryd.laysGenSplit

theorem splitB_len (sep : ByteArray) : ∀ (k : Nat) (s : ByteArray), (Lib.splitB sep 0 k s).length ≤ k + 1
  | 0, s => by simp [Lib.splitB]
  | k + 1, s => by
    unfold Lib.splitB
    split
    · simp
    · have := splitB_len sep k (s.extract ((Lib.indexB s sep).toNat + sep.size) s.size)
      simp only [List.length_cons]
      omega
theorem Tryd.libGenSplit : OK Tryd.prog 68 F_strings_genSplit.spec := by
  refine OK.ofCallsRow (by kernel_rfl) fun args m p R M hF hp => ?_
  unfold F_strings_genSplit at hF
  split at hF
  · rename_i s t v n
    injection hF with hF
    injection hF with h1 h2
    injection h2 with h2 h3
    subst h1; subst h2; subst h3
    obtain ⟨rfl, rfl, rfl, hlen⟩ := hp
    refine ⟨rfl, spN s, _, rfl, rfl, fun xs hx w => ?_⟩
    simp only [RepL, Rep] at hx
    obtain ⟨_, _, rfl, rfl, _, _, rfl, rfl, _, _, rfl, rfl, _, _, rfl, rfl, rfl⟩ := hx
    have hsz : (ofL s).size = s.length := ofL_size s
    have hn : ((min 5 (s.length + 1) : Nat) : Int) = min (if (5 : Int) < 0 then (Lib.countB (ofL s) (ofL [58]) : Int) + 1 else 5) (((ofL s).size : Int) + 1) := by
      rw [if_neg (by omega), hsz]
      omega
    have h := Any.strings_genSplit_core Tryd.laysGenSplit (by kernel_rfl) (ofL s) (ofL [58]) 0 5 (min 5 (s.length + 1)) w (by rw [hsz]; omega) (by decide) (by omega)
      (fun x c hx => by
        have := Any.strings_Index_one { Tryd.laysGenSplit with } x 58 (w.alloc (.cells c (Tryd.laysGenSplit_ren.t 9)))
        have e : Lib.indexB x (ofL [58]) = Lib.indexByte x.data.toList 58 := by
          exact (Lib.index_one _ _)
        rw [e]
        exact this)
      (by
        have := Any.strings_Count_one { Tryd.laysGenSplit with } (ofL s) 58 w
        have e : (Lib.countB (ofL s) (ofL [58]) : Int) = (Lib.countByte (ofL s).data.toList 58 : Int) := by
          show ((Lib.count (ofL s).data.toList [58] : Nat) : Int) = _
          rw [Lib.count_one]
          rfl
        rw [e]
        exact this)
      (by omega) (by omega) hn
    rw [show Tryd.laysGenSplit_ren.f 221 = 68 by kernel_rfl] at h
    refine h.mono fun e w' ⟨he, hw⟩ => ?_
    have hd := Lib.splitB_data (ofL [58]) 0 (min 5 (s.length + 1) - 1) (ofL s)
    have hds : (ofL s).data.toList = s := by simp [ofL]
    have hdq : (ofL [58]).data.toList = [58] := by simp [ofL]
    rw [hds, hdq] at hd
    have hsp : spN s = (Lib.splitB (ofL [58]) 0 (min 5 (s.length + 1) - 1) (ofL s)).map (·.data.toList) := hd.symm
    have hll : (spN s).length = (Lib.splitB (ofL [58]) 0 (min 5 (s.length + 1) - 1) (ofL s)).length := by rw [hsp, List.length_map]
    have hle := splitB_len (ofL [58]) (min 5 (s.length + 1) - 1) (ofL s)
    have hcl : (Lib.cellsOf (Lib.splitB (ofL [58]) 0 (min 5 (s.length + 1) - 1) (ofL s)) (min 5 (s.length + 1))).toList.length = min 5 (s.length + 1) := by
      rw [Array.length_toList]
      exact Lib.cellsOf_size (by omega)
    refine ⟨(Lib.cellsOf (Lib.splitB (ofL [58]) 0 (min 5 (s.length + 1) - 1) (ofL s)) (min 5 (s.length + 1))).toList, ?_, ?_, ?_, ?_⟩
    · rw [he, hll, hcl]
    · rw [hw, Array.toArray_toList]
      rfl
    · rw [hll]
      simp only [Lib.cellsOf]
      rw [List.take_left' (by simp), hsp, List.map_map]
      refine List.map_congr_left fun x _ => ?_
      simp [ofL_data]
    · rw [hcl]
      unfold maxLen
      omega
  · cases hF
shelf_lay Lays.n160 Nm 160 at Tryd as Tryd.laysTrim

theorem Tryd.libTrim : OK Tryd.prog 71 F_strings_Trim.spec := by
  refine OK.ofCalls (by kernel_rfl) fun args m p R hF hp => ?_
  unfold F_strings_Trim at hF
  split at hF
  · rename_i s q
    injection hF with hF
    injection hF with h1 h2
    subst h1; subst h2
    refine ⟨rfl, fun xs hx w => ?_⟩
    simp only [RepL, Rep] at hx
    obtain ⟨_, _, rfl, rfl, _, _, rfl, rfl, rfl⟩ := hx
    obtain ⟨rfl, h1⟩ := hp
    have h := Any.strings_Trim_laid Tryd.laysTrim (by kernel_rfl) (ofL s) (ofL [48, 49]) w (by rw [ofL_size]; omega) (by decide) (ascii_of_all (by decide))
    rw [show Tryd.laysTrim_ren.f 160 = 71 by kernel_rfl] at h
    exact h.mono fun e w' ⟨he, hb⟩ => ⟨_, he, by simp [Rep, ofL], hb⟩
  · cases hF
end Go.Proofs
