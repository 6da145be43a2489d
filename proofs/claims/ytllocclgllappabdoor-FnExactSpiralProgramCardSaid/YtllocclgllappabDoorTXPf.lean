/- L and R exchanged: the conditions hold. -/
import Derived.Test.YtllocclgllappabDoorTXVc
import Derived.Test.YtllocclgllappabDoorTXSpec
namespace Go.Vi
set_option linter.unusedSimpArgs false
theorem byte_eqI (c : UInt8) (n : Nat) (hn : n < 256) : ((c.toNat : Int) == (n : Int)) = (c == UInt8.ofNat n) := by
  rw [Bool.eq_iff_iff]
  simp only [beq_iff_eq, ← UInt8.toNat_inj, UInt8.toNat_ofNat']
  omega
theorem byte76 (c : UInt8) : ((c.toNat : Int) == (76 : Int)) = (c == 76) := byte_eqI c 76 (by omega)
theorem byte82 (c : UInt8) : ((c.toNat : Int) == (82 : Int)) = (c == 82) := byte_eqI c 82 (by omega)
theorem take_succ_getD {l : List UInt8} {i : Nat} (h : i < l.length) : l.take (i + 1) = l.take i ++ [l.getD i 0] := by
  rw [List.take_succ_eq_append_getElem h]
  simp [List.getD_eq_getElem?_getD, List.getElem?_eq_getElem h]
theorem drop_getD {l : List UInt8} {i : Nat} (h : i < l.length) : l.drop i = l.getD i 0 :: l.drop (i + 1) := by
  rw [List.drop_eq_getElem_cons h]
  simp [List.getD_eq_getElem?_getD, List.getElem?_eq_getElem h]
theorem oth76 {c : UInt8} (h : (c == 76) = true) : oth c = 82 := by unfold oth; rw [h]; rfl
theorem oth82 {c : UInt8} (h : (c == 76) = false) (h' : (c == 82) = true) : oth c = 76 := by unfold oth; rw [h, h']; rfl
theorem oth_no {c : UInt8} (h : (c == 76) = false) (h' : (c == 82) = false) : oth c = c := by unfold oth; rw [h, h']; rfl
theorem oth_take {s : List UInt8} {i : Nat} (h : i < s.length) : othR (s.take (i + 1)) = othR (s.take i) ++ [oth (s.getD i 0)] := by
  rw [take_succ_getD h]; simp [othR]
theorem othR_len (s : List UInt8) : (othR s).length = s.length := by simp [othR]
theorem othInv_step {s : List UInt8} {i : Int} (h : othInv s i) (hi : i < s.length) : IntKind.wrap .i64 (i + 1) = i + 1 ∧ (i + 1).toNat = i.toNat + 1 ∧ i.toNat < s.length ∧ othInv s (i + 1) ∧ ((s.length : Int) - (i + 1)).toNat < ((s.length : Int) - i).toNat := by
  obtain ⟨h0, h1, h2⟩ := h
  exact ⟨wrap64_in (by omega), by omega, by omega, ⟨by omega, by omega, h2⟩, by omega⟩
theorem vc_spec_woOther (s : List UInt8) (h : s.length ≤ 1000) : VC_spec_woOther s (retP (.str (othR s))) := by
  unfold VC_spec_woOther
  simp only [at_iff, retP_str, and_true, true_and, decide_eq_true_eq, decide_eq_false_iff_not, byte76, byte82]
  refine ⟨by simp [othR], ⟨by omega, by omega, h⟩, fun i hi => ⟨fun hlt => ?_, fun hge => ?_⟩⟩
  · obtain ⟨hw, ht, hl, hs, hm⟩ := othInv_step hi hlt
    have hlen : (othR (s.take i.toNat)).length ≤ 1000 := by rw [othR_len, List.length_take]; omega
    have h0 := hi.1
    rw [hw, ht]
    refine ⟨⟨h0, hlt⟩, fun h1 => ?_, fun h1 => ⟨fun h2 => ?_, fun h2 => ?_⟩⟩
    · refine ⟨by simp only [List.length_cons, List.length_nil]; omega, ?_, hs, hm⟩
      rw [oth_take hl, oth76 h1]
    · refine ⟨by simp only [List.length_cons, List.length_nil]; omega, ?_, hs, hm⟩
      rw [oth_take hl, oth82 h1 h2]
    · have hd : (s.take (i.toNat + 1)).drop i.toNat = [s.getD i.toNat 0] := by
        rw [take_succ_getD hl, List.drop_append_of_le_length (by rw [List.length_take]; omega), List.drop_of_length_le (by rw [List.length_take]; omega), List.nil_append]
      rw [hd]
      refine ⟨⟨h0, by omega, by omega⟩, by simp only [List.length_cons, List.length_nil]; omega, ?_, hs, hm⟩
      rw [oth_take hl, oth_no h1 h2]
  · rw [List.take_of_length_le (by have := hi.1; omega)]
theorem othRow_len {s : List UInt8} {i : Int} : (othRow s i).length = s.length := by
  unfold othRow; rw [List.length_append, othR_len, List.length_take, List.length_drop]; omega
theorem othRow_cut {s : List UInt8} {i : Nat} (h : i < s.length) : othRow s i = othR (s.take i) ++ s.getD i 0 :: s.drop (i + 1) := by
  unfold othRow; rw [Int.toNat_natCast, drop_getD h]
theorem take_l {s : List UInt8} {i : Nat} (h : i < s.length) : (othR (s.take i)).length = i := by rw [othR_len, List.length_take]; omega
theorem othRow_get {s : List UInt8} {i : Nat} (h : i < s.length) : (othRow s i).getD i 0 = s.getD i 0 := by
  rw [othRow_cut h, List.getD_eq_getElem?_getD, List.getElem?_append_right (by rw [take_l h]; exact Nat.le_refl _), take_l h, Nat.sub_self]
  rfl
theorem othRow_set {s : List UInt8} {i : Nat} (h : i < s.length) : (othRow s i).set i (oth (s.getD i 0)) = othRow s ((i : Int) + 1) := by
  rw [othRow_cut h, List.set_append_right _ _ (by rw [take_l h]; exact Nat.le_refl _), take_l h, Nat.sub_self]
  unfold othRow
  rw [show ((i : Int) + 1).toNat = i + 1 by omega, oth_take h]
  simp
theorem othRow_stay {s : List UInt8} {i : Nat} (h : i < s.length) (ho : oth (s.getD i 0) = s.getD i 0) : othRow s i = othRow s ((i : Int) + 1) := by
  rw [← othRow_set h, ho]
  rw [othRow_cut h, List.set_append_right _ _ (by rw [take_l h]; exact Nat.le_refl _), take_l h, Nat.sub_self]
  rfl
theorem vc_impl_exchanged (s : List UInt8) (h : s.length ≤ 1000) : VC_impl_exchanged s (retP (.str (othR s))) := by
  unfold VC_impl_exchanged
  simp only [at_iff, retP_str, and_true, true_and, decide_eq_true_eq, decide_eq_false_iff_not, byte76, byte82, othRow_len]
  refine ⟨by omega, by simp [othRow, othR], ⟨by omega, by omega, h⟩, fun i hi => ⟨fun hlt => ?_, fun hge => ?_⟩⟩
  · obtain ⟨hw, ht, hl, hs, hm⟩ := othInv_step hi hlt
    have h0 := hi.1
    rw [hw]
    obtain ⟨n, rfl⟩ : ∃ n : Nat, i = n := ⟨i.toNat, by omega⟩
    rw [Int.toNat_natCast] at *
    rw [othRow_get hl]
    refine ⟨⟨h0, hlt⟩, hl, fun h1 => ⟨⟨h0, hlt⟩, ⟨hl, by omega, by omega⟩, ?_, hs, hm⟩, fun h1 => ⟨fun h2 => ⟨⟨h0, hlt⟩, ⟨hl, by omega, by omega⟩, ?_, hs, hm⟩, fun h2 => ⟨othRow_stay hl (oth_no h1 h2), hs, hm⟩⟩⟩
    · rw [← othRow_set hl, oth76 h1]; rfl
    · rw [← othRow_set hl, oth82 h1 h2]; rfl
  · refine ⟨by omega, ?_⟩
    have h0 := hi.1
    rw [List.take_of_length_le (by rw [othRow_len]; omega)]
    unfold othRow
    rw [List.take_of_length_le (by omega), List.drop_of_length_le (by omega), List.append_nil]
end Go.Vi
