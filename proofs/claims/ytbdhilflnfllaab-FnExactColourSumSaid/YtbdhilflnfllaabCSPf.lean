/- ColourSum's conditions hold. -/
import Derived.Test.YtbdhilflnfllaabCSVc
import Derived.Test.YtbdhilflnfllaabCSSpec
namespace Go.Vi
theorem sumC_snoc (b : UInt8) : ∀ l : List UInt8, sumC (l ++ [b]) = sumC l + ((b.toNat : Int) - 48)
  | [] => by simp [sumC]
  | a :: r => by
    simp only [List.cons_append, sumC, sumC_snoc b r]
    omega
theorem take_succ_byte {l : List UInt8} {i : Nat} (h : i < l.length) : l.take (i + 1) = l.take i ++ [l.getD i 0] := by
  rw [List.take_succ_eq_append_getElem h]
  simp [List.getD_eq_getElem?_getD, List.getElem?_eq_getElem h]
theorem sumC_bd {w : Wd} (hg : goodB w = true) : ∀ i : Nat, i ≤ w.c.length → 0 ≤ sumC (w.c.take i) ∧ sumC (w.c.take i) ≤ 5 * i
  | 0, _ => by simp [sumC]
  | i + 1, h => by
    have ih := sumC_bd hg i (by omega)
    have hc := col_bd hg (i := i) (by omega)
    have hr := (good_bd hg).2.2.2.2.2.2
    rw [take_succ_byte (by omega), sumC_snoc]
    omega
theorem sum_step {w : Wd} (hg : goodB w = true) {i : Int} (h0 : 0 ≤ i) (hi : i < w.c.length) : IntKind.wrap .i64 (IntKind.wrap .u8 (((w.c.getD i.toNat 0).toNat : Int) - 48)) = ((w.c.getD i.toNat 0).toNat : Int) - 48 ∧
    IntKind.wrap .i64 (sumC (w.c.take i.toNat) + (((w.c.getD i.toNat 0).toNat : Int) - 48)) = sumC (w.c.take (i + 1).toNat) := by
  have hc := col_bd hg (i := i.toNat) (by omega)
  have hr := (good_bd hg).2.2.2.2.2.2
  have hs := sumC_bd hg i.toNat (by omega)
  have h81 : w.c.length ≤ 81 := by
    have h1 := good_bd hg
    have h2 := mul_bd h1.1 h1.2.1
    omega
  refine ⟨by rw [wrapu8_in (by omega), wrap64_in (by omega)], ?_⟩
  rw [wrap64_in (by omega), show (i + 1).toNat = i.toNat + 1 by omega, take_succ_byte (by omega), sumC_snoc]
theorem sum_take {c : List UInt8} {i : Nat} (h : i < c.length) : sumC (c.take (i + 1)) = sumC (c.take i) + (((c.getD i 0).toNat : Int) - 48) := by
  induction c generalizing i with
  | nil => simp at h
  | cons b r ih =>
    cases i with
    | zero => simp [sumC]
    | succ i =>
      simp only [List.take_succ_cons, sumC, List.getD_cons_succ]
      rw [ih (by simpa using h)]
      omega
theorem sum_bd : ∀ c : List UInt8, -48 * (c.length : Int) ≤ sumC c ∧ sumC c ≤ 207 * (c.length : Int)
  | [] => by simp [sumC]
  | b :: r => by
    have := sum_bd r
    have := UInt8.toNat_lt b
    simp only [sumC, List.length_cons]
    omega
theorem vc_impl_sumOf (s : List UInt8) (h : s.length ≤ 1000) : VC_impl_sumOf s (retP (.int .i64 (sumC s))) := by
  unfold VC_impl_sumOf
  refine ⟨by simp [sumC], ⟨Int.le_refl _, by omega, h⟩, fun i hi => ⟨fun hc => ?_, fun hc => ?_⟩⟩
  · have hc := of_decide_eq_true hc
    obtain ⟨g1, g2, _⟩ := hi
    have hb := sum_bd (s.take i.toNat)
    have hl : (s.take i.toNat).length ≤ 1000 := by rw [List.length_take]; omega
    have hd := UInt8.toNat_lt (s.getD i.toNat 0)
    rw [wrap64_in (x := i + 1) (by omega), wrap64_in (x := sumC _ + _) (by omega), show (i + 1).toNat = i.toNat + 1 by omega, sum_take (by omega)]
    refine ⟨⟨g1, hc⟩, ⟨by omega, by omega⟩, by simp, ⟨⟨by omega, by omega, h⟩, by omega⟩⟩
  · have hc := of_decide_eq_false hc
    obtain ⟨g1, g2, _⟩ := hi
    rw [retP_int, List.take_of_length_le (by omega)]
theorem vc_spec_ColourSum (wr : List UInt8) (ww wh : Int) (wc : List UInt8) (wx wy wd : Int) (_ : True) : VC_spec_ColourSum wr ww wh wc wx wy wd
    (retP (.tup [.int .i64 (bif goodB ⟨wr, ww, wh, wc, wx, wy, wd⟩ then sumC wc % wr.length else 0), .bool (goodB ⟨wr, ww, wh, wc, wx, wy, wd⟩)])) := by
  unfold VC_spec_ColourSum
  refine ⟨⟨trivial⟩, fun hg => ?_, fun hg => ?_⟩
  · simp only [Bool.not_eq_true'] at hg
    rw [hg]
    simp [retP, leV, leL, chkB, V.under, underL]
  · simp only [Bool.not_eq_false'] at hg
    rw [hg]
    have hr := (good_bd hg).2.2.2.2.2.2
    simp only at hr
    refine ⟨by simp [sumC], ⟨Int.le_refl _, by omega⟩, fun i hi => ⟨fun hc => ?_, fun hc => ?_⟩⟩
    · have hc := of_decide_eq_true hc
      obtain ⟨g1, g2⟩ := hi
      have hst := sum_step hg g1 hc
      simp only at hst
      rw [hst.1, hst.2]
      have h81 : wc.length ≤ 81 := by
        have h1 := good_bd hg
        have h2 := mul_bd h1.1 h1.2.1
        simp only at h1 h2
        omega
      rw [wrap64_in (x := i + 1) (by omega)]
      exact ⟨⟨g1, hc⟩, by simp, ⟨⟨by omega, by omega⟩, by omega⟩⟩
    · have hc := of_decide_eq_false hc
      obtain ⟨g1, g2⟩ := hi
      have hs := sumC_bd hg wc.length (Nat.le_refl _)
      simp only [List.take_length] at hs
      rw [List.take_of_length_le (by omega), Int.tmod_eq_emod_of_nonneg hs.1]
      refine ⟨⟨by omega⟩, ?_⟩
      simp [retP, leV, leL, chkB, V.under, underL]
theorem vc_impl_ColourSum (wr : List UInt8) (ww wh : Int) (wc : List UInt8) (wx wy wd : Int) (_ : True) : VC_impl_ColourSum wr ww wh wc wx wy wd
    (retP (.tup [.int .i64 (bif goodB ⟨wr, ww, wh, wc, wx, wy, wd⟩ then sumC wc % wr.length else 0), .bool (goodB ⟨wr, ww, wh, wc, wx, wy, wd⟩)])) := by
  unfold VC_impl_ColourSum
  refine ⟨⟨trivial⟩, fun hg => ?_, fun hg => ?_⟩
  · simp only [Bool.not_eq_true'] at hg
    rw [hg]
    simp [retP, leV, leL, chkB, V.under, underL]
  · simp only [Bool.not_eq_false'] at hg
    rw [hg]
    have hr := (good_bd hg).2.2.2.2.2.2
    have h1 := good_bd hg
    have h2 := mul_bd h1.1 h1.2.1
    simp only at hr h1 h2
    have hs := sumC_bd hg wc.length (Nat.le_refl _)
    simp only [List.take_length] at hs
    rw [Int.tmod_eq_emod_of_nonneg hs.1]
    refine ⟨trivial, ⟨by omega⟩, ⟨by omega⟩, ?_⟩
    simp [retP, leV, leL, chkB, V.under, underL]
end Go.Vi
