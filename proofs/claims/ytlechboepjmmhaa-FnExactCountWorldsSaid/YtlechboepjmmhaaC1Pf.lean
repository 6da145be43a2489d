/- ColourSum's and CountWorlds' conditions hold. -/
import Derived.Test.YtlechboepjmmhaaC1Vc
import Derived.Test.YtlechboepjmmhaaC1Spec
namespace Go.Vi
theorem sumC_snoc (b : UInt8) : ∀ l : List UInt8, sumC (l ++ [b]) = sumC l + ((b.toNat : Int) - 48)
  | [] => by simp [sumC]
  | a :: r => by
    simp only [List.cons_append, sumC, sumC_snoc b r]
    omega
theorem take_succ_byte {l : List UInt8} {i : Nat} (h : i < l.length) : l.take (i + 1) = l.take i ++ [l.getD i 0] := by
  rw [List.take_succ_eq_append_getElem h]
  simp [List.getD_eq_getElem?_getD, List.getElem?_eq_getElem h]
theorem sumC_bd {w : Wd} (hg : goodB w = true) : ∀ i : Nat, i ≤ w.c.length → 0 ≤ sumC (w.c.take i) ∧ sumC (w.c.take i) ≤ 5 * i
  | 0, _ => by simp [sumC]
  | i + 1, h => by
    have ih := sumC_bd hg i (by omega)
    have hc := col_bd hg (i := i) (by omega)
    have hr := (good_bd hg).2.2.2.2.2.2
    rw [take_succ_byte (by omega), sumC_snoc]
    omega
theorem sum_step {w : Wd} (hg : goodB w = true) {i : Int} (h0 : 0 ≤ i) (hi : i < w.c.length) : IntKind.wrap .i64 (IntKind.wrap .u8 (((w.c.getD i.toNat 0).toNat : Int) - 48)) = ((w.c.getD i.toNat 0).toNat : Int) - 48 ∧
    IntKind.wrap .i64 (sumC (w.c.take i.toNat) + (((w.c.getD i.toNat 0).toNat : Int) - 48)) = sumC (w.c.take (i + 1).toNat) := by
  have hc := col_bd hg (i := i.toNat) (by omega)
  have hr := (good_bd hg).2.2.2.2.2.2
  have hs := sumC_bd hg i.toNat (by omega)
  have h81 : w.c.length ≤ 81 := by
    have h1 := good_bd hg
    have h2 := mul_bd h1.1 h1.2.1
    omega
  refine ⟨by rw [wrapu8_in (by omega), wrap64_in (by omega)], ?_⟩
  rw [wrap64_in (by omega), show (i + 1).toNat = i.toNat + 1 by omega, take_succ_byte (by omega), sumC_snoc]
theorem vc_spec_ColourSum (wr : List UInt8) (ww wh : Int) (wc : List UInt8) (wx wy wd : Int) (_ : True) : VC_spec_ColourSum wr ww wh wc wx wy wd
    (retP (.tup [.int .i64 (bif goodB ⟨wr, ww, wh, wc, wx, wy, wd⟩ then sumC wc % wr.length else 0), .bool (goodB ⟨wr, ww, wh, wc, wx, wy, wd⟩)])) := by
  unfold VC_spec_ColourSum
  refine ⟨⟨trivial⟩, fun hg => ?_, fun hg => ?_⟩
  · simp only [Bool.not_eq_true'] at hg
    rw [hg]
    simp [retP, leV, leL, chkB, V.under, underL]
  · simp only [Bool.not_eq_false'] at hg
    rw [hg]
    have hr := (good_bd hg).2.2.2.2.2.2
    simp only at hr
    refine ⟨by simp [sumC], ⟨Int.le_refl _, by omega⟩, fun i hi => ⟨fun hc => ?_, fun hc => ?_⟩⟩
    · have hc := of_decide_eq_true hc
      obtain ⟨g1, g2⟩ := hi
      have hst := sum_step hg g1 hc
      simp only at hst
      rw [hst.1, hst.2]
      have h81 : wc.length ≤ 81 := by
        have h1 := good_bd hg
        have h2 := mul_bd h1.1 h1.2.1
        simp only at h1 h2
        omega
      rw [wrap64_in (x := i + 1) (by omega)]
      exact ⟨⟨g1, hc⟩, by simp, ⟨⟨by omega, by omega⟩, by omega⟩⟩
    · have hc := of_decide_eq_false hc
      obtain ⟨g1, g2⟩ := hi
      have hs := sumC_bd hg wc.length (Nat.le_refl _)
      simp only [List.take_length] at hs
      rw [List.take_of_length_le (by omega), Int.tmod_eq_emod_of_nonneg hs.1]
      refine ⟨⟨by omega⟩, ?_⟩
      simp [retP, leV, leL, chkB, V.under, underL]
theorem vc_impl_ColourSum (wr : List UInt8) (ww wh : Int) (wc : List UInt8) (wx wy wd : Int) (_ : True) : VC_impl_ColourSum wr ww wh wc wx wy wd
    (retP (.tup [.int .i64 (bif goodB ⟨wr, ww, wh, wc, wx, wy, wd⟩ then sumC wc % wr.length else 0), .bool (goodB ⟨wr, ww, wh, wc, wx, wy, wd⟩)])) := by
  unfold VC_impl_ColourSum
  refine ⟨⟨trivial⟩, fun hg => ?_, fun hg => ?_⟩
  · simp only [Bool.not_eq_true'] at hg
    rw [hg]
    simp [retP, leV, leL, chkB, V.under, underL]
  · simp only [Bool.not_eq_false'] at hg
    rw [hg]
    have hr := (good_bd hg).2.2.2.2.2.2
    simp only at hr
    refine ⟨by simp [sumC], ⟨Int.le_refl _, by omega⟩, fun i hi => ⟨fun hc => ?_, fun hc => ?_⟩⟩
    · have hc := of_decide_eq_true hc
      obtain ⟨g1, g2⟩ := hi
      have hst := sum_step hg g1 hc
      have hcb := col_bd hg (i := i.toNat) (by simp only; omega)
      simp only at hst hcb
      rw [hst.2]
      have h81 : wc.length ≤ 81 := by
        have h1 := good_bd hg
        have h2 := mul_bd h1.1 h1.2.1
        simp only at h1 h2
        omega
      have hbl := byte_lt (wc.getD i.toNat 0)
      rw [wrap64_in (x := i + 1) (by omega)]
      exact ⟨⟨g1, hc⟩, ⟨by omega, hbl⟩, by simp, ⟨⟨by omega, by omega⟩, by omega⟩⟩
    · have hc := of_decide_eq_false hc
      obtain ⟨g1, g2⟩ := hi
      have hs := sumC_bd hg wc.length (Nat.le_refl _)
      simp only [List.take_length] at hs
      rw [List.take_of_length_le (by omega), Int.tmod_eq_emod_of_nonneg hs.1]
      refine ⟨⟨by omega⟩, ?_⟩
      simp [retP, leV, leL, chkB, V.under, underL]
/-! ### worlds counted -/
theorem size_bd {s : List UInt8} {w h : Int} (hk : (ruleB s && inB w 1 9 && inB h 1 9) = true) : (1 ≤ s.length ∧ s.length ≤ 6) ∧ (1 ≤ w ∧ w ≤ 9) ∧ (1 ≤ h ∧ h ≤ 9) ∧ 1 ≤ w * h ∧ w * h ≤ 81 := by
  simp only [Bool.and_eq_true] at hk
  have h1 := rule_len hk.1.1
  have h2 := inB_eq.1 hk.1.2
  have h3 := inB_eq.1 hk.2
  exact ⟨h1, h2, h3, mul_bd h2 h3⟩
theorem mul_six {a : Int} {n : Nat} (ha : 1 ≤ a ∧ a ≤ 3000) (hn : 1 ≤ n ∧ n ≤ 6) : 1 ≤ a * n ∧ a * n ≤ 18000 := by
  have h : n = 1 ∨ n = 2 ∨ n = 3 ∨ n = 4 ∨ n = 5 ∨ n = 6 := by omega
  rcases h with rfl | rfl | rfl | rfl | rfl | rfl <;> omega
theorem mny_start {s : List UInt8} {w h : Int} (hk : (ruleB s && inB w 1 9 && inB h 1 9) = true) : mnyInv s w h (w * h, 4 * (w * h)) := by
  have hb := size_bd hk
  exact ⟨hb.1, hb.2.2.2, by simp only; omega, Int.le_refl _, by simp only; omega, by simp only; omega, rfl⟩
theorem mny_big {s : List UInt8} {w h k n : Int} (hi : mnyInv s w h (k, n)) (hk : 0 < k) (hb : n * s.length > 3000) : manyW s w h = 0 := by
  obtain ⟨_, _, _, _, _, _, e⟩ := hi
  simp only at e
  rw [← e, show k.toNat = (k - 1).toNat + 1 by omega]
  simp only [manyI]
  rw [decide_eq_true hb]
  rfl
theorem mny_next {s : List UInt8} {w h k n : Int} (hi : mnyInv s w h (k, n)) (hk : 0 < k) (hb : ¬ n * s.length > 3000) : mnyInv s w h (k - 1, n * s.length) := by
  obtain ⟨h1, h2, h3, h4, h5, h6, e⟩ := hi
  simp only at h3 h4 h5 h6 e
  have := mul_six ⟨h5, h6⟩ h1
  refine ⟨h1, h2, by simp only; omega, by simp only; omega, by simp only; omega, by simp only; omega, ?_⟩
  simp only
  rw [← e, show k.toNat = (k - 1).toNat + 1 by omega]
  conv => rhs; simp only [manyI]
  rw [decide_eq_false hb]
  rfl
theorem mny_end {s : List UInt8} {w h k n : Int} (hi : mnyInv s w h (k, n)) (hk : ¬ 0 < k) : n = manyW s w h := by
  obtain ⟨h1, h2, h3, h4, h5, h6, e⟩ := hi
  simp only at h3 e
  rw [← e, show k.toNat = 0 by omega]
  rfl
theorem vc_spec_loMany (s : List UInt8) (w h : Int) (hk : (ruleB s && inB w 1 9 && inB h 1 9) = true) : VC_spec_loMany s w h (retP (.int .i64 (manyW s w h))) := by
  unfold VC_spec_loMany
  have hb := size_bd hk
  rw [wrap64_in (x := 4 * w) (by omega), show 4 * w * h = 4 * (w * h) from Int.mul_assoc 4 w h, wrap64_in (x := 4 * (w * h)) (by omega), wrap64_in (x := w * h) (by omega)]
  refine ⟨by simp, ⟨mny_start hk⟩, fun a ha => ⟨fun hc => ?_, fun hc => ?_⟩⟩
  · obtain ⟨k, n⟩ := a
    have hc := of_decide_eq_true hc
    have hn := mul_six ⟨ha.2.2.2.2.1, ha.2.2.2.2.2.1⟩ hb.1
    have h81 := ha.2.2.2.1
    simp only at hc hn h81 ⊢
    rw [wrap64_in (x := n * s.length) (by omega), wrap64_in (x := k - 1) (by omega)]
    refine ⟨fun hbig => ?_, fun hbig => ⟨by simp, ⟨mny_next ha hc (of_decide_eq_false hbig), by omega⟩⟩⟩
    rw [retP_int, mny_big ha hc (of_decide_eq_true hbig)]
  · obtain ⟨k, n⟩ := a
    rw [retP_int]
    exact mny_end ha (of_decide_eq_false hc)
theorem vc_spec_loAsked (s : List UInt8) (w h : Int) (_ : True) : VC_spec_loAsked s w h (retP (.bool (asked s w h))) := by
  unfold VC_spec_loAsked
  refine ⟨⟨trivial⟩, fun h1 => ⟨⟨trivial⟩, fun h2 => ⟨⟨trivial⟩, fun h3 => ?_, fun h3 => ?_⟩, fun h2 => ?_⟩, fun h1 => ?_⟩
  · have hk : (ruleB s && inB w 1 9 && inB h 1 9) = true := by rw [h1, h2, h3]; rfl
    have hb := size_bd hk
    refine ⟨⟨hk⟩, fun h4 => ?_, fun h4 => ?_⟩
    · have h4' : decide (0 < manyW s w h) = true := h4
      rw [retP_bool, wrap64_in (x := 4 * w) (by omega), show 4 * w * h = 4 * (w * h) from Int.mul_assoc 4 w h, wrap64_in (x := 4 * (w * h)) (by omega)]
      unfold asked
      rw [hk, h4', decide_eq_true (by omega)]
      rfl
    · have h4' : decide (0 < manyW s w h) = false := h4
      rw [retP_lit]
      unfold asked
      rw [h4', Bool.and_false]
  · rw [retP_lit]; unfold asked; rw [h3, Bool.and_false, Bool.false_and]
  · rw [retP_lit]; unfold asked; rw [h2, Bool.and_false, Bool.false_and, Bool.false_and]
  · rw [retP_lit]; unfold asked; rw [h1, Bool.false_and, Bool.false_and, Bool.false_and]
theorem retP_cwn {b : Bool} {m : Int} (h : b = false) : retP (.tup [.int .i64 (bif b then m else 0), .bool b]) (.tup [.int .i64 0, .lit false]) := by
  subst h
  simp [retP, leV, leL, chkB, V.under, underL]
theorem retP_cwy {b : Bool} {m n : Int} (h : b = true) (hn : n = m) : retP (.tup [.int .i64 (bif b then m else 0), .bool b]) (.tup [.int .i64 n, .lit true]) := by
  subst h; subst hn
  simp [retP, leV, leL, chkB, V.under, underL]
theorem vc_spec_CountWorlds (s : List UInt8) (w h : Int) (_ : True) : VC_spec_CountWorlds s w h (retP (.tup [.int .i64 (bif asked s w h then manyW s w h else 0), .bool (asked s w h)])) := by
  unfold VC_spec_CountWorlds
  refine ⟨⟨trivial⟩, fun hn => retP_cwn (by simpa using hn), fun hn => ⟨⟨?_⟩, retP_cwy (by simpa using hn) rfl⟩⟩
  simp only [Bool.not_eq_false'] at hn
  unfold asked at hn
  simp only [Bool.and_eq_true] at hn ⊢
  exact hn.1
theorem vc_impl_CountWorlds (s : List UInt8) (w h : Int) (_ : True) : VC_impl_CountWorlds s w h (retP (.tup [.int .i64 (bif asked s w h then manyW s w h else 0), .bool (asked s w h)])) := by
  unfold VC_impl_CountWorlds
  refine ⟨⟨trivial⟩, fun h1 => retP_cwn ?_, fun h1 => ⟨⟨trivial⟩, fun h2 => ⟨⟨trivial⟩, fun h3 => retP_cwn ?_, fun h3 => ?_⟩, fun h2 => retP_cwn ?_⟩⟩
  · simp only [Bool.not_eq_true'] at h1
    unfold asked; rw [h1, Bool.false_and, Bool.false_and, Bool.false_and]
  · simp only [Bool.not_eq_true'] at h3
    unfold asked; rw [h3, Bool.and_false, Bool.false_and]
  · simp only [Bool.not_eq_false'] at h1 h3
    have hk : (ruleB s && inB w 1 9 && inB h 1 9) = true := by rw [h1, h2, h3]; rfl
    have hb := size_bd hk
    rw [wrap64_in (x := w * h) (by omega), wrap64_in (x := 4 * (w * h)) (by omega)]
    refine ⟨by simp, ⟨Int.le_refl _, by rw [Int.sub_zero]; exact mny_start hk⟩, fun a ha => ⟨fun hc => ?_, fun hc => ?_⟩⟩
    · obtain ⟨i, n⟩ := a
      obtain ⟨h0, ha⟩ := ha
      have hc := of_decide_eq_true hc
      have hn := mul_six ⟨ha.2.2.2.2.1, ha.2.2.2.2.2.1⟩ hb.1
      simp only at hc hn h0 ha ⊢
      rw [wrap64_in (x := n * s.length) (by omega), wrap64_in (x := i + 1) (by omega)]
      refine ⟨fun hbig => retP_cwn ?_, fun hbig => ⟨by simp, ⟨⟨by omega, ?_⟩, by omega⟩⟩⟩
      · have := mny_big ha (by omega) (of_decide_eq_true hbig)
        unfold asked
        rw [this]
        simp
      · rw [show w * h - (i + 1) = w * h - i - 1 by omega]
        exact mny_next ha (by omega) (of_decide_eq_false hbig)
    · obtain ⟨i, n⟩ := a
      obtain ⟨h0, ha⟩ := ha
      have hc := of_decide_eq_false hc
      have h1' := ha.2.2.2.2.1
      simp only at hc h0 ha h1'
      have e := mny_end ha (by omega)
      refine retP_cwy ?_ e
      unfold asked
      rw [hk, ← e, decide_eq_true (by omega)]
      rfl
  · unfold asked; rw [h2, Bool.and_false, Bool.false_and, Bool.false_and]
end Go.Vi
