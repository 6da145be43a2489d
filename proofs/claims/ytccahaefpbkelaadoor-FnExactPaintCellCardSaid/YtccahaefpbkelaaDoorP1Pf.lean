/- PaintCell's conditions hold. -/
import Derived.Test.YtccahaefpbkelaaDoorP1Vc
import Derived.Test.YtccahaefpbkelaaDoorP1Spec
namespace Go.Vi
theorem paint_facts {wr : List UInt8} {ww wh : Int} {wc : List UInt8} {wx wy wd x y k : Int} (hg : goodB ⟨wr, ww, wh, wc, wx, wy, wd⟩ = true) (h1 : inB x 0 (ww - 1) = true) (h2 : inB y 0 (wh - 1) = true) (h3 : inB k 0 ((wr.length : Int) - 1) = true) :
    IntKind.wrap .i64 (y * ww) = y * ww ∧ IntKind.wrap .i64 (y * ww + x) = y * ww + x ∧ IntKind.wrap .i64 (y * ww + x + 1) = y * ww + x + 1 ∧ 0 ≤ y * ww + x ∧ y * ww + x + 1 ≤ (wc.length : Int) ∧ 0 ≤ k ∧ k ≤ 9 ∧ wc.length ≤ 81 ∧ (y * ww + x + 1).toNat = (y * ww + x).toNat + 1 := by
  have hc := cell_bd hg (x := x) (y := y) (by unfold hasB; rw [h1, h2]; rfl)
  have hb := good_nine hg
  rw [inB_eq] at h3
  simp only at hc hb
  refine ⟨wrap64_in (by omega), wrap64_in (by omega), wrap64_in (by omega), by omega, by omega, by omega, by omega, by omega, by omega⟩
theorem vc_spec_PaintCell (wr : List UInt8) (ww wh : Int) (wc : List UInt8) (wx wy wd x y k : Int) (_ : True) : VC_spec_PaintCell wr ww wh wc wx wy wd x y k
    (retP (okV (paintB ⟨wr, ww, wh, wc, wx, wy, wd⟩ x y k) { (⟨wr, ww, wh, wc, wx, wy, wd⟩ : Wd) with c := paintC ⟨wr, ww, wh, wc, wx, wy, wd⟩ x y k })) := by
  unfold VC_spec_PaintCell paintB
  by_cases hg : goodB ⟨wr, ww, wh, wc, wx, wy, wd⟩ = true
  · have hb := good_bd hg
    simp only at hb
    rw [wrap64_in (x := ww - 1) (by omega), wrap64_in (x := wh - 1) (by omega), wrap64_in (x := (wr.length : Int) - 1) (by omega)]
    cases h1 : inB x 0 (ww - 1)
    · simp [hg, h1, hasB, okV, wdV, zeroWd, retP, leV, leL, chkB, V.under, underL]
    cases h2 : inB y 0 (wh - 1)
    · simp [hg, h1, h2, hasB, okV, wdV, zeroWd, retP, leV, leL, chkB, V.under, underL]
    cases h3 : inB k 0 ((wr.length : Int) - 1)
    · simp [hg, h1, h2, hasB, okV, wdV, zeroWd, retP, leV, leL, chkB, V.under, underL]
    obtain ⟨e1, e2, e3, f1, f2, f3, f4, f5, f6⟩ := paint_facts hg h1 h2 h3
    rw [e1, e2, e3, f6]
    simp only [at_iff, hg, hasB, h1, h2, Bool.not_true, Bool.and_self, Bool.true_eq_false, Bool.false_eq_true, false_imp_iff, true_imp_iff, true_and, and_true, List.length_append, num1_len, List.length_take, List.length_drop]
    refine ⟨⟨by omega, by omega⟩, ⟨by omega, by omega⟩, by omega, ⟨by omega, by omega⟩, by omega, ?_⟩
    simp [okV, wdV, paintC, cellIx, retP, leV, leL, chkB, V.under, underL]
  · simp only [Bool.not_eq_true] at hg
    simp [hg, okV, wdV, zeroWd, retP, leV, leL, chkB, V.under, underL]
theorem vc_impl_PaintCell (wr : List UInt8) (ww wh : Int) (wc : List UInt8) (wx wy wd x y k : Int) (_ : True) : VC_impl_PaintCell wr ww wh wc wx wy wd x y k
    (retP (okV (paintB ⟨wr, ww, wh, wc, wx, wy, wd⟩ x y k) { (⟨wr, ww, wh, wc, wx, wy, wd⟩ : Wd) with c := paintC ⟨wr, ww, wh, wc, wx, wy, wd⟩ x y k })) := by
  unfold VC_impl_PaintCell paintB
  by_cases hg : goodB ⟨wr, ww, wh, wc, wx, wy, wd⟩ = true
  · have hb := good_bd hg
    simp only at hb
    rw [wrap64_in (x := ww - 1) (by omega), wrap64_in (x := wh - 1) (by omega), wrap64_in (x := (wr.length : Int) - 1) (by omega)]
    cases h1 : inB x 0 (ww - 1)
    · simp [hg, h1, hasB, okV, wdV, zeroWd, retP, leV, leL, chkB, V.under, underL]
    cases h2 : inB y 0 (wh - 1)
    · simp [hg, h1, h2, hasB, okV, wdV, zeroWd, retP, leV, leL, chkB, V.under, underL]
    cases h3 : inB k 0 ((wr.length : Int) - 1)
    · simp [hg, h1, h2, hasB, okV, wdV, zeroWd, retP, leV, leL, chkB, V.under, underL]
    obtain ⟨e1, e2, e3, f1, f2, f3, f4, f5, f6⟩ := paint_facts hg h1 h2 h3
    rw [e1, e2, e3, f6]
    simp only [at_iff, hg, hasB, h1, h2, Bool.not_true, Bool.and_self, Bool.true_eq_false, Bool.false_eq_true, false_imp_iff, true_imp_iff, true_and, and_true, List.length_append, num1_len, List.length_take, List.length_drop]
    refine ⟨⟨by omega, by omega⟩, ⟨by omega, by omega⟩, by omega, ⟨by omega, by omega⟩, by omega, ?_⟩
    simp [okV, wdV, paintC, cellIx, retP, leV, leL, chkB, V.under, underL]
  · simp only [Bool.not_eq_true] at hg
    simp [hg, okV, wdV, zeroWd, retP, leV, leL, chkB, V.under, underL]
end Go.Vi
