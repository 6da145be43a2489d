/- A board shifted: the conditions hold. -/
import Derived.Test.YteleacldecambaaN2Vc
import Derived.Test.YteleacldecambaaN2Spec
namespace Go.Vi
theorem vc_impl_ShiftWorld_1 (x y right down : Int) (wr : List UInt8) (ww wh : Int) (wc : List UInt8) (wx wy wd : Int) (h : goodB ⟨wr, ww, wh, wc, wx, wy, wd⟩ = true ∧ 0 ≤ x ∧ x ≤ 9 ∧ 0 ≤ y ∧ y ≤ 9 ∧ 0 ≤ right ∧ right ≤ 9 ∧ 0 ≤ down ∧ down ≤ 9) : VC_impl_ShiftWorld_1 x y right down wr ww wh wc wx wy wd
    (retG 3 (.tup [.int .i64 ((x + right) % ww), .int .i64 ((y + down) % wh)]) [⟨.vals [.int .i64 right], 3, .box⟩, ⟨.vals [.str wr, .int .i64 ww, .int .i64 wh, .str wc, .int .i64 wx, .int .i64 wy, .int .i64 wd], 25, .box⟩, ⟨.vals [.int .i64 down], 3, .box⟩]) := by
  obtain ⟨hg, h1⟩ := h
  have hb := good_bd hg
  simp only at hb
  unfold VC_impl_ShiftWorld_1
  rw [wrap64_in (x := x + right) (by omega), wrap64_in (x := y + down) (by omega), tmod_emod (by omega), tmod_emod (by omega)]
  refine ⟨trivial, ⟨by omega⟩, ⟨by omega⟩, ?_⟩
  unfold retG leSel leSelBy autoSel
  simp [pairsL, pairsV, idPairs, pairsIn, selOf, lookN, selMem, chkB, nodupSel, hasSel, prefSel, leSt, leL, leV, nilToL, V.nilTo, selL, V.sel, Cells.selN, leMem, leCells, memUnder, underL, V.under]
theorem vc_spec_ShiftWorld (wr : List UInt8) (ww wh : Int) (wc : List UInt8) (wx wy wd right down : Int) (_ : True) : VC_spec_ShiftWorld wr ww wh wc wx wy wd right down
    (retP (okV (goodB ⟨wr, ww, wh, wc, wx, wy, wd⟩ && hasB ⟨wr, ww, wh, wc, wx, wy, wd⟩ right down) (shiftW ⟨wr, ww, wh, wc, wx, wy, wd⟩ right down))) := by
  unfold VC_spec_ShiftWorld
  refine ⟨⟨trivial⟩, fun hg => ?_, fun hg => ?_⟩
  · have hb := good_bd hg
    simp only at hb
    rw [wrap64_in (x := ww - 1) (by omega), wrap64_in (x := wh - 1) (by omega), hg]
    refine ⟨⟨trivial⟩, fun h1 => ⟨⟨trivial⟩, fun h2 => ?_, fun h2 => ?_⟩, fun h1 => ?_⟩
    · simp only [Bool.not_eq_true'] at h2
      simp only [hasB, h1, h2, Bool.and_false]
      exact retP_okl (u := zeroWd) rfl rfl
    · simp only [Bool.not_eq_false'] at h2
      simp only [hasB, h1, h2, Bool.and_true]
      have q1 := inB_eq.1 h1
      have q2 := inB_eq.1 h2
      refine ⟨⟨hg, by omega, by omega, rfl, ⟨.inr (.inr rfl), .inr (.inl rfl), .inr (.inl rfl), .inr (.inr rfl)⟩, by omega, by omega⟩, ?_⟩
      exact retP_okl (u := shiftW ⟨wr, ww, wh, wc, wx, wy, wd⟩ right down) rfl rfl
    · simp only [hasB, h1, Bool.false_and, Bool.and_false]
      exact retP_okl (u := zeroWd) rfl rfl
  · rw [hg]
    exact retP_okl (u := zeroWd) rfl rfl
theorem vc_impl_ShiftWorld (wr : List UInt8) (ww wh : Int) (wc : List UInt8) (wx wy wd right down : Int) (_ : True) : VC_impl_ShiftWorld wr ww wh wc wx wy wd right down
    (retP (okV (goodB ⟨wr, ww, wh, wc, wx, wy, wd⟩ && hasB ⟨wr, ww, wh, wc, wx, wy, wd⟩ right down) (shiftW ⟨wr, ww, wh, wc, wx, wy, wd⟩ right down))) := by
  unfold VC_impl_ShiftWorld
  refine ⟨⟨trivial⟩, fun hg => ?_, fun hg => ?_⟩
  · simp only [Bool.not_eq_true'] at hg
    rw [hg]
    exact retP_okl (u := zeroWd) rfl rfl
  · simp only [Bool.not_eq_false'] at hg
    have hb := good_bd hg
    have h9 := good_nine hg
    simp only at hb h9
    rw [wrap64_in (x := ww - 1) (by omega), wrap64_in (x := wh - 1) (by omega)]
    refine ⟨⟨trivial⟩, fun h1 => ⟨⟨trivial⟩, fun h2 => ?_, fun h2 => ?_⟩, fun h1 => ?_⟩
    · simp only [Bool.not_eq_true'] at h2
      simp only [hasB, h1, h2, Bool.and_false]
      exact retP_okl (u := zeroWd) rfl rfl
    · simp only [Bool.not_eq_false'] at h2
      have q1 := inB_eq.1 h1
      have q2 := inB_eq.1 h2
      refine ⟨⟨by omega⟩, by simp [rlF], ⟨by omega, by omega⟩, fun i hi => ⟨fun hc => ?_, fun hc => ?_⟩⟩
      · have hc := of_decide_eq_true hc
        have ha := hi.1
        obtain ⟨hqx, hqy⟩ := cut_bd (w := ww) (h := wh) (i := i) ⟨ha, by omega⟩ (by omega)
        have hu8 := byte_lt (wc.getD i.toNat 0)
        have f1 := emod_bd (i % ww + right) hb.1.1
        have f2 := emod_bd (i / ww + down) hb.2.1.1
        have hst := lay_step (pl := plA 1 0 right 0 1 down ww wh) (ww := ww) (width := ww) (c := wc) (init := List.replicate wc.length 0) ha pl_shift
        have hfl := flat_bd (x := (i % ww + right) % ww) (y := (i / ww + down) % wh) (w := ww) (h := wh) (by omega) (by omega)
        have hmb := mul_bd hb.1 hb.2.1
        have hyb : 0 ≤ ((i / ww + down) % wh) * ww ∧ ((i / ww + down) % wh) * ww ≤ 1000 := by
          have := Int.mul_nonneg (a := (i / ww + down) % wh) (b := ww) (by omega) (by omega)
          omega
        rw [tmod_emod ha, Int.tdiv_eq_ediv_of_nonneg ha, wrap64_in (x := i / ww) (by omega), wrap64_in (x := ((i / ww + down) % wh) * ww) (by omega), wrap64_in (x := ((i / ww + down) % wh) * ww + ((i % ww + right) % ww)) (by omega), wrap64_in (x := i + 1) (by omega), hst]
        refine ⟨trivial, ⟨by omega⟩, ⟨by omega⟩, ⟨hg, by omega⟩, ⟨ha, hc⟩, ⟨by omega⟩, ⟨by rw [rlF_len, List.length_replicate]; omega, by omega, by omega⟩, by simp, ⟨⟨by omega, by omega⟩, by omega⟩⟩
      · have hc := of_decide_eq_false hc
        have hie : i = wc.length := by have := hi.2; omega
        have hE := lay_end (pl := plA 1 0 right 0 1 down ww wh) (c := wc) onto_shift (by omega) rfl hb.2.2.2.2.2.1 hie
        have hA : At (((wc.length : Int)).toNat ≤ (rlF (plA 1 0 right 0 1 down ww wh) ww ww wc (List.replicate wc.length 0) i.toNat).length) := ⟨by rw [rlF_len, List.length_replicate]; omega⟩
        rw [hE]
        have hu : retP (okV (goodB ⟨wr, ww, wh, wc, wx, wy, wd⟩ && hasB ⟨wr, ww, wh, wc, wx, wy, wd⟩ right down) (shiftW ⟨wr, ww, wh, wc, wx, wy, wd⟩ right down)) (.tup [wdV ⟨wr, ww, wh, rlF (plA 1 0 right 0 1 down ww wh) ww ww wc (List.replicate (ww * wh).toNat 48) (ww * wh).toNat, (wx + right) % ww, (wy + down) % wh, wd⟩, .lit true]) := by
          simp only [hg, hasB, h1, h2, Bool.and_true]
          refine retP_okl rfl ?_
          have e := mapW_eq hg (plA 1 0 right 0 1 down ww wh) ww wh
          simp only [pl_shift] at e
          simp only [cond_true, shiftW, e]
        exact ⟨hA, ⟨hg, by omega⟩, hu⟩
    · simp only [hasB, h1, Bool.false_and, Bool.and_false]
      exact retP_okl (u := zeroWd) rfl rfl
end Go.Vi
