/- TurnsAfter's conditions hold. -/
import Derived.Test.YtbchncdchanomabDoorT1Vc
import Derived.Test.YtbchncdchanomabDoorT1Spec
namespace Go.Vi
theorem retP_txt {s : List UInt8} {t : List UInt8} {b ok : Bool} (h : b = ok) (ht : t = bif ok then s else []) : retP (.tup [.str (bif ok then s else []), .bool ok]) (.tup [.str t, .lit b]) := by
  subst h; subst ht
  simp [retP, leV, leL, chkB, V.under, underL]
theorem trn_step {s0 : Int} {w0 : Wd} {s : Int} {v : Wd} {l : List UInt8} (h : trnInv s0 w0 ⟨s, v, l⟩) (hs : 0 < s) : trnInv s0 w0 ⟨s - 1, stepW v, l ++ [v.r.getD (colAt v v.x v.y).toNat 0]⟩ := by
  obtain ⟨h1, h2, h3, h4, h5, h6⟩ := h
  simp only at h1 h3 h4 h5 h6
  refine ⟨good_step h1, h2, by simp only; omega, by simp only; omega, by simp only [List.length_append, List.length_cons, List.length_nil]; omega, ?_⟩
  simp only
  rw [← h6, show s.toNat = (s - 1).toNat + 1 by omega, List.append_assoc]
  rfl
theorem trn_done {s0 : Int} {w0 : Wd} {s : Int} {v : Wd} {l : List UInt8} (h : trnInv s0 w0 ⟨s, v, l⟩) (hs : s ≤ 0) : l = turnsW s0.toNat w0 := by
  obtain ⟨_, _, h3, _, _, h6⟩ := h
  simp only at h3 h6
  rw [← h6, show s.toNat = 0 by omega]
  simp [turnsW]
theorem cut_one {r : List UInt8} {c : Int} (hc : 0 ≤ c ∧ c < r.length) : (r.take (c + 1).toNat).drop c.toNat = [r.getD c.toNat 0] := by
  have hlt : c.toNat < r.length := by omega
  rw [show (c + 1).toNat = c.toNat + 1 by omega, List.take_succ_eq_append_getElem hlt, List.drop_append_of_le_length (by simp; omega), List.drop_eq_nil_of_le (by simp; omega), List.getD_eq_getElem?_getD, List.getElem?_eq_getElem hlt]
  rfl
theorem vc_spec_TurnsAfter (wr : List UInt8) (ww wh : Int) (wc : List UInt8) (wx wy wd steps : Int) (_ : True) : VC_spec_TurnsAfter wr ww wh wc wx wy wd steps
    (retP (.tup [.str (bif goodB ⟨wr, ww, wh, wc, wx, wy, wd⟩ && inB steps 0 3000 then turnsW steps.toNat ⟨wr, ww, wh, wc, wx, wy, wd⟩ else []), .bool (goodB ⟨wr, ww, wh, wc, wx, wy, wd⟩ && inB steps 0 3000)])) := by
  unfold VC_spec_TurnsAfter
  refine ⟨⟨trivial⟩, fun hg => ⟨⟨trivial⟩, fun hs => ?_, fun hs => ⟨by simp, ⟨hg, ?_⟩, fun a ha => ⟨fun hc => ?_, fun hc => ?_⟩⟩⟩, fun hg => ?_⟩
  · simp only [Bool.not_eq_true'] at hs
    rw [hg, hs]
    exact retP_txt rfl rfl
  · simp only [Bool.not_eq_false'] at hs
    have := inB_eq.1 hs
    exact ⟨hs, by simp only; omega, by simp only; omega, by simp, rfl⟩
  · obtain ⟨s, v, l⟩ := a
    simp only at hc ⊢
    have hc := of_decide_eq_true hc
    have hgv : goodB v = true := ha.1
    have hh := good_has hgv
    have hb := colAt_bd hgv hh
    have hl : (l.length : Int) ≤ 3000 := by
      have h1 := inB_eq.1 ha.2.1
      have h2 := ha.2.2.2.2.1
      have h3 := ha.2.2.1
      simp only at h2 h3
      omega
    have hd : -9223372036854775808 ≤ s ∧ s ≤ 9223372036854775807 := by
      have h1 := inB_eq.1 ha.2.1
      have h2 := ha.2.2.2.1
      simp only at h2
      omega
    rw [wrap64_in (x := colAt v v.x v.y + 1) (by omega), cut_one ⟨hb.1, hb.2.1⟩, wrap64_in (x := s - 1) (by omega)]
    refine ⟨⟨hgv, hh⟩, ⟨by omega⟩, ⟨by simp only [List.length_cons, List.length_nil]; omega⟩, ⟨hgv⟩, by simp, ⟨trn_step ha hc, by omega⟩⟩
  · simp only [Bool.not_eq_false'] at hs
    rw [hg, hs]
    have hc := of_decide_eq_false hc
    exact retP_txt rfl (trn_done ha (by omega))
  · rw [hg]
    exact retP_txt rfl rfl
theorem vc_impl_TurnsAfter (wr : List UInt8) (ww wh : Int) (wc : List UInt8) (wx wy wd steps : Int) (_ : True) : VC_impl_TurnsAfter wr ww wh wc wx wy wd steps
    (retP (.tup [.str (bif goodB ⟨wr, ww, wh, wc, wx, wy, wd⟩ && inB steps 0 3000 then turnsW steps.toNat ⟨wr, ww, wh, wc, wx, wy, wd⟩ else []), .bool (goodB ⟨wr, ww, wh, wc, wx, wy, wd⟩ && inB steps 0 3000)])) := by
  unfold VC_impl_TurnsAfter
  refine ⟨⟨trivial⟩, fun hg => ?_, fun hg => ⟨⟨trivial⟩, fun hs => ?_, fun hs => ?_⟩⟩
  · simp only [Bool.not_eq_true'] at hg
    rw [hg]
    exact retP_txt rfl rfl
  · simp only [Bool.not_eq_true', Bool.not_eq_false'] at hs hg
    rw [hg, hs]
    exact retP_txt rfl rfl
  · simp only [Bool.not_eq_false'] at hs hg
    have hsb := inB_eq.1 hs
    refine ⟨⟨by omega⟩, by simp, ⟨hg, hs, ?_, ?_, ?_, ?_⟩, fun a ha => ⟨fun hc => ?_, fun hc => ?_⟩⟩
    · simp only; omega
    · simp only; omega
    · simp
    · simp
    · obtain ⟨s, v, l⟩ := a
      simp only at hc ha ⊢
      have hc := of_decide_eq_true hc
      have hgv : goodB v = true := ha.1
      have hh := good_has hgv
      have hl : (l.length : Int) = s := by
        have h2 := ha.2.2.2.2.1
        simp only at h2
        omega
      have hst := trn_step ha (by omega)
      have e : List.map (fun n : Int => UInt8.ofNat n.toNat) [signAt v (colAt v v.x v.y)] = [v.r.getD (colAt v v.x v.y).toNat 0] := by
        simp [signAt]
      rw [e, wrap64_in (x := s + 1) (by omega)]
      refine ⟨⟨hgv⟩, ⟨fun n hn => ?_⟩, ⟨⟨by omega, by simp⟩, by omega, by omega⟩, ⟨hgv⟩, by simp, ⟨?_, by omega⟩⟩
      · rw [List.mem_singleton] at hn
        subst hn
        have := byte_lt (v.r.getD (colAt v v.x v.y).toNat 0)
        unfold signAt
        omega
      · rw [show steps - (s + 1) = steps - s - 1 by omega]
        exact hst
    · have hc := of_decide_eq_false hc
      rw [hg, hs]
      refine ⟨⟨Nat.le_refl _⟩, retP_txt rfl ?_⟩
      rw [List.take_length]
      exact trn_done ha (by omega)
end Go.Vi
