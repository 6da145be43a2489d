/- BackWorld's and CountColours' conditions hold. -/
import Derived.Test.YtbchncdchanomabB1Vc
import Derived.Test.YtbchncdchanomabB1Spec
namespace Go.Vi
theorem revFrom_len {s : List UInt8} {i : Int} (h : revInv s i) : ((revFrom s i).length : Int) = s.length - 1 - i := by
  unfold revFrom
  simp only [List.length_reverse, List.length_drop]
  obtain ⟨h1, h2, _⟩ := h
  omega
theorem revFrom_step {s : List UInt8} {i : Int} (h0 : 0 ≤ i) (h : i < s.length) : revFrom s i ++ [s.getD i.toNat 0] = revFrom s (i - 1) := by
  unfold revFrom
  rw [show (i - 1 + 1).toNat = i.toNat by omega, show (i + 1).toNat = i.toNat + 1 by omega, drop_getD (show i.toNat < s.length by omega), List.reverse_cons]
theorem revFrom_end {s : List UInt8} {i : Int} (h0 : ¬ 0 ≤ i) : revFrom s i = s.reverse := by
  unfold revFrom
  rw [show (i + 1).toNat = 0 by omega, List.drop_zero]
theorem revFrom_start (s : List UInt8) : revFrom s ((s.length : Int) - 1) = [] := by
  unfold revFrom
  rw [show ((s.length : Int) - 1 + 1).toNat = s.length by omega, List.drop_length]; rfl
theorem revInv_step {s : List UInt8} {i : Int} (h : revInv s i) (h0 : 0 ≤ i) : revInv s (i - 1) ∧ (i - 1 + 1).toNat < (i + 1).toNat := by
  obtain ⟨h1, h2, h3⟩ := h
  exact ⟨⟨by omega, by omega, h3⟩, by omega⟩
theorem cut_one' {r : List UInt8} {c : Int} (hc : 0 ≤ c ∧ c < r.length) : (r.take (c + 1).toNat).drop c.toNat = [r.getD c.toNat 0] := by
  have hlt : c.toNat < r.length := by omega
  rw [show (c + 1).toNat = c.toNat + 1 by omega, take_succ_getD hlt, List.drop_append_of_le_length (by simp; omega), List.drop_eq_nil_of_le (by simp; omega)]
  rfl
theorem vc_spec_woReverse (s : List UInt8) (h : s.length ≤ 1000) : VC_spec_woReverse s (retP (.str s.reverse)) := by
  unfold VC_spec_woReverse
  rw [wrap64_in (x := (s.length : Int) - 1) (by omega)]
  refine ⟨by simp [revFrom_start], ⟨by omega, by omega, h⟩, fun i hi => ⟨fun hc => ?_, fun hc => ?_⟩⟩
  · have hc := of_decide_eq_true hc
    have hl := revFrom_len hi
    have hi' := hi
    obtain ⟨h1, h2, _⟩ := hi'
    rw [wrap64_in (x := i + 1) (by omega), wrap64_in (x := i - 1) (by omega), cut_one' ⟨hc, h2⟩]
    refine ⟨⟨by omega⟩, ⟨by simp only [List.length_cons, List.length_nil]; omega⟩, by rw [revFrom_step hc h2]; simp, ⟨revInv_step hi hc⟩⟩
  · have hc := of_decide_eq_false hc
    rw [retP_str, revFrom_end hc]
theorem vc_impl_backwards (s : List UInt8) (h : s.length ≤ 1000) : VC_impl_backwards s (retP (.str s.reverse)) := by
  unfold VC_impl_backwards
  rw [wrap64_in (x := (s.length : Int) - 1) (by omega)]
  refine ⟨⟨by omega⟩, by simp [revFrom_start], ⟨by omega, by omega, h⟩, fun i hi => ⟨fun hc => ?_, fun hc => ?_⟩⟩
  · have hc := of_decide_eq_true hc
    have hl := revFrom_len hi
    have hi' := hi
    obtain ⟨h1, h2, _⟩ := hi'
    have e : List.take (1 * 1) (List.map (fun n : Int => UInt8.ofNat n.toNat) [((s.getD i.toNat 0).toNat : Int)]) = [s.getD i.toNat 0] := by simp
    have hs := revFrom_step hc h2
    have hls : (revFrom s i).length + 1 = (revFrom s (i - 1)).length := by rw [← hs]; simp
    rw [wrap64_in (x := i - 1) (by omega), e, hs, hls]
    refine ⟨⟨hc, h2⟩, ⟨fun n hn => ?_⟩, ⟨⟨by omega, by simp⟩, by omega, by omega⟩, by simp, ⟨revInv_step hi hc⟩⟩
    rw [List.mem_singleton] at hn
    subst hn
    have := byte_lt (s.getD i.toNat 0)
    omega
  · have hc := of_decide_eq_false hc
    refine ⟨⟨Nat.le_refl _⟩, ?_⟩
    rw [retP_str, List.take_length, revFrom_end hc]
/-! ### rows of numbers -/
theorem retG_int1 {q r : Int} {a b : List Int} {e : TypeId} (h : q = r) (hb : b = a) : retG 1 (.int .i64 r) [⟨.ints .i64 a, e, .row⟩] (.int .i64 q) [⟨.ints .i64 b, e, .row⟩] := by
  subst h; subst hb
  unfold retG leSel leSelBy autoSel
  simp [pairsL, pairsV, idPairs, pairsIn, selOf, lookN, selMem, chkB, nodupSel, hasSel, prefSel, leSt, leL, leV, nilToL, V.nilTo, selL, V.sel, Cells.selN, leMem, leCells, memUnder, underL, V.under]
theorem retG_lit2 {q : Bool} {r : Bool} {a b : List Int} {e : TypeId} (h : q = r) : retG 2 (.bool r) [⟨.ints .i64 a, e, .row⟩, ⟨.ints .i64 b, e, .row⟩] (.lit q) [⟨.ints .i64 a, e, .row⟩, ⟨.ints .i64 b, e, .row⟩] := by
  subst h
  unfold retG leSel leSelBy autoSel
  simp [pairsL, pairsV, idPairs, pairsIn, selOf, lookN, selMem, chkB, nodupSel, hasSel, prefSel, leSt, leL, leV, nilToL, V.nilTo, selL, V.sel, Cells.selN, leMem, leCells, memUnder, underL, V.under]
theorem take_succ_int {l : List Int} {i : Nat} (h : i < l.length) : l.take (i + 1) = l.take i ++ [l.getD i 0] := by
  rw [List.take_succ_eq_append_getElem h]
  simp [List.getD_eq_getElem?_getD, List.getElem?_eq_getElem h]
theorem ne_of_take {a b : List Int} {i : Nat} (h : (a.getD i 0 != b.getD i 0) = true) : (a == b) = false := by
  rw [beq_eq_false_iff_ne]
  rintro rfl
  simp at h
theorem vc_laws_eqIntS (n m : Nat) (a b : List Int) (h : n = a.length ∧ m = b.length ∧ n ≤ 1000 ∧ m ≤ 1000) : VC_laws_eqIntS n m a b (retG 2 (.bool (a == b)) [⟨.ints .i64 a, 3, .row⟩, ⟨.ints .i64 b, 3, .row⟩]) := by
  obtain ⟨rfl, rfl, h1, h2⟩ := h
  unfold VC_laws_eqIntS
  refine ⟨fun hne => ?_, fun heq => ⟨by simp, ?_, fun i hi => ⟨fun hc => ?_, fun hc => ?_⟩⟩⟩
  · refine retG_lit2 ?_
    symm
    rw [beq_eq_false_iff_ne]
    rintro rfl
    simp at hne
  · simp only [bne_eq_false_iff_eq] at heq
    exact ⟨by omega, by omega, by omega, h1, rfl⟩
  · have hc := of_decide_eq_true hc
    obtain ⟨g1, g2, g3, g4, g5⟩ := hi
    have hla : i.toNat < a.length := by omega
    have hlb : i.toNat < b.length := by omega
    rw [wrap64_in (x := i + 1) (by omega)]
    refine ⟨trivial, ⟨g1, hc⟩, ⟨hla⟩, ⟨by omega, by omega⟩, ⟨hlb⟩, fun hn => retG_lit2 (ne_of_take hn).symm, fun he => ⟨by simp, ⟨⟨by omega, by omega, g3, g4, ?_⟩, by omega⟩⟩⟩
    simp only [bne_eq_false_iff_eq] at he
    rw [show (i + 1).toNat = i.toNat + 1 by omega, take_succ_int hla, take_succ_int hlb, g5, he]
  · have hc := of_decide_eq_false hc
    obtain ⟨g1, g2, g3, g4, g5⟩ := hi
    refine retG_lit2 ?_
    rw [List.take_of_length_le (by omega), List.take_of_length_le (by omega)] at g5
    simp [g5]
theorem ramp_len (k : Int) (n : Nat) : (ramp k n).length = n := by simp [ramp]
theorem ramp_succ (k : Int) (n : Nat) : ramp k (n + 1) = ramp k n ++ [k + (n : Int)] := by simp [ramp, List.range_succ]
theorem mrkRow_len {a : List Int} {k i : Int} (h : mrkInv a k i) : (mrkRow a k i).length = a.length := by
  obtain ⟨h1, h2, _⟩ := h
  simp only [mrkRow, List.length_append, ramp_len, List.length_drop]
  omega
theorem mrkRow_set {a : List Int} {k i : Int} (h : mrkInv a k i) (hi : i < a.length) : (mrkRow a k i).set i.toNat (k + i) = mrkRow a k (i + 1) := by
  obtain ⟨h1, h2, _⟩ := h
  have hl : i.toNat < a.length := by omega
  unfold mrkRow
  rw [List.set_append_right _ _ (by rw [ramp_len]; exact Nat.le_refl _), ramp_len, Nat.sub_self, List.drop_eq_getElem_cons hl, List.set_cons_zero, show (i + 1).toNat = i.toNat + 1 by omega, ramp_succ, List.append_assoc]
  simp only [List.singleton_append]
  rw [show ((i.toNat : Nat) : Int) = i by omega]
theorem mrkInv_step {a : List Int} {k i : Int} (h : mrkInv a k i) (hi : i < a.length) : mrkInv a k (i + 1) ∧ ((a.length : Int) - (i + 1)).toNat < ((a.length : Int) - i).toNat := by
  obtain ⟨h1, h2, h3, h4, h5⟩ := h
  exact ⟨⟨by omega, by omega, h3, h4, h5⟩, by omega⟩
theorem vc_laws_markIntS (k : Int) (n : Nat) (a : List Int) (h : n = a.length ∧ n ≤ 1000 ∧ 0 ≤ k ∧ k ≤ 1000) : VC_laws_markIntS k n a (retG 1 (.int .i64 (k + n)) [⟨.ints .i64 (ramp k n), 3, .row⟩]) := by
  obtain ⟨rfl, h1, h2, h3⟩ := h
  unfold VC_laws_markIntS
  refine ⟨by simp [mrkRow, ramp], ⟨by omega, by omega, h1, h2, h3⟩, fun i hi => ⟨fun hc => ?_, fun hc => ?_⟩⟩
  · have hc := of_decide_eq_true hc
    have hb := hi
    obtain ⟨g1, g2, g3, g4, g5⟩ := hb
    have hst := mrkInv_step hi hc
    rw [wrap64_in (x := i + 1) (by omega), wrap64_in (x := k + i + 1) (by omega), mrkRow_len hi, mrkRow_set hi hc]
    refine ⟨⟨g1, hc⟩, ⟨by omega⟩, by simp [Int.add_assoc], ⟨hst⟩⟩
  · have hc := of_decide_eq_false hc
    obtain ⟨g1, g2, _⟩ := hi
    have e : i = (a.length : Int) := by omega
    subst e
    refine retG_int1 rfl ?_
    unfold mrkRow
    rw [show ((a.length : Int)).toNat = a.length by omega, List.drop_length, List.append_nil]
theorem vc_laws_heldIntS (k : Int) (n : Nat) (a : List Int) (h : n = a.length ∧ n ≤ 1000 ∧ 0 ≤ k ∧ k ≤ 1000) : VC_laws_heldIntS k n a (retG 1 (.int .i64 (bif a == ramp k n then k + n else -1)) [⟨.ints .i64 a, 3, .row⟩]) := by
  obtain ⟨rfl, h1, h2, h3⟩ := h
  unfold VC_laws_heldIntS
  refine ⟨by simp, ⟨⟨by omega, by omega, h1, h2, h3⟩, by simp [ramp]⟩, fun i hi => ⟨fun hc => ?_, fun hc => ?_⟩⟩
  · have hc := of_decide_eq_true hc
    obtain ⟨hm, ht⟩ := hi
    have hb := hm
    obtain ⟨g1, g2, g3, g4, g5⟩ := hb
    have hst := mrkInv_step hm hc
    have hl : i.toNat < a.length := by omega
    rw [wrap64_in (x := i + 1) (by omega), wrap64_in (x := k + i + 1) (by omega)]
    refine ⟨⟨g1, hc⟩, ⟨hl⟩, fun hn => retG_int1 ?_ rfl, fun he => ⟨by simp [Int.add_assoc], ⟨⟨hst.1, ?_⟩, hst.2⟩⟩⟩
    · have : (a == ramp k a.length) = false := by
        rw [beq_eq_false_iff_ne]
        intro e
        have e2 : a.getD i.toNat 0 = (ramp k a.length).getD i.toNat 0 := by rw [← e]
        rw [e2] at hn
        simp [ramp, List.getD_eq_getElem?_getD, hl] at hn
        omega
      rw [this]; rfl
    · simp only [bne_eq_false_iff_eq] at he
      rw [show (i + 1).toNat = i.toNat + 1 by omega, take_succ_int hl, ramp_succ, ht, he, show ((i.toNat : Nat) : Int) = i by omega]
  · have hc := of_decide_eq_false hc
    obtain ⟨⟨g1, g2, _⟩, ht⟩ := hi
    have e : i = (a.length : Int) := by omega
    subst e
    rw [show ((a.length : Int)).toNat = a.length by omega, List.take_length] at ht
    refine retG_int1 ?_ rfl
    rw [← ht]
    simp
/-! ### BackWorld -/
theorem cell_facts {w : Wd} (hg : goodB w = true) {i : Int} (hi : 0 ≤ i ∧ i < w.c.length) : 48 ≤ ((w.c.getD i.toNat 0).toNat : Int) ∧ ((w.c.getD i.toNat 0).toNat : Int) - 48 ≤ (w.r.length : Int) - 1 ∧ (1 : Int) ≤ w.r.length ∧ (w.r.length : Int) ≤ 6 ∧ w.c.length ≤ 81 := by
  have h1 := col_bd hg (i := i.toNat) (by omega)
  have h2 := good_bd hg
  have h3 := good_nine hg
  omega
theorem bkCol_bd {n : Int} {b : UInt8} (hn : 1 ≤ n) : 0 ≤ bkCol n b ∧ bkCol n b ≤ n - 1 := by
  have := emod_bd ((b.toNat : Int) - 48 - 1) hn
  unfold bkCol
  omega
theorem bkB_zero {n : Int} {b : UInt8} (hn : 1 ≤ n) (hb : (b.toNat : Int) = 48) : bkB n b = b := by
  have e : bkCol n b = 0 := by
    unfold bkCol
    rw [hb, show (48 : Int) - 48 - 1 = (n - 1) + n * (-1) by omega, Int.add_mul_emod_self_left, Int.emod_eq_of_lt (by omega) (by omega)]
    omega
  unfold bkB
  rw [e]
  apply UInt8.toNat_inj.1
  rw [UInt8.toNat_ofNat']
  omega
theorem bkB_else {n : Int} {b : UInt8} (hb : 48 < (b.toNat : Int) ∧ (b.toNat : Int) - 48 ≤ n - 1) : bkCol n b = n - ((b.toNat : Int) - 48) := by
  unfold bkCol
  rw [Int.emod_eq_of_lt (by omega) (by omega)]
  omega
theorem backC_len (n : Int) (c : List UInt8) : (backC n c).length = c.length := by simp [backC]
theorem backC_step {n : Int} {c : List UInt8} {i : Int} (h0 : 0 ≤ i) (hi : i < c.length) : backC n (c.take i.toNat) ++ num1 (bkCol n (c.getD i.toNat 0)) = backC n (c.take (i + 1).toNat) := by
  rw [show (i + 1).toNat = i.toNat + 1 by omega, take_succ_getD (show i.toNat < c.length by omega)]
  simp [backC, num1, bkB]
theorem bkInv_step {c : List UInt8} {i : Int} (h : bkInv c i) (hi : i < c.length) : bkInv c (i + 1) ∧ ((c.length : Int) - (i + 1)).toNat < ((c.length : Int) - i).toNat := by
  obtain ⟨h1, h2⟩ := h
  exact ⟨⟨by omega, by omega⟩, by omega⟩
theorem vc_spec_BackWorld (wr : List UInt8) (ww wh : Int) (wc : List UInt8) (wx wy wd : Int) (_ : True) : VC_spec_BackWorld wr ww wh wc wx wy wd (retP (okV (goodB ⟨wr, ww, wh, wc, wx, wy, wd⟩) (bkWd ⟨wr, ww, wh, wc, wx, wy, wd⟩))) := by
  unfold VC_spec_BackWorld
  refine ⟨⟨trivial⟩, fun hg => ?_, fun hg => ?_⟩
  · simp only [Bool.not_eq_true'] at hg
    rw [hg]
    exact retP_okl (u := zeroWd) rfl rfl
  · simp only [Bool.not_eq_false'] at hg
    have hb := good_bd hg
    simp only at hb
    have hl : (othR wr).length ≤ 1000 := by rw [othR_len]; omega
    refine ⟨⟨by omega⟩, ⟨hl⟩, by simp [backC], ⟨by omega, by omega⟩, fun i hi => ⟨fun hc => ?_, fun hc => ?_⟩⟩
    · have hc := of_decide_eq_true hc
      have hf := cell_facts hg ⟨hi.1, hc⟩
      simp only at hf
      have hk := bkCol_bd (n := wr.length) (b := wc.getD i.toNat 0) hf.2.2.1
      have e : IntKind.wrap .i64 (IntKind.wrap .i64 ((wr.length : Int) - 1) - IntKind.wrap .i64 (IntKind.wrap .i64 (IntKind.wrap .u8 (((wc.getD i.toNat 0).toNat : Int) - 48)) - 1) % (wr.length : Int)) = bkCol wr.length (wc.getD i.toNat 0) := by
        have hm := emod_bd (((wc.getD i.toNat 0).toNat : Int) - 48 - 1) hf.2.2.1
        rw [wrapu8_in (by omega), wrap64_in (x := ((wc.getD i.toNat 0).toNat : Int) - 48) (by omega), wrap64_in (x := ((wc.getD i.toNat 0).toNat : Int) - 48 - 1) (by omega), wrap64_in (x := (wr.length : Int) - 1) (by omega), wrap64_in (by omega)]
        rfl
      have e2 : IntKind.wrap .i64 (IntKind.wrap .i64 (IntKind.wrap .u8 (((wc.getD i.toNat 0).toNat : Int) - 48)) - 1) = ((wc.getD i.toNat 0).toNat : Int) - 48 - 1 := by
        rw [wrapu8_in (by omega), wrap64_in (x := ((wc.getD i.toNat 0).toNat : Int) - 48) (by omega), wrap64_in (by omega)]
      have hst := bkInv_step hi hc
      have h0 := hi.1
      rw [e, e2, wrap64_in (x := i + 1) (by omega), backC_step hi.1 hc]
      refine ⟨trivial, ⟨hi.1, hc⟩, ⟨by omega⟩, trivial, ⟨by omega⟩, ⟨?_⟩, by simp, ⟨hst⟩⟩
      rw [backC_len, List.length_take, num1_len]
      omega
    · have hc := of_decide_eq_false hc
      have ht : wc.take i.toNat = wc := List.take_of_length_le (by omega)
      rw [ht, wrap64_in (x := wd + 2) (by omega), tmod_emod (by omega), hg]
      refine ⟨⟨by omega⟩, ⟨by have := good_box hg; exact this, .inl rfl⟩, ?_⟩
      exact retP_okl (u := bkWd ⟨wr, ww, wh, wc, wx, wy, wd⟩) rfl rfl
theorem bkRow_len {n : Int} {c : List UInt8} {i : Int} (h : bkInv c i) : (bkRow n c i).length = c.length := by
  obtain ⟨h1, h2⟩ := h
  unfold bkRow
  rw [List.length_append, backC_len, List.length_take, List.length_drop]
  omega
theorem bkRow_cut {n : Int} {c : List UInt8} {i : Int} (h0 : 0 ≤ i) (h : i < c.length) : bkRow n c i = backC n (c.take i.toNat) ++ c.getD i.toNat 0 :: c.drop (i.toNat + 1) := by
  unfold bkRow
  rw [drop_getD (show i.toNat < c.length by omega)]
theorem bk_l {n : Int} {c : List UInt8} {i : Int} (h0 : 0 ≤ i) (h : i < c.length) : (backC n (c.take i.toNat)).length = i.toNat := by
  rw [backC_len, List.length_take]; omega
theorem bkRow_get {n : Int} {c : List UInt8} {i : Int} (h0 : 0 ≤ i) (h : i < c.length) : (bkRow n c i).getD i.toNat 0 = c.getD i.toNat 0 := by
  rw [bkRow_cut h0 h, List.getD_eq_getElem?_getD, List.getElem?_append_right (by rw [bk_l h0 h]; exact Nat.le_refl _), bk_l h0 h, Nat.sub_self]
  rfl
theorem bkRow_set {n : Int} {c : List UInt8} {i : Int} (h0 : 0 ≤ i) (h : i < c.length) : (bkRow n c i).set i.toNat (bkB n (c.getD i.toNat 0)) = bkRow n c (i + 1) := by
  rw [bkRow_cut h0 h, List.set_append_right _ _ (by rw [bk_l h0 h]; exact Nat.le_refl _), bk_l h0 h, Nat.sub_self]
  unfold bkRow
  rw [show (i + 1).toNat = i.toNat + 1 by omega, take_succ_getD (show i.toNat < c.length by omega)]
  simp [backC]
theorem bkRow_stay {n : Int} {c : List UInt8} {i : Int} (h0 : 0 ≤ i) (h : i < c.length) (hs : bkB n (c.getD i.toNat 0) = c.getD i.toNat 0) : bkRow n c i = bkRow n c (i + 1) := by
  rw [← bkRow_set h0 h, hs]
  rw [bkRow_cut h0 h, List.set_append_right _ _ (by rw [bk_l h0 h]; exact Nat.le_refl _), bk_l h0 h, Nat.sub_self]
  rfl
theorem vc_impl_BackWorld (wr : List UInt8) (ww wh : Int) (wc : List UInt8) (wx wy wd : Int) (_ : True) : VC_impl_BackWorld wr ww wh wc wx wy wd (retP (okV (goodB ⟨wr, ww, wh, wc, wx, wy, wd⟩) (bkWd ⟨wr, ww, wh, wc, wx, wy, wd⟩))) := by
  unfold VC_impl_BackWorld
  refine ⟨⟨trivial⟩, fun hg => ?_, fun hg => ?_⟩
  · simp only [Bool.not_eq_true'] at hg
    rw [hg]
    exact retP_okl (u := zeroWd) rfl rfl
  · simp only [Bool.not_eq_false'] at hg
    have hb := good_bd hg
    have h9 := good_nine hg
    simp only at hb h9
    refine ⟨⟨by omega⟩, by simp [bkRow, backC], ⟨by omega, by omega⟩, fun i hi => ⟨fun hc => ?_, fun hc => ?_⟩⟩
    · have hc := of_decide_eq_true hc
      have h0 := hi.1
      have hf := cell_facts hg ⟨h0, hc⟩
      simp only at hf
      have hst := bkInv_step hi hc
      have hrl := bkRow_len (n := wr.length) hi
      rw [bkRow_get h0 hc, wrap64_in (x := i + 1) (by omega)]
      refine ⟨⟨h0, hc⟩, ⟨by omega⟩, fun hn => ?_, fun he => ?_⟩
      · have hn : ((wc.getD i.toNat 0).toNat : Int) ≠ 48 := by simpa [bne_iff_ne] using hn
        have hcol := bkB_else (n := wr.length) (b := wc.getD i.toNat 0) (by omega)
        have e : IntKind.wrap .u8 (IntKind.wrap .i64 (IntKind.wrap .i64 (48 + (wr.length : Int)) - (((wc.getD i.toNat 0).toNat : Int) - 48))) = 48 + bkCol wr.length (wc.getD i.toNat 0) := by
          rw [wrap64_in (x := 48 + (wr.length : Int)) (by omega), wrap64_in (by omega), wrapu8_in (by omega), hcol]
          omega
        have hset : (bkRow wr.length wc i).set i.toNat (UInt8.ofNat (48 + bkCol wr.length (wc.getD i.toNat 0)).toNat) = bkRow wr.length wc (i + 1) := bkRow_set h0 hc
        rw [e, hset]
        refine ⟨trivial, ⟨by omega⟩, ⟨h0, hc⟩, ⟨by omega, by omega, by omega⟩, by simp, ⟨hst⟩⟩
      · have he : ((wc.getD i.toNat 0).toNat : Int) = 48 := by simpa [bne_eq_false_iff_eq] using he
        rw [← bkRow_stay (n := wr.length) h0 hc (bkB_zero (by omega) he)]
        exact ⟨by simp, ⟨hst⟩⟩
    · have hc := of_decide_eq_false hc
      have hi2 : i = wc.length := by have := hi.2; omega
      subst hi2
      have ht : bkRow wr.length wc wc.length = backC wr.length wc := by
        unfold bkRow
        rw [show ((wc.length : Int)).toNat = wc.length by omega, List.take_length, List.drop_length, List.append_nil]
      rw [ht, hg]
      refine ⟨⟨by omega⟩, ⟨good_box (good_trn hg 2), .inl rfl⟩, ⟨by omega⟩, ⟨by rw [List.length_reverse]; omega⟩, ⟨by rw [backC_len]; exact Nat.le_refl _⟩, ?_⟩
      have e1 : othR wr.reverse = (othR wr).reverse := by simp [othR]
      have e2 : (backC wr.length wc).take wc.length = backC wr.length wc := List.take_of_length_le (by rw [backC_len]; exact Nat.le_refl _)
      rw [e1, e2]
      exact retP_okl (u := bkWd ⟨wr, ww, wh, wc, wx, wy, wd⟩) rfl rfl
/-! ### CountColours -/
theorem cnt1_len (l : List Int) (b : UInt8) : (cnt1 l b).length = l.length := by simp [cnt1]
theorem cntFold_len : ∀ (c : List UInt8) (l : List Int), (c.foldl cnt1 l).length = l.length
  | [], _ => rfl
  | b :: c, l => by rw [List.foldl_cons, cntFold_len c, cnt1_len]
theorem cntF_len (n : Nat) (c : List UInt8) : (cntF n c).length = n := by unfold cntF; rw [cntFold_len, List.length_replicate]
theorem cntF_step {n : Nat} {c : List UInt8} {i : Int} (h0 : 0 ≤ i) (hi : i < c.length) : cntF n (c.take (i + 1).toNat) = cnt1 (cntF n (c.take i.toNat)) (c.getD i.toNat 0) := by
  rw [show (i + 1).toNat = i.toNat + 1 by omega, take_succ_getD (show i.toNat < c.length by omega)]
  simp [cntF]
theorem getD_bd {l : List Int} {m : Int} (h : cntB l m) (hm : 0 ≤ m) (j : Nat) : 0 ≤ l.getD j 0 ∧ l.getD j 0 ≤ m := by
  rw [List.getD_eq_getElem?_getD]
  cases hj : l[j]? with
  | none => simp only [Option.getD_none]; omega
  | some x => exact h x (List.mem_of_getElem? hj)
theorem cntB_step {l : List Int} {m : Int} (h : cntB l m) (hm : 0 ≤ m) (b : UInt8) : cntB (cnt1 l b) (m + 1) := by
  intro x hx
  unfold cnt1 at hx
  rcases List.mem_or_eq_of_mem_set hx with h' | rfl
  · have := h x h'; omega
  · have := getD_bd h hm ((b.toNat : Int) - 48).toNat
    omega
theorem cntInv_step {n : Nat} {c : List UInt8} {i : Int} (h : cntInv n c i) (hi : i < c.length) : cntInv n c (i + 1) ∧ ((c.length : Int) - (i + 1)).toNat < ((c.length : Int) - i).toNat := by
  obtain ⟨h1, h2, h3⟩ := h
  refine ⟨⟨by omega, by omega, ?_⟩, by omega⟩
  rw [cntF_step h1 hi]
  exact cntB_step h3 h1 _
theorem cnt_start (n : Nat) (c : List UInt8) : cntInv n c 0 := by
  refine ⟨by omega, by omega, ?_⟩
  intro x hx
  simp [cntF] at hx
  omega
theorem retG_nil {b0 : Blk} {e : TypeId} : retG 0 (.tup [.row 0 0, .bool false]) [⟨.ints .i64 [], e, .row⟩] (.tup [.raw (.slice none 0 0), .lit false]) [b0] := by
  unfold retG leSel leSelBy autoSel
  simp [pairsL, pairsV, idPairs, pairsIn, selOf, lookN, selMem, chkB, nodupSel, prefSel, leSt, leL, leV, nilToL, V.nilTo, isNilS, isGhost, selL, V.sel, Cells.none0, leMem, leCells, memUnder, underL, V.under, Kind.isRow]
  exact trivial
theorem retG_cnt {b0 : Blk} {e : TypeId} {l l' : List Int} {n : Nat} (hl : l' = l) (hn : n = l.length) : retG 0 (.tup [.row 0 l.length, .bool true]) [⟨.ints .i64 l, e, .row⟩] (.tup [.row 1 n, .lit true]) [b0, ⟨.ints .i64 l', e, .row⟩] := by
  subst hl; subst hn
  unfold retG leSel leSelBy autoSel
  simp [pairsL, pairsV, idPairs, pairsIn, selOf, lookN, selMem, chkB, nodupSel, hasSel, prefSel, leSt, leL, leV, nilToL, V.nilTo, isNilS, findSel, selL, V.sel, Cells.selN, leMem, leCells, memUnder, underL, V.under]
  exact trivial
theorem cntW_good {w : Wd} (h : goodB w = true) : cntW w = cntF w.r.length w.c := by unfold cntW; rw [h]; rfl
theorem cntW_le (w : Wd) : (cntW w).length ≤ 1000 := by
  cases h : goodB w
  · unfold cntW; rw [h]; simp
  · rw [cntW_good h, cntF_len]
    have := good_bd h
    omega
theorem vc_spec_CountColours (wr : List UInt8) (ww wh : Int) (wc : List UInt8) (wx wy wd : Int) (_ : True) : VC_spec_CountColours wr ww wh wc wx wy wd
    (retG 0 (.tup [.row 0 (cntW ⟨wr, ww, wh, wc, wx, wy, wd⟩).length, .bool (goodB ⟨wr, ww, wh, wc, wx, wy, wd⟩)]) [⟨.ints .i64 (cntW ⟨wr, ww, wh, wc, wx, wy, wd⟩), 3, .row⟩]) := by
  unfold VC_spec_CountColours
  refine ⟨⟨trivial⟩, fun hg => ?_, fun hg => ?_⟩
  · simp only [Bool.not_eq_true'] at hg
    rw [show cntW ⟨wr, ww, wh, wc, wx, wy, wd⟩ = [] by unfold cntW; rw [hg]; rfl, hg]
    exact retG_nil
  · simp only [Bool.not_eq_false'] at hg
    have hb := good_bd hg
    simp only at hb
    rw [cntW_good hg, hg]
    refine ⟨⟨by omega, by omega, by omega⟩, by simp [cntF], ⟨cnt_start _ _⟩, fun i hi => ⟨fun hc => ?_, fun hc => ?_⟩⟩
    · have hc := of_decide_eq_true hc
      have hst := cntInv_step hi hc
      have h0 := hi.1
      have hf := cell_facts hg ⟨h0, hc⟩
      simp only at hf
      have hcb := getD_bd hi.2.2 h0 (((wc.getD i.toNat 0).toNat : Int) - 48).toNat
      have hset : (cntF wr.length (wc.take i.toNat)).set (((wc.getD i.toNat 0).toNat : Int) - 48).toNat ((cntF wr.length (wc.take i.toNat)).getD (((wc.getD i.toNat 0).toNat : Int) - 48).toNat 0 + 1) = cntF wr.length (wc.take (i + 1).toNat) := (cntF_step h0 hc).symm
      have hu8 := byte_lt (wc.getD i.toNat 0)
      rw [wrapu8_in (x := ((wc.getD i.toNat 0).toNat : Int) - 48) (by omega)]
      rw [wrap64_in (x := i + 1) (by omega), wrap64_in (x := (cntF wr.length (wc.take i.toNat)).getD (((wc.getD i.toNat 0).toNat : Int) - 48).toNat 0 + 1) (by omega), hset, cntF_len]
      refine ⟨⟨h0, hc⟩, ⟨by omega⟩, ⟨by omega⟩, ⟨by omega⟩, ⟨by omega⟩, by simp, ⟨hst⟩⟩
    · have hc := of_decide_eq_false hc
      have ht : wc.take i.toNat = wc := List.take_of_length_le (by omega)
      rw [ht]
      exact retG_cnt rfl (by rw [cntF_len])
theorem vc_impl_CountColours (wr : List UInt8) (ww wh : Int) (wc : List UInt8) (wx wy wd : Int) (_ : True) : VC_impl_CountColours wr ww wh wc wx wy wd
    (retG 0 (.tup [.row 0 (cntW ⟨wr, ww, wh, wc, wx, wy, wd⟩).length, .bool (goodB ⟨wr, ww, wh, wc, wx, wy, wd⟩)]) [⟨.ints .i64 (cntW ⟨wr, ww, wh, wc, wx, wy, wd⟩), 3, .row⟩]) := by
  unfold VC_impl_CountColours
  refine ⟨⟨trivial⟩, fun hg => ?_, fun hg => ?_⟩
  · simp only [Bool.not_eq_true'] at hg
    rw [show cntW ⟨wr, ww, wh, wc, wx, wy, wd⟩ = [] by unfold cntW; rw [hg]; rfl, hg]
    exact retG_nil
  · simp only [Bool.not_eq_false'] at hg
    have hb := good_bd hg
    simp only at hb
    rw [cntW_good hg, hg]
    refine ⟨⟨by omega, by omega, by omega⟩, by simp [cntF], ⟨cnt_start _ _⟩, fun i hi => ⟨fun hc => ?_, fun hc => ?_⟩⟩
    · have hc := of_decide_eq_true hc
      have hst := cntInv_step hi hc
      have h0 := hi.1
      have hf := cell_facts hg ⟨h0, hc⟩
      simp only at hf
      have hcb := getD_bd hi.2.2 h0 (((wc.getD i.toNat 0).toNat : Int) - 48).toNat
      have hset : (cntF wr.length (wc.take i.toNat)).set (((wc.getD i.toNat 0).toNat : Int) - 48).toNat ((cntF wr.length (wc.take i.toNat)).getD (((wc.getD i.toNat 0).toNat : Int) - 48).toNat 0 + 1) = cntF wr.length (wc.take (i + 1).toNat) := (cntF_step h0 hc).symm
      have hu8 := byte_lt (wc.getD i.toNat 0)
      rw [wrap64_in (x := i + 1) (by omega), wrap64_in (x := (cntF wr.length (wc.take i.toNat)).getD (((wc.getD i.toNat 0).toNat : Int) - 48).toNat 0 + 1) (by omega), hset, cntF_len]
      refine ⟨⟨h0, hc⟩, ⟨by omega⟩, ⟨by omega⟩, ⟨by omega⟩, ⟨by omega⟩, ⟨by omega⟩, by simp, ⟨hst⟩⟩
    · have hc := of_decide_eq_false hc
      have ht : wc.take i.toNat = wc := List.take_of_length_le (by omega)
      rw [ht]
      exact retG_cnt rfl (by rw [cntF_len])
end Go.Vi
