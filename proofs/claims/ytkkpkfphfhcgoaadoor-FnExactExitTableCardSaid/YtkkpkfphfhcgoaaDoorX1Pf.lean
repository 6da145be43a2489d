/- The ends that balls come out at: the conditions hold. -/
import Derived.Test.YtkkpkfphfhcgoaaDoorX1Vc
import Derived.Test.YtkkpkfphfhcgoaaDoorX1Spec
namespace Go.Vi
/-! ### rows of numbers -/
theorem retG_int1 {q r : Int} {a b : List Int} {e : TypeId} (h : q = r) (hb : b = a) : retG 1 (.int .i64 r) [⟨.ints .i64 a, e, .row⟩] (.int .i64 q) [⟨.ints .i64 b, e, .row⟩] := by
  subst h; subst hb
  unfold retG leSel leSelBy autoSel
  simp [pairsL, pairsV, idPairs, pairsIn, selOf, lookN, selMem, chkB, nodupSel, hasSel, prefSel, leSt, leL, leV, nilToL, V.nilTo, selL, V.sel, Cells.selN, leMem, leCells, memUnder, underL, V.under]
theorem retG_lit2 {q : Bool} {r : Bool} {a b : List Int} {e : TypeId} (h : q = r) : retG 2 (.bool r) [⟨.ints .i64 a, e, .row⟩, ⟨.ints .i64 b, e, .row⟩] (.lit q) [⟨.ints .i64 a, e, .row⟩, ⟨.ints .i64 b, e, .row⟩] := by
  subst h
  unfold retG leSel leSelBy autoSel
  simp [pairsL, pairsV, idPairs, pairsIn, selOf, lookN, selMem, chkB, nodupSel, hasSel, prefSel, leSt, leL, leV, nilToL, V.nilTo, selL, V.sel, Cells.selN, leMem, leCells, memUnder, underL, V.under]
theorem take_succ_int {l : List Int} {i : Nat} (h : i < l.length) : l.take (i + 1) = l.take i ++ [l.getD i 0] := by
  rw [List.take_succ_eq_append_getElem h]
  simp [List.getD_eq_getElem?_getD, List.getElem?_eq_getElem h]
theorem ne_of_take {a b : List Int} {i : Nat} (h : (a.getD i 0 != b.getD i 0) = true) : (a == b) = false := by
  rw [beq_eq_false_iff_ne]
  rintro rfl
  simp at h
theorem vc_laws_eqIntS (n m : Nat) (a b : List Int) (h : n = a.length ∧ m = b.length ∧ n ≤ 1000 ∧ m ≤ 1000) : VC_laws_eqIntS n m a b (retG 2 (.bool (a == b)) [⟨.ints .i64 a, 3, .row⟩, ⟨.ints .i64 b, 3, .row⟩]) := by
  obtain ⟨rfl, rfl, h1, h2⟩ := h
  unfold VC_laws_eqIntS
  refine ⟨fun hne => ?_, fun heq => ⟨by simp, ?_, fun i hi => ⟨fun hc => ?_, fun hc => ?_⟩⟩⟩
  · refine retG_lit2 ?_
    symm
    rw [beq_eq_false_iff_ne]
    rintro rfl
    simp at hne
  · simp only [bne_eq_false_iff_eq] at heq
    exact ⟨by omega, by omega, by omega, h1, rfl⟩
  · have hc := of_decide_eq_true hc
    obtain ⟨g1, g2, g3, g4, g5⟩ := hi
    have hla : i.toNat < a.length := by omega
    have hlb : i.toNat < b.length := by omega
    rw [wrap64_in (x := i + 1) (by omega)]
    refine ⟨trivial, ⟨g1, hc⟩, ⟨hla⟩, ⟨by omega, by omega⟩, ⟨hlb⟩, fun hn => retG_lit2 (ne_of_take hn).symm, fun he => ⟨by simp, ⟨⟨by omega, by omega, g3, g4, ?_⟩, by omega⟩⟩⟩
    simp only [bne_eq_false_iff_eq] at he
    rw [show (i + 1).toNat = i.toNat + 1 by omega, take_succ_int hla, take_succ_int hlb, g5, he]
  · have hc := of_decide_eq_false hc
    obtain ⟨g1, g2, g3, g4, g5⟩ := hi
    refine retG_lit2 ?_
    rw [List.take_of_length_le (by omega), List.take_of_length_le (by omega)] at g5
    simp [g5]
theorem ramp_len (k : Int) (n : Nat) : (ramp k n).length = n := by simp [ramp]
theorem ramp_succ (k : Int) (n : Nat) : ramp k (n + 1) = ramp k n ++ [k + (n : Int)] := by simp [ramp, List.range_succ]
theorem mrkRow_len {a : List Int} {k i : Int} (h : mrkInv a k i) : (mrkRow a k i).length = a.length := by
  obtain ⟨h1, h2, _⟩ := h
  simp only [mrkRow, List.length_append, ramp_len, List.length_drop]
  omega
theorem mrkRow_set {a : List Int} {k i : Int} (h : mrkInv a k i) (hi : i < a.length) : (mrkRow a k i).set i.toNat (k + i) = mrkRow a k (i + 1) := by
  obtain ⟨h1, h2, _⟩ := h
  have hl : i.toNat < a.length := by omega
  unfold mrkRow
  rw [List.set_append_right _ _ (by rw [ramp_len]; exact Nat.le_refl _), ramp_len, Nat.sub_self, List.drop_eq_getElem_cons hl, List.set_cons_zero, show (i + 1).toNat = i.toNat + 1 by omega, ramp_succ, List.append_assoc]
  simp only [List.singleton_append]
  rw [show ((i.toNat : Nat) : Int) = i by omega]
theorem mrkInv_step {a : List Int} {k i : Int} (h : mrkInv a k i) (hi : i < a.length) : mrkInv a k (i + 1) ∧ ((a.length : Int) - (i + 1)).toNat < ((a.length : Int) - i).toNat := by
  obtain ⟨h1, h2, h3, h4, h5⟩ := h
  exact ⟨⟨by omega, by omega, h3, h4, h5⟩, by omega⟩
theorem vc_laws_markIntS (k : Int) (n : Nat) (a : List Int) (h : n = a.length ∧ n ≤ 1000 ∧ 0 ≤ k ∧ k ≤ 1000) : VC_laws_markIntS k n a (retG 1 (.int .i64 (k + n)) [⟨.ints .i64 (ramp k n), 3, .row⟩]) := by
  obtain ⟨rfl, h1, h2, h3⟩ := h
  unfold VC_laws_markIntS
  refine ⟨by simp [mrkRow, ramp], ⟨by omega, by omega, h1, h2, h3⟩, fun i hi => ⟨fun hc => ?_, fun hc => ?_⟩⟩
  · have hc := of_decide_eq_true hc
    have hb := hi
    obtain ⟨g1, g2, g3, g4, g5⟩ := hb
    have hst := mrkInv_step hi hc
    rw [wrap64_in (x := i + 1) (by omega), wrap64_in (x := k + i + 1) (by omega), mrkRow_len hi, mrkRow_set hi hc]
    refine ⟨⟨g1, hc⟩, ⟨by omega⟩, by simp [Int.add_assoc], ⟨hst⟩⟩
  · have hc := of_decide_eq_false hc
    obtain ⟨g1, g2, _⟩ := hi
    have e : i = (a.length : Int) := by omega
    subst e
    refine retG_int1 rfl ?_
    unfold mrkRow
    rw [show ((a.length : Int)).toNat = a.length by omega, List.drop_length, List.append_nil]
theorem vc_laws_heldIntS (k : Int) (n : Nat) (a : List Int) (h : n = a.length ∧ n ≤ 1000 ∧ 0 ≤ k ∧ k ≤ 1000) : VC_laws_heldIntS k n a (retG 1 (.int .i64 (bif a == ramp k n then k + n else -1)) [⟨.ints .i64 a, 3, .row⟩]) := by
  obtain ⟨rfl, h1, h2, h3⟩ := h
  unfold VC_laws_heldIntS
  refine ⟨by simp, ⟨⟨by omega, by omega, h1, h2, h3⟩, by simp [ramp]⟩, fun i hi => ⟨fun hc => ?_, fun hc => ?_⟩⟩
  · have hc := of_decide_eq_true hc
    obtain ⟨hm, ht⟩ := hi
    have hb := hm
    obtain ⟨g1, g2, g3, g4, g5⟩ := hb
    have hst := mrkInv_step hm hc
    have hl : i.toNat < a.length := by omega
    rw [wrap64_in (x := i + 1) (by omega), wrap64_in (x := k + i + 1) (by omega)]
    refine ⟨⟨g1, hc⟩, ⟨hl⟩, fun hn => retG_int1 ?_ rfl, fun he => ⟨by simp [Int.add_assoc], ⟨⟨hst.1, ?_⟩, hst.2⟩⟩⟩
    · have : (a == ramp k a.length) = false := by
        rw [beq_eq_false_iff_ne]
        intro e
        have e2 : a.getD i.toNat 0 = (ramp k a.length).getD i.toNat 0 := by rw [← e]
        rw [e2] at hn
        simp [ramp, List.getD_eq_getElem?_getD, hl] at hn
        omega
      rw [this]; rfl
    · simp only [bne_eq_false_iff_eq] at he
      rw [show (i + 1).toNat = i.toNat + 1 by omega, take_succ_int hl, ramp_succ, ht, he, show ((i.toNat : Nat) : Int) = i by omega]
  · have hc := of_decide_eq_false hc
    obtain ⟨⟨g1, g2, _⟩, ht⟩ := hi
    have e : i = (a.length : Int) := by omega
    subst e
    rw [show ((a.length : Int)).toNat = a.length by omega, List.take_length] at ht
    refine retG_int1 ?_ rfl
    rw [← ht]
    simp
theorem retG_nilB {b0 : Blk} {e : TypeId} {l : List Int} {n : Nat} {ok : Bool} {rest : List Blk} (hl : l = []) (hn : n = 0) (hok : ok = false) : retG 0 (.tup [.row 0 n, .bool ok]) [⟨.ints .i64 l, e, .row⟩] (.tup [.raw (.slice none 0 0), .lit false]) (b0 :: rest) := by
  subst hl; subst hn; subst hok
  unfold retG leSel leSelBy autoSel
  simp [pairsL, pairsV, idPairs, pairsIn, selOf, lookN, selMem, chkB, nodupSel, prefSel, leSt, leL, leV, nilToL, V.nilTo, isNilS, isGhost, selL, V.sel, Cells.none0, leMem, leCells, memUnder, underL, V.under, Kind.isRow]
  exact trivial
theorem retG_okB {b0 b1 : Blk} {e : TypeId} {l l' : List Int} {n m : Nat} {ok : Bool} {rest : List Blk} (hl : l' = l) (hn : n = m) (hok : ok = true) (hb : b1 = ⟨.ints .i64 l', e, .row⟩) : retG 0 (.tup [.row 0 m, .bool ok]) [⟨.ints .i64 l, e, .row⟩] (.tup [.row 1 n, .lit true]) (b0 :: b1 :: rest) := by
  subst hl; subst hn; subst hok; subst hb
  unfold retG leSel leSelBy autoSel
  simp [pairsL, pairsV, idPairs, pairsIn, selOf, lookN, selMem, chkB, nodupSel, hasSel, prefSel, leSt, leL, leV, nilToL, V.nilTo, isNilS, findSel, selL, V.sel, Cells.selN, leMem, leCells, memUnder, underL, V.under]
  exact trivial
/-! ### the ends -/
theorem et_len (w h : Int) (c : List UInt8) (t : Bool) : ∀ k, (etF w h c t k).length = k
  | 0 => rfl
  | k + 1 => by simp [etF, et_len w h c t k]
theorem et_step {mw mh : Int} {mc : List UInt8} {mu : Bool} {k : Int} (h0 : 0 ≤ k) :
    etF mw mh mc mu k.toNat ++ [endR mw mh (outR mu mw mh (entR mw mh mc k) 0 0).r] = etF mw mh mc mu (k + 1).toNat := by
  rw [show (k + 1).toNat = k.toNat + 1 by omega]
  simp only [etF]
  rw [show ((k.toNat : Nat) : Int) = k by omega]
theorem et_rn {mw mh : Int} {mc : List UInt8} {mu : Bool} {k : Int} (hm : mzB ⟨mw, mh, mc, mu⟩ = true) (hk : 0 ≤ k ∧ k < 2 * (mw + mh)) :
    rnE mw mh mc mu (entX mw mh k) (entY mw mh k) (entD mw mh k) = endR mw mh (outR mu mw mh (entR mw mh mc k) 0 0).r := by
  obtain ⟨g, _⟩ := ent_bl hm hk
  have ho := ent_out (t := mu) g 0 0
  have h7 : rn7 mw mh mc mu (entX mw mh k) (entY mw mh k) (entD mw mh k) = outR mu mw mh (entR mw mh mc k) 0 0 := rfl
  have hb : rnB mw mh mc mu (entX mw mh k) (entY mw mh k) (entD mw mh k) = true := by unfold rnB; rw [h7, ho]; rfl
  unfold rnE
  rw [hb, h7]; rfl
theorem vc_impl_ExitTable (mw mh : Int) (mc : List UInt8) (mu : Bool) (_ : True) : VC_impl_ExitTable mw mh mc mu (retG 0 (.tup [.row 0 (etL mw mh mc mu).length, .bool (mzB ⟨mw, mh, mc, mu⟩)]) [⟨.ints .i64 (etL mw mh mc mu), 3, .row⟩]) := by
  unfold VC_impl_ExitTable
  simp only [at_iff, eq_self, true_and, and_true, decide_eq_true_eq, decide_eq_false_iff_not]
  refine ⟨fun h => ?_, fun h => ?_⟩
  · have hm : mzB ⟨mw, mh, mc, mu⟩ = false := by simpa using h
    have he : etL mw mh mc mu = [] := by unfold etL; rw [hm]; rfl
    exact retG_nilB he (by rw [he]; rfl) hm
  · have hm : mzB ⟨mw, mh, mc, mu⟩ = true := by simpa using h
    obtain ⟨hw, hh, hl, ha⟩ := mz_iff.1 hm
    simp only at hw hh hl ha
    have hmul := mul_bd hw hh
    obtain ⟨e1, e2, _⟩ := wrap_ends hw hh
    have hcp : (cpB 81 [] 81 mc).take (mw * mh).toNat = mc := by rw [cp_full (by omega), take_full hl (by omega)]
    have heq : etL mw mh mc mu = etF mw mh mc mu (2 * (mw + mh)).toNat := by unfold etL; rw [hm]; rfl
    rw [e1, e2]
    refine ⟨⟨by omega, by omega, by omega⟩, ⟨rfl, rfl⟩, ⟨⟨hw, hh⟩, by omega, by omega⟩, fun a ha' => ⟨fun hlt => ?_, fun hge => ?_⟩⟩
    · obtain ⟨s1, s2, s3⟩ := lt_inv ha' hlt
      have hsd : sdR mu mw mh (cpB 81 [] 81 mc) a 0 0 = outR mu mw mh (entR mw mh mc a) 0 0 := by unfold sdR; rw [hcp]
      have hsp : sdP mw mh (cpB 81 [] 81 mc) a := ⟨by rw [hcp, cp_full (by omega)], ⟨hw, hh⟩, by rw [hcp]; exact hl, by rw [hcp]; exact ha, ha'.2.1, hlt⟩
      have h0 := ha'.2.1
      rw [hsd, s1, et_len, et_len]
      exact ⟨hsp, ⟨⟨by omega, by simp⟩, by omega, by omega⟩, ⟨by omega, et_step h0⟩, s2, s3⟩
    · have he : a = 2 * (mw + mh) := by have := ha'.2.2; omega
      subst he
      exact retG_okB heq.symm (by rw [heq]) hm rfl
theorem vc_spec_ExitTable (mw mh : Int) (mc : List UInt8) (mu : Bool) (_ : True) : VC_spec_ExitTable mw mh mc mu (retG 0 (.tup [.row 0 (etL mw mh mc mu).length, .bool (mzB ⟨mw, mh, mc, mu⟩)]) [⟨.ints .i64 (etL mw mh mc mu), 3, .row⟩]) := by
  unfold VC_spec_ExitTable
  simp only [at_iff, eq_self, true_and, and_true, decide_eq_true_eq, decide_eq_false_iff_not]
  refine ⟨fun h => ?_, fun h => ?_⟩
  · have hm : mzB ⟨mw, mh, mc, mu⟩ = false := by simpa using h
    have he : etL mw mh mc mu = [] := by unfold etL; rw [hm]; rfl
    exact retG_nilB he (by rw [he]; rfl) hm
  · have hm : mzB ⟨mw, mh, mc, mu⟩ = true := by simpa using h
    obtain ⟨hw, hh, hl, ha⟩ := mz_iff.1 hm
    simp only at hw hh hl ha
    obtain ⟨e1, e2, _⟩ := wrap_ends hw hh
    have heq : etL mw mh mc mu = etF mw mh mc mu (2 * (mw + mh)).toNat := by unfold etL; rw [hm]; rfl
    rw [e1, e2]
    refine ⟨rfl, ⟨⟨hw, hh⟩, by omega, by omega⟩, fun a ha' => ⟨fun hlt => ?_, fun hge => ?_⟩⟩
    · obtain ⟨s1, s2, s3⟩ := lt_inv ha' hlt
      obtain ⟨_, hbl⟩ := ent_bl hm ⟨ha'.2.1, hlt⟩
      have rng : ((1 ≤ mw ∧ mw ≤ 9) ∧ (1 ≤ mh ∧ mh ≤ 9) ∧ 0 ≤ a ∧ a < 2 * (mw + mh)) := ⟨hw, hh, ha'.2.1, hlt⟩
      have h0 := ha'.2.1
      have hst := et_step (mw := mw) (mh := mh) (mc := mc) (mu := mu) h0
      rw [← et_rn hm ⟨h0, hlt⟩] at hst
      rw [s1, et_len, et_len]
      simp only [hbl, rng, and_self, true_and]
      exact ⟨⟨⟨by omega, by simp⟩, by omega, by omega⟩, ⟨by omega, hst⟩, s2, s3⟩
    · have he : a = 2 * (mw + mh) := by have := ha'.2.2; omega
      subst he
      exact retG_okB heq.symm (by rw [heq]) hm rfl
theorem et_le (w h : Int) (c : List UInt8) (t : Bool) : (etL w h c t).length ≤ 1000 := by
  unfold etL
  cases hm : mzB ⟨w, h, c, t⟩ with
  | false => simp
  | true =>
    obtain ⟨hw, hh, _, _⟩ := mz_iff.1 hm
    simp only at hw hh
    rw [cond_true, et_len]
    omega
end Go.Vi
