/- The ends of balls one after the other: the conditions hold. -/
import Derived.Test.YtkkpkfphfhcgoabDoorY1Vc
import Derived.Test.YtkkpkfphfhcgoabDoorY1Spec
namespace Go.Vi
/-! ### rows of numbers -/
theorem retG_int1 {q r : Int} {a b : List Int} {e : TypeId} (h : q = r) (hb : b = a) : retG 1 (.int .i64 r) [⟨.ints .i64 a, e, .row⟩] (.int .i64 q) [⟨.ints .i64 b, e, .row⟩] := by
  subst h; subst hb
  unfold retG leSel leSelBy autoSel
  simp [pairsL, pairsV, idPairs, pairsIn, selOf, lookN, selMem, chkB, nodupSel, hasSel, prefSel, leSt, leL, leV, nilToL, V.nilTo, selL, V.sel, Cells.selN, leMem, leCells, memUnder, underL, V.under]
theorem retG_lit2 {q : Bool} {r : Bool} {a b : List Int} {e : TypeId} (h : q = r) : retG 2 (.bool r) [⟨.ints .i64 a, e, .row⟩, ⟨.ints .i64 b, e, .row⟩] (.lit q) [⟨.ints .i64 a, e, .row⟩, ⟨.ints .i64 b, e, .row⟩] := by
  subst h
  unfold retG leSel leSelBy autoSel
  simp [pairsL, pairsV, idPairs, pairsIn, selOf, lookN, selMem, chkB, nodupSel, hasSel, prefSel, leSt, leL, leV, nilToL, V.nilTo, selL, V.sel, Cells.selN, leMem, leCells, memUnder, underL, V.under]
theorem take_succ_int {l : List Int} {i : Nat} (h : i < l.length) : l.take (i + 1) = l.take i ++ [l.getD i 0] := by
  rw [List.take_succ_eq_append_getElem h]
  simp [List.getD_eq_getElem?_getD, List.getElem?_eq_getElem h]
theorem ne_of_take {a b : List Int} {i : Nat} (h : (a.getD i 0 != b.getD i 0) = true) : (a == b) = false := by
  rw [beq_eq_false_iff_ne]
  rintro rfl
  simp at h
theorem vc_laws_eqIntS (n m : Nat) (a b : List Int) (h : n = a.length ∧ m = b.length ∧ n ≤ 1000 ∧ m ≤ 1000) : VC_laws_eqIntS n m a b (retG 2 (.bool (a == b)) [⟨.ints .i64 a, 3, .row⟩, ⟨.ints .i64 b, 3, .row⟩]) := by
  obtain ⟨rfl, rfl, h1, h2⟩ := h
  unfold VC_laws_eqIntS
  refine ⟨fun hne => ?_, fun heq => ⟨by simp, ?_, fun i hi => ⟨fun hc => ?_, fun hc => ?_⟩⟩⟩
  · refine retG_lit2 ?_
    symm
    rw [beq_eq_false_iff_ne]
    rintro rfl
    simp at hne
  · simp only [bne_eq_false_iff_eq] at heq
    exact ⟨by omega, by omega, by omega, h1, rfl⟩
  · have hc := of_decide_eq_true hc
    obtain ⟨g1, g2, g3, g4, g5⟩ := hi
    have hla : i.toNat < a.length := by omega
    have hlb : i.toNat < b.length := by omega
    rw [wrap64_in (x := i + 1) (by omega)]
    refine ⟨trivial, ⟨g1, hc⟩, ⟨hla⟩, ⟨by omega, by omega⟩, ⟨hlb⟩, fun hn => retG_lit2 (ne_of_take hn).symm, fun he => ⟨by simp, ⟨⟨by omega, by omega, g3, g4, ?_⟩, by omega⟩⟩⟩
    simp only [bne_eq_false_iff_eq] at he
    rw [show (i + 1).toNat = i.toNat + 1 by omega, take_succ_int hla, take_succ_int hlb, g5, he]
  · have hc := of_decide_eq_false hc
    obtain ⟨g1, g2, g3, g4, g5⟩ := hi
    refine retG_lit2 ?_
    rw [List.take_of_length_le (by omega), List.take_of_length_le (by omega)] at g5
    simp [g5]
theorem ramp_len (k : Int) (n : Nat) : (ramp k n).length = n := by simp [ramp]
theorem ramp_succ (k : Int) (n : Nat) : ramp k (n + 1) = ramp k n ++ [k + (n : Int)] := by simp [ramp, List.range_succ]
theorem mrkRow_len {a : List Int} {k i : Int} (h : mrkInv a k i) : (mrkRow a k i).length = a.length := by
  obtain ⟨h1, h2, _⟩ := h
  simp only [mrkRow, List.length_append, ramp_len, List.length_drop]
  omega
theorem mrkRow_set {a : List Int} {k i : Int} (h : mrkInv a k i) (hi : i < a.length) : (mrkRow a k i).set i.toNat (k + i) = mrkRow a k (i + 1) := by
  obtain ⟨h1, h2, _⟩ := h
  have hl : i.toNat < a.length := by omega
  unfold mrkRow
  rw [List.set_append_right _ _ (by rw [ramp_len]; exact Nat.le_refl _), ramp_len, Nat.sub_self, List.drop_eq_getElem_cons hl, List.set_cons_zero, show (i + 1).toNat = i.toNat + 1 by omega, ramp_succ, List.append_assoc]
  simp only [List.singleton_append]
  rw [show ((i.toNat : Nat) : Int) = i by omega]
theorem mrkInv_step {a : List Int} {k i : Int} (h : mrkInv a k i) (hi : i < a.length) : mrkInv a k (i + 1) ∧ ((a.length : Int) - (i + 1)).toNat < ((a.length : Int) - i).toNat := by
  obtain ⟨h1, h2, h3, h4, h5⟩ := h
  exact ⟨⟨by omega, by omega, h3, h4, h5⟩, by omega⟩
theorem vc_laws_markIntS (k : Int) (n : Nat) (a : List Int) (h : n = a.length ∧ n ≤ 1000 ∧ 0 ≤ k ∧ k ≤ 1000) : VC_laws_markIntS k n a (retG 1 (.int .i64 (k + n)) [⟨.ints .i64 (ramp k n), 3, .row⟩]) := by
  obtain ⟨rfl, h1, h2, h3⟩ := h
  unfold VC_laws_markIntS
  refine ⟨by simp [mrkRow, ramp], ⟨by omega, by omega, h1, h2, h3⟩, fun i hi => ⟨fun hc => ?_, fun hc => ?_⟩⟩
  · have hc := of_decide_eq_true hc
    have hb := hi
    obtain ⟨g1, g2, g3, g4, g5⟩ := hb
    have hst := mrkInv_step hi hc
    rw [wrap64_in (x := i + 1) (by omega), wrap64_in (x := k + i + 1) (by omega), mrkRow_len hi, mrkRow_set hi hc]
    refine ⟨⟨g1, hc⟩, ⟨by omega⟩, by simp [Int.add_assoc], ⟨hst⟩⟩
  · have hc := of_decide_eq_false hc
    obtain ⟨g1, g2, _⟩ := hi
    have e : i = (a.length : Int) := by omega
    subst e
    refine retG_int1 rfl ?_
    unfold mrkRow
    rw [show ((a.length : Int)).toNat = a.length by omega, List.drop_length, List.append_nil]
theorem vc_laws_heldIntS (k : Int) (n : Nat) (a : List Int) (h : n = a.length ∧ n ≤ 1000 ∧ 0 ≤ k ∧ k ≤ 1000) : VC_laws_heldIntS k n a (retG 1 (.int .i64 (bif a == ramp k n then k + n else -1)) [⟨.ints .i64 a, 3, .row⟩]) := by
  obtain ⟨rfl, h1, h2, h3⟩ := h
  unfold VC_laws_heldIntS
  refine ⟨by simp, ⟨⟨by omega, by omega, h1, h2, h3⟩, by simp [ramp]⟩, fun i hi => ⟨fun hc => ?_, fun hc => ?_⟩⟩
  · have hc := of_decide_eq_true hc
    obtain ⟨hm, ht⟩ := hi
    have hb := hm
    obtain ⟨g1, g2, g3, g4, g5⟩ := hb
    have hst := mrkInv_step hm hc
    have hl : i.toNat < a.length := by omega
    rw [wrap64_in (x := i + 1) (by omega), wrap64_in (x := k + i + 1) (by omega)]
    refine ⟨⟨g1, hc⟩, ⟨hl⟩, fun hn => retG_int1 ?_ rfl, fun he => ⟨by simp [Int.add_assoc], ⟨⟨hst.1, ?_⟩, hst.2⟩⟩⟩
    · have : (a == ramp k a.length) = false := by
        rw [beq_eq_false_iff_ne]
        intro e
        have e2 : a.getD i.toNat 0 = (ramp k a.length).getD i.toNat 0 := by rw [← e]
        rw [e2] at hn
        simp [ramp, List.getD_eq_getElem?_getD, hl] at hn
        omega
      rw [this]; rfl
    · simp only [bne_eq_false_iff_eq] at he
      rw [show (i + 1).toNat = i.toNat + 1 by omega, take_succ_int hl, ramp_succ, ht, he, show ((i.toNat : Nat) : Int) = i by omega]
  · have hc := of_decide_eq_false hc
    obtain ⟨⟨g1, g2, _⟩, ht⟩ := hi
    have e : i = (a.length : Int) := by omega
    subst e
    rw [show ((a.length : Int)).toNat = a.length by omega, List.take_length] at ht
    refine retG_int1 ?_ rfl
    rw [← ht]
    simp
theorem retG_nilB {b0 : Blk} {e : TypeId} {l : List Int} {n : Nat} {ok : Bool} {rest : List Blk} (hl : l = []) (hn : n = 0) (hok : ok = false) : retG 0 (.tup [.row 0 n, .bool ok]) [⟨.ints .i64 l, e, .row⟩] (.tup [.raw (.slice none 0 0), .lit false]) (b0 :: rest) := by
  subst hl; subst hn; subst hok
  unfold retG leSel leSelBy autoSel
  simp [pairsL, pairsV, idPairs, pairsIn, selOf, lookN, selMem, chkB, nodupSel, prefSel, leSt, leL, leV, nilToL, V.nilTo, isNilS, isGhost, selL, V.sel, Cells.none0, leMem, leCells, memUnder, underL, V.under, Kind.isRow]
  exact trivial
theorem retG_okB {b0 b1 : Blk} {e : TypeId} {l l' : List Int} {n m : Nat} {ok : Bool} {rest : List Blk} (hl : l' = l) (hn : n = m) (hok : ok = true) (hb : b1 = ⟨.ints .i64 l', e, .row⟩) : retG 0 (.tup [.row 0 m, .bool ok]) [⟨.ints .i64 l, e, .row⟩] (.tup [.row 1 n, .lit true]) (b0 :: b1 :: rest) := by
  subst hl; subst hn; subst hok; subst hb
  unfold retG leSel leSelBy autoSel
  simp [pairsL, pairsV, idPairs, pairsIn, selOf, lookN, selMem, chkB, nodupSel, hasSel, prefSel, leSt, leL, leV, nilToL, V.nilTo, isNilS, findSel, selL, V.sel, Cells.selN, leMem, leCells, memUnder, underL, V.under]
  exact trivial
theorem retG_okC {b0 b1 b2 : Blk} {e : TypeId} {l l' : List Int} {n m : Nat} {ok : Bool} {rest : List Blk} (hl : l' = l) (hn : n = m) (hok : ok = true) (hb : b2 = ⟨.ints .i64 l', e, .row⟩) : retG 0 (.tup [.row 0 m, .bool ok]) [⟨.ints .i64 l, e, .row⟩] (.tup [.row 2 n, .lit true]) (b0 :: b1 :: b2 :: rest) := by
  subst hl; subst hn; subst hok; subst hb
  unfold retG leSel leSelBy autoSel
  simp [pairsL, pairsV, idPairs, pairsIn, selOf, lookN, selMem, chkB, nodupSel, hasSel, prefSel, leSt, leL, leV, nilToL, V.nilTo, isNilS, findSel, selL, V.sel, Cells.selN, leMem, leCells, memUnder, underL, V.under]
  exact trivial
/-! ### balls one after the other -/
theorem goN_r (t : Bool) (w : Int) : ∀ (n : Nat) (s : Rn), (goN t w n s).r = iterR t w n s.r
  | 0, _ => rfl
  | n + 1, _ => goN_r t w n _
theorem out_r (t : Bool) (w h : Int) (r : Rl) (e n : Int) : (outR t w h r e n).r = (outR t w h r 0 0).r := by
  unfold outR runR
  rw [goN_r, goN_r]
theorem cel_good {t : Bool} {w h k : Int} {c : List UInt8} (hw : 1 ≤ w ∧ w ≤ 9) (hh : 1 ≤ h ∧ h ≤ 9) (hk : 0 ≤ k ∧ k < 2 * (w + h)) (hl : (c.length : Int) = w * h) (hm : c.all mirB = true) :
    ∀ n, ((celN t w h k c n).length : Int) = w * h ∧ (celN t w h k c n).all mirB = true
  | 0 => ⟨hl, hm⟩
  | n + 1 => by
    obtain ⟨a, b⟩ := cel_good hw hh hk hl hm (t := t) n
    have he := out_ended (t := t) (ent_good (k := k) hw hh a b hk) 0 0
    exact ⟨he.1, he.2.1⟩
theorem end_len (t : Bool) (w h k : Int) (c : List UInt8) : ∀ n, (endN t w h k c n).length = n
  | 0 => rfl
  | n + 1 => by simp [endN, end_len t w h k c n]
theorem ei_le (w h : Int) (c : List UInt8) (t : Bool) (k b : Int) : (eiL w h c t k b).length ≤ 1000 := by
  unfold eiL
  cases hb : eiB w h c t k b with
  | false => simp
  | true =>
    unfold eiB at hb
    simp only [Bool.and_eq_true, inB_eq] at hb
    rw [cond_true, end_len]
    omega
theorem ei_nil {mw mh : Int} {mc : List UInt8} {mu : Bool} {k b : Int} {b0 : Blk} {e : TypeId} {rest : List Blk} (hb : eiB mw mh mc mu k b = false) :
    retG 0 (.tup [.row 0 (eiL mw mh mc mu k b).length, .bool (eiB mw mh mc mu k b)]) [⟨.ints .i64 (eiL mw mh mc mu k b), e, .row⟩] (.tup [.raw (.slice none 0 0), .lit false]) (b0 :: rest) := by
  have he : eiL mw mh mc mu k b = [] := by unfold eiL; rw [hb]; rfl
  exact retG_nilB he (by rw [he]; rfl) hb
theorem ei_rn {w h k : Int} {c : List UInt8} {t : Bool} (hw : 1 ≤ w ∧ w ≤ 9) (hh : 1 ≤ h ∧ h ≤ 9) (hk : 0 ≤ k ∧ k < 2 * (w + h)) (hl : (c.length : Int) = w * h) (hm : c.all mirB = true) :
    blB ⟨w, h, c, t⟩ (entX w h k) (entY w h k) (entD w h k) = true ∧ rnE w h c t (entX w h k) (entY w h k) (entD w h k) = oneE t w h k c ∧ rnC w h c t (entX w h k) (entY w h k) (entD w h k) = oneC t w h k c ∧
    rnW w h c t (entX w h k) (entY w h k) (entD w h k) = w ∧ rnH w h c t (entX w h k) (entY w h k) (entD w h k) = h ∧ rnU w h c t (entX w h k) (entY w h k) (entD w h k) = t := by
  have g := ent_good (k := k) hw hh hl hm hk
  have h7 : rn7 w h c t (entX w h k) (entY w h k) (entD w h k) = outR t w h (entR w h c k) 0 0 := rfl
  have hB : rnB w h c t (entX w h k) (entY w h k) (entD w h k) = true := by unfold rnB; rw [h7, ent_out g]; rfl
  refine ⟨good_bl (t := t) g, ?_, ?_, ?_, ?_, ?_⟩
  · unfold rnE oneE; rw [hB, h7]; rfl
  · unfold rnC oneC; rw [hB, h7]; rfl
  · unfold rnW; rw [hB]; rfl
  · unfold rnH; rw [hB]; rfl
  · unfold rnU; rw [hB]; rfl
theorem vc_spec_ExitsInTurn (mw mh : Int) (mc : List UInt8) (mu : Bool) (k balls : Int) (_ : True) : VC_spec_ExitsInTurn mw mh mc mu k balls (retG 0 (.tup [.row 0 (eiL mw mh mc mu k balls).length, .bool (eiB mw mh mc mu k balls)]) [⟨.ints .i64 (eiL mw mh mc mu k balls), 3, .row⟩]) := by
  unfold VC_spec_ExitsInTurn
  simp only [at_iff, eq_self, true_and, and_true, decide_eq_true_eq, decide_eq_false_iff_not]
  refine ⟨fun h => ?_, fun h => ⟨fun h2 => ?_, fun h2 => ?_⟩⟩
  · have hb : enB ⟨mw, mh, mc, mu⟩ k = false := by simpa using h
    exact ei_nil (by unfold eiB; rw [hb]; rfl)
  · have hb : inB balls 0 600 = false := by simpa using h2
    exact ei_nil (by unfold eiB; rw [hb, Bool.and_false])
  · have he : enB ⟨mw, mh, mc, mu⟩ k = true := by simpa using h
    have hi : inB balls 0 600 = true := by simpa using h2
    have hB : eiB mw mh mc mu k balls = true := by unfold eiB; rw [he, hi]; rfl
    have hL : eiL mw mh mc mu k balls = endN mu mw mh k mc balls.toNat := by unfold eiL; rw [hB]; rfl
    have hbi := inB_eq.1 hi
    unfold enB at he
    simp only [Bool.and_eq_true, inB_eq] at he
    obtain ⟨hw, hh, hl, hm⟩ := mz_iff.1 he.1
    simp only at hw hh hl hm
    have hk : 0 ≤ k ∧ k < 2 * (mw + mh) := by omega
    refine ⟨⟨by rw [end_len]; omega, by rw [Int.sub_self]; rfl, by rw [Int.sub_self]; rfl⟩, ⟨by omega, by omega, by omega⟩, fun a ha => ⟨fun hlt => ?_, fun hge => ?_⟩⟩
    · obtain ⟨g1, g2⟩ := cel_good hw hh hk hl hm (t := mu) (balls - a).toNat
      obtain ⟨r1, r2, r3, r4, r5, r6⟩ := ei_rn (t := mu) hw hh hk g1 g2
      have rng : ((1 ≤ mw ∧ mw ≤ 9) ∧ (1 ≤ mh ∧ mh ≤ 9) ∧ 0 ≤ k ∧ k < 2 * (mw + mh)) := ⟨hw, hh, hk⟩
      have hst : (balls - (a - 1)).toNat = (balls - a).toNat + 1 := by have := ha.2.1; omega
      rw [wrap64_in (x := a - 1) (by have := ha.2; omega), end_len, end_len, hst]
      simp only [r1, r2, r3, r4, r5, r6, rng, and_self, true_and]
      have := ha.2
      exact ⟨⟨⟨by omega, by simp⟩, by omega, by omega⟩, ⟨⟨rfl, trivial⟩, rfl⟩, ⟨by omega, by omega, by omega⟩, by omega⟩
    · have hz : a = 0 := by have := ha.1; omega
      subst hz
      rw [Int.sub_zero]
      exact retG_okB hL.symm (by rw [hL]) hB rfl
theorem vc_impl_ExitsInTurn (mw mh : Int) (mc : List UInt8) (mu : Bool) (k balls : Int) (_ : True) : VC_impl_ExitsInTurn mw mh mc mu k balls (retG 0 (.tup [.row 0 (eiL mw mh mc mu k balls).length, .bool (eiB mw mh mc mu k balls)]) [⟨.ints .i64 (eiL mw mh mc mu k balls), 3, .row⟩]) := by
  unfold VC_impl_ExitsInTurn
  simp only [at_iff, eq_self, true_and, and_true, decide_eq_true_eq, decide_eq_false_iff_not, rlO]
  refine ⟨fun h => ?_, fun h => ?_⟩
  · have hb : mzB ⟨mw, mh, mc, mu⟩ = false := by simpa using h
    exact ei_nil (by unfold eiB enB; rw [hb]; rfl)
  have hmz : mzB ⟨mw, mh, mc, mu⟩ = true := by simpa using h
  obtain ⟨hw, hh, hl, hm⟩ := mz_iff.1 hmz
  simp only at hw hh hl hm
  have hmul := mul_bd hw hh
  obtain ⟨e1, e2, e3⟩ := wrap_ends hw hh
  rw [e1, e2, e3]
  refine ⟨fun h2 => ?_, fun h2 => ⟨fun h3 => ?_, fun h3 => ?_⟩⟩
  · have hb : inB k 0 (2 * (mw + mh) - 1) = false := by simpa using h2
    exact ei_nil (by unfold eiB enB; rw [hb, Bool.and_false]; rfl)
  · have hb : inB balls 0 600 = false := by simpa using h3
    exact ei_nil (by unfold eiB; rw [hb, Bool.and_false])
  · have hky : inB k 0 (2 * (mw + mh) - 1) = true := by simpa using h2
    have hi : inB balls 0 600 = true := by simpa using h3
    have he : enB ⟨mw, mh, mc, mu⟩ k = true := by unfold enB; rw [hmz, hky]; rfl
    have hB : eiB mw mh mc mu k balls = true := by unfold eiB; rw [he, hi]; rfl
    have hL : eiL mw mh mc mu k balls = endN mu mw mh k mc balls.toNat := by unfold eiL; rw [hB]; rfl
    have hbi := inB_eq.1 hi
    have hk' := inB_eq.1 hky
    have hk : 0 ≤ k ∧ k < 2 * (mw + mh) := by omega
    have h81 : mc.length ≤ 81 := by omega
    have hcp : (cpB 81 [] 81 mc).take (mw * mh).toNat = mc := by rw [cp_full h81, take_full hl h81]
    rw [hcp, cp_full h81]
    refine ⟨⟨by omega, by omega, by omega⟩, ⟨rfl, rfl⟩, ⟨⟨by omega, by omega, by omega⟩, rfl⟩, fun a ha => ⟨fun hlt => ?_, fun hge => ?_⟩⟩
    · obtain ⟨⟨i1, i2, i3⟩, hac⟩ := ha
      obtain ⟨g1, g2⟩ := cel_good hw hh hk hl hm (t := mu) a.1.toNat
      obtain ⟨q1, q2⟩ := cel_good hw hh hk hl hm (t := mu) (a.1.toNat + 1)
      rw [← hac] at g1 g2
      have ha81 : a.2.r.c.length ≤ 81 := by omega
      have htk : (padB 81 a.2.r.c).take (mw * mh).toNat = a.2.r.c := take_full g1 ha81
      have hsp : sdP mw mh (padB 81 a.2.r.c) k := ⟨by rw [htk], ⟨hw, hh⟩, by rw [htk]; exact g1, by rw [htk]; exact g2, hk⟩
      have hsd : (sdR mu mw mh (padB 81 a.2.r.c) k a.2.e a.2.k).r = (outR mu mw mh (entR mw mh (celN mu mw mh k mc a.1.toNat) k) 0 0).r := by
        unfold sdR
        rw [htk, out_r, hac]
      have hc : (outR mu mw mh (entR mw mh (celN mu mw mh k mc a.1.toNat) k) 0 0).r.c = celN mu mw mh k mc (a.1.toNat + 1) := rfl
      have hbk : (padB 81 (celN mu mw mh k mc (a.1.toNat + 1))).take (mw * mh).toNat = celN mu mw mh k mc (a.1.toNat + 1) := take_full q1 (by omega)
      rw [wrap64_in (x := a.1 + 1) (by omega), show (a.1 + 1).toNat = a.1.toNat + 1 by omega, end_len, end_len, hsd, hc, hbk]
      exact ⟨hsp, ⟨⟨by omega, by simp⟩, by omega, by omega⟩, ⟨rfl, rfl, rfl⟩, ⟨⟨by omega, by omega, by omega⟩, rfl⟩, by omega⟩
    · have hz : a.1 = balls := by have := ha.1; unfold eiInv at this; omega
      rw [hz]
      exact retG_okC hL.symm (by rw [hL]) hB rfl
end Go.Vi
