/- A maze read: the conditions hold. -/
import Derived.Test.YteleacldecambaaDoorZ1Vc
import Derived.Test.YteleacldecambaaDoorZ1Spec
namespace Go.Vi
set_option linter.unusedVariables false
theorem retP_mzno {s : List UInt8} (h : okM s = false) : retP (.tup [mzV (okMz s), .bool (okM s)]) (.tup [.agg [.int .i64 0, .int .i64 0, .str (Array.toList #[]), .lit false], .lit false]) := by
  have e : okMz s = ⟨0, 0, [], false⟩ := by unfold okMz; rw [h]; rfl
  rw [e, h]
  simp [mzV, retP, leV, leL, chkB, V.under, underL]
theorem retP_mz {s : List UInt8} {m : Mz} {b : Bool} (h : okM s = true) (hm : m = parM s) (hb : b = true) : retP (.tup [mzV (okMz s), .bool (okM s)]) (.tup [mzV m, .lit b]) := by
  have e : okMz s = m := by unfold okMz; rw [h, hm]; rfl
  rw [e, h, hb]
  simp [mzV, retP, leV, leL, chkB, V.under, underL]
/-! ### a text's parts -/
theorem cut_end {c : List UInt8} (h : (33 : UInt8) ∉ c) (t : Bool) : endM (c ++ (bif t then [33] else [])) = t ∧ cutM (c ++ (bif t then [33] else [])) = c := by
  cases t with
  | true =>
    have e : endM (c ++ (bif true then [33] else [])) = true := by
      simp [endM]
    refine ⟨e, ?_⟩
    unfold cutM
    rw [e]
    simp
  | false =>
    have e : endM (c ++ (bif false then [33] else [])) = false := by
      simp only [cond_false, List.append_nil]
      unfold endM
      by_cases hl : 1 ≤ c.length
      · have : (c.getD (c.length - 1) 0 == 33) = false := beq_eq_false_iff_ne.2 fun e => h (by
          rw [← e]
          rw [List.getD_eq_getElem?_getD, List.getElem?_eq_getElem (by omega), Option.getD_some]
          exact List.getElem_mem _)
        rw [this, Bool.and_false]
      · simp [hl]
    refine ⟨e, ?_⟩
    unfold cutM
    rw [e]
    simp
theorem mz_bd {m : Mz} (h : mzB m = true) : (0 ≤ m.w ∧ m.w ≤ 9) ∧ (0 ≤ m.h ∧ m.h ≤ 9) ∧ 1 ≤ m.c.length ∧ m.c.length ≤ 81 ∧ (58 : UInt8) ∉ m.c ∧ (33 : UInt8) ∉ m.c := by
  unfold mzB at h
  simp only [Bool.and_eq_true, beq_iff_eq, List.all_eq_true] at h
  obtain ⟨⟨⟨h1, h2⟩, h3⟩, h4⟩ := h
  have h1 := inB_eq.1 h1
  have h2 := inB_eq.1 h2
  have := mul_bd h1 h2
  refine ⟨by omega, by omega, by omega, by omega, fun hm => ?_, fun hm => ?_⟩
  · have := h4 _ hm
    revert this
    decide
  · have := h4 _ hm
    revert this
    decide
def tailM (m : Mz) : List UInt8 := bif m.t then [33] else []
theorem text_eq (m : Mz) : textM m = (num1 m.w ++ 120 :: num1 m.h) ++ 58 :: (m.c ++ tailM m) := by
  simp [textM, tailM]
structure PartsM (m : Mz) : Prop where
  ps : splL 58 (textM m) = [num1 m.w ++ 120 :: num1 m.h, m.c ++ tailM m]
  qs : splL 120 (num1 m.w ++ 120 :: num1 m.h) = [num1 m.w, num1 m.h]
  len : 5 ≤ (textM m).length ∧ (textM m).length ≤ 100
  rd : readF (num1 m.w) = m.w ∧ readF (num1 m.h) = m.h
  pa : parM (textM m) = m
theorem partsM_of {m : Mz} (h : mzB m = true) : PartsM m := by
  obtain ⟨h1, h2, h3, h4, h5, h6⟩ := mz_bd h
  have d1 : ∀ {b : UInt8}, b.toNat < 48 ∨ 57 < b.toNat → ∀ {n : Int}, 0 ≤ n ∧ n ≤ 9 → b ∉ num1 n := fun hb _ hn => num1_not hn hb
  have no3 : ∀ {b x : UInt8} {a c : List UInt8}, b ∉ a → b ≠ x → b ∉ c → b ∉ a ++ x :: c := fun h1 h2 h3 => by
    simp only [List.mem_append, List.mem_cons, not_or]
    exact ⟨h1, h2, h3⟩
  have ht : (58 : UInt8) ∉ m.c ++ tailM m := by
    rw [List.mem_append, not_or]
    refine ⟨h5, ?_⟩
    unfold tailM
    cases m.t <;> simp
  have hc := cut_end h6 m.t
  refine ⟨?_, ?_, ?_, ⟨read_num1 h1, read_num1 h2⟩, ?_⟩
  · rw [text_eq, splL_app (no3 (d1 (.inr (by decide)) h1) (by decide) (d1 (.inr (by decide)) h2)), splL_none ht]
  · rw [splL_app (d1 (.inr (by decide)) h1), splL_none (d1 (.inr (by decide)) h2)]
  · rw [text_eq]
    have : (tailM m).length ≤ 1 := by
      unfold tailM
      cases m.t <;> simp
    simp only [List.length_append, List.length_cons, num1, List.length_nil]
    omega
  · have n1 := num1_dig h1
    have n2 := num1_dig h2
    have e4 : (textM m).drop 4 = m.c ++ tailM m := by rw [text_eq]; simp [num1]
    have e0 : (textM m).getD 0 0 = (num1 m.w).getD 0 0 := by rw [text_eq]; simp [num1]
    have e2 : (textM m).getD 2 0 = (num1 m.h).getD 0 0 := by rw [text_eq]; simp [num1]
    unfold parM
    rw [e4, e0, e2, n1, n2]
    unfold tailM
    rw [hc.1, hc.2]
theorem okM_text {m : Mz} (h : mzB m = true) : okM (textM m) = true := by
  have hp := partsM_of h
  unfold okM
  rw [hp.pa, h]
  simp [hp.len.1]
theorem okM_no {s : List UInt8} (h : ∀ m : Mz, mzB m = true → s ≠ textM m) : okM s = false := by
  cases hk : okM s with
  | false => rfl
  | true =>
    unfold okM at hk
    simp only [Bool.and_eq_true, beq_iff_eq] at hk
    exact absurd hk.2.symm (h _ hk.1.2)
theorem partsM_len (b : UInt8) : ∀ s : List UInt8, ∀ p ∈ partsF b s, p.length ≤ s.length
  | [], p, hp => by simp [partsF] at hp; subst hp; simp
  | c :: s, p, hp => by
    have ih := partsM_len b s
    unfold partsF at hp
    cases hc : c == b
    · rw [hc] at hp
      simp only [cond_false] at hp
      cases hq : partsF b s with
      | nil => exact absurd hq (partsF_ne b s)
      | cons q r =>
        rw [hq] at hp ih
        simp only [conP, List.mem_cons] at hp
        rcases hp with rfl | hp
        · have := ih q (by simp)
          simp only [List.length_cons]; omega
        · have := ih p (by simp [hp])
          simp only [List.length_cons]; omega
    · rw [hc] at hp
      simp only [cond_true, List.mem_cons] at hp
      rcases hp with rfl | hp
      · simp
      · have := ih p hp
        simp only [List.length_cons]; omega
theorem splM_len {b : UInt8} {s p : List UInt8} (h : p ∈ splL b s) : p.length ≤ s.length := partsM_len b s p (by rw [← splL_eq]; exact h)
/-! ### the conditions -/
theorem vc_impl_ParseMaze (s : List UInt8) (h : s.length ≤ 1048576) : VC_impl_ParseMaze s (retP (.tup [mzV (okMz s), .bool (okM s)])) := by
  unfold VC_impl_ParseMaze
  have i0 : Int.toNat 0 = 0 := rfl
  have i2 : Int.toNat 2 = 2 := rfl
  have i4 : Int.toNat 4 = 4 := rfl
  rw [i0, i2, i4]
  refine ⟨fun h5 => retP_mzno ?_, fun h5 => ?_⟩
  · have : decide (5 ≤ s.length) = false := decide_eq_false (by have := of_decide_eq_true h5; omega)
    unfold okM
    rw [this]
    rfl
  · have hl : 5 ≤ s.length := by have := of_decide_eq_false h5; omega
    have hok : okM s = (mzB (parM s) && (textM (parM s) == s)) := by
      unfold okM
      rw [decide_eq_true hl]
      rfl
    have hpm : parM s = ⟨((s.getD 0 0).toNat : Int) - 48, ((s.getD 2 0).toNat : Int) - 48, cutM (s.drop 4), endM (s.drop 4)⟩ := rfl
    rw [← hpm]
    have b1 := byte_lt (s.getD 0 0)
    have b2 := byte_lt (s.getD 2 0)
    simp only [at_iff, and_self, and_true, true_and, List.length_drop]
    refine ⟨by omega, by omega, ⟨by omega, by omega, by omega, by omega⟩, fun hg => retP_mzno ?_, fun hg => ⟨fun ht => retP_mzno ?_, fun ht => ?_⟩⟩
    · rw [hok]
      cases hgb : mzB (parM s)
      · rfl
      · rw [hgb] at hg
        cases hg
    · cases hgb : mzB (parM s)
      · rw [hgb] at hg
        cases hg
      · rw [hgb] at ht
        rw [hok, hgb]
        simpa using ht
    · cases hgb : mzB (parM s)
      · rw [hgb] at hg
        cases hg
      · rw [hgb] at ht
        refine retP_mz (m := parM s) ?_ rfl rfl
        rw [hok, hgb]
        simpa using ht
theorem vc_strings_CutSuffix (s : List UInt8) (t : List UInt8) (h : t = [33] ∧ s.length ≤ 1048576) : VC_strings_CutSuffix s t (retP (.tup [.str (cutM s), .bool (endM s)])) := by
  obtain ⟨rfl, hl⟩ := h
  unfold VC_strings_CutSuffix
  simp only [List.length_cons, List.length_nil]
  refine ⟨fun h1 => ?_, fun h1 => ?_⟩
  · have h1 := of_decide_eq_true h1
    have e : IntKind.wrap IntKind.i64 ((s.length : Int) - ((0 + 1 : Nat) : Int)) = ((s.length - 1 : Nat) : Int) := by
      rw [IntKind.wrap_i64]
      omega
    rw [e, Int.toNat_natCast]
    have hd : s.drop (s.length - 1) = [s.getD (s.length - 1) 0] := by
      rw [List.drop_eq_getElem_cons (by omega), List.drop_of_length_le (by omega), List.getD_eq_getElem?_getD, List.getElem?_eq_getElem (by omega)]
      rfl
    have hen : endM s = (s.drop (s.length - 1) == [33]) := by
      rw [hd]
      unfold endM
      rw [decide_eq_true (by omega)]
      simp
    refine ⟨⟨by omega, by omega⟩, fun h2 => ?_, fun h2 => ⟨⟨by omega, by omega⟩, ?_⟩⟩
    · have he : endM s = false := by
        rw [hen]
        simpa using h2
      unfold cutM
      rw [he]
      simp [retP, leV, leL, chkB, V.under, underL]
    · have he : endM s = true := by
        rw [hen]
        simpa using h2
      unfold cutM
      rw [he]
      simp [retP, leV, leL, chkB, V.under, underL]
  · have h1 := of_decide_eq_false h1
    have he : endM s = false := by
      unfold endM
      rw [decide_eq_false (by omega)]
      rfl
    unfold cutM
    rw [he]
    simp [retP, leV, leL, chkB, V.under, underL]
theorem rest_M {s : List UInt8} {M : Mz} (hM : ∀ m : Mz, mzB m = true → s = textM m → M = m) :
    ((mzB M = true → mzB M = true ∧ (textM M == s) = (mzB M && textM M == s)) ∧ (mzB M = false → false = (mzB M && textM M == s))) ∧
    ((!(mzB M && textM M == s)) = true → retP (.tup [mzV (okMz s), .bool (okM s)]) (.tup [.agg [.int .i64 0, .int .i64 0, .str [], .lit false], .lit false])) ∧
    ((!(mzB M && textM M == s)) = false → retP (.tup [mzV (okMz s), .bool (okM s)]) (.tup [mzV M, .lit true])) := by
  refine ⟨⟨fun h => ⟨h, by rw [h]; rfl⟩, fun h => by rw [h]; rfl⟩, fun h => retP_mzno (okM_no fun m hm hs => ?_), fun h => ?_⟩
  · have e := hM m hm hs
    subst e
    rw [hm, ← hs] at h
    simp at h
  · simp only [Bool.not_eq_false', Bool.and_eq_true, beq_iff_eq] at h
    refine retP_mz (by rw [← h.2]; exact okM_text h.1) ?_ rfl
    rw [← h.2, (partsM_of h.1).pa]
theorem vc_spec_ParseMaze (s : List UInt8) (h : s.length ≤ 1048576) : VC_spec_ParseMaze s (retP (.tup [mzV (okMz s), .bool (okM s)])) := by
  unfold VC_spec_ParseMaze
  have u58 : UInt8.ofNat (Int.toNat 58) = 58 := rfl
  have u120 : UInt8.ofNat (Int.toNat 120) = 120 := rfl
  have i0 : Int.toNat 0 = 0 := rfl
  have i1 : Int.toNat 1 = 1 := rfl
  unfold VC_spec_ParseMaze_q1 VC_spec_ParseMaze_q2
  rw [u58, u120, i0, i1]
  refine ⟨⟨by omega, by omega, h⟩, fun h1 => retP_mzno (okM_no fun m hm hs => ?_), fun h1 => ⟨fun h2 => retP_mzno (okM_no fun m hm hs => ?_), fun h2 => ?_⟩⟩
  · have := (partsM_of hm).len
    rw [← hs] at this
    have := of_decide_eq_true h1
    omega
  · rw [hs, (partsM_of hm).ps] at h2
    simp at h2
  · have h4 : (splL 58 s).length = 2 := by
      simp only [bne_eq_false_iff_eq] at h2
      omega
    obtain ⟨a, c, hps⟩ : ∃ a c, splL 58 s = [a, c] := by
      match hl : splL 58 s, h4 with
      | [a, c], _ => exact ⟨a, c, rfl⟩
    have hla : a.length ≤ 1048576 := Nat.le_trans (splM_len (b := 58) (s := s) (by rw [hps]; simp)) h
    have hlc : c.length ≤ 1048576 := Nat.le_trans (splM_len (b := 58) (s := s) (by rw [hps]; simp)) h
    rw [hps]
    simp only [List.getD_cons_zero, List.getD_cons_succ]
    refine ⟨?_, ?_, ?_, fun h3 => retP_mzno (okM_no fun m hm hs => ?_), fun h3 => ?_⟩
    · simp [at_iff]
    · simp [at_iff]
    · simp [at_iff, hla]
    · have hp := partsM_of hm
      rw [hs, hp.ps] at hps
      injection hps with hps _
      rw [← hps, hp.qs] at h3
      simp at h3
    · have hq : (splL 120 a).length = 2 := by
        simp only [bne_eq_false_iff_eq] at h3
        omega
      obtain ⟨x, y, hqs⟩ : ∃ x y, splL 120 a = [x, y] := by
        match hl : splL 120 a, hq with
        | [x, y], _ => exact ⟨x, y, rfl⟩
      have hlx : x.length ≤ 1048576 := Nat.le_trans (splM_len (b := 120) (s := a) (by rw [hqs]; simp)) hla
      have hly : y.length ≤ 1048576 := Nat.le_trans (splM_len (b := 120) (s := a) (by rw [hqs]; simp)) hla
      rw [hqs]
      simp only [List.getD_cons_zero, List.getD_cons_succ]
      simp only [true_and, and_true, and_self, at_iff, List.length_cons, List.length_nil, hlx, hly]
      have hM : ∀ m : Mz, mzB m = true → s = textM m → (⟨readF x, readF y, cutM c, endM c⟩ : Mz) = m := fun m hm hs => by
        have hp := partsM_of hm
        have hc := cut_end (mz_bd hm).2.2.2.2.2 m.t
        rw [hs, hp.ps] at hps
        injection hps with j1 hps
        injection hps with j2 _
        rw [← j1, hp.qs] at hqs
        injection hqs with k1 hqs
        injection hqs with k2 _
        rw [← k1, ← k2, hp.rd.1, hp.rd.2, ← j2]
        unfold tailM
        rw [hc.1, hc.2]
      refine ⟨by omega, fun hc => ?_, fun hc => ?_⟩
      · have hc := of_decide_eq_true hc
        have e : IntKind.wrap IntKind.i64 ((c.length : Int) - 1) = ((c.length - 1 : Nat) : Int) := by
          rw [IntKind.wrap_i64]
          omega
        rw [e, Int.toNat_natCast]
        have hen : endM c = (((c.getD (c.length - 1) 0).toNat : Int) == 33) := by
          unfold endM
          rw [decide_eq_true (by omega), u8_beq _ (by omega) (by omega)]
          rfl
        refine ⟨⟨by omega, by omega⟩, fun h33 => ⟨⟨by omega, by omega⟩, ?_⟩, fun h33 => ?_⟩
        · have he : endM c = true := by rw [hen]; exact h33
          have hcut : cutM c = c.take (c.length - 1) := by unfold cutM; rw [he]; rfl
          rw [he, hcut] at hM
          exact rest_M hM
        · have he : endM c = false := by rw [hen]; exact h33
          have hcut : cutM c = c := by unfold cutM; rw [he]; rfl
          rw [he, hcut] at hM
          exact rest_M hM
      · have hc := of_decide_eq_false hc
        have he : endM c = false := by
          unfold endM
          rw [decide_eq_false (by omega)]
          rfl
        have hcut : cutM c = c := by unfold cutM; rw [he]; rfl
        rw [he, hcut] at hM
        exact rest_M hM
end Go.Vi
