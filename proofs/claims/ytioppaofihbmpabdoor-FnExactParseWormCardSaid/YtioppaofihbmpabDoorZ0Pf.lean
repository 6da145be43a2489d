/- Texts split at a byte, numbers read: the conditions hold. -/
import Derived.Test.YtioppaofihbmpabDoorZ0Vc
import Derived.Test.YtioppaofihbmpabDoorZ0Spec
namespace Go.Vi
theorem spl_le (b : UInt8) (s : List UInt8) : ∀ i, (spl b s i).2 ≤ i ∧ (spl b s i).1.length ≤ i
  | 0 => ⟨Nat.le_refl _, Nat.le_refl _⟩
  | i + 1 => by
    have := spl_le b s i
    unfold spl
    cases s.getD i 0 == b
    · simp only [cond_false]; omega
    · simp only [cond_true, List.length_append, List.length_cons, List.length_nil]; omega
theorem u8_beq (c : UInt8) {b : Int} (h0 : 0 ≤ b) (h1 : b < 256) : ((c.toNat : Int) == b) = (c == UInt8.ofNat b.toNat) := by
  rw [Bool.eq_iff_iff, beq_iff_eq, beq_iff_eq]
  constructor
  · rintro rfl
    simp
  · rintro rfl
    rw [UInt8.toNat_ofNat']
    omega
theorem retG_strs {l l' : List (List UInt8)} {n m : Nat} {e : TypeId} {b0 b1 : Blk} (hl : l' = l) (hn : n = m) : retG 0 (.row 0 m) [⟨.strs l, e, .row⟩] (.row 2 n) [b0, b1, ⟨.strs l', e, .row⟩] := by
  subst hl; subst hn
  unfold retG leSel leSelBy autoSel
  simp [pairsL, pairsV, idPairs, pairsIn, selOf, lookN, selMem, chkB, nodupSel, hasSel, prefSel, leSt, leL, leV, nilToL, V.nilTo, isNilS, findSel, selL, V.sel, Cells.selN, leMem, leCells, memUnder, underL, V.under]
  exact trivial
theorem vc_spec_l1Split (s : List UInt8) (b : Int) (h : 0 ≤ b ∧ b < 256 ∧ s.length ≤ 1048576) : VC_spec_l1Split s b (retG 0 (.row 0 (splL (UInt8.ofNat b.toNat) s).length) [⟨.strs (splL (UInt8.ofNat b.toNat) s), 9, .row⟩]) := by
  obtain ⟨h0, h1, h2⟩ := h
  unfold VC_spec_l1Split
  refine ⟨by simp [spl], ⟨h2, by omega, by omega⟩, fun i hi => ⟨fun hc => ?_, fun hc => ?_⟩⟩
  · have hc := of_decide_eq_true hc
    obtain ⟨g1, g2, g3⟩ := hi
    have hw : IntKind.wrap .i64 (i + 1) = i + 1 := wrap64_in (by omega)
    have e1 : (i + 1).toNat = i.toNat + 1 := by omega
    have hle := spl_le (UInt8.ofNat b.toNat) s i.toNat
    rw [hw, u8_beq _ h0 h1, e1]
    refine ⟨⟨g2, hc⟩, fun hb => ⟨⟨by omega, by omega, g3⟩, ⟨⟨by omega, by simp⟩, by omega, by omega⟩, ?_, ⟨⟨h2, by omega, by omega⟩, by omega⟩⟩, fun hb => ⟨?_, ⟨⟨h2, by omega, by omega⟩, by omega⟩⟩⟩
    · have hs : spl (UInt8.ofNat b.toNat) s (i.toNat + 1) = ((spl (UInt8.ofNat b.toNat) s i.toNat).1 ++ [(s.take i.toNat).drop (spl (UInt8.ofNat b.toNat) s i.toNat).2], i.toNat + 1) := by simp only [spl, hb, cond_true]
      simp [hs]
      omega
    · have hs : spl (UInt8.ofNat b.toNat) s (i.toNat + 1) = spl (UInt8.ofNat b.toNat) s i.toNat := by simp only [spl, hb, cond_false]
      simp [hs]
  · have hc := of_decide_eq_false hc
    obtain ⟨g1, g2, g3⟩ := hi
    have e : i = s.length := by omega
    subst e
    have hle := spl_le (UInt8.ofNat b.toNat) s s.length
    simp only [Int.toNat_natCast] at *
    refine ⟨⟨by omega, by omega⟩, ⟨⟨by omega, by simp⟩, by omega, by omega⟩, ?_⟩
    exact retG_strs (by simp [splL]) (by simp [splL])
theorem take_succ_get {l : List UInt8} {i : Nat} (h : i < l.length) : l.take (i + 1) = l.take i ++ [l.getD i 0] := by
  rw [List.take_succ_eq_append_getElem h]
  simp [List.getD_eq_getElem?_getD, List.getElem?_eq_getElem h]
theorem wrap8_dig {x : Int} (h0 : 48 ≤ x) (h1 : x ≤ 57) : IntKind.wrap .u8 (x - 48) = x - 48 := by
  simp only [IntKind.wrap, IntKind.signed, IntKind.bits]
  simp
  omega
theorem digB_iff {c : UInt8} : digB c = true ↔ 48 ≤ c.toNat ∧ c.toNat ≤ 57 := by simp [digB]
theorem valD_bd {s : List UInt8} (h : s.all digB = true) : ∀ i : Nat, i ≤ s.length → 0 ≤ valD s i ∧ valD s i < 10 ^ i
  | 0, _ => by simp [valD]
  | i + 1, hi => by
    obtain ⟨h1, h2⟩ := valD_bd h i (by omega)
    rw [List.all_eq_true] at h
    have hd := digB_iff.1 (h (s.getD i 0) (by rw [List.getD_eq_getElem?_getD, List.getElem?_eq_getElem (by omega)]; exact List.getElem_mem _))
    have e : (10 : Int) ^ (i + 1) = 10 * 10 ^ i := by rw [Int.pow_succ, Int.mul_comm]
    unfold valD
    rw [e]
    omega
theorem valD_take {s t : List UInt8} : ∀ i : Nat, (∀ j, j < i → s.getD j 0 = t.getD j 0) → valD s i = valD t i
  | 0, _ => rfl
  | i + 1, h => by
    unfold valD
    rw [valD_take i fun j hj => h j (by omega), h i (by omega)]
theorem read_no {s : List UInt8} {i : Nat} (hi : i < s.length) (hd : digB (s.getD i 0) = false) : readF s = -1 := by
  have : s.all digB = false := by
    rw [List.all_eq_false]
    refine ⟨s.getD i 0, ?_, by rw [hd]; simp⟩
    rw [List.getD_eq_getElem?_getD, List.getElem?_eq_getElem hi]
    exact List.getElem_mem _
  unfold readF
  rw [this, Bool.and_false]
  rfl
theorem vc_spec_l1Read (s : List UInt8) (h : s.length ≤ 1048576) : VC_spec_l1Read s (retP (.int .i64 (readF s))) := by
  unfold VC_spec_l1Read
  refine ⟨⟨trivial⟩, fun hn => ?_, fun hn => ?_⟩
  · rw [retP_int]
    simp only [Bool.not_eq_true'] at hn
    simp [readF, hn]
  · simp only [Bool.not_eq_false'] at hn
    have hl := inB_eq.1 hn
    have body : ∀ (i : Int), redInv s i → i < s.length → ((s.getD i.toNat 0).toNat : Int) ≥ 48 → ((s.getD i.toNat 0).toNat : Int) ≤ 57 →
        (IntKind.wrap .i64 (i + 1) = i + 1 ∧ IntKind.wrap .i64 (IntKind.wrap .i64 (10 * valD s i.toNat) + IntKind.wrap .i64 (IntKind.wrap .u8 (((s.getD i.toNat 0).toNat : Int) - 48))) = valD s (i + 1).toNat) ∧ redInv s (i + 1) ∧ ((s.length : Int) - (i + 1)).toNat < ((s.length : Int) - i).toNat := by
      intro i hi hc hd1 hd2
      obtain ⟨⟨g1, g2⟩, ⟨g3, g4⟩, g5, g6⟩ := hi
      have e1 : (i + 1).toNat = i.toNat + 1 := by omega
      have hlt : i.toNat < s.length := by omega
      have hall : (s.take (i.toNat + 1)).all digB = true := by
        rw [take_succ_get hlt, List.all_append, g5]
        simp only [List.all_cons, List.all_nil, Bool.and_true, Bool.true_and]
        exact digB_iff.2 (by omega)
      have hv := valD_bd g5 i.toNat (by rw [List.length_take]; omega)
      rw [valD_take (t := s) i.toNat fun j hj => by simp [List.getD_eq_getElem?_getD, hj]] at hv
      have hp : (10 : Int) ^ i.toNat ≤ 10 ^ 5 := by
        have h5 : i.toNat ≤ 5 := by omega
        have : 10 ^ i.toNat ≤ 10 ^ 5 := Nat.pow_le_pow_right (by omega) h5
        exact_mod_cast this
      have hp5 : (10 : Int) ^ 5 = 100000 := by decide
      have w8 := wrap8_dig hd1 hd2
      refine ⟨⟨wrap64_in (by omega), ?_⟩, ⟨⟨g1, g2⟩, ⟨by omega, by omega⟩, by rw [e1]; exact hall, g6⟩, by omega⟩
      rw [w8, wrap64_in (x := ((s.getD i.toNat 0).toNat : Int) - 48) (by omega), wrap64_in (x := 10 * valD s i.toNat) (by omega), wrap64_in (by omega), e1]
      rfl
    have fin : ∀ (i : Int), redInv s i → ¬ i < s.length → valD s i.toNat = readF s := by
      intro i hi hc
      obtain ⟨_, ⟨g3, g4⟩, g5, g6⟩ := hi
      have e : i = s.length := by omega
      subst e
      simp only [Int.toNat_natCast, List.take_length] at g5 ⊢
      unfold readF
      rw [hn, g5, g6]
      rfl
    have lo : ∀ (i : Int), redInv s i → i < s.length → ((s.getD i.toNat 0).toNat : Int) < 48 → -1 = readF s := fun i hi hc hd => by
      refine (read_no (i := i.toNat) (by have := hi.2.1.1; omega) ?_).symm
      exact Bool.and_eq_false_iff.2 (.inl (decide_eq_false (by omega)))
    have hi' : ∀ (i : Int), redInv s i → i < s.length → ((s.getD i.toNat 0).toNat : Int) > 57 → -1 = readF s := fun i hi hc hd => by
      refine (read_no (i := i.toNat) (by have := hi.2.1.1; omega) ?_).symm
      exact Bool.and_eq_false_iff.2 (.inr (decide_eq_false (by omega)))
    have rest : (!(s.getD 0 0 == 48 && decide (1 < s.length))) = true → redInv s 0 := fun hz => ⟨by omega, by omega, rfl, hz⟩
    simp only [at_iff, retP_int, decide_eq_true_eq, decide_eq_false_iff_not, beq_iff_eq, beq_eq_false_iff_ne]
    refine ⟨by omega, fun h0 => ⟨fun h1 => ?_, fun h1 => ?_⟩, fun h0 => ?_⟩
    · have h48 : s.getD 0 0 = 48 := by
        apply UInt8.toNat_inj.1
        have : (s.getD (Int.toNat 0) 0).toNat = 48 := by omega
        simpa using this
      unfold readF
      rw [h48]
      have : decide (1 < s.length) = true := decide_eq_true (by omega)
      simp [this]
    · refine ⟨by simp [valD], rest ?_, fun i hi => ⟨fun hc => ⟨⟨hi.2.1.1, hc⟩, fun hd => lo i hi hc hd, fun hd => ⟨⟨hi.2.1.1, hc⟩, fun hd2 => hi' i hi hc hd2, fun hd2 => ⟨⟨hi.2.1.1, hc⟩, ?_⟩⟩⟩, fun hc => fin i hi hc⟩⟩
      · have : decide (1 < s.length) = false := decide_eq_false (by omega)
        rw [this, Bool.and_false]; rfl
      · obtain ⟨⟨b1, b2⟩, b3, b4⟩ := body i hi hc (by omega) (by omega)
        rw [b1, b2]
        exact ⟨by simp, b3, b4⟩
    · refine ⟨by simp [valD], rest ?_, fun i hi => ⟨fun hc => ⟨⟨hi.2.1.1, hc⟩, fun hd => lo i hi hc hd, fun hd => ⟨⟨hi.2.1.1, hc⟩, fun hd2 => hi' i hi hc hd2, fun hd2 => ⟨⟨hi.2.1.1, hc⟩, ?_⟩⟩⟩, fun hc => fin i hi hc⟩⟩
      · have : (s.getD 0 0 == 48) = false := by
          rw [beq_eq_false_iff_ne]
          intro e
          apply h0
          rw [show Int.toNat 0 = 0 from rfl, e]
          rfl
        rw [this, Bool.false_and]; rfl
      · obtain ⟨⟨b1, b2⟩, b3, b4⟩ := body i hi hc (by omega) (by omega)
        rw [b1, b2]
        exact ⟨by simp, b3, b4⟩
/-! ### what the parts are -/
def conP (c : UInt8) : List (List UInt8) → List (List UInt8)
  | [] => [[c]]
  | p :: r => (c :: p) :: r
def partsF (b : UInt8) : List UInt8 → List (List UInt8)
  | [] => [[]]
  | c :: s => bif c == b then [] :: partsF b s else conP c (partsF b s)
def joinB (b : UInt8) : List (List UInt8) → List UInt8
  | [] => []
  | p :: r => (match r with | [] => p | _ => p ++ b :: joinB b r)
theorem partsF_app {b : UInt8} : ∀ {x y : List UInt8}, b ∉ x → partsF b (x ++ b :: y) = x :: partsF b y
  | [], y, _ => by simp [partsF]
  | c :: x, y, h => by
    simp only [List.mem_cons, not_or] at h
    have hc : (c == b) = false := by rw [beq_eq_false_iff_ne]; exact fun e => h.1 e.symm
    simp only [List.cons_append, partsF, hc, cond_false]
    rw [partsF_app h.2]
    rfl
theorem partsF_none {b : UInt8} : ∀ {x : List UInt8}, b ∉ x → partsF b x = [x]
  | [], _ => rfl
  | c :: x, h => by
    simp only [List.mem_cons, not_or] at h
    have hc : (c == b) = false := by rw [beq_eq_false_iff_ne]; exact fun e => h.1 e.symm
    simp only [partsF, hc, cond_false]
    rw [partsF_none h.2]
    rfl
theorem partsF_ne (b : UInt8) : ∀ s, partsF b s ≠ []
  | [] => by simp [partsF]
  | c :: s => by
    unfold partsF
    cases c == b
    · simp only [cond_false]
      cases partsF b s <;> simp [conP]
    · simp
theorem joinB_parts (b : UInt8) : ∀ s, joinB b (partsF b s) = s
  | [] => rfl
  | c :: s => by
    have ih := joinB_parts b s
    have hn := partsF_ne b s
    unfold partsF
    cases hc : c == b
    · simp only [cond_false]
      cases hp : partsF b s with
      | nil => exact absurd hp hn
      | cons p r =>
        rw [hp] at ih
        cases r with
        | nil => simp only [joinB] at ih; simp [conP, joinB, ih]
        | cons q r => simp only [joinB] at ih; simp only [conP, joinB, List.cons_append, ih]
    · simp only [cond_true]
      have : c = b := by simpa using hc
      subst this
      cases hp : partsF c s with
      | nil => exact absurd hp hn
      | cons p r =>
        rw [hp] at ih
        show [] ++ c :: joinB c (p :: r) = _
        rw [ih]; rfl
theorem partsF_free (b : UInt8) : ∀ s, ∀ p ∈ partsF b s, b ∉ p
  | [], p, hp => by simp [partsF] at hp; subst hp; simp
  | c :: s, p, hp => by
    have ih := partsF_free b s
    unfold partsF at hp
    cases hc : c == b
    · rw [hc] at hp
      simp only [cond_false] at hp
      have hcb : ¬ b = c := by
        intro e
        rw [e] at hc; simp at hc
      cases hq : partsF b s with
      | nil => exact absurd hq (partsF_ne b s)
      | cons q r =>
        rw [hq] at hp ih
        simp only [conP, List.mem_cons] at hp
        rcases hp with rfl | hp
        · simp only [List.mem_cons, not_or]
          exact ⟨hcb, ih q (by simp)⟩
        · exact ih p (by simp [hp])
    · rw [hc] at hp
      simp only [cond_true, List.mem_cons] at hp
      rcases hp with rfl | hp
      · simp
      · exact ih p hp
theorem spl_parts (b : UInt8) (s : List UInt8) : ∀ i, i ≤ s.length → partsF b s = (spl b s i).1 ++ partsF b (s.drop (spl b s i).2) ∧ b ∉ (s.take i).drop (spl b s i).2
  | 0, _ => by simp [spl]
  | i + 1, hi => by
    obtain ⟨h1, h2⟩ := spl_parts b s i (by omega)
    have hle := (spl_le b s i).1
    have hlt : i < s.length := by omega
    have hd : s.drop (spl b s i).2 = (s.take i).drop (spl b s i).2 ++ s.getD i 0 :: s.drop (i + 1) := by
      have e : s = s.take i ++ s.getD i 0 :: s.drop (i + 1) := by
        have := List.take_append_drop i s
        rw [List.drop_eq_getElem_cons hlt] at this
        rw [List.getD_eq_getElem?_getD, List.getElem?_eq_getElem hlt]
        exact this.symm
      have e2 := congrArg (List.drop (spl b s i).2) e
      rw [List.drop_append_of_le_length (by rw [List.length_take]; omega)] at e2
      exact e2
    unfold spl
    cases hb : s.getD i 0 == b
    · simp only [cond_false]
      refine ⟨h1, ?_⟩
      rw [take_succ_get hlt, List.drop_append_of_le_length (by rw [List.length_take]; omega), List.mem_append, not_or]
      refine ⟨h2, ?_⟩
      simp only [List.mem_singleton]
      intro e
      rw [← e] at hb; simp at hb
    · simp only [cond_true]
      have hbe : s.getD i 0 = b := by simpa using hb
      refine ⟨?_, by simp⟩
      rw [h1, hd, hbe, partsF_app h2, List.append_assoc]
      rfl
theorem splL_eq (b : UInt8) (s : List UInt8) : splL b s = partsF b s := by
  obtain ⟨h1, h2⟩ := spl_parts b s s.length (Nat.le_refl _)
  rw [List.take_length] at h2
  rw [h1, partsF_none h2]
  rfl
theorem splL_app {b : UInt8} {x y : List UInt8} (h : b ∉ x) : splL b (x ++ b :: y) = x :: splL b y := by rw [splL_eq, splL_eq, partsF_app h]
theorem splL_none {b : UInt8} {x : List UInt8} (h : b ∉ x) : splL b x = [x] := by rw [splL_eq, partsF_none h]
/-! ### one digit -/
theorem num1_not {n : Int} (h : 0 ≤ n ∧ n ≤ 9) {b : UInt8} (hb : b.toNat < 48 ∨ 57 < b.toNat) : b ∉ num1 n := by
  unfold num1
  simp only [List.mem_singleton]
  rintro rfl
  rw [UInt8.toNat_ofNat'] at hb
  omega
theorem num1_dig {n : Int} (h : 0 ≤ n ∧ n ≤ 9) : (((num1 n).getD 0 0).toNat : Int) - 48 = n := by
  simp only [num1, List.getD_cons_zero, UInt8.toNat_ofNat']
  omega
theorem read_num1 {n : Int} (h : 0 ≤ n ∧ n ≤ 9) : readF (num1 n) = n := by
  have hd := num1_dig h
  have e : (num1 n).all digB = true := by
    simp only [num1, List.all_cons, List.all_nil, Bool.and_true, digB_iff, UInt8.toNat_ofNat']
    omega
  have h1 : (num1 n).length = 1 := rfl
  unfold readF
  rw [e, h1]
  have : decide (1 < 1) = false := by decide
  rw [this, Bool.and_false]
  show valD (num1 n) 1 = n
  simp only [valD]
  omega
theorem valD_low {s : List UInt8} (h : s.all digB = true) (h0 : 49 ≤ (s.getD 0 0).toNat) : ∀ i : Nat, i + 1 ≤ s.length → (10 : Int) ^ i ≤ valD s (i + 1)
  | 0, _ => by simp only [valD]; omega
  | i + 1, hi => by
    have ih := valD_low h h0 i (by omega)
    rw [List.all_eq_true] at h
    have hd := digB_iff.1 (h (s.getD (i + 1) 0) (by rw [List.getD_eq_getElem?_getD, List.getElem?_eq_getElem (by omega)]; exact List.getElem_mem _))
    have e : (10 : Int) ^ (i + 1) = 10 * 10 ^ i := by rw [Int.pow_succ, Int.mul_comm]
    rw [e]
    unfold valD
    omega
theorem read_one {s : List UInt8} {n : Int} (h : readF s = n) (hn : 0 ≤ n ∧ n ≤ 9) : s = num1 n := by
  unfold readF at h
  cases hc : (inB s.length 1 6 && !(s.getD 0 0 == 48 && decide (1 < s.length)) && s.all digB) with
  | false => rw [hc] at h; simp only [cond_false] at h; omega
  | true =>
    rw [hc] at h
    simp only [cond_true] at h
    simp only [Bool.and_eq_true] at hc
    obtain ⟨⟨h1, h2⟩, h3⟩ := hc
    have hl := inB_eq.1 h1
    have hd0 := digB_iff.1 (List.all_eq_true.1 h3 (s.getD 0 0) (by rw [List.getD_eq_getElem?_getD, List.getElem?_eq_getElem (by omega)]; exact List.getElem_mem _))
    by_cases h4 : s.length = 1
    · match s, h4 with
      | [c], _ =>
        simp only [List.length_cons, List.length_nil, Nat.zero_add, valD, List.getD_cons_zero] at h
        simp only [num1, List.cons.injEq, and_true]
        apply UInt8.toNat_inj.1
        rw [UInt8.toNat_ofNat']
        omega
    · exfalso
      have h5 : 1 < s.length := by omega
      have h49 : 49 ≤ (s.getD 0 0).toNat := by
        rcases Nat.lt_or_ge (s.getD 0 0).toNat 49 with hlt | hge
        · have e48 : s.getD 0 0 = 48 := by
            apply UInt8.toNat_inj.1
            show _ = 48
            omega
          rw [e48, decide_eq_true h5] at h2
          simp at h2
        · exact hge
      obtain ⟨k, hk⟩ : ∃ k, s.length = k + 2 := ⟨s.length - 2, by omega⟩
      have hlow : (10 : Int) ^ (k + 1) ≤ valD s (k + 2) := valD_low h3 h49 (k + 1) (by omega)
      rw [hk] at h
      have hp : (10 : Int) ≤ 10 ^ (k + 1) := by
        have : 10 ^ 1 ≤ 10 ^ (k + 1) := Nat.pow_le_pow_right (by omega) (by omega)
        exact_mod_cast this
      omega
end Go.Vi
