/- Tables whose states or tints have other names: the conditions hold. -/
import Derived.Test.YtehglmfhohinbaaDoorTNVc
import Derived.Test.YtehglmfhohinbaaDoorTNSpec
namespace Go.Vi
set_option linter.unusedSimpArgs false
set_option linter.unusedVariables false
theorem mk_wrap {x : Int} (h : -9223372036854775808 ≤ x ∧ x ≤ 9223372036854775807) : IntKind.wrap .i64 x = x := IntWalk.i64_in _ (by omega)
theorem recT {b : Bool} (h : b = true) : (Bool.rec False True b : Prop) := by subst h; trivial
theorem ek_refl (e : TypeId) (k : Kind) : (Bool.rec False True (Nat.beq e e && decide (k = k)) : Prop) := recT (by simp)
theorem retG_a1 {q r : Int} {a : List Int} {e : TypeId} {k : Kind} {J : List Blk} (h : q = r) : retG 1 (.int .i64 r) [⟨.ints .i64 a, e, k⟩] (.int .i64 q) (⟨.ints .i64 a, e, k⟩ :: J) := by
  subst h
  unfold retG leSel leSelBy autoSel
  simp [pairsL, pairsV, idPairs, pairsIn, selOf, lookN, selMem, chkB, nodupSel, hasSel, prefSel, leSt, leL, leV, nilToL, V.nilTo, selL, V.sel, Cells.selN, leMem, leCells, memUnder, underL, V.under]
theorem retG_a1l {q r : Bool} {a : List Int} {e : TypeId} {k : Kind} {J : List Blk} (h : q = r) : retG 1 (.bool r) [⟨.ints .i64 a, e, k⟩] (.lit q) (⟨.ints .i64 a, e, k⟩ :: J) := by
  subst h
  unfold retG leSel leSelBy autoSel
  simp [pairsL, pairsV, idPairs, pairsIn, selOf, lookN, selMem, chkB, nodupSel, hasSel, prefSel, leSt, leL, leV, nilToL, V.nilTo, selL, V.sel, Cells.selN, leMem, leCells, memUnder, underL, V.under]
theorem retG_a2l {q r : Bool} {a b : List Int} {e f : TypeId} {k g : Kind} {J : List Blk} (h : q = r) : retG 2 (.bool r) [⟨.ints .i64 a, e, k⟩, ⟨.ints .i64 b, f, g⟩] (.lit q) (⟨.ints .i64 a, e, k⟩ :: ⟨.ints .i64 b, f, g⟩ :: J) := by
  subst h
  unfold retG leSel leSelBy autoSel
  simp [pairsL, pairsV, idPairs, pairsIn, selOf, lookN, selMem, chkB, nodupSel, hasSel, prefSel, leSt, leL, leV, nilToL, V.nilTo, selL, V.sel, Cells.selN, leMem, leCells, memUnder, underL, V.under]
theorem retG_copy {a b : List Int} {e f : TypeId} {k g : Kind} {n : Nat} {J : List Blk} (h : b = a) : retG 1 (.row 1 n) [⟨.ints .i64 a, e, k⟩, ⟨.ints .i64 a, f, g⟩] (.row 1 n) (⟨.ints .i64 a, e, k⟩ :: ⟨.ints .i64 b, f, g⟩ :: J) := by
  subst h
  unfold retG leSel leSelBy autoSel
  simp [pairsL, pairsV, idPairs, pairsIn, selOf, lookN, findSel, selMem, chkB, nodupSel, hasSel, prefSel, leSt, leL, leV, nilToL, V.nilTo, isNilS, isGhost, selL, V.sel, Cells.selN, leMem, leCells, memUnder, underL, V.under]
  trivial
theorem ne_at {α : Type} [BEq α] [LawfulBEq α] {a b : List α} {i : Nat} {d : α} (h : (a.getD i d == b.getD i d) = false) : (a == b) = false := by
  rw [beq_eq_false_iff_ne] at h ⊢
  rintro rfl
  exact h rfl
theorem set_fill {α : Type} {l : List α} {i : Nat} (h : i < l.length) (d z : α) : (l.take i ++ List.replicate (l.length - i) z).set i (l.getD i d) = l.take (i + 1) ++ List.replicate (l.length - (i + 1)) z := by
  have e : l.length - i = (l.length - (i + 1)) + 1 := by omega
  rw [List.set_append_right _ _ (by rw [List.length_take]; omega), List.length_take, Nat.min_eq_left (by omega), Nat.sub_self, e, List.replicate_succ, List.set_cons_zero, List.take_succ_eq_append_getElem h,
    List.getD_eq_getElem?_getD, List.getElem?_eq_getElem h, List.append_assoc]
  rfl
theorem fill_end {α : Type} {l : List α} {i : Nat} (h : ¬ i < l.length) (z : α) : l.take i ++ List.replicate (l.length - i) z = l := by
  rw [List.take_of_length_le (by omega), show l.length - i = 0 by omega]
  simp
theorem fill_len {α : Type} {l : List α} {i : Nat} (h : i ≤ l.length) (z : α) : (l.take i ++ List.replicate (l.length - i) z).length = l.length := by
  rw [List.length_append, List.length_take, List.length_replicate]
  omega
theorem retG_a1b {q r : Bool} {a : List Int} {e : TypeId} {k : Kind} {J : List Blk} (h : q = r) : retG 1 (.bool r) [⟨.ints .i64 a, e, k⟩] (.bool q) (⟨.ints .i64 a, e, k⟩ :: J) := by
  subst h
  unfold retG leSel leSelBy autoSel
  simp [pairsL, pairsV, idPairs, pairsIn, selOf, lookN, selMem, chkB, nodupSel, hasSel, prefSel, leSt, leL, leV, nilToL, V.nilTo, selL, V.sel, Cells.selN, leMem, leCells, memUnder, underL, V.under]
theorem hasI_iff {x : Int} : ∀ {q : List Int}, hasI q x = true ↔ x ∈ q
  | [] => by simp [hasI]
  | y :: q => by
    simp only [hasI, Bool.or_eq_true, beq_iff_eq, hasI_iff, List.mem_cons]
    constructor
    · rintro (h | h)
      · exact .inl h.symm
      · exact .inr h
    · rintro (h | h)
      · exact .inl h.symm
      · exact .inr h
theorem hasI_append {x : Int} {a b : List Int} : hasI (a ++ b) x = (hasI a x || hasI b x) := by
  rw [Bool.eq_iff_iff]
  simp only [Bool.or_eq_true, hasI_iff, List.mem_append]
theorem idxI_no {x : Int} : ∀ {q : List Int}, hasI q x = false → idxI q x = -1
  | [], _ => rfl
  | y :: q, h => by
    simp only [hasI, Bool.or_eq_false_iff] at h
    simp only [idxI, h.1, h.2, cond_false]
theorem idxI_ge {x : Int} : ∀ {q : List Int}, hasI q x = true → 0 ≤ idxI q x
  | y :: q, h => by
    unfold idxI
    cases hy : y == x with
    | true => exact Int.le_refl _
    | false =>
      simp only [hasI, hy, Bool.false_or] at h
      have := idxI_ge h
      simp only [h, cond_false, cond_true]
      omega
theorem idxI_at {x : Int} : ∀ {q : List Int} {i : Nat}, i < q.length → hasI (q.take i) x = false → (q.getD i 0 == x) = true → idxI q x = (i : Int)
  | y :: q, 0, _, _, h => by
    simp only [List.getD_cons_zero] at h
    simp only [idxI, h, cond_true]; rfl
  | y :: q, i + 1, hi, hn, h => by
    simp only [List.take_succ_cons, hasI, Bool.or_eq_false_iff] at hn
    simp only [List.getD_cons_succ] at h
    simp only [List.length_cons] at hi
    have hi : i < q.length := by omega
    have hh : hasI q x = true := hasI_iff.2 (by rw [← eq_of_beq h]; exact getD_mem hi 0)
    simp only [idxI, hn.1, hh, cond_false, cond_true, idxI_at hi hn.2 h]
    omega
theorem has_step {a : List Int} {x i : Int} (h : hasInv a x i) (hi : i < a.length) (hn : (a.getD i.toNat 0 == x) = false) : hasInv a x (i + 1) := by
  obtain ⟨⟨g1, g2⟩, g3⟩ := h
  refine ⟨⟨by omega, by omega⟩, ?_⟩
  rw [show (i + 1).toNat = i.toNat + 1 by omega, take_snoc (by omega) 0, hasI_append, g3]
  simp only [hasI, hn, Bool.or_false]
theorem has_all {a : List Int} {x i : Int} (h : hasInv a x i) (hi : ¬ i < a.length) : hasI a x = false := by
  have h2 := h.2
  rw [List.take_of_length_le (by omega)] at h2
  exact h2
theorem has_mem {a : List Int} {x i : Int} (g : 0 ≤ i) (hi : i < a.length) (hy : (a.getD i.toNat 0 == x) = true) : hasI a x = true :=
  hasI_iff.2 (by rw [← eq_of_beq hy]; exact getD_mem (by omega) 0)
theorem vc_laws_toIntS (n : Nat) (a : List Int) (e : TypeId) (k : Kind) (h : a.length = n ∧ n ≤ 2000000) : VC_laws_toIntS n a e k (retG 1 (.row 1 n) [⟨.ints .i64 a, e, k⟩, ⟨.ints .i64 a, 3, .row⟩]) := by
  obtain ⟨rfl, h2⟩ := h
  unfold VC_laws_toIntS
  refine ⟨⟨by omega, by omega, by omega⟩, ⟨trivial, by simp, ⟨⟨ek_refl e k, rfl, rfl⟩, ⟨trivial, rfl, by simp⟩, trivial⟩, trivial⟩, ⟨by omega, by omega⟩, fun i hi => ⟨fun hc => ?_, fun hc => retG_copy ?_⟩⟩
  · have hc := of_decide_eq_true hc
    obtain ⟨g1, g2⟩ := hi
    have hil : i.toNat < a.length := by omega
    rw [wrap64_in (x := i + 1) (by omega), show (i + 1).toNat = i.toNat + 1 by omega]
    exact ⟨⟨g1, hc⟩, ⟨hil⟩, ⟨g1, hc⟩, ⟨by rw [fill_len (by omega)]; exact hil⟩, ⟨trivial, by simp, ⟨⟨ek_refl e k, rfl, rfl⟩, ⟨trivial, rfl, set_fill hil 0 0⟩, trivial⟩, trivial⟩, ⟨⟨by omega, by omega⟩, by omega⟩⟩
  · have hc := of_decide_eq_false hc
    exact fill_end (by omega) 0
theorem vc_laws_eqIntS (n m : Nat) (a b : List Int) (e : TypeId) (k : Kind) (f : TypeId) (q : Kind) (h : a.length = n ∧ b.length = m ∧ n ≤ 2000000 ∧ m ≤ 2000000) : VC_laws_eqIntS n m a b e k f q (retG 2 (.bool (a == b)) [⟨.ints .i64 a, e, k⟩, ⟨.ints .i64 b, f, q⟩]) := by
  obtain ⟨rfl, rfl, h1, h2⟩ := h
  unfold VC_laws_eqIntS
  refine ⟨fun hne => retG_a2l ?_, fun heq => ⟨⟨by simp, ⟨⟨ek_refl e k, rfl, rfl⟩, ⟨ek_refl f q, rfl, rfl⟩, trivial⟩, trivial⟩, ?_, fun i hi => ⟨fun hc => ?_, fun hc => retG_a2l ?_⟩⟩⟩
  · symm
    rw [beq_eq_false_iff_ne]
    rintro rfl
    simp at hne
  · simp only [bne_eq_false_iff_eq] at heq
    exact ⟨by omega, by omega, by omega, h1, rfl⟩
  · have hc := of_decide_eq_true hc
    obtain ⟨g1, g2, g3, g4, g5⟩ := hi
    have hla : i.toNat < a.length := by omega
    have hlb : i.toNat < b.length := by omega
    rw [mk_wrap (x := i + 1) (by omega)]
    refine ⟨trivial, ⟨g1, hc⟩, ⟨hla⟩, ⟨by omega, by omega⟩, ⟨hlb⟩, fun hn => retG_a2l ?_, fun he => ⟨⟨by simp, ⟨⟨ek_refl e k, rfl, rfl⟩, ⟨ek_refl f q, rfl, rfl⟩, trivial⟩, trivial⟩, ⟨⟨by omega, by omega, g3, g4, ?_⟩, by omega⟩⟩⟩
    · exact (ne_at (i := i.toNat) (d := 0) (by simpa [bne] using hn)).symm
    · simp only [bne_eq_false_iff_eq] at he
      rw [show (i + 1).toNat = i.toNat + 1 by omega, take_snoc hla 0, take_snoc hlb 0, g5, he]
  · have hc := of_decide_eq_false hc
    obtain ⟨g1, g2, g3, g4, g5⟩ := hi
    rw [List.take_of_length_le (by omega), List.take_of_length_le (by omega)] at g5
    simp [g5]
theorem vc_spec_l1Has (v : Int) (n : Nat) (a : List Int) (e : TypeId) (k : Kind) (h : a.length = n ∧ n ≤ 2000000) : VC_spec_l1Has v n a e k (retG 1 (.bool (hasI a v)) [⟨.ints .i64 a, e, k⟩]) := by
  obtain ⟨rfl, h2⟩ := h
  unfold VC_spec_l1Has
  refine ⟨⟨by simp, ⟨⟨ek_refl e k, rfl, rfl⟩, trivial⟩, trivial⟩, ⟨⟨by omega, by omega⟩, rfl⟩, fun i hi => ⟨fun hc => ?_, fun hc => retG_a1l (has_all hi (of_decide_eq_false hc)).symm⟩⟩
  have hc := of_decide_eq_true hc
  have g1 := hi.1.1
  rw [wrap64_in (x := i + 1) (by omega)]
  exact ⟨⟨g1, hc⟩, ⟨by omega⟩, fun hy => retG_a1l (has_mem g1 hc hy).symm, fun hn => ⟨⟨by simp, ⟨⟨ek_refl e k, rfl, rfl⟩, trivial⟩, trivial⟩, ⟨has_step hi hc hn, by omega⟩⟩⟩
theorem vc_slices_Index_int_int (v : Int) (n : Nat) (a : List Int) (e : TypeId) (k : Kind) (h : a.length = n ∧ n ≤ 2000000) : VC_slices_Index_int_int v n a e k (retG 1 (.int .i64 (idxI a v)) [⟨.ints .i64 a, e, k⟩]) := by
  obtain ⟨rfl, h2⟩ := h
  unfold VC_slices_Index_int_int
  refine ⟨⟨by simp, ⟨⟨ek_refl e k, rfl, rfl⟩, trivial⟩, trivial⟩, ⟨⟨by omega, by omega⟩, rfl⟩, fun i hi => ⟨fun hc => ?_, fun hc => retG_a1 (idxI_no (has_all hi (of_decide_eq_false hc))).symm⟩⟩
  have hc := of_decide_eq_true hc
  have g1 := hi.1.1
  rw [wrap64_in (x := i + 1) (by omega), show (v == a.getD i.toNat 0) = (a.getD i.toNat 0 == v) from BEq.comm]
  refine ⟨⟨g1, hc⟩, ⟨by omega⟩, fun hy => retG_a1 ?_, fun hn => ⟨⟨by simp, ⟨⟨ek_refl e k, rfl, rfl⟩, trivial⟩, trivial⟩, ⟨has_step hi hc hn, by omega⟩⟩⟩
  rw [idxI_at (by omega) hi.2 hy]
  omega
theorem vc_slices_Contains_int_int (v : Int) (n : Nat) (a : List Int) (h : a.length = n ∧ n ≤ 2000000) : VC_slices_Contains_int_int v n a (retG 1 (.bool (hasI a v)) [⟨.ints .i64 a, 3, .row⟩]) := by
  unfold VC_slices_Contains_int_int
  refine ⟨⟨h⟩, retG_a1b ?_⟩
  cases hb : hasI a v with
  | true => exact decide_eq_true (idxI_ge hb)
  | false => rw [idxI_no hb]; rfl
theorem ramp_len (k : Int) (n : Nat) : (ramp k n).length = n := by simp [ramp]
theorem ramp_succ (k : Int) (n : Nat) : ramp k (n + 1) = ramp k n ++ [k + (n : Int)] := by simp [ramp, List.range_succ]
theorem mrkRow_len {a : List Int} {k : Int} {i : Nat} (h : i ≤ a.length) : (mrkRow a k i).length = a.length := by
  simp only [mrkRow, List.length_append, ramp_len, List.length_drop]
  omega
theorem mrkRow_set {a : List Int} {k v : Int} {i : Nat} (h : i < a.length) (hv : v = k + (i : Int)) : (mrkRow a k i).set i v = mrkRow a k (i + 1) := by
  subst hv
  unfold mrkRow
  rw [List.set_append_right _ _ (by rw [ramp_len]; exact Nat.le_refl _), ramp_len, Nat.sub_self, List.drop_eq_getElem_cons h, List.set_cons_zero, ramp_succ, List.append_assoc]
  rfl
theorem retG_w1 {q r : Int} {a b : List Int} {e : TypeId} {k : Kind} {J : List Blk} (h : q = r) (hb : b = a) : retG 1 (.int .i64 r) [⟨.ints .i64 a, e, k⟩] (.int .i64 q) (⟨.ints .i64 b, e, k⟩ :: J) := by
  subst hb; exact retG_a1 h
theorem vc_laws_markIntS (k : Int) (n : Nat) (a : List Int) (h : a.length = n ∧ n ≤ 2000000 ∧ 0 ≤ k ∧ k ≤ 1000000000000000) : VC_laws_markIntS k n a (retG 1 (.int .i64 (k + (n : Nat))) [⟨.ints .i64 (ramp k n), 3, .row⟩]) := by
  obtain ⟨rfl, h1, h2, h3⟩ := h
  unfold VC_laws_markIntS
  refine ⟨by simp [mrkRow, ramp], ⟨by omega, by omega⟩, fun i hi => ⟨fun hc => ?_, fun hc => ?_⟩⟩
  · have hc := of_decide_eq_true hc
    obtain ⟨g1, g2⟩ := hi
    rw [mk_wrap (x := i + 1) (by omega), mk_wrap (x := k + i + 1) (by omega), mrkRow_set (by omega) (show k + i = k + ((i.toNat : Nat) : Int) by omega), mrkRow_len (by omega), show (i + 1).toNat = i.toNat + 1 by omega]
    refine ⟨⟨g1, hc⟩, ⟨by omega⟩, ⟨⟨⟨rfl, rfl⟩, ⟨trivial, by omega⟩, ⟨trivial, rfl⟩, trivial⟩, ⟨⟨trivial, rfl, rfl⟩, trivial⟩, trivial⟩, ⟨⟨by omega, by omega⟩, by omega⟩⟩
  · have hc := of_decide_eq_false hc
    obtain ⟨g1, g2⟩ := hi
    have e : i.toNat = a.length := by omega
    refine retG_w1 (by omega) ?_
    unfold mrkRow
    rw [e, List.drop_length, List.append_nil]
theorem vc_spec_l1All (lo hi : Int) (n : Nat) (a : List Int) (h : a.length = n ∧ n ≤ 2000000) : VC_spec_l1All lo hi n a (retG 1 (.bool (allB a lo hi)) [⟨.ints .i64 a, 3, .row⟩]) := by
  obtain ⟨rfl, h2⟩ := h
  unfold VC_spec_l1All
  refine ⟨⟨by simp, ⟨⟨trivial, rfl, rfl⟩, trivial⟩, trivial⟩, ⟨by omega, by omega, rfl⟩, fun i ⟨g1, g2, g3⟩ => ⟨fun hc => ?_, fun hc => retG_a1l ?_⟩⟩
  · have hc := of_decide_eq_true hc
    have hil : i.toNat < a.length := by omega
    rw [wrap64_in (x := i + 1) (by omega)]
    refine ⟨⟨g1, hc⟩, ⟨hil⟩, ⟨trivial⟩, fun hn => retG_a1l ?_, fun hy => ⟨⟨by simp, ⟨⟨trivial, rfl, rfl⟩, trivial⟩, trivial⟩, ⟨⟨by omega, by omega, ?_⟩, by omega⟩⟩⟩
    · symm
      simp only [Bool.not_eq_true'] at hn
      unfold allB
      rw [List.all_eq_false]
      exact ⟨_, getD_mem hil 0, by rw [hn]; decide⟩
    · simp only [Bool.not_eq_false'] at hy
      unfold allB at g3 ⊢
      rw [show (i + 1).toNat = i.toNat + 1 by omega, take_snoc hil 0, List.all_append, g3]
      simp only [List.all_cons, List.all_nil, hy, Bool.and_self]
  · have hc := of_decide_eq_false hc
    rw [List.take_of_length_le (by omega)] at g3
    exact g3.symm
/-! ### orders -/
theorem nd_take {a : List Int} {i : Nat} (h : hasI (a.take i) (a.getD i 0) = true) (hi : i < a.length) : ndB a a.length = false := by
  cases hb : ndB a a.length with
  | false => rfl
  | true =>
    have := List.all_eq_true.1 hb i (List.mem_range.2 hi)
    rw [h] at this
    cases this
theorem nd_succ {a : List Int} {i : Nat} (h : ndB a i = true) (hn : hasI (a.take i) (a.getD i 0) = false) : ndB a (i + 1) = true := by
  unfold ndB at h ⊢
  rw [List.range_succ, List.all_append, h]
  simp only [List.all_cons, List.all_nil, hn, Bool.not_false, Bool.and_self]
theorem ev_succ {a : List Int} {i : Nat} (h : evB a i = true) (hn : hasI a (i : Nat) = true) : evB a (i + 1) = true := by
  unfold evB at h ⊢
  rw [List.range_succ, List.all_append, h]
  simp [hn]
theorem vc_spec_taOrder (p : Int) (n : Nat) (a : List Int) (h : a.length = n ∧ n ≤ 2000000 ∧ 1 ≤ p ∧ p ≤ 4) : VC_spec_taOrder p n a (retG 1 (.bool (ordB p a)) [⟨.ints .i64 a, 3, .row⟩]) := by
  obtain ⟨rfl, h2, h3, h4⟩ := h
  unfold VC_spec_taOrder
  rw [wrap64_in (x := p - 1) (by omega)]
  simp only [at_iff, Bool.not_eq_true', Bool.not_eq_false', true_and, and_true, bne_iff_ne, ne_eq, bne_eq_false_iff_eq]
  refine ⟨fun hne => retG_a1l ?_, fun he => ⟨h2, fun hb => retG_a1l ?_, fun hb => ⟨⟨he, hb, Int.le_refl _, by omega, rfl⟩, fun i hi => ⟨fun hc => ?_, fun hc => ?_⟩⟩⟩⟩
  · unfold ordB; rw [decide_eq_false hne]; rfl
  · unfold ordB; rw [hb]; simp
  · have hc := of_decide_eq_true hc
    obtain ⟨g0, g1, g2, g3, g4⟩ := hi
    have hil : i.toNat < a.length := by omega
    have e1 : IntKind.wrap .i64 (i + 1) = i + 1 := wrap64_in (by omega)
    have hcut : List.take (i.toNat * 1) (List.drop (0 * 1) a) = a.take i.toNat := by rw [Nat.mul_one, Nat.zero_mul, List.drop_zero]
    rw [e1, hcut]
    refine ⟨⟨g2, hc⟩, hil, ⟨g2, by omega, by simp [Cells.len]⟩, ⟨by rw [List.length_take]; omega, by omega⟩, fun hh => retG_a1l ?_, fun hh => ⟨⟨g0, g1, by omega, by omega, ?_⟩, by omega⟩⟩
    · unfold ordB; rw [nd_take hh hil]; simp
    · rw [show (i + 1).toNat = i.toNat + 1 by omega]; exact nd_succ g4 hh
  · have hc := of_decide_eq_false hc
    obtain ⟨g0, g1, g2, g3, g4⟩ := hi
    refine retG_a1l ?_
    rw [show i.toNat = a.length by omega] at g4
    unfold ordB; rw [decide_eq_true g0, g1, g4]; rfl
theorem hasI_mem {a : List Int} {x : Int} : hasI a x = true ↔ x ∈ a := hasI_iff
theorem ord_ev {p : Int} {a : List Int} (h3 : 1 ≤ p) (h4 : p ≤ 4) (hl : (a.length : Int) = p) : ordB p a = evB a p.toNat := by
  unfold ordB
  rw [decide_eq_true hl, Bool.true_and]
  rw [Bool.eq_iff_iff]
  have hp : p.toNat = a.length := by omega
  rw [hp, Bool.and_eq_true]
  subst hl
  match a, h4, h3 with
  | [w], _, _ => simp [allB, ndB, evB, hasI, inB, List.range_succ]; omega
  | [w, x], _, _ => simp [allB, ndB, evB, hasI, inB, List.range_succ]; omega
  | [w, x, y], _, _ => simp [allB, ndB, evB, hasI, inB, List.range_succ]; omega
  | [w, x, y, z], _, _ => simp [allB, ndB, evB, hasI, inB, List.range_succ]; omega
theorem ev_no {a : List Int} {i m : Nat} (hi : i < m) (h : hasI a (i : Nat) = false) : evB a m = false := by
  cases hb : evB a m with
  | false => rfl
  | true =>
    have := List.all_eq_true.1 hb i (List.mem_range.2 hi)
    rw [h] at this
    cases this
theorem vc_impl_isOrder (p : Int) (n : Nat) (a : List Int) (h : a.length = n ∧ n ≤ 2000000 ∧ 1 ≤ p ∧ p ≤ 4) : VC_impl_isOrder p n a (retG 1 (.bool (ordB p a)) [⟨.ints .i64 a, 3, .row⟩]) := by
  obtain ⟨rfl, h2, h3, h4⟩ := h
  unfold VC_impl_isOrder
  simp only [at_iff, Bool.not_eq_true', Bool.not_eq_false', true_and, and_true, bne_iff_ne, ne_eq, bne_eq_false_iff_eq]
  refine ⟨fun hne => retG_a1l ?_, fun he => ⟨⟨he, Int.le_refl _, by omega, rfl⟩, fun i hi => ⟨fun hc => ?_, fun hc => ?_⟩⟩⟩
  · unfold ordB; rw [decide_eq_false hne]; rfl
  · have hc := of_decide_eq_true hc
    obtain ⟨g0, g1, g2, g3⟩ := hi
    obtain ⟨m, rfl⟩ : ∃ m : Nat, i = m := ⟨i.toNat, by omega⟩
    have e1 : IntKind.wrap .i64 ((m : Int) + 1) = (m : Int) + 1 := wrap64_in (by omega)
    rw [e1]
    rw [Int.toNat_natCast] at g3
    refine ⟨h2, fun hh => retG_a1l ?_, fun hh => ⟨⟨g0, by omega, by omega, ?_⟩, by omega⟩⟩
    · rw [ord_ev h3 h4 g0, ev_no (i := m) (by omega) hh]
    · rw [show ((m : Int) + 1).toNat = m + 1 by omega]; exact ev_succ g3 hh
  · have hc := of_decide_eq_false hc
    obtain ⟨g0, g1, g2, g3⟩ := hi
    refine retG_a1l ?_
    rw [show i.toNat = p.toNat by omega] at g3
    rw [ord_ev h3 h4 g0, g3]
theorem retG_cb {n : Nat} {a : List Int} {x y x' y' : Int} {e f : TypeId} {k : Kind} {J : List Blk} (hx : x' = x) (hy : y' = y) : retG 2 (.tup [.int .i64 x, .int .i64 y]) [⟨.vals [.row 1 n], e, k⟩, ⟨.ints .i64 a, f, .row⟩] (.tup [.int .i64 x', .int .i64 y']) (⟨.vals [.row 1 n], e, k⟩ :: ⟨.ints .i64 a, f, .row⟩ :: J) := by
  subst hx; subst hy
  unfold retG leSel leSelBy autoSel
  simp [pairsL, pairsV, idPairs, pairsIn, selOf, lookN, findSel, selMem, chkB, nodupSel, hasSel, prefSel, leSt, leL, leV, nilToL, V.nilTo, isNilS, isGhost, selL, V.sel, Cells.selN, leMem, leCells, memUnder, underL, V.under]
  try trivial
theorem vc_impl_RenameTints_1 (p q : Int) (n : Nat) (a : List Int) (h : a.length = n ∧ n ≤ 2000000 ∧ 0 ≤ q ∧ q < (n : Int)) : VC_impl_RenameTints_1 p q n a (retG 2 (.tup [.int .i64 p, .int .i64 (a.getD q.toNat 0)]) [⟨.vals [.row 1 n], 25, .box⟩, ⟨.ints .i64 a, 3, .row⟩]) := by
  unfold VC_impl_RenameTints_1
  simp only [at_iff, true_and, and_true]
  exact ⟨h.2.2, by omega, retG_cb rfl rfl⟩
theorem vc_impl_RenameStates_1 (p q : Int) (n : Nat) (a : List Int) (h : a.length = n ∧ n ≤ 2000000 ∧ 0 ≤ p ∧ p < (n : Int)) : VC_impl_RenameStates_1 p q n a (retG 2 (.tup [.int .i64 (a.getD p.toNat 0), .int .i64 q]) [⟨.vals [.row 1 n], 25, .box⟩, ⟨.ints .i64 a, 3, .row⟩]) := by
  unfold VC_impl_RenameStates_1
  simp only [at_iff, true_and, and_true]
  exact ⟨h.2.2, by omega, retG_cb rfl rfl⟩
/-! ### rows laid anew -/
theorem laid_len (pos : Nat → Nat) (val : Row3 → Row3) (l : List Row3) : ∀ (m : Nat) (b : List Row3), (laidR pos val l m b).length = b.length
  | 0, b => rfl
  | m + 1, b => by unfold laidR; rw [List.length_set, laid_len pos val l m b]
/-- What was written does not hang on what lay there. -/
theorem laid_at {pos : Nat → Nat} {val : Row3 → Row3} {l : List Row3} {b b' : List Row3} (hb : b.length = b'.length) : ∀ (m j : Nat), (∃ i, i < m ∧ pos i = j) → (laidR pos val l m b)[j]? = (laidR pos val l m b')[j]?
  | 0, j, h => by obtain ⟨i, hi, _⟩ := h; omega
  | m + 1, j, h => by
    unfold laidR
    by_cases hj : pos m = j
    · rw [List.getElem?_set, List.getElem?_set, if_pos hj, if_pos hj, laid_len, laid_len, hb]
    · rw [List.getElem?_set, List.getElem?_set, if_neg hj, if_neg hj]
      obtain ⟨i, hi, he⟩ := h
      refine laid_at hb m j ⟨i, ?_, he⟩
      rcases Nat.lt_or_ge i m with h1 | h1
      · exact h1
      · exact absurd (by rw [← he]; congr 1; omega) hj
theorem laid_eq {pos : Nat → Nat} {val : Row3 → Row3} {l b b' : List Row3} {m : Nat} (hb : b.length = b'.length) (hs : ∀ j, j < b.length → ∃ i, i < m ∧ pos i = j) : laidR pos val l m b = laidR pos val l m b' := by
  apply List.ext_getElem?
  intro j
  by_cases hj : j < b.length
  · exact laid_at hb m j (hs j hj)
  · rw [List.getElem?_eq_none (by rw [laid_len]; omega), List.getElem?_eq_none (by rw [laid_len]; omega)]
theorem flat3_set : ∀ (l : List Row3) (j : Nat) (r : Row3), j < l.length → setScs (flat3 l) (j * 3) [⟨r.a, []⟩, ⟨0, r.t⟩, ⟨r.b, []⟩] = flat3 (l.set j r)
  | [], j, r, h => by simp at h
  | x :: l, 0, r, h => rfl
  | x :: l, j + 1, r, h => by
    have ih := flat3_set l j r (by simpa using h)
    rw [show (j + 1) * 3 = j * 3 + 1 + 1 + 1 by omega]
    simp only [setScs, flat3, List.set_cons_succ] at ih ⊢
    rw [ih]
theorem tab_all {s i : Int} {l : List Row3} (h : tabB s i l = true) : (1 ≤ s ∧ s ≤ 4) ∧ (1 ≤ i ∧ i ≤ 4) ∧ (l.length : Int) = s * i ∧ ∀ r ∈ l, (0 ≤ r.a ∧ r.a ≤ i - 1) ∧ r.t.length = 1 ∧ (0 ≤ r.b ∧ r.b ≤ s - 1) := by
  have ht := (tab_bd h).2.2
  unfold tabB at h
  simp only [Bool.and_eq_true, decide_eq_true_eq] at h
  obtain ⟨⟨⟨h1, h2⟩, h3⟩, h4⟩ := h
  refine ⟨inB_eq.1 h1, inB_eq.1 h2, h3, fun r hr => ?_⟩
  have h5 := List.all_eq_true.1 h4 r hr
  unfold rowG at h5
  simp only [Bool.and_eq_true] at h5
  exact ⟨inB_eq.1 h5.1.1, ht r hr, inB_eq.1 h5.2⟩
theorem hasI_get {a : List Int} {x : Int} (h : hasI a x = true) : ∃ q, q < a.length ∧ a.getD q 0 = x := by
  obtain ⟨q, hq, he⟩ := List.getElem_of_mem (hasI_iff.1 h)
  exact ⟨q, hq, by rw [List.getD_eq_getElem?_getD, List.getElem?_eq_getElem hq]; exact he⟩
theorem ord_all {p : Int} {a : List Int} (h3 : 1 ≤ p) (h4 : p ≤ 4) (h : ordB p a = true) : (a.length : Int) = p ∧ (∀ q, q < a.length → 0 ≤ a.getD q 0 ∧ a.getD q 0 ≤ p - 1) ∧ ∀ j : Nat, j < a.length → ∃ q, q < a.length ∧ a.getD q 0 = (j : Int) := by
  have h0 := h
  unfold ordB at h
  simp only [Bool.and_eq_true, decide_eq_true_eq] at h
  obtain ⟨h1, h2, _⟩ := h
  rw [ord_ev h3 h4 h1] at h0
  refine ⟨h1, fun q hq => inB_eq.1 (List.all_eq_true.1 h2 _ (getD_mem hq 0)), fun j hj => hasI_get (List.all_eq_true.1 h0 j (List.mem_range.2 (by omega)))⟩
/-- What is known of a good table and a good order. -/
structure Okn (S T : Nat) (P : Nat) (a : List Int) (l : List Row3) : Prop where
  hS : 1 ≤ S ∧ S ≤ 4
  hT : 1 ≤ T ∧ T ≤ 4
  hl : l.length = S * T
  ha : a.length = P
  hr : ∀ q, q < P → 0 ≤ a.getD q 0 ∧ a.getD q 0 < (P : Int)
  hs : ∀ j : Nat, j < P → ∃ q, q < P ∧ a.getD q 0 = (j : Int)
  hw : ∀ r ∈ l, (0 ≤ r.a ∧ r.a < (T : Int)) ∧ r.t.length = 1 ∧ (0 ≤ r.b ∧ r.b < (S : Int))
theorem okn_T {s i : Int} {l : List Row3} {a : List Int} (h : gdT s i l a = true) : ∃ S T : Nat, s = S ∧ i = T ∧ Okn S T T a l := by
  unfold gdT at h
  rw [Bool.and_eq_true] at h
  obtain ⟨h1, h2⟩ := h
  obtain ⟨t1, t2, t3, t4⟩ := tab_all h1
  obtain ⟨S, rfl⟩ : ∃ S : Nat, s = S := ⟨s.toNat, by omega⟩
  obtain ⟨T, rfl⟩ : ∃ T : Nat, i = T := ⟨i.toNat, by omega⟩
  obtain ⟨o1, o2, o3⟩ := ord_all t2.1 t2.2 h2
  have hP : a.length = T := by omega
  refine ⟨S, T, rfl, rfl, ⟨by omega, by omega, by exact_mod_cast t3, hP, fun q hq => ?_, fun j hj => ?_, fun r hr => ?_⟩⟩
  · have := o2 q (by omega); omega
  · obtain ⟨q, hq, he⟩ := o3 j (by omega); exact ⟨q, by omega, he⟩
  · have := t4 r hr; exact ⟨by omega, this.2.1, by omega⟩
theorem okn_S {s i : Int} {l : List Row3} {a : List Int} (h : gdS s i l a = true) : ∃ S T : Nat, s = S ∧ i = T ∧ Okn S T S a l := by
  unfold gdS at h
  rw [Bool.and_eq_true] at h
  obtain ⟨h1, h2⟩ := h
  obtain ⟨t1, t2, t3, t4⟩ := tab_all h1
  obtain ⟨S, rfl⟩ : ∃ S : Nat, s = S := ⟨s.toNat, by omega⟩
  obtain ⟨T, rfl⟩ : ∃ T : Nat, i = T := ⟨i.toNat, by omega⟩
  obtain ⟨o1, o2, o3⟩ := ord_all t1.1 t1.2 h2
  have hP : a.length = S := by omega
  refine ⟨S, T, rfl, rfl, ⟨by omega, by omega, by exact_mod_cast t3, hP, fun q hq => ?_, fun j hj => ?_, fun r hr => ?_⟩⟩
  · have := o2 q (by omega); omega
  · obtain ⟨q, hq, he⟩ := o3 j (by omega); exact ⟨q, by omega, he⟩
  · have := t4 r hr; exact ⟨by omega, this.2.1, by omega⟩
theorem dm_lt {S T m x : Nat} (hS : 1 ≤ S ∧ S ≤ 4) (hT : 1 ≤ T ∧ T ≤ 4) (hm : m < S * T) : m / T < S ∧ m % T < T ∧ (x < T → m / T * T + x < S * T) ∧ (x < S → x * T + m % T < S * T) := by
  obtain ⟨s1, s4⟩ := hS
  obtain ⟨t1, t4⟩ := hT
  have : S = 1 ∨ S = 2 ∨ S = 3 ∨ S = 4 := by omega
  have : T = 1 ∨ T = 2 ∨ T = 3 ∨ T = 4 := by omega
  rcases ‹S = 1 ∨ _› with rfl | rfl | rfl | rfl <;> rcases ‹T = 1 ∨ _› with rfl | rfl | rfl | rfl <;> omega
theorem dm_back {S T k x : Nat} (hT : 1 ≤ T ∧ T ≤ 4) (hx : x < T) : (k * T + x) / T = k ∧ (k * T + x) % T = x := by
  obtain ⟨t1, t4⟩ := hT
  have : T = 1 ∨ T = 2 ∨ T = 3 ∨ T = 4 := by omega
  rcases this with rfl | rfl | rfl | rfl <;> omega
theorem rnT_no {s i : Int} {l : List Row3} {a : List Int} (h : gdT s i l a = false) : rnT s i l a = [] := by unfold rnT; rw [h]; rfl
theorem rnT_yes {s i : Int} {l : List Row3} {a : List Int} (h : gdT s i l a = true) : rnT s i l a = laidR (posT i.toNat a) (valT a) l l.length (zeroR l.length) := by unfold rnT; rw [h]; rfl
theorem rnS_no {s i : Int} {l : List Row3} {a : List Int} (h : gdS s i l a = false) : rnS s i l a = [] := by unfold rnS; rw [h]; rfl
theorem rnS_yes {s i : Int} {l : List Row3} {a : List Int} (h : gdS s i l a = true) : rnS s i l a = laidR (posS i.toNat a) (valS a) l l.length (zeroR l.length) := by unfold rnS; rw [h]; rfl
theorem zeroR_len (n : Nat) : (zeroR n).length = n := List.length_replicate
theorem Okn.le16 {S T P : Nat} {a : List Int} {l : List Row3} (K : Okn S T P a l) : l.length ≤ 16 := by
  rw [K.hl]; exact Nat.mul_le_mul K.hS.2 K.hT.2
theorem Okn.ltT {S T : Nat} {a : List Int} {l : List Row3} (K : Okn S T T a l) {m : Nat} (hm : m < l.length) : posT T a m < l.length ∧ IntKind.wrap .i64 (IntKind.wrap .i64 (IntKind.wrap .i64 (Int.tdiv (m : Int) (T : Int)) * (T : Int)) + a.getD (Int.toNat (Int.tmod (m : Int) (T : Int))) 0) = ((posT T a m : Nat) : Int) := by
  have h16 := K.le16
  rw [K.hl] at hm h16 ⊢
  have hd := dm_lt (x := (a.getD (m % T) 0).toNat) K.hS K.hT hm
  have hx := K.hr (m % T) hd.2.1
  have h1 := hd.2.2.1 (by omega)
  have e1 : Int.tmod (m : Int) (T : Int) = ((m % T : Nat) : Int) := rfl
  have e2 : Int.tdiv (m : Int) (T : Int) = ((m / T : Nat) : Int) := rfl
  have hS := K.hS
  refine ⟨h1, ?_⟩
  unfold posT
  rw [e1, e2]
  generalize m / T = u at hd h1 ⊢
  generalize m % T = v at hd h1 hx ⊢
  have e3 : (u : Int) * (T : Int) = ((u * T : Nat) : Int) := (Int.natCast_mul _ _).symm
  rw [wrap64_in (x := (u : Int)) (by omega), e3, wrap64_in (x := ((u * T : Nat) : Int)) (by omega), Int.toNat_natCast, wrap64_in (by omega)]
  omega
theorem Okn.ltS {S T : Nat} {a : List Int} {l : List Row3} (K : Okn S T S a l) {m : Nat} (hm : m < l.length) : posS T a m < l.length ∧ IntKind.wrap .i64 (IntKind.wrap .i64 (a.getD (Int.toNat (IntKind.wrap .i64 (Int.tdiv (m : Int) (T : Int)))) 0 * (T : Int)) + Int.tmod (m : Int) (T : Int)) = ((posS T a m : Nat) : Int) := by
  have h16 := K.le16
  rw [K.hl] at hm h16 ⊢
  have hd := dm_lt (x := (a.getD (m / T) 0).toNat) K.hS K.hT hm
  have hx := K.hr (m / T) hd.1
  have h1 := hd.2.2.2 (by omega)
  have e1 : Int.tmod (m : Int) (T : Int) = ((m % T : Nat) : Int) := rfl
  have e2 : Int.tdiv (m : Int) (T : Int) = ((m / T : Nat) : Int) := rfl
  have hS := K.hS
  refine ⟨h1, ?_⟩
  unfold posS
  rw [e1, e2]
  generalize m / T = u at hd h1 hx ⊢
  generalize m % T = v at hd h1 ⊢
  rw [wrap64_in (x := (u : Int)) (by omega), Int.toNat_natCast]
  obtain ⟨w, hw⟩ : ∃ w : Nat, a.getD u 0 = w := ⟨(a.getD u 0).toNat, by omega⟩
  rw [hw] at h1 ⊢
  rw [Int.toNat_natCast] at h1 ⊢
  have e3 : (w : Int) * (T : Int) = ((w * T : Nat) : Int) := (Int.natCast_mul _ _).symm
  rw [e3, wrap64_in (x := ((w * T : Nat) : Int)) (by omega), wrap64_in (by omega)]
  omega
theorem Okn.eqT {S T : Nat} {a : List Int} {l : List Row3} (K : Okn S T T a l) : laidR (posT T a) (valT a) l l.length l = laidR (posT T a) (valT a) l l.length (zeroR l.length) := by
  refine laid_eq (zeroR_len _).symm fun j hj => ?_
  rw [K.hl] at hj ⊢
  have hd := dm_lt (x := 0) K.hS K.hT hj
  obtain ⟨q, hq, he⟩ := K.hs (j % T) hd.2.1
  have hb := dm_back (S := S) (k := j / T) K.hT hq
  refine ⟨j / T * T + q, (dm_lt K.hS K.hT hj).2.2.1 hq, ?_⟩
  unfold posT
  rw [hb.1, hb.2, he, Int.toNat_natCast]
  exact Nat.div_add_mod' j T
theorem Okn.eqS {S T : Nat} {a : List Int} {l : List Row3} (K : Okn S T S a l) : laidR (posS T a) (valS a) l l.length l = laidR (posS T a) (valS a) l l.length (zeroR l.length) := by
  refine laid_eq (zeroR_len _).symm fun j hj => ?_
  rw [K.hl] at hj ⊢
  have hd := dm_lt (x := 0) K.hS K.hT hj
  obtain ⟨q, hq, he⟩ := K.hs (j / T) hd.1
  have hb := dm_back (S := S) (k := q) K.hT hd.2.1
  refine ⟨q * T + j % T, (dm_lt K.hS K.hT hj).2.2.2 hq, ?_⟩
  unfold posS
  rw [hb.1, hb.2, he, Int.toNat_natCast]
  exact Nat.div_add_mod' j T
theorem retG_norn {c : List Sc} {a : List Int} {sh : List Sh} {e f y w : TypeId} {z : Kind} {g0 g1 g2 g3 : List UInt8} {b0 b1 b2 : Blk} : retG 3 (.tup [.agg [.int .i64 0, .int .i64 0, .row 3 0], .bool false]) [⟨.recs sh c, e, .rows 3⟩, ⟨.ints .i64 a, w, .row⟩, ⟨.vals [.str g0, .str g1, .str g2, .str g3], y, z⟩, ⟨.recs sh [], f, .rows 3⟩] (.tup [.agg [.int .i64 0, .int .i64 0, .raw (.slice none 0 0)], .lit false]) [⟨.recs sh c, e, .rows 3⟩, ⟨.ints .i64 a, w, .row⟩, ⟨.vals [.str g0, .str g1, .str g2, .str g3], y, z⟩, b0, b1, b2] := by
  unfold retG leSel leSelBy autoSel
  simp [pairsL, pairsV, idPairs, pairsIn, selOf, lookN, selMem, chkB, nodupSel, hasSel, prefSel, leSt, leL, leV, nilToL, V.nilTo, isNilS, isGhost, findSel, selL, V.sel, Cells.selN, Cells.none0, leMem, leCells, memUnder, underL, V.under, Kind.isRow]
  try exact trivial
theorem retG_yern {s i : Int} {c d d' : List Sc} {a : List Int} {sh : List Sh} {e f y w : TypeId} {z : Kind} {n m : Nat} {g0 g1 g2 g3 : List UInt8} {b0 b1 b2 : Blk} (hd : d' = d) (hm : n = m) : retG 3 (.tup [.agg [.int .i64 s, .int .i64 i, .row 3 n], .bool true]) [⟨.recs sh c, e, .rows 3⟩, ⟨.ints .i64 a, w, .row⟩, ⟨.vals [.str g0, .str g1, .str g2, .str g3], y, z⟩, ⟨.recs sh d, f, .rows 3⟩] (.tup [.agg [.int .i64 s, .int .i64 i, .row 6 m], .lit true]) [⟨.recs sh c, e, .rows 3⟩, ⟨.ints .i64 a, w, .row⟩, ⟨.vals [.str g0, .str g1, .str g2, .str g3], y, z⟩, b0, b1, b2, ⟨.recs sh d', f, .rows 3⟩] := by
  subst hd; subst hm
  unfold retG leSel leSelBy autoSel
  simp [pairsL, pairsV, idPairs, pairsIn, selOf, lookN, selMem, chkB, nodupSel, hasSel, prefSel, leSt, leL, leV, nilToL, V.nilTo, isNilS, isGhost, findSel, selL, V.sel, Cells.selN, Cells.none0, leMem, leCells, memUnder, underL, V.under, Kind.isRow]
  try exact trivial
theorem vc_impl_RenameTints (s i : Int) (n : Nat) (c : List Sc) (m : Nat) (a : List Int) (g0 g1 g2 g3 : List UInt8) (h : is3 c n ∧ n ≤ 2000000 ∧ a.length = m ∧ m ≤ 2000000 ∧ isSg g0 g1 g2 g3) : VC_impl_RenameTints s i n c m a g0 g1 g2 g3 (retG 3 (.tup [.agg [.int .i64 (zI (gdT s i (rows3 c) a) s), .int .i64 (zI (gdT s i (rows3 c) a) i), .row 3 (rnT s i (rows3 c) a).length], .bool (gdT s i (rows3 c) a)])
    [⟨.recs [.int .i64, .str, .int .i64] c, 47, .rows 3⟩, ⟨.ints .i64 a, 3, .row⟩, ⟨.vals [.str g0, .str g1, .str g2, .str g3], 9, .gl 0⟩, ⟨.recs [.int .i64, .str, .int .i64] (flat3 (rnT s i (rows3 c) a)), 47, .rows 3⟩]) := by
  obtain ⟨⟨hc, hn⟩, h2, ha, hm, hsg⟩ := h
  unfold VC_impl_RenameTints
  generalize rows3 c = l at hc hn ⊢
  subst hc; subst hn; subst ha
  have h3 := is3_flat l
  simp only [at_iff, Bool.not_eq_true', Bool.not_eq_false', true_and, and_true]
  have no : gdT s i l a = false → retG 3 (.tup [.agg [.int .i64 (zI (gdT s i l a) s), .int .i64 (zI (gdT s i l a) i), .row 3 (rnT s i l a).length], .bool (gdT s i l a)]) [⟨.recs [.int .i64, .str, .int .i64] (flat3 l), 47, .rows 3⟩, ⟨.ints .i64 a, 3, .row⟩, ⟨.vals [.str g0, .str g1, .str g2, .str g3], 9, .gl 0⟩, ⟨.recs [.int .i64, .str, .int .i64] (flat3 (rnT s i l a)), 47, .rows 3⟩] (.tup [.agg [.int .i64 0, .int .i64 0, .raw (.slice none 0 0)], .lit false]) [⟨.recs [.int .i64, .str, .int .i64] (flat3 l), 47, .rows 3⟩, ⟨.ints .i64 a, 3, .row⟩, ⟨.vals [.str g0, .str g1, .str g2, .str g3], 9, .gl 0⟩, ⟨.vals [.int .i64 s, .int .i64 i, .row 0 l.length], 29, .box⟩, ⟨.vals [.row 1 a.length], 25, .box⟩, nilBox] := fun hg => by
    rw [rnT_no hg, hg]; exact retG_norn
  refine ⟨⟨h3, h2, hsg⟩, fun hg => no (by unfold gdT; rw [hg]; rfl), fun ht => ?_⟩
  obtain ⟨t1, t2, t3, t4⟩ := tab_all ht
  refine ⟨⟨hm, by omega, by omega⟩, fun hg => no (by unfold gdT; rw [hg, Bool.and_false]), fun ho => ?_⟩
  have hg : gdT s i l a = true := by unfold gdT; rw [ht, ho]; rfl
  obtain ⟨S, T, rfl, rfl, K⟩ := okn_T hg
  have h16 := K.le16
  refine ⟨⟨h3, h2, (tab_bd ht).1⟩, rfl, ⟨hg, Int.le_refl _, by omega⟩, fun j hj => ⟨fun hd => ?_, fun hd => ?_⟩⟩
  · have hd := of_decide_eq_true hd
    obtain ⟨_, q1, q2⟩ := hj
    obtain ⟨k, rfl⟩ : ∃ k : Nat, j = k := ⟨j.toNat, by omega⟩
    have hk : k < l.length := by omega
    obtain ⟨p1, p2⟩ := K.ltT hk
    obtain ⟨f0, f1, f2⟩ := flat3_get l k ⟨0, []⟩ hk
    have hw := K.hw _ (getD_mem hk default)
    have hK := K.hT
    have hP := K.ha
    have hd2 := dm_lt (x := 0) K.hS K.hT (show k < S * T by rw [← K.hl]; exact hk)
    have e4 : IntKind.wrap .i64 ((k : Int) + 1) = (k : Int) + 1 := wrap64_in (by omega)
    have e5 : Int.tmod (k : Int) (T : Int) = ((k % T : Nat) : Int) := rfl
    have hs := flat3_set (laidR (posT T a) (valT a) l k l) (posT T a k) (valT a (l.getD k default)) (by rw [laid_len]; exact p1)
    simp only [Int.toNat_natCast, f0, f1, f2, e4, p2, flat3_length, laid_len, show ((k : Int) + 1).toNat = k + 1 by omega]
    rw [e5]
    refine ⟨⟨by omega, hd⟩, ⟨by omega, by omega⟩, by omega, by omega, ⟨hm, by omega, by omega⟩, ⟨hm, by omega, by omega⟩, ⟨by omega, by omega⟩, ⟨by omega, by omega⟩, hs, ⟨hg, by omega, by omega⟩, by omega⟩
  · have hd := of_decide_eq_false hd
    obtain ⟨_, q1, q2⟩ := hj
    rw [rnT_yes hg, hg, show j.toNat = l.length by omega]
    exact retG_yern (congrArg flat3 (K.eqT)) (by rw [laid_len, zeroR_len])
theorem vc_impl_RenameStates (s i : Int) (n : Nat) (c : List Sc) (m : Nat) (a : List Int) (g0 g1 g2 g3 : List UInt8) (h : is3 c n ∧ n ≤ 2000000 ∧ a.length = m ∧ m ≤ 2000000 ∧ isSg g0 g1 g2 g3) : VC_impl_RenameStates s i n c m a g0 g1 g2 g3 (retG 3 (.tup [.agg [.int .i64 (zI (gdS s i (rows3 c) a) s), .int .i64 (zI (gdS s i (rows3 c) a) i), .row 3 (rnS s i (rows3 c) a).length], .bool (gdS s i (rows3 c) a)])
    [⟨.recs [.int .i64, .str, .int .i64] c, 47, .rows 3⟩, ⟨.ints .i64 a, 3, .row⟩, ⟨.vals [.str g0, .str g1, .str g2, .str g3], 9, .gl 0⟩, ⟨.recs [.int .i64, .str, .int .i64] (flat3 (rnS s i (rows3 c) a)), 47, .rows 3⟩]) := by
  obtain ⟨⟨hc, hn⟩, h2, ha, hm, hsg⟩ := h
  unfold VC_impl_RenameStates
  generalize rows3 c = l at hc hn ⊢
  subst hc; subst hn; subst ha
  have h3 := is3_flat l
  simp only [at_iff, Bool.not_eq_true', Bool.not_eq_false', true_and, and_true]
  have no : gdS s i l a = false → retG 3 (.tup [.agg [.int .i64 (zI (gdS s i l a) s), .int .i64 (zI (gdS s i l a) i), .row 3 (rnS s i l a).length], .bool (gdS s i l a)]) [⟨.recs [.int .i64, .str, .int .i64] (flat3 l), 47, .rows 3⟩, ⟨.ints .i64 a, 3, .row⟩, ⟨.vals [.str g0, .str g1, .str g2, .str g3], 9, .gl 0⟩, ⟨.recs [.int .i64, .str, .int .i64] (flat3 (rnS s i l a)), 47, .rows 3⟩] (.tup [.agg [.int .i64 0, .int .i64 0, .raw (.slice none 0 0)], .lit false]) [⟨.recs [.int .i64, .str, .int .i64] (flat3 l), 47, .rows 3⟩, ⟨.ints .i64 a, 3, .row⟩, ⟨.vals [.str g0, .str g1, .str g2, .str g3], 9, .gl 0⟩, ⟨.vals [.int .i64 s, .int .i64 i, .row 0 l.length], 29, .box⟩, ⟨.vals [.row 1 a.length], 25, .box⟩, nilBox] := fun hg => by
    rw [rnS_no hg, hg]; exact retG_norn
  refine ⟨⟨h3, h2, hsg⟩, fun hg => no (by unfold gdS; rw [hg]; rfl), fun ht => ?_⟩
  obtain ⟨t1, t2, t3, t4⟩ := tab_all ht
  refine ⟨⟨hm, by omega, by omega⟩, fun hg => no (by unfold gdS; rw [hg, Bool.and_false]), fun ho => ?_⟩
  have hg : gdS s i l a = true := by unfold gdS; rw [ht, ho]; rfl
  obtain ⟨S, T, rfl, rfl, K⟩ := okn_S hg
  have h16 := K.le16
  refine ⟨⟨h3, h2, (tab_bd ht).1⟩, rfl, ⟨hg, Int.le_refl _, by omega⟩, fun j hj => ⟨fun hd => ?_, fun hd => ?_⟩⟩
  · have hd := of_decide_eq_true hd
    obtain ⟨_, q1, q2⟩ := hj
    obtain ⟨k, rfl⟩ : ∃ k : Nat, j = k := ⟨j.toNat, by omega⟩
    have hk : k < l.length := by omega
    obtain ⟨p1, p2⟩ := K.ltS hk
    obtain ⟨f0, f1, f2⟩ := flat3_get l k ⟨0, []⟩ hk
    have hw := K.hw _ (getD_mem hk default)
    have hK := K.hS
    have hP := K.ha
    have hd2 := dm_lt (x := 0) K.hS K.hT (show k < S * T by rw [← K.hl]; exact hk)
    have e4 : IntKind.wrap .i64 ((k : Int) + 1) = (k : Int) + 1 := wrap64_in (by omega)
    have hT0 := K.hT
    have e6 : Int.tdiv (k : Int) (T : Int) = ((k / T : Nat) : Int) := rfl
    generalize k / T = u at e6 hd2
    have hs := flat3_set (laidR (posS T a) (valS a) l k l) (posS T a k) (valS a (l.getD k default)) (by rw [laid_len]; exact p1)
    simp only [Int.toNat_natCast, f0, f1, f2, e4, p2, flat3_length, laid_len, show ((k : Int) + 1).toNat = k + 1 by omega]
    rw [e6, wrap64_in (x := (u : Int)) (by omega)]
    refine ⟨⟨by omega, hd⟩, ⟨by omega, by omega⟩, by omega, by omega, ⟨hm, by omega, by omega⟩, ⟨hm, by omega, by omega⟩, ⟨by omega, by omega⟩, ⟨by omega, by omega⟩, hs, ⟨hg, by omega, by omega⟩, by omega⟩
  · have hd := of_decide_eq_false hd
    obtain ⟨_, q1, q2⟩ := hj
    rw [rnS_yes hg, hg, show j.toNat = l.length by omega]
    exact retG_yern (congrArg flat3 (K.eqS)) (by rw [laid_len, zeroR_len])
theorem retG_nors {c : List Sc} {a : List Int} {sh : List Sh} {e f w : TypeId} {b0 b1 : Blk} : retG 2 (.tup [.agg [.int .i64 0, .int .i64 0, .row 2 0], .bool false]) [⟨.recs sh c, e, .rows 3⟩, ⟨.ints .i64 a, w, .row⟩, ⟨.recs sh [], f, .rows 3⟩] (.tup [.agg [.int .i64 0, .int .i64 0, .raw (.slice none 0 0)], .lit false]) [⟨.recs sh c, e, .rows 3⟩, ⟨.ints .i64 a, w, .row⟩, b0, b1] := by
  unfold retG leSel leSelBy autoSel
  simp [pairsL, pairsV, idPairs, pairsIn, selOf, lookN, selMem, chkB, nodupSel, hasSel, prefSel, leSt, leL, leV, nilToL, V.nilTo, isNilS, isGhost, findSel, selL, V.sel, Cells.selN, Cells.none0, leMem, leCells, memUnder, underL, V.under, Kind.isRow]
  try exact trivial
theorem retG_yers {s i : Int} {c d d' : List Sc} {a : List Int} {sh : List Sh} {e f w : TypeId} {n m : Nat} {b0 b1 b2 : Blk} (hd : d' = d) (hm : n = m) : retG 2 (.tup [.agg [.int .i64 s, .int .i64 i, .row 2 n], .bool true]) [⟨.recs sh c, e, .rows 3⟩, ⟨.ints .i64 a, w, .row⟩, ⟨.recs sh d, f, .rows 3⟩] (.tup [.agg [.int .i64 s, .int .i64 i, .row 5 m], .lit true]) [⟨.recs sh c, e, .rows 3⟩, ⟨.ints .i64 a, w, .row⟩, b0, b1, b2, ⟨.recs sh d', f, .rows 3⟩] := by
  subst hd; subst hm
  unfold retG leSel leSelBy autoSel
  simp [pairsL, pairsV, idPairs, pairsIn, selOf, lookN, selMem, chkB, nodupSel, hasSel, prefSel, leSt, leL, leV, nilToL, V.nilTo, isNilS, isGhost, findSel, selL, V.sel, Cells.selN, Cells.none0, leMem, leCells, memUnder, underL, V.under, Kind.isRow]
  try exact trivial
theorem zero_flat (n : Nat) : List.replicate (n * 3) (⟨0, []⟩ : Sc) = flat3 (zeroR n) := by
  unfold zeroR
  induction n with
  | zero => rfl
  | succ n ih =>
    rw [show (n + 1) * 3 = n * 3 + 3 by omega, show n * 3 + 3 = 3 + n * 3 by omega, ← List.replicate_append_replicate, ih, List.replicate_succ]
    rfl
theorem vc_spec_RenameTints (s i : Int) (n : Nat) (c : List Sc) (m : Nat) (a : List Int) (h : is3 c n ∧ n ≤ 2000000 ∧ a.length = m ∧ m ≤ 2000000) : VC_spec_RenameTints s i n c m a (retG 2 (.tup [.agg [.int .i64 (zI (gdT s i (rows3 c) a) s), .int .i64 (zI (gdT s i (rows3 c) a) i), .row 2 (rnT s i (rows3 c) a).length], .bool (gdT s i (rows3 c) a)])
    [⟨.recs [.int .i64, .str, .int .i64] c, 47, .rows 3⟩, ⟨.ints .i64 a, 3, .row⟩, ⟨.recs [.int .i64, .str, .int .i64] (flat3 (rnT s i (rows3 c) a)), 47, .rows 3⟩]) := by
  obtain ⟨⟨hc, hn⟩, h2, ha, hm⟩ := h
  unfold VC_spec_RenameTints
  try unfold VC_spec_RenameTints_q1
  try unfold VC_spec_RenameTints_q2
  generalize rows3 c = l at hc hn ⊢
  subst hc; subst hn; subst ha
  have h3 := is3_flat l
  simp only [at_iff, Bool.not_eq_true', Bool.not_eq_false', true_and, and_true, and_self, Int.toNat_natCast]
  have no : gdT s i l a = false → retG 2 (.tup [.agg [.int .i64 (zI (gdT s i l a) s), .int .i64 (zI (gdT s i l a) i), .row 2 (rnT s i l a).length], .bool (gdT s i l a)]) [⟨.recs [.int .i64, .str, .int .i64] (flat3 l), 47, .rows 3⟩, ⟨.ints .i64 a, 3, .row⟩, ⟨.recs [.int .i64, .str, .int .i64] (flat3 (rnT s i l a)), 47, .rows 3⟩] (.tup [.agg [.int .i64 0, .int .i64 0, .raw (.slice none 0 0)], .lit false]) [⟨.recs [.int .i64, .str, .int .i64] (flat3 l), 47, .rows 3⟩, ⟨.ints .i64 a, 3, .row⟩, ⟨.vals [.int .i64 s, .int .i64 i, .row 0 l.length], 29, .box⟩, nilBox] := fun hg => by
    rw [rnT_no hg, hg]; exact retG_nors
  refine ⟨⟨h3, h2⟩, fun hg => no (by unfold gdT; rw [hg]; rfl), fun ht => ?_⟩
  obtain ⟨t1, t2, t3, t4⟩ := tab_all ht
  refine ⟨⟨hm, by omega, by omega⟩, fun hg => no (by unfold gdT; rw [hg, Bool.and_false]), fun ho => ?_⟩
  have hg : gdT s i l a = true := by unfold gdT; rw [ht, ho]; rfl
  obtain ⟨S, T, rfl, rfl, K⟩ := okn_T hg
  have h16 := K.le16
  refine ⟨⟨by omega, by omega, by omega⟩, zero_flat _, ⟨hg, Int.le_refl _, by omega⟩, fun j hj => ⟨fun hd => ?_, fun hd => ?_⟩⟩
  · have hd := of_decide_eq_true hd
    obtain ⟨_, q1, q2⟩ := hj
    obtain ⟨k, rfl⟩ : ∃ k : Nat, j = k := ⟨j.toNat, by omega⟩
    have hk : k < l.length := by omega
    obtain ⟨p1, p2⟩ := K.ltT hk
    obtain ⟨f0, f1, f2⟩ := flat3_get l k ⟨0, []⟩ hk
    have hw := K.hw _ (getD_mem hk default)
    have hK := K.hT
    have hK2 := K.hS
    have hP := K.ha
    have hd2 := dm_lt (x := 0) K.hS K.hT (show k < S * T by rw [← K.hl]; exact hk)
    have e4 : IntKind.wrap .i64 ((k : Int) + 1) = (k : Int) + 1 := wrap64_in (by omega)
    have e5 : Int.tmod (k : Int) (T : Int) = ((k % T : Nat) : Int) := rfl
    have e6 : Int.tdiv (k : Int) (T : Int) = ((k / T : Nat) : Int) := rfl
    generalize k / T = u at e6 hd2
    have e7 : IntKind.wrap .i64 (u : Int) = (u : Int) := wrap64_in (by omega)
    have hs := flat3_set (laidR (posT T a) (valT a) l k (zeroR l.length)) (posT T a k) (valT a (l.getD k default)) (by rw [laid_len, zeroR_len]; exact p1)
    simp only [Int.toNat_natCast, f0, f1, f2, e4, p2, flat3_length, laid_len, zeroR_len, show ((k : Int) + 1).toNat = k + 1 by omega]
    rw [e5]
    refine ⟨⟨by omega, hd⟩, ⟨by omega, by omega⟩, by omega, by omega, ⟨by omega, by omega⟩, by omega, ⟨by omega, by omega⟩, by omega, ⟨by omega, by omega⟩, ⟨by omega, by omega⟩, hs, ⟨hg, by omega, by omega⟩, by omega⟩
  · have hd := of_decide_eq_false hd
    obtain ⟨_, q1, q2⟩ := hj
    rw [rnT_yes hg, hg, show j.toNat = l.length by omega]
    exact retG_yers rfl (by rw [laid_len, zeroR_len])
theorem vc_spec_RenameStates (s i : Int) (n : Nat) (c : List Sc) (m : Nat) (a : List Int) (h : is3 c n ∧ n ≤ 2000000 ∧ a.length = m ∧ m ≤ 2000000) : VC_spec_RenameStates s i n c m a (retG 2 (.tup [.agg [.int .i64 (zI (gdS s i (rows3 c) a) s), .int .i64 (zI (gdS s i (rows3 c) a) i), .row 2 (rnS s i (rows3 c) a).length], .bool (gdS s i (rows3 c) a)])
    [⟨.recs [.int .i64, .str, .int .i64] c, 47, .rows 3⟩, ⟨.ints .i64 a, 3, .row⟩, ⟨.recs [.int .i64, .str, .int .i64] (flat3 (rnS s i (rows3 c) a)), 47, .rows 3⟩]) := by
  obtain ⟨⟨hc, hn⟩, h2, ha, hm⟩ := h
  unfold VC_spec_RenameStates
  try unfold VC_spec_RenameStates_q1
  try unfold VC_spec_RenameStates_q2
  generalize rows3 c = l at hc hn ⊢
  subst hc; subst hn; subst ha
  have h3 := is3_flat l
  simp only [at_iff, Bool.not_eq_true', Bool.not_eq_false', true_and, and_true, and_self, Int.toNat_natCast]
  have no : gdS s i l a = false → retG 2 (.tup [.agg [.int .i64 (zI (gdS s i l a) s), .int .i64 (zI (gdS s i l a) i), .row 2 (rnS s i l a).length], .bool (gdS s i l a)]) [⟨.recs [.int .i64, .str, .int .i64] (flat3 l), 47, .rows 3⟩, ⟨.ints .i64 a, 3, .row⟩, ⟨.recs [.int .i64, .str, .int .i64] (flat3 (rnS s i l a)), 47, .rows 3⟩] (.tup [.agg [.int .i64 0, .int .i64 0, .raw (.slice none 0 0)], .lit false]) [⟨.recs [.int .i64, .str, .int .i64] (flat3 l), 47, .rows 3⟩, ⟨.ints .i64 a, 3, .row⟩, ⟨.vals [.int .i64 s, .int .i64 i, .row 0 l.length], 29, .box⟩, nilBox] := fun hg => by
    rw [rnS_no hg, hg]; exact retG_nors
  refine ⟨⟨h3, h2⟩, fun hg => no (by unfold gdS; rw [hg]; rfl), fun ht => ?_⟩
  obtain ⟨t1, t2, t3, t4⟩ := tab_all ht
  refine ⟨⟨hm, by omega, by omega⟩, fun hg => no (by unfold gdS; rw [hg, Bool.and_false]), fun ho => ?_⟩
  have hg : gdS s i l a = true := by unfold gdS; rw [ht, ho]; rfl
  obtain ⟨S, T, rfl, rfl, K⟩ := okn_S hg
  have h16 := K.le16
  refine ⟨⟨by omega, by omega, by omega⟩, zero_flat _, ⟨hg, Int.le_refl _, by omega⟩, fun j hj => ⟨fun hd => ?_, fun hd => ?_⟩⟩
  · have hd := of_decide_eq_true hd
    obtain ⟨_, q1, q2⟩ := hj
    obtain ⟨k, rfl⟩ : ∃ k : Nat, j = k := ⟨j.toNat, by omega⟩
    have hk : k < l.length := by omega
    obtain ⟨p1, p2⟩ := K.ltS hk
    obtain ⟨f0, f1, f2⟩ := flat3_get l k ⟨0, []⟩ hk
    have hw := K.hw _ (getD_mem hk default)
    have hK := K.hT
    have hK2 := K.hS
    have hP := K.ha
    have hd2 := dm_lt (x := 0) K.hS K.hT (show k < S * T by rw [← K.hl]; exact hk)
    have e4 : IntKind.wrap .i64 ((k : Int) + 1) = (k : Int) + 1 := wrap64_in (by omega)
    have e5 : Int.tmod (k : Int) (T : Int) = ((k % T : Nat) : Int) := rfl
    have e6 : Int.tdiv (k : Int) (T : Int) = ((k / T : Nat) : Int) := rfl
    generalize k / T = u at e6 hd2
    have e7 : IntKind.wrap .i64 (u : Int) = (u : Int) := wrap64_in (by omega)
    have hs := flat3_set (laidR (posS T a) (valS a) l k (zeroR l.length)) (posS T a k) (valS a (l.getD k default)) (by rw [laid_len, zeroR_len]; exact p1)
    simp only [Int.toNat_natCast, f0, f1, f2, e4, p2, flat3_length, laid_len, zeroR_len, show ((k : Int) + 1).toNat = k + 1 by omega]
    rw [e6, e7]
    refine ⟨⟨by omega, hd⟩, ⟨by omega, by omega⟩, by omega, ⟨by omega, by omega⟩, by omega, by omega, ⟨by omega, by omega⟩, by omega, ⟨by omega, by omega⟩, ⟨by omega, by omega⟩, hs, ⟨hg, by omega, by omega⟩, by omega⟩
  · have hd := of_decide_eq_false hd
    obtain ⟨_, q1, q2⟩ := hj
    rw [rnS_yes hg, hg, show j.toNat = l.length by omega]
    exact retG_yers rfl (by rw [laid_len, zeroR_len])
end Go.Vi
