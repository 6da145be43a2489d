/- Programs of spirals: the conditions hold. -/
import Derived.Test.YtllocclgllappabDoorTSVc
import Derived.Test.YtllocclgllappabDoorTSSpec
namespace Go.Vi
set_option linter.unusedSimpArgs false
theorem retG_si {a a' : List UInt8} {b b' : Bool} {l : List Int} {e : TypeId} {k : Kind} {J : List Blk} (hb : b' = b) (ha : a' = a) :
    retG 1 (.tup [.str a, .bool b]) [⟨.ints .i64 l, e, k⟩] (.tup [.str a', .lit b']) (⟨.ints .i64 l, e, k⟩ :: J) := by
  subst hb; subst ha
  unfold retG leSel leSelBy autoSel
  simp [pairsL, pairsV, idPairs, pairsIn, selOf, lookN, selMem, chkB, nodupSel, hasSel, prefSel, leSt, leL, leV, nilToL, V.nilTo, selL, V.sel, Cells.selN, leMem, leCells, memUnder, underL, V.under]
/-! ### lists that rise -/
theorem ris_step {a : List Int} {lo hi i : Int} (h : riInv a lo hi i) (hi' : i < a.length) (hr : risN a lo hi i.toNat = true) : riInv a lo hi (i + 1) := by
  obtain ⟨⟨g1, g2⟩, g3⟩ := h
  refine ⟨⟨by omega, by omega⟩, ?_⟩
  rw [show (i + 1).toNat = i.toNat + 1 by omega, List.range_succ, List.all_append, g3]
  simp [hr]
theorem ris_no {a : List Int} {lo hi : Int} {i : Nat} (hi' : i < a.length) (hr : risN a lo hi i = false) : risB a lo hi = false := by
  cases h : risB a lo hi with
  | false => rfl
  | true =>
    have := List.all_eq_true.1 h i (List.mem_range.2 hi')
    rw [hr] at this
    cases this
theorem ris_end {a : List Int} {lo hi i : Int} (h : riInv a lo hi i) (hn : ¬ i < a.length) : risB a lo hi = true := by
  have h2 := h.2
  have g2 := h.1.2
  have g1 := h.1.1
  rw [show i.toNat = a.length by omega] at h2
  exact h2
theorem ris_at {a : List Int} {lo hi : Int} {i : Nat} (h : risB a lo hi = true) (hi' : i < a.length) : lo ≤ a.getD i 0 ∧ a.getD i 0 ≤ hi := by
  have := List.all_eq_true.1 h i (List.mem_range.2 hi')
  unfold risN at this
  rw [Bool.and_eq_true] at this
  exact inB_eq.1 this.1
theorem hasI_iff {x : Int} : ∀ {q : List Int}, hasI q x = true ↔ x ∈ q
  | [] => by simp [hasI]
  | y :: q => by
    simp only [hasI, Bool.or_eq_true, beq_iff_eq, hasI_iff, List.mem_cons]
    constructor
    · rintro (h | h)
      · exact .inl h.symm
      · exact .inr h
    · rintro (h | h)
      · exact .inl h.symm
      · exact .inr h
theorem hasI_append {x : Int} {a b : List Int} : hasI (a ++ b) x = (hasI a x || hasI b x) := by
  rw [Bool.eq_iff_iff]
  simp only [Bool.or_eq_true, hasI_iff, List.mem_append]
theorem has_step {a : List Int} {x i : Int} (h : hasInv a x i) (hi : i < a.length) (hn : (a.getD i.toNat 0 == x) = false) : hasInv a x (i + 1) := by
  obtain ⟨⟨g1, g2⟩, g3⟩ := h
  refine ⟨⟨by omega, by omega⟩, ?_⟩
  rw [show (i + 1).toNat = i.toNat + 1 by omega, take_snoc (by omega) 0, hasI_append, g3]
  simp only [hasI, hn, Bool.or_false]
theorem has_all {a : List Int} {x i : Int} (h : hasInv a x i) (hi : ¬ i < a.length) : hasI a x = false := by
  have h2 := h.2
  rw [List.take_of_length_le (by omega)] at h2
  exact h2
theorem has_mem {a : List Int} {x i : Int} (g : 0 ≤ i) (hi : i < a.length) (hy : (a.getD i.toNat 0 == x) = true) : hasI a x = true :=
  hasI_iff.2 (by rw [← eq_of_beq hy]; exact getD_mem (by omega) 0)
/-! ### texts -/
theorem sp_no {p : Int} {a : List Int} (h : spB p a = false) : spS p a = [] := by unfold spS; rw [h]; rfl
theorem sp_yes {p : Int} {a : List Int} (h : spB p a = true) : spS p a = spF a p.toNat := by unfold spS; rw [h]; rfl
theorem spF_len (a : List Int) : ∀ n, (spF a n).length = 2 * n
  | 0 => rfl
  | n + 1 => by
    simp only [spF, List.length_append, num1, List.length_cons, List.length_nil, spF_len a n]
    omega
theorem spM_len (i t : Nat) : (spM i t).length = 2 := by unfold spM; split <;> rfl
theorem spL_len (a : List Int) (t : Nat) : (spL a t).length = 2 := rfl
theorem sp_start : ∀ n, List.replicate (n * 2) (⟨0, []⟩ : Sc) = fl2 n (spM 0)
  | 0 => rfl
  | n + 1 => by
    rw [fl2_succ, ← sp_start n, show (n + 1) * 2 = n * 2 + 2 by omega, ← List.replicate_append_replicate]
    rfl
theorem sp_lay {n i : Nat} (hi : i < n) : setScs (fl2 n (spM i)) (i * 2) [⟨(i : Int) + 1, []⟩, ⟨82, []⟩] = fl2 n (spM (i + 1)) := by
  rw [fl2_set (spM_len i) _ _ n i hi]
  refine fl2_congr n fun t ht => ?_
  unfold spM
  by_cases h : t = i
  · subst h; rw [if_pos rfl, if_pos (by omega)]
  · rw [if_neg h]
    by_cases h2 : t < i
    · rw [if_pos h2, if_pos (by omega)]
    · rw [if_neg h2, if_neg (by omega)]
theorem sp_mid (n : Nat) : fl2 n (spM n) = fl2 n (spL []) := fl2_congr n fun t ht => by
  unfold spM; rw [if_pos ht]; rfl
theorem sc_set {c : List Sc} {j : Nat} (h : j * 2 < c.length) (v : Sc) : c.set (j * 2 + 1) v = setScs c (j * 2) [c.getD (j * 2) ⟨0, []⟩, v] := by
  show _ = (c.set (j * 2) (c.getD (j * 2) ⟨0, []⟩)).set (j * 2 + 1) v
  congr 1
  rw [List.getD_eq_getElem?_getD, List.getElem?_eq_getElem h]
  exact (List.set_getElem_self h).symm
theorem sp_sign {n i : Nat} {a : List Int} {x : Nat} (hi : i < a.length) (hx : a.getD i 0 = (x : Int) + 1) (hn : x < n) : (fl2 n (spL (a.take i))).set (x * 2 + 1) ⟨76, []⟩ = fl2 n (spL (a.take (i + 1))) := by
  have hg : (fl2 n (spL (a.take i))).getD (x * 2) ⟨0, []⟩ = ⟨(x : Int) + 1, []⟩ := fl2_get (spL_len _) n x 0 hn (by omega)
  rw [sc_set (by rw [fl2_len (spL_len _)]; omega), hg, fl2_set (spL_len _) _ _ n x hn]
  refine fl2_congr n fun t ht => ?_
  rw [take_snoc hi 0, hx]
  unfold spL lrI
  rw [hasI_append]
  by_cases h : t = x
  · subst h
    rw [if_pos rfl]
    simp [hasI]
  · rw [if_neg h]
    have : hasI [(x : Int) + 1] ((t : Int) + 1) = false := by
      simp only [hasI, Bool.or_false, beq_eq_false_iff_ne]
      omega
    rw [this, Bool.or_false]
theorem spL_ok (b : List Int) : ∀ n, n ≤ 9 → okC (fl2 n (spL b)) ∧ sgC (fl2 n (spL b))
  | 0, _ => ⟨trivial, trivial⟩
  | n + 1, h => by
    obtain ⟨h1, h2⟩ := spL_ok b n (by omega)
    rw [fl2_succ, okC_app _ (by rw [fl2_len (spL_len b)]; omega), sgC_app _ (by rw [fl2_len (spL_len b)]; omega)]
    refine ⟨⟨h1, ⟨by dsimp only; omega, by dsimp only; omega⟩, trivial⟩, h2, ?_, trivial⟩
    show 0 ≤ lrI b n ∧ lrI b n ≤ 255
    unfold lrI
    cases hasI b ((n : Int) + 1) with
    | true => exact ⟨by decide, by decide⟩
    | false => exact ⟨by decide, by decide⟩
theorem prS_sp (b : List Int) : ∀ n, prS (fl2 n (spL b)) = spF b n
  | 0 => rfl
  | n + 1 => by
    rw [fl2_succ, prS_app _ (by rw [fl2_len (spL_len b)]; omega), prS_sp b n]
    rfl
/-! ### the functions -/
theorem vc_spec_l1Rising (lo hi : Int) (n : Nat) (a : List Int) (h : a.length = n ∧ n ≤ 2000000) : VC_spec_l1Rising lo hi n a (retG 1 (.bool (risB a lo hi)) [⟨.ints .i64 a, 3, .row⟩]) := by
  obtain ⟨rfl, h2⟩ := h
  unfold VC_spec_l1Rising
  simp only [at_iff, Bool.not_eq_true', Bool.not_eq_false', true_and, and_true]
  refine ⟨⟨⟨Int.le_refl _, by omega⟩, rfl⟩, fun i hv => ⟨fun hc => ?_, fun hc => retG_a1l (ris_end hv (of_decide_eq_false hc)).symm⟩⟩
  have hc := of_decide_eq_true hc
  obtain ⟨⟨g1, g2⟩, g3⟩ := id hv
  have e1 : IntKind.wrap .i64 (i + 1) = i + 1 := wrap64_in (by omega)
  have e2 : IntKind.wrap .i64 (i - 1) = i - 1 := wrap64_in (by omega)
  have hil : i.toNat < a.length := by omega
  rw [e1, e2]
  refine ⟨⟨g1, hc⟩, hil, fun hf => retG_a1l (ris_no hil (by unfold risN; rw [hf]; rfl)).symm, fun ht => ⟨fun h0 => ?_, fun h0 => ?_⟩⟩
  · have h0 := of_decide_eq_true h0
    have hm : (i - 1).toNat = i.toNat - 1 := by omega
    refine ⟨⟨by omega, by omega⟩, by omega, fun hg => retG_a1l (ris_no hil ?_).symm, fun hg => ⟨ris_step hv hc ?_, by omega⟩⟩
    · have hg := of_decide_eq_true hg
      unfold risN
      rw [← hm, decide_eq_false (show ¬ i.toNat = 0 by omega), decide_eq_false (show ¬ a.getD (i - 1).toNat 0 < a.getD i.toNat 0 by omega), Bool.or_false, Bool.and_false]
    · have hg := of_decide_eq_false hg
      unfold risN
      rw [ht, ← hm, decide_eq_true (show a.getD (i - 1).toNat 0 < a.getD i.toNat 0 by omega), Bool.or_true]
      rfl
  · have h0 := of_decide_eq_false h0
    refine ⟨ris_step hv hc ?_, by omega⟩
    unfold risN
    rw [ht, decide_eq_true (show i.toNat = 0 by omega)]
    rfl
theorem vc_spec_l1Has (v : Int) (n : Nat) (a : List Int) (h : a.length = n ∧ n ≤ 2000000) : VC_spec_l1Has v n a (retG 1 (.bool (hasI a v)) [⟨.ints .i64 a, 3, .row⟩]) := by
  obtain ⟨rfl, h2⟩ := h
  unfold VC_spec_l1Has
  refine ⟨⟨by simp, ⟨⟨trivial, rfl, rfl⟩, trivial⟩, trivial⟩, ⟨⟨by omega, by omega⟩, rfl⟩, fun i hi => ⟨fun hc => ?_, fun hc => retG_a1l (has_all hi (of_decide_eq_false hc)).symm⟩⟩
  have hc := of_decide_eq_true hc
  have g1 := hi.1.1
  rw [wrap64_in (x := i + 1) (by omega)]
  exact ⟨⟨g1, hc⟩, ⟨by omega⟩, fun hy => retG_a1l (has_mem g1 hc hy).symm, fun hn => ⟨⟨by simp, ⟨⟨trivial, rfl, rfl⟩, trivial⟩, trivial⟩, ⟨has_step hi hc hn, by omega⟩⟩⟩
theorem vc_impl_areNumbersOfParts (p : Int) (n : Nat) (a : List Int) (h : a.length = n ∧ n ≤ 2000000) : VC_impl_areNumbersOfParts p n a (retG 1 (.bool (risB a 1 p)) [⟨.ints .i64 a, 3, .row⟩]) := by
  obtain ⟨rfl, h2⟩ := h
  unfold VC_impl_areNumbersOfParts
  simp only [at_iff, Bool.not_eq_true', Bool.not_eq_false', true_and, and_true]
  refine ⟨⟨⟨Int.le_refl _, by omega⟩, rfl⟩, fun i hv => ⟨fun hc => ?_, fun hc => retG_a1l (ris_end hv (of_decide_eq_false hc)).symm⟩⟩
  have hc := of_decide_eq_true hc
  obtain ⟨⟨g1, g2⟩, g3⟩ := id hv
  have e1 : IntKind.wrap .i64 (i + 1) = i + 1 := wrap64_in (by omega)
  have e2 : IntKind.wrap .i64 (i - 1) = i - 1 := wrap64_in (by omega)
  have hil : i.toNat < a.length := by omega
  rw [e1, e2]
  refine ⟨⟨g1, hc⟩, hil, fun hf => retG_a1l (ris_no hil (by unfold risN; rw [hf]; rfl)).symm, fun ht => ⟨fun h0 => ?_, fun h0 => ?_⟩⟩
  · have h0 := of_decide_eq_true h0
    have hm : (i - 1).toNat = i.toNat - 1 := by omega
    refine ⟨⟨by omega, by omega⟩, by omega, fun hg => retG_a1l (ris_no hil ?_).symm, fun hg => ⟨ris_step hv hc ?_, by omega⟩⟩
    · have hg := of_decide_eq_true hg
      unfold risN
      rw [← hm, decide_eq_false (show ¬ i.toNat = 0 by omega), decide_eq_false (show ¬ a.getD (i - 1).toNat 0 < a.getD i.toNat 0 by omega), Bool.or_false, Bool.and_false]
    · have hg := of_decide_eq_false hg
      unfold risN
      rw [ht, ← hm, decide_eq_true (show a.getD (i - 1).toNat 0 < a.getD i.toNat 0 by omega), Bool.or_true]
      rfl
  · have h0 := of_decide_eq_false h0
    refine ⟨ris_step hv hc ?_, by omega⟩
    unfold risN
    rw [ht, decide_eq_true (show i.toNat = 0 by omega)]
    rfl
theorem vc_laws_toIntS (n : Nat) (a : List Int) (e : TypeId) (k : Kind) (h : a.length = n ∧ n ≤ 2000000) : VC_laws_toIntS n a e k (retG 1 (.row 1 n) [⟨.ints .i64 a, e, k⟩, ⟨.ints .i64 a, 3, .row⟩]) := by
  obtain ⟨rfl, h2⟩ := h
  unfold VC_laws_toIntS
  refine ⟨⟨by omega, by omega, by omega⟩, ⟨trivial, by simp, ⟨⟨ek_refl e k, rfl, rfl⟩, ⟨trivial, rfl, by simp⟩, trivial⟩, trivial⟩, ⟨by omega, by omega⟩, fun i hi => ⟨fun hc => ?_, fun hc => retG_copy ?_⟩⟩
  · have hc := of_decide_eq_true hc
    obtain ⟨g1, g2⟩ := hi
    have hil : i.toNat < a.length := by omega
    rw [wrap64_in (x := i + 1) (by omega), show (i + 1).toNat = i.toNat + 1 by omega]
    exact ⟨⟨g1, hc⟩, ⟨hil⟩, ⟨g1, hc⟩, ⟨by rw [fill_len (by omega)]; exact hil⟩, ⟨trivial, by simp, ⟨⟨ek_refl e k, rfl, rfl⟩, ⟨trivial, rfl, set_fill hil 0 0⟩, trivial⟩, trivial⟩, ⟨⟨by omega, by omega⟩, by omega⟩⟩
  · have hc := of_decide_eq_false hc
    exact fill_end (by omega) 0
theorem vc_spec_SpiralProgram (p : Int) (n : Nat) (a : List Int) (h : a.length = n ∧ n ≤ 2000000) : VC_spec_SpiralProgram p n a (retG 1 (.tup [.str (spS p a), .bool (spB p a)]) [⟨.ints .i64 a, 3, .row⟩]) := by
  obtain ⟨rfl, h2⟩ := h
  unfold VC_spec_SpiralProgram
  simp only [at_iff, Bool.not_eq_true', Bool.not_eq_false', true_and, and_true]
  have no : spB p a = false → retG 1 (.tup [.str (spS p a), .bool (spB p a)]) [⟨.ints .i64 a, 3, .row⟩] (.tup [.str (Array.toList #[]), .lit false]) [⟨.ints .i64 a, 3, .row⟩] := fun hn => retG_si hn.symm (sp_no hn).symm
  refine ⟨fun h1 => no (by unfold spB; rw [h1]; rfl), fun h1 => ⟨h2, fun h3 => no (by unfold spB; rw [h3, Bool.and_false]), fun h3 => ?_⟩⟩
  have hp := inB_eq.1 h1
  have hy : spB p a = true := by unfold spB; rw [h1, h3]; rfl
  refine ⟨rfl, ⟨hy, by omega, by omega⟩, fun k hk => ⟨fun hc => ?_, fun hc => ?_⟩⟩
  · have hc := of_decide_eq_true hc
    obtain ⟨_, g1, g2⟩ := hk
    obtain ⟨t, rfl⟩ : ∃ t : Nat, k = (t : Int) + 1 := ⟨(k - 1).toNat, by omega⟩
    have e1 : IntKind.wrap .i64 ((t : Int) + 1 + 1) = (t : Int) + 1 + 1 := wrap64_in (by omega)
    have e2 : ((t : Int) + 1 - 1).toNat = t := by omega
    have e3 : ((t : Int) + 1 + 1 - 1).toNat = t + 1 := by omega
    rw [e1, e2, e3]
    have hl := spF_len a t
    have hn1 : (num1 ((t : Int) + 1)).length = 1 := rfl
    refine ⟨⟨by omega, by omega⟩, by omega, h2, fun hh => ⟨?_, ?_, ⟨hy, by omega, by omega⟩, by omega⟩, fun hh => ⟨?_, ?_, ⟨hy, by omega, by omega⟩, by omega⟩⟩
    · simp only [List.length_append, List.length_cons, List.length_nil]; omega
    · rw [List.append_assoc]; show _ = spF a t ++ (num1 _ ++ [UInt8.ofNat (bif hasI a ((t : Int) + 1) then 76 else 82 : Int).toNat]); rw [hh]; rfl
    · simp only [List.length_append, List.length_cons, List.length_nil]; omega
    · rw [List.append_assoc]; show _ = spF a t ++ (num1 _ ++ [UInt8.ofNat (bif hasI a ((t : Int) + 1) then 76 else 82 : Int).toNat]); rw [hh]; rfl
  · have hc := of_decide_eq_false hc
    obtain ⟨_, g1, g2⟩ := hk
    rw [show (k - 1).toNat = p.toNat by omega]
    exact retG_si hy.symm (sp_yes hy).symm
theorem vc_impl_SpiralProgram (p : Int) (n : Nat) (a : List Int) (h : a.length = n ∧ n ≤ 2000000) : VC_impl_SpiralProgram p n a (retG 1 (.tup [.str (spS p a), .bool (spB p a)]) [⟨.ints .i64 a, 3, .row⟩]) := by
  obtain ⟨rfl, h2⟩ := h
  unfold VC_impl_SpiralProgram
  simp only [at_iff, Bool.not_eq_true', Bool.not_eq_false', true_and, and_true]
  have no : spB p a = false → retG 1 (.tup [.str (spS p a), .bool (spB p a)]) [⟨.ints .i64 a, 3, .row⟩] (.tup [.str (Array.toList #[]), .lit false]) [⟨.ints .i64 a, 3, .row⟩] := fun hn => retG_si hn.symm (sp_no hn).symm
  refine ⟨fun h1 => no (by unfold spB; rw [h1]; rfl), fun h1 => ⟨h2, fun h3 => no (by unfold spB; rw [h3, Bool.and_false]), fun h3 => ?_⟩⟩
  have hp := inB_eq.1 h1
  have hy : spB p a = true := by unfold spB; rw [h1, h3]; rfl
  obtain ⟨m, rfl⟩ : ∃ m : Nat, p = m := ⟨p.toNat, by omega⟩
  simp only [Int.toNat_natCast]
  refine ⟨⟨by omega, by omega⟩, sp_start m, ⟨hy, by omega, by omega⟩, fun i hi => ⟨fun hc => ?_, fun hc => ?_⟩⟩
  · have hc := of_decide_eq_true hc
    obtain ⟨_, g1, g2⟩ := hi
    obtain ⟨t, rfl⟩ : ∃ t : Nat, i = t := ⟨i.toNat, by omega⟩
    have e1 : IntKind.wrap .i64 ((t : Int) + 1) = ((t + 1 : Nat) : Int) := by rw [wrap64_in (by omega)]; omega
    have hs := sp_lay (n := m) (i := t) (by omega)
    rw [e1]
    simp only [Int.toNat_natCast]
    refine ⟨⟨by omega, hc⟩, ⟨by rw [fl2_len (spM_len t)]; omega, by omega⟩, hs, ⟨hy, by omega, by omega⟩, by omega⟩
  · have hc := of_decide_eq_false hc
    obtain ⟨_, g1, g2⟩ := hi
    rw [show i.toNat = m by omega]
    refine ⟨sp_mid m, ⟨hy, by omega, by omega⟩, fun j hj => ⟨fun hd => ?_, fun hd => ?_⟩⟩
    · have hd := of_decide_eq_true hd
      obtain ⟨_, q1, q2⟩ := hj
      obtain ⟨t, rfl⟩ : ∃ t : Nat, j = t := ⟨j.toNat, by omega⟩
      have e1 : IntKind.wrap .i64 ((t : Int) + 1) = ((t + 1 : Nat) : Int) := by rw [wrap64_in (by omega)]; omega
      have ht : t < a.length := by omega
      have hx := ris_at h3 ht
      obtain ⟨x, hxx⟩ : ∃ x : Nat, a.getD t 0 = (x : Int) + 1 := ⟨(a.getD t 0 - 1).toNat, by omega⟩
      have e2 : IntKind.wrap .i64 (a.getD t 0 - 1) = (x : Int) := by rw [wrap64_in (by omega)]; omega
      have hsh : shAt [Sh.int .i64, Sh.int .u8] (x * 2 + 1) = Sh.int .u8 := by
        show ([Sh.int .i64, Sh.int .u8] : List Sh).getD ((x * 2 + 1) % 2) .str = _
        rw [show (x * 2 + 1) % 2 = 1 by omega]; rfl
      simp only [Int.toNat_natCast, e1, e2]
      refine ⟨⟨by omega, hd⟩, ht, ⟨by omega, by omega⟩, ⟨by rw [fl2_len (spL_len _)]; omega, hsh⟩, sp_sign ht hxx (by omega), ⟨hy, by omega, by omega⟩, by omega⟩
    · have hd := of_decide_eq_false hd
      obtain ⟨_, q1, q2⟩ := hj
      rw [show j.toNat = a.length by omega, List.take_length]
      obtain ⟨o1, o2⟩ := spL_ok a m (by omega)
      refine ⟨⟨by rw [fl2_len (spL_len a)], by omega, o1, o2⟩, retG_si hy.symm ?_⟩
      rw [prS_sp, sp_yes hy]
      rfl
end Go.Vi
