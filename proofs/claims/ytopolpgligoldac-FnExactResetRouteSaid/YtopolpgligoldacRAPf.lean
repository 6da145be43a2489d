/- Routes: the conditions hold. -/
import Derived.Test.YtopolpgligoldacRAVc
import Derived.Test.YtopolpgligoldacRASpec
namespace Go.Vi
theorem wrap64_in {x : Int} (h : -9223372036854775808 ≤ x ∧ x ≤ 9223372036854775807) : IntKind.wrap .i64 x = x := IntWalk.i64_in _ (by omega)
theorem inB_eq {n lo hi : Int} : inB n lo hi = true ↔ lo ≤ n ∧ n ≤ hi := by unfold inB; simp
theorem inB_ne {n lo hi : Int} : inB n lo hi = false ↔ ¬ (lo ≤ n ∧ n ≤ hi) := by rw [← inB_eq]; simp
theorem recT {b : Bool} (h : b = true) : (Bool.rec False True b : Prop) := by subst h; trivial
theorem ek_refl (e : TypeId) (k : Kind) : (Bool.rec False True (Nat.beq e e && decide (k = k)) : Prop) := recT (by simp)
theorem vc_spec_l1In (n lo hi : Int) (_ : True) : VC_spec_l1In n lo hi (retP (.bool (inB n lo hi))) := by
  unfold VC_spec_l1In inB
  simp only [retP_bool, retP_lit]
  refine ⟨fun h => ?_, fun h => ?_⟩
  all_goals (simp_all; try omega)
theorem vc_impl_within (n lo hi : Int) (_ : True) : VC_impl_within n lo hi (retP (.bool (inB n lo hi))) := by
  unfold VC_impl_within inB
  simp only [retP_bool, retP_lit]
  refine ⟨fun h => ?_, fun h => ?_⟩
  all_goals (simp_all; try omega)
/-! ### ends of calls that look -/
theorem retG_a1 {q r : Int} {a : List Int} {e : TypeId} {k : Kind} {J : List Blk} (h : q = r) : retG 1 (.int .i64 r) [⟨.ints .i64 a, e, k⟩] (.int .i64 q) (⟨.ints .i64 a, e, k⟩ :: J) := by
  subst h
  unfold retG leSel leSelBy autoSel
  simp [pairsL, pairsV, idPairs, pairsIn, selOf, lookN, selMem, chkB, nodupSel, hasSel, prefSel, leSt, leL, leV, nilToL, V.nilTo, selL, V.sel, Cells.selN, leMem, leCells, memUnder, underL, V.under]
theorem retG_m1 {q r : Int} {l : List (List Int)} {d e : TypeId} {k : Kind} {J : List Blk} (h : q = r) : retG 1 (.int .i64 r) [⟨.mat .i64 d l, e, k⟩] (.int .i64 q) (⟨.mat .i64 d l, e, k⟩ :: J) := by
  subst h
  unfold retG leSel leSelBy autoSel
  simp [pairsL, pairsV, idPairs, pairsIn, selOf, lookN, selMem, chkB, nodupSel, hasSel, prefSel, leSt, leL, leV, nilToL, V.nilTo, selL, V.sel, Cells.selN, leMem, leCells, memUnder, underL, V.under]
theorem retG_r2i {q r : Int} {l : List (List Int)} {ro : List Int} {d e f : TypeId} {k g : Kind} {J : List Blk} (h : q = r) : retG 2 (.int .i64 r) [⟨.mat .i64 d l, e, k⟩, ⟨.ints .i64 ro, f, g⟩] (.int .i64 q) (⟨.mat .i64 d l, e, k⟩ :: ⟨.ints .i64 ro, f, g⟩ :: J) := by
  subst h
  unfold retG leSel leSelBy autoSel
  simp [pairsL, pairsV, idPairs, pairsIn, selOf, lookN, selMem, chkB, nodupSel, hasSel, prefSel, leSt, leL, leV, nilToL, V.nilTo, selL, V.sel, Cells.selN, leMem, leCells, memUnder, underL, V.under]
theorem retG_r2b {q r : Bool} {l : List (List Int)} {ro : List Int} {d e f : TypeId} {k g : Kind} {J : List Blk} (h : q = r) : retG 2 (.bool r) [⟨.mat .i64 d l, e, k⟩, ⟨.ints .i64 ro, f, g⟩] (.bool q) (⟨.mat .i64 d l, e, k⟩ :: ⟨.ints .i64 ro, f, g⟩ :: J) := by
  subst h
  unfold retG leSel leSelBy autoSel
  simp [pairsL, pairsV, idPairs, pairsIn, selOf, lookN, selMem, chkB, nodupSel, hasSel, prefSel, leSt, leL, leV, nilToL, V.nilTo, selL, V.sel, Cells.selN, leMem, leCells, memUnder, underL, V.under]
theorem retG_r2l {q r : Bool} {l : List (List Int)} {ro : List Int} {d e f : TypeId} {k g : Kind} {J : List Blk} (h : q = r) : retG 2 (.bool r) [⟨.mat .i64 d l, e, k⟩, ⟨.ints .i64 ro, f, g⟩] (.lit q) (⟨.mat .i64 d l, e, k⟩ :: ⟨.ints .i64 ro, f, g⟩ :: J) := by
  subst h
  unfold retG leSel leSelBy autoSel
  simp [pairsL, pairsV, idPairs, pairsIn, selOf, lookN, selMem, chkB, nodupSel, hasSel, prefSel, leSt, leL, leV, nilToL, V.nilTo, selL, V.sel, Cells.selN, leMem, leCells, memUnder, underL, V.under]
theorem retG_a1l {q r : Bool} {a : List Int} {e : TypeId} {k : Kind} {J : List Blk} (h : q = r) : retG 1 (.bool r) [⟨.ints .i64 a, e, k⟩] (.lit q) (⟨.ints .i64 a, e, k⟩ :: J) := by
  subst h
  unfold retG leSel leSelBy autoSel
  simp [pairsL, pairsV, idPairs, pairsIn, selOf, lookN, selMem, chkB, nodupSel, hasSel, prefSel, leSt, leL, leV, nilToL, V.nilTo, selL, V.sel, Cells.selN, leMem, leCells, memUnder, underL, V.under]
theorem retG_a2l {q r : Bool} {a b : List Int} {e f : TypeId} {k g : Kind} {J : List Blk} (h : q = r) : retG 2 (.bool r) [⟨.ints .i64 a, e, k⟩, ⟨.ints .i64 b, f, g⟩] (.lit q) (⟨.ints .i64 a, e, k⟩ :: ⟨.ints .i64 b, f, g⟩ :: J) := by
  subst h
  unfold retG leSel leSelBy autoSel
  simp [pairsL, pairsV, idPairs, pairsIn, selOf, lookN, selMem, chkB, nodupSel, hasSel, prefSel, leSt, leL, leV, nilToL, V.nilTo, selL, V.sel, Cells.selN, leMem, leCells, memUnder, underL, V.under]
theorem retG_m2l {q r : Bool} {a b : List (List Int)} {c d e f : TypeId} {k g : Kind} {J : List Blk} (h : q = r) : retG 2 (.bool r) [⟨.mat .i64 c a, e, k⟩, ⟨.mat .i64 d b, f, g⟩] (.lit q) (⟨.mat .i64 c a, e, k⟩ :: ⟨.mat .i64 d b, f, g⟩ :: J) := by
  subst h
  unfold retG leSel leSelBy autoSel
  simp [pairsL, pairsV, idPairs, pairsIn, selOf, lookN, selMem, chkB, nodupSel, hasSel, prefSel, leSt, leL, leV, nilToL, V.nilTo, selL, V.sel, Cells.selN, leMem, leCells, memUnder, underL, V.under]
theorem retG_r4l {q r : Bool} {l j : List (List Int)} {ro so : List Int} {d e f d2 e2 f2 : TypeId} {k g k2 g2 : Kind} {J : List Blk} (h : q = r) : retG 4 (.bool r) [⟨.mat .i64 d l, e, k⟩, ⟨.ints .i64 ro, f, g⟩, ⟨.mat .i64 d2 j, e2, k2⟩, ⟨.ints .i64 so, f2, g2⟩] (.lit q) (⟨.mat .i64 d l, e, k⟩ :: ⟨.ints .i64 ro, f, g⟩ :: ⟨.mat .i64 d2 j, e2, k2⟩ :: ⟨.ints .i64 so, f2, g2⟩ :: J) := by
  subst h
  unfold retG leSel leSelBy autoSel
  simp [pairsL, pairsV, idPairs, pairsIn, selOf, lookN, selMem, chkB, nodupSel, hasSel, prefSel, leSt, leL, leV, nilToL, V.nilTo, selL, V.sel, Cells.selN, leMem, leCells, memUnder, underL, V.under]
/-! ### sizes -/
theorem szI_bd {n left : Int} (h : szI n left ≥ 0) : szI n left = left - n ∧ n ≤ left := by
  unfold szI at h ⊢
  cases hd : decide (left - n < 0) with
  | true => rw [hd] at h; simp only [cond_true] at h; omega
  | false =>
    have := of_decide_eq_false hd
    exact ⟨rfl, by omega⟩
theorem szI_neg {n left : Int} (h : szI n left < 0) : szI n left = -1 := by
  unfold szI at h ⊢
  cases hd : decide (left - n < 0) with
  | true => rfl
  | false =>
    have := of_decide_eq_false hd
    rw [hd] at h
    simp only [cond_false] at h
    omega
theorem vc_laws_szIntS (left : Int) (n : Nat) (a : List Int) (e : TypeId) (k : Kind) (h : 0 ≤ left ∧ left ≤ 1048576 ∧ (n : Int) ≤ 9223372036854775807) : VC_laws_szIntS left n a e k (retG 1 (.int .i64 (szI n left)) [⟨.ints .i64 a, e, k⟩]) := by
  unfold VC_laws_szIntS
  rw [wrap64_in (x := left - n) (by omega)]
  refine ⟨fun hc => retG_a1 ?_, fun hc => retG_a1 ?_⟩
  · unfold szI; rw [hc]; rfl
  · unfold szI; rw [hc]; rfl
theorem drop_cons {α : Type} {l : List α} {i : Nat} (h : i < l.length) (d : α) : l.drop i = l.getD i d :: l.drop (i + 1) := by
  rw [List.drop_eq_getElem_cons h, List.getD_eq_getElem?_getD, List.getElem?_eq_getElem h]
  rfl
theorem getD_mem {α : Type} {l : List α} {i : Nat} (h : i < l.length) (d : α) : l.getD i d ∈ l := by
  rw [List.getD_eq_getElem?_getD, List.getElem?_eq_getElem h]
  exact List.getElem_mem h
theorem vc_laws_szIntSS (left : Int) (n : Nat) (l : List (List Int)) (h : 0 ≤ left ∧ left ≤ 1048576 ∧ (n : Int) ≤ 9223372036854775807 ∧ l.length = n ∧ ∀ r ∈ l, (r.length : Int) ≤ 9223372036854775807) :
    VC_laws_szIntSS left n l (retG 1 (.int .i64 (szM l left)) [⟨.mat .i64 3 l, 23, .amat⟩]) := by
  obtain ⟨h1, h2, h3, rfl, h5⟩ := h
  unfold VC_laws_szIntSS
  rw [wrap64_in (x := left - l.length) (by omega)]
  refine ⟨fun hc => retG_m1 ?_, fun hc => ⟨by simp, ⟨by simp only; omega, by simp only; omega, by have := of_decide_eq_false hc; simp only; omega, by simp only; omega, rfl⟩, fun q hq => ?_⟩⟩
  · unfold szM; rw [hc]; rfl
  · obtain ⟨i, left'⟩ := q
    obtain ⟨g1, g2, g3, g4, g5⟩ := hq
    simp only at g1 g2 g3 g4 g5 ⊢
    refine ⟨fun hi => ?_, fun hi => retG_m1 ?_⟩
    · have hi := of_decide_eq_true hi
      have hil : i.toNat < l.length := by omega
      have hrow := h5 _ (getD_mem hil [])
      rw [drop_cons hil [], szL] at g5
      refine ⟨⟨g1, hi⟩, ⟨hil⟩, ⟨g3, g4, hrow⟩, fun hn => retG_m1 ?_, fun hn => ?_⟩
      · rw [hn] at g5
        unfold szM
        rw [hc]
        exact g5
      · have hn' := of_decide_eq_false hn
        rw [hn] at g5
        obtain ⟨e1, e2⟩ := szI_bd (by omega : szI ((l.getD i.toNat []).length : Int) left' ≥ 0)
        rw [wrap64_in (x := i + 1) (by omega)]
        refine ⟨by simp, ⟨⟨by simp only; omega, by simp only; omega, by simp only; omega, by simp only; omega, ?_⟩, by omega⟩⟩
        simp only
        rw [show (i + 1).toNat = i.toNat + 1 by omega]
        exact g5
    · have hi := of_decide_eq_false hi
      rw [List.drop_of_length_le (by omega)] at g5
      unfold szM
      rw [hc]
      exact g5
theorem szL_nn : ∀ {l : List (List Int)} {left : Int}, 0 ≤ left → szL l left ≥ 0 → szL l left ≤ left ∧ ∀ r ∈ l, (r.length : Int) ≤ left
  | [], left, _, _ => ⟨Int.le_refl _, fun r hr => by cases hr⟩
  | r :: l, left, h0, h => by
    unfold szL at h ⊢
    cases hd : decide (szI r.length left < 0) with
    | true => rw [hd] at h; simp only [cond_true] at h; omega
    | false =>
      rw [hd] at h
      have h1 := of_decide_eq_false hd
      obtain ⟨e1, e2⟩ := szI_bd (by omega : szI (r.length : Int) left ≥ 0)
      obtain ⟨g1, g2⟩ := szL_nn (by omega) h
      refine ⟨by simp only [cond_false]; omega, fun q hq => ?_⟩
      rcases List.mem_cons.1 hq with rfl | hq
      · exact e2
      · have := g2 q hq; omega
theorem szM_nn {l : List (List Int)} {left : Int} (h : szM l left ≥ 0) : szM l left ≤ left ∧ (l.length : Int) ≤ left ∧ ∀ r ∈ l, (r.length : Int) ≤ left := by
  unfold szM at h ⊢
  cases hd : decide (left - l.length < 0) with
  | true => rw [hd] at h; simp only [cond_true] at h; omega
  | false =>
    rw [hd] at h
    have h1 := of_decide_eq_false hd
    obtain ⟨g1, g2⟩ := szL_nn (by omega) h
    refine ⟨by simp only [cond_false]; omega, by omega, fun r hr => ?_⟩
    have := g2 r hr
    omega
theorem szR_nn {l : List (List Int)} {ro : List Int} {left : Int} (h0 : 0 ≤ left ∧ left ≤ 1048576) (h : szR l ro left ≥ 0) : smallM l ∧ ro.length ≤ 2000000 := by
  unfold szR at h
  cases hd : decide (szM l left < 0) with
  | true => rw [hd] at h; simp only [cond_true] at h; omega
  | false =>
    rw [hd] at h
    have h1 := of_decide_eq_false hd
    obtain ⟨g1, g2, g3⟩ := szM_nn (l := l) (left := left) (by omega)
    obtain ⟨_, e2⟩ := szI_bd (h : szI (ro.length : Int) (szM l left) ≥ 0)
    exact ⟨⟨by omega, fun r hr => by have := g3 r hr; omega⟩, by omega⟩
theorem vc_laws_szRoute (left : Int) (n m : Nat) (l : List (List Int)) (ro : List Int) (h : 0 ≤ left ∧ left ≤ 1048576 ∧ (n : Int) ≤ 9223372036854775807 ∧ l.length = n ∧ (∀ r ∈ l, (r.length : Int) ≤ 9223372036854775807) ∧ ro.length = m ∧ (m : Int) ≤ 9223372036854775807) :
    VC_laws_szRoute left n m l ro (retG 2 (.int .i64 (szR l ro left)) [⟨.mat .i64 3 l, 23, .amat⟩, ⟨.ints .i64 ro, 3, .arg 1⟩]) := by
  obtain ⟨h1, h2, h3, rfl, h5, rfl, h7⟩ := h
  unfold VC_laws_szRoute
  refine ⟨⟨h1, h2, h3, rfl, h5⟩, fun hc => retG_r2i ?_, fun hc => ?_⟩
  · unfold szR; rw [hc]; rfl
  · have hc' := of_decide_eq_false hc
    obtain ⟨g1, _⟩ := szM_nn (l := l) (left := left) (by omega)
    refine ⟨⟨by omega, by omega, h7⟩, fun hd => retG_r2i ?_, fun hd => retG_r2i ?_⟩
    · unfold szR; rw [hc]
      exact (szI_neg (of_decide_eq_true hd)).symm
    · unfold szR; rw [hc]; rfl
/-! ### copies -/
theorem set_fill {α : Type} {l : List α} {i : Nat} (h : i < l.length) (d z : α) : (l.take i ++ List.replicate (l.length - i) z).set i (l.getD i d) = l.take (i + 1) ++ List.replicate (l.length - (i + 1)) z := by
  have e : l.length - i = (l.length - (i + 1)) + 1 := by omega
  rw [List.set_append_right _ _ (by rw [List.length_take]; omega), List.length_take, Nat.min_eq_left (by omega), Nat.sub_self, e, List.replicate_succ, List.set_cons_zero, List.take_succ_eq_append_getElem h,
    List.getD_eq_getElem?_getD, List.getElem?_eq_getElem h, List.append_assoc]
  rfl
theorem fill_end {α : Type} {l : List α} {i : Nat} (h : ¬ i < l.length) (z : α) : l.take i ++ List.replicate (l.length - i) z = l := by
  rw [List.take_of_length_le (by omega), show l.length - i = 0 by omega]
  simp
theorem fill_len {α : Type} {l : List α} {i : Nat} (h : i ≤ l.length) (z : α) : (l.take i ++ List.replicate (l.length - i) z).length = l.length := by
  rw [List.length_append, List.length_take, List.length_replicate]
  omega
theorem retG_copy {a b : List Int} {e f : TypeId} {k g : Kind} {n : Nat} {J : List Blk} (h : b = a) : retG 1 (.row 1 n) [⟨.ints .i64 a, e, k⟩, ⟨.ints .i64 a, f, g⟩] (.row 1 n) (⟨.ints .i64 a, e, k⟩ :: ⟨.ints .i64 b, f, g⟩ :: J) := by
  subst h
  unfold retG leSel leSelBy autoSel
  simp [pairsL, pairsV, idPairs, pairsIn, selOf, lookN, findSel, selMem, chkB, nodupSel, hasSel, prefSel, leSt, leL, leV, nilToL, V.nilTo, isNilS, isGhost, selL, V.sel, Cells.selN, leMem, leCells, memUnder, underL, V.under]
  trivial
theorem retG_copyM {a b : List (List Int)} {c d e f : TypeId} {k g : Kind} {n : Nat} {J : List Blk} (h : b = a) : retG 1 (.row 1 n) [⟨.mat .i64 c a, e, k⟩, ⟨.mat .i64 d a, f, g⟩] (.row 1 n) (⟨.mat .i64 c a, e, k⟩ :: ⟨.mat .i64 d b, f, g⟩ :: J) := by
  subst h
  unfold retG leSel leSelBy autoSel
  simp [pairsL, pairsV, idPairs, pairsIn, selOf, lookN, findSel, selMem, chkB, nodupSel, hasSel, prefSel, leSt, leL, leV, nilToL, V.nilTo, isNilS, isGhost, selL, V.sel, Cells.selN, leMem, leCells, memUnder, underL, V.under]
  trivial
theorem vc_laws_toIntS (n : Nat) (a : List Int) (e : TypeId) (k : Kind) (h : a.length = n ∧ n ≤ 2000000) : VC_laws_toIntS n a e k (retG 1 (.row 1 n) [⟨.ints .i64 a, e, k⟩, ⟨.ints .i64 a, 3, .row⟩]) := by
  obtain ⟨rfl, h2⟩ := h
  unfold VC_laws_toIntS
  refine ⟨⟨by omega, by omega, by omega⟩, ⟨trivial, by simp, ⟨⟨ek_refl e k, rfl, rfl⟩, ⟨trivial, rfl, by simp⟩, trivial⟩, trivial⟩, ⟨by omega, by omega⟩, fun i hi => ⟨fun hc => ?_, fun hc => retG_copy ?_⟩⟩
  · have hc := of_decide_eq_true hc
    obtain ⟨g1, g2⟩ := hi
    have hil : i.toNat < a.length := by omega
    rw [wrap64_in (x := i + 1) (by omega), show (i + 1).toNat = i.toNat + 1 by omega]
    exact ⟨⟨g1, hc⟩, ⟨hil⟩, ⟨g1, hc⟩, ⟨by rw [fill_len (by omega)]; exact hil⟩, ⟨trivial, by simp, ⟨⟨ek_refl e k, rfl, rfl⟩, ⟨trivial, rfl, set_fill hil 0 0⟩, trivial⟩, trivial⟩, ⟨⟨by omega, by omega⟩, by omega⟩⟩
  · have hc := of_decide_eq_false hc
    exact fill_end (by omega) 0
theorem vc_laws_toIntSS (n : Nat) (l : List (List Int)) (h : l.length = n ∧ smallM l) : VC_laws_toIntSS n l (retG 1 (.row 1 n) [⟨.mat .i64 3 l, 23, .amat⟩, ⟨.mat .i64 3 l, 23, .mat⟩]) := by
  obtain ⟨rfl, h2, h3⟩ := h
  unfold VC_laws_toIntSS
  refine ⟨⟨by omega, by omega, by omega⟩, ⟨trivial, by simp, ⟨⟨trivial, trivial, rfl⟩, ⟨trivial, trivial, by simp⟩, trivial⟩, trivial⟩, ⟨by omega, by omega⟩, fun i hi => ⟨fun hc => ?_, fun hc => retG_copyM ?_⟩⟩
  · have hc := of_decide_eq_true hc
    obtain ⟨g1, g2⟩ := hi
    have hil : i.toNat < l.length := by omega
    rw [wrap64_in (x := i + 1) (by omega), show (i + 1).toNat = i.toNat + 1 by omega]
    exact ⟨⟨g1, hc⟩, ⟨hil⟩, ⟨rfl, h3 _ (getD_mem hil [])⟩, ⟨g1, hc⟩, ⟨by rw [fill_len (by omega)]; exact hil, rfl⟩, ⟨trivial, by simp, ⟨⟨trivial, trivial, rfl⟩, ⟨trivial, trivial, set_fill hil [] []⟩, trivial⟩, trivial⟩, ⟨⟨by omega, by omega⟩, by omega⟩⟩
  · have hc := of_decide_eq_false hc
    exact fill_end (by omega) nilI
theorem vc_laws_toRoute (n m : Nat) (l : List (List Int)) (ro : List Int) (h : l.length = n ∧ ro.length = m ∧ smallM l ∧ m ≤ 2000000) :
    VC_laws_toRoute n m l ro (retG 2 (.agg [.row 2 n, .row 3 m]) [⟨.mat .i64 3 l, 23, .amat⟩, ⟨.ints .i64 ro, 3, .arg 1⟩, ⟨.mat .i64 3 l, 23, .mat⟩, ⟨.ints .i64 ro, 3, .row⟩]) := by
  obtain ⟨h1, h2, h3, h4⟩ := h
  unfold VC_laws_toRoute
  refine ⟨⟨h1, h3⟩, ⟨h2, h4⟩, ?_⟩
  unfold retG leSel leSelBy autoSel
  simp [pairsL, pairsV, idPairs, pairsIn, selOf, lookN, findSel, selMem, chkB, nodupSel, hasSel, prefSel, leSt, leL, leV, nilToL, V.nilTo, isNilS, isGhost, selL, V.sel, Cells.selN, leMem, leCells, memUnder, underL, V.under]
  trivial
/-! ### the same -/
theorem take_snoc {α : Type} {l : List α} {i : Nat} (h : i < l.length) (d : α) : l.take (i + 1) = l.take i ++ [l.getD i d] := by
  rw [List.take_succ_eq_append_getElem h]
  simp [List.getD_eq_getElem?_getD, List.getElem?_eq_getElem h]
theorem ne_at {α : Type} [BEq α] [LawfulBEq α] {a b : List α} {i : Nat} {d : α} (h : (a.getD i d == b.getD i d) = false) : (a == b) = false := by
  rw [beq_eq_false_iff_ne] at h ⊢
  rintro rfl
  exact h rfl
theorem vc_laws_eqIntS (n m : Nat) (a b : List Int) (e : TypeId) (k : Kind) (f : TypeId) (q : Kind) (h : a.length = n ∧ b.length = m ∧ n ≤ 2000000 ∧ m ≤ 2000000) : VC_laws_eqIntS n m a b e k f q (retG 2 (.bool (a == b)) [⟨.ints .i64 a, e, k⟩, ⟨.ints .i64 b, f, q⟩]) := by
  obtain ⟨rfl, rfl, h1, h2⟩ := h
  unfold VC_laws_eqIntS
  refine ⟨fun hne => retG_a2l ?_, fun heq => ⟨⟨by simp, ⟨⟨ek_refl e k, rfl, rfl⟩, ⟨ek_refl f q, rfl, rfl⟩, trivial⟩, trivial⟩, ?_, fun i hi => ⟨fun hc => ?_, fun hc => retG_a2l ?_⟩⟩⟩
  · symm
    rw [beq_eq_false_iff_ne]
    rintro rfl
    simp at hne
  · simp only [bne_eq_false_iff_eq] at heq
    exact ⟨by omega, by omega, by omega, h1, rfl⟩
  · have hc := of_decide_eq_true hc
    obtain ⟨g1, g2, g3, g4, g5⟩ := hi
    have hla : i.toNat < a.length := by omega
    have hlb : i.toNat < b.length := by omega
    rw [wrap64_in (x := i + 1) (by omega)]
    refine ⟨trivial, ⟨g1, hc⟩, ⟨hla⟩, ⟨by omega, by omega⟩, ⟨hlb⟩, fun hn => retG_a2l ?_, fun he => ⟨⟨by simp, ⟨⟨ek_refl e k, rfl, rfl⟩, ⟨ek_refl f q, rfl, rfl⟩, trivial⟩, trivial⟩, ⟨⟨by omega, by omega, g3, g4, ?_⟩, by omega⟩⟩⟩
    · exact (ne_at (i := i.toNat) (d := 0) (by simpa [bne] using hn)).symm
    · simp only [bne_eq_false_iff_eq] at he
      rw [show (i + 1).toNat = i.toNat + 1 by omega, take_snoc hla 0, take_snoc hlb 0, g5, he]
  · have hc := of_decide_eq_false hc
    obtain ⟨g1, g2, g3, g4, g5⟩ := hi
    rw [List.take_of_length_le (by omega), List.take_of_length_le (by omega)] at g5
    simp [g5]
theorem vc_laws_eqIntSS (n m : Nat) (l j : List (List Int)) (h : l.length = n ∧ j.length = m ∧ smallM l ∧ smallM j) : VC_laws_eqIntSS n m l j (retG 2 (.bool (l == j)) [⟨.mat .i64 3 l, 23, .mat⟩, ⟨.mat .i64 3 j, 23, .mat⟩]) := by
  obtain ⟨rfl, rfl, h1, h2⟩ := h
  unfold VC_laws_eqIntSS
  refine ⟨fun hne => retG_m2l ?_, fun heq => ⟨by simp, ?_, fun i hi => ⟨fun hc => ?_, fun hc => retG_m2l ?_⟩⟩⟩
  · symm
    rw [beq_eq_false_iff_ne]
    rintro rfl
    simp at hne
  · simp only [bne_eq_false_iff_eq] at heq
    exact ⟨by omega, by omega, by omega, rfl⟩
  · have hc := of_decide_eq_true hc
    obtain ⟨g1, g2, g3, g5⟩ := hi
    have hla : i.toNat < l.length := by omega
    have hlb : i.toNat < j.length := by omega
    have hsz := h1.1
    rw [wrap64_in (x := i + 1) (by omega)]
    refine ⟨trivial, ⟨g1, hc⟩, ⟨hla⟩, ⟨by omega, by omega⟩, ⟨hlb⟩, ⟨rfl, rfl, h1.2 _ (getD_mem hla []), h2.2 _ (getD_mem hlb [])⟩, fun hn => retG_m2l ?_, fun he => ⟨by simp, ⟨⟨by omega, by omega, g3, ?_⟩, by omega⟩⟩⟩
    · exact (ne_at (i := i.toNat) (d := []) (by simpa using hn)).symm
    · simp only [Bool.not_eq_false', beq_iff_eq] at he
      rw [show (i + 1).toNat = i.toNat + 1 by omega, take_snoc hla [], take_snoc hlb [], g5, he]
  · have hc := of_decide_eq_false hc
    obtain ⟨g1, g2, g3, g5⟩ := hi
    rw [List.take_of_length_le (by omega), List.take_of_length_le (by omega)] at g5
    simp [g5]
theorem vc_laws_eqRoute (n m : Nat) (l : List (List Int)) (ro : List Int) (u v : Nat) (j : List (List Int)) (so : List Int) (h : l.length = n ∧ ro.length = m ∧ smallM l ∧ m ≤ 2000000 ∧ j.length = u ∧ so.length = v ∧ smallM j ∧ v ≤ 2000000) :
    VC_laws_eqRoute n m l ro u v j so (retG 4 (.bool (l == j && ro == so)) [⟨.mat .i64 3 l, 23, .mat⟩, ⟨.ints .i64 ro, 3, .row⟩, ⟨.mat .i64 3 j, 23, .mat⟩, ⟨.ints .i64 so, 3, .row⟩]) := by
  obtain ⟨h1, h2, h3, h4, h5, h6, h7, h8⟩ := h
  unfold VC_laws_eqRoute
  refine ⟨⟨h1, h5, h3, h7⟩, fun hn => retG_r4l ?_, fun he => ⟨⟨h2, h6, h4, h8⟩, fun hn => retG_r4l ?_, fun he2 => retG_r4l ?_⟩⟩
  · simp only [Bool.not_eq_true'] at hn; rw [hn]; rfl
  · simp only [Bool.not_eq_true'] at hn; rw [hn, Bool.and_false]
  · simp only [Bool.not_eq_false'] at he he2; rw [he, he2]; rfl
/-! ### what is good -/
theorem vc_spec_l1All (lo hi : Int) (n : Nat) (a : List Int) (e : TypeId) (k : Kind) (h : a.length = n ∧ n ≤ 2000000) : VC_spec_l1All lo hi n a e k (retG 1 (.bool (allB a lo hi)) [⟨.ints .i64 a, e, k⟩]) := by
  obtain ⟨rfl, h2⟩ := h
  unfold VC_spec_l1All
  refine ⟨⟨by simp, ⟨⟨ek_refl e k, rfl, rfl⟩, trivial⟩, trivial⟩, ⟨by omega, by omega, rfl⟩, fun i ⟨g1, g2, g3⟩ => ⟨fun hc => ?_, fun hc => retG_a1l ?_⟩⟩
  · have hc := of_decide_eq_true hc
    have hil : i.toNat < a.length := by omega
    rw [wrap64_in (x := i + 1) (by omega)]
    refine ⟨⟨g1, hc⟩, ⟨hil⟩, ⟨trivial⟩, fun hn => retG_a1l ?_, fun hy => ⟨⟨by simp, ⟨⟨ek_refl e k, rfl, rfl⟩, trivial⟩, trivial⟩, ⟨⟨by omega, by omega, ?_⟩, by omega⟩⟩⟩
    · symm
      simp only [Bool.not_eq_true'] at hn
      unfold allB
      rw [List.all_eq_false]
      exact ⟨_, getD_mem hil 0, by rw [hn]; decide⟩
    · simp only [Bool.not_eq_false'] at hy
      unfold allB at g3 ⊢
      rw [show (i + 1).toNat = i.toNat + 1 by omega, take_snoc hil 0, List.all_append, g3]
      simp only [List.all_cons, List.all_nil, hy, Bool.and_self]
  · have hc := of_decide_eq_false hc
    rw [List.take_of_length_le (by omega)] at g3
    exact g3.symm
theorem rows_at {n : Nat} {l : List (List Int)} {ro : List Int} {i : Nat} (h : i < l.length) (hr : ro.length = l.length) : rowsB n (l.drop i) (ro.drop i) = (rowB n (l.getD i []) (ro.getD i 0) && rowsB n (l.drop (i + 1)) (ro.drop (i + 1))) := by
  rw [drop_cons h [], drop_cons (show i < ro.length by omega) 0]
  rfl
theorem route_of {l : List (List Int)} {ro : List Int} {b : Bool} (h1 : inB (l.length : Int) 1 10 = true) (h2 : ro.length = l.length) (h3 : rowsB l.length l ro = b) : b = routeB l ro := by
  unfold routeB
  rw [h1, h3, beq_iff_eq.2 h2]
  simp
theorem vc_spec_roGood (n m : Nat) (l : List (List Int)) (ro : List Int) (h : l.length = n ∧ ro.length = m ∧ smallM l ∧ m ≤ 2000000) :
    VC_spec_roGood n m l ro (retG 2 (.bool (routeB l ro)) [⟨.mat .i64 3 l, 23, .mat⟩, ⟨.ints .i64 ro, 3, .row⟩]) := by
  obtain ⟨rfl, rfl, h3, h4⟩ := h
  have hsz := h3.1
  unfold VC_spec_roGood
  refine ⟨⟨trivial⟩, fun hn => retG_r2l ?_, fun h1 => ⟨fun hn => retG_r2l ?_, fun h2 => ⟨by simp, ⟨by omega, by omega, rfl⟩, fun i ⟨g1, g2, g3⟩ => ⟨fun hc => ?_, fun hc => retG_r2l ?_⟩⟩⟩⟩
  · simp only [Bool.not_eq_true'] at hn
    unfold routeB; rw [hn]; rfl
  · unfold routeB
    have : (ro.length == l.length) = false := by
      simp only [bne_iff_ne, ne_eq] at hn
      rw [beq_eq_false_iff_ne]
      omega
    rw [this]
    simp
  · have hc := of_decide_eq_true hc
    simp only [Bool.not_eq_false'] at h1
    simp only [bne_eq_false_iff_eq] at h2
    have h2 : ro.length = l.length := by omega
    have hil : i.toNat < l.length := by omega
    rw [rows_at hil h2] at g3
    unfold rowB at g3
    have hrow := h3.2 _ (getD_mem hil [])
    rw [wrap64_in (x := i + 1) (by omega), wrap64_in (x := (l.length : Int) - 1) (by omega), wrap64_in (x := ((l.getD i.toNat []).length : Int) - 1) (by omega)]
    refine ⟨⟨g1, hc⟩, ⟨hil⟩, ⟨trivial⟩, fun hn => retG_r2l (route_of h1 h2 ?_), fun e1 => ⟨⟨rfl, hrow⟩, fun hn => retG_r2l (route_of h1 h2 ?_), fun e2 => ⟨⟨g1, by omega⟩, ⟨by omega⟩, ⟨trivial⟩, fun hn => retG_r2l (route_of h1 h2 ?_), fun e3 => ⟨by simp, ⟨⟨by omega, by omega, ?_⟩, by omega⟩⟩⟩⟩⟩
    · simp only [Bool.not_eq_true'] at hn
      rw [g3, hn]; rfl
    · simp only [Bool.not_eq_true'] at hn
      rw [g3, hn]; simp
    · simp only [Bool.not_eq_true'] at hn
      rw [g3, hn]; simp
    · simp only [Bool.not_eq_false'] at e1 e2 e3
      rw [g3, e1, e2, e3, show (i + 1).toNat = i.toNat + 1 by omega]
      simp
  · have hc := of_decide_eq_false hc
    simp only [Bool.not_eq_false'] at h1
    simp only [bne_eq_false_iff_eq] at h2
    rw [List.drop_of_length_le (l := l) (by omega)] at g3
    exact route_of h1 (by omega) g3
theorem vc_impl_isNode (node : Int) (n m : Nat) (l : List (List Int)) (ro : List Int) (h : l.length = n ∧ ro.length = m ∧ smallM l ∧ m ≤ 2000000) :
    VC_impl_isNode node n m l ro (retG 2 (.bool (inB node 0 (n - 1))) [⟨.mat .i64 3 l, 23, .mat⟩, ⟨.ints .i64 ro, 3, .row⟩]) := by
  obtain ⟨rfl, rfl, h3, h4⟩ := h
  have hsz := h3.1
  unfold VC_impl_isNode
  rw [wrap64_in (x := (l.length : Int) - 1) (by omega)]
  exact ⟨⟨trivial⟩, retG_r2b rfl⟩
theorem allB_bad {a : List Int} {lo hi : Int} {i : Nat} (h : i < a.length) (hb : inB (a.getD i 0) lo hi = false) : allB a lo hi = false := by
  unfold allB
  rw [List.all_eq_false]
  exact ⟨_, getD_mem h 0, by rw [hb]; decide⟩
theorem allB_step {a : List Int} {lo hi : Int} {i : Nat} (h : i < a.length) (hb : inB (a.getD i 0) lo hi = true) (ha : allB (a.take i) lo hi = true) : allB (a.take (i + 1)) lo hi = true := by
  unfold allB at ha ⊢
  rw [take_snoc h 0, List.all_append, ha]
  simp only [List.all_cons, List.all_nil, hb, Bool.and_self]
theorem vc_impl_IsRoute (n m : Nat) (l : List (List Int)) (ro : List Int) (h : l.length = n ∧ ro.length = m ∧ smallM l ∧ m ≤ 2000000) :
    VC_impl_IsRoute n m l ro (retG 2 (.bool (routeB l ro)) [⟨.mat .i64 3 l, 23, .mat⟩, ⟨.ints .i64 ro, 3, .row⟩]) := by
  obtain ⟨rfl, rfl, h3, h4⟩ := h
  have hsz := h3.1
  unfold VC_impl_IsRoute
  refine ⟨⟨trivial⟩, fun hn => retG_r2l ?_, fun h1 => ⟨fun hn => retG_r2l ?_, fun h2 => ⟨by simp, ⟨by omega, by omega, rfl⟩, fun i ⟨g1, g2, g3⟩ => ⟨fun hc => ?_, fun hc => retG_r2l ?_⟩⟩⟩⟩
  · simp only [Bool.not_eq_true'] at hn
    unfold routeB; rw [hn]; rfl
  · unfold routeB
    have : (ro.length == l.length) = false := by
      simp only [bne_iff_ne, ne_eq] at hn
      rw [beq_eq_false_iff_ne]
      omega
    rw [this]
    simp
  · have hc := of_decide_eq_true hc
    simp only [Bool.not_eq_false'] at h1
    simp only [bne_eq_false_iff_eq] at h2
    have h2 : ro.length = l.length := by omega
    have hil : i.toNat < l.length := by omega
    rw [rows_at hil h2] at g3
    unfold rowB at g3
    have hrow := h3.2 _ (getD_mem hil [])
    rw [wrap64_in (x := i + 1) (by omega), wrap64_in (x := ((l.getD i.toNat []).length : Int) - 1) (by omega)]
    refine ⟨⟨g1, hc⟩, ⟨hil⟩, ⟨trivial⟩, fun hn => retG_r2l (route_of h1 h2 ?_), fun e1 => ⟨⟨g1, by omega⟩, ⟨by omega⟩, ⟨trivial⟩, fun hn => retG_r2l (route_of h1 h2 ?_), fun e3 => ⟨by simp, ⟨by omega, by omega, rfl⟩, fun j ⟨k1, k2, k3⟩ => ⟨fun hj => ?_, fun hj => ⟨by simp, ⟨⟨by omega, by omega, ?_⟩, by omega⟩⟩⟩⟩⟩⟩
    · simp only [Bool.not_eq_true'] at hn
      rw [g3, hn]; rfl
    · simp only [Bool.not_eq_true'] at hn
      rw [g3, hn]; simp
    · have hj := of_decide_eq_true hj
      have hjl : j.toNat < (l.getD i.toNat []).length := by omega
      rw [wrap64_in (x := j + 1) (by omega)]
      refine ⟨⟨k1, hj⟩, ⟨hil, hjl⟩, ⟨rfl, rfl, h3, h4⟩, fun hn => retG_r2l (route_of h1 h2 ?_), fun e4 => ⟨by simp, ⟨⟨by omega, by omega, ?_⟩, by omega⟩⟩⟩
      · simp only [Bool.not_eq_true'] at hn
        rw [g3, allB_bad hjl hn]; simp
      · simp only [Bool.not_eq_false'] at e4
        rw [show (j + 1).toNat = j.toNat + 1 by omega]
        exact allB_step hjl e4 k3
    · have hj := of_decide_eq_false hj
      simp only [Bool.not_eq_false'] at e1 e3
      rw [List.take_of_length_le (by omega)] at k3
      rw [g3, e1, k3, e3, show (i + 1).toNat = i.toNat + 1 by omega]
      simp
  · have hc := of_decide_eq_false hc
    simp only [Bool.not_eq_false'] at h1
    simp only [bne_eq_false_iff_eq] at h2
    rw [List.drop_of_length_le (l := l) (by omega)] at g3
    exact route_of h1 (by omega) g3
end Go.Vi
