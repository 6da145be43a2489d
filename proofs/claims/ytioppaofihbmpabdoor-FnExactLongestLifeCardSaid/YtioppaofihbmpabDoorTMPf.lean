/- How the laws compare and mark rows: the conditions hold. -/
import Derived.Test.YtioppaofihbmpabDoorTMVc
import Derived.Test.YtioppaofihbmpabDoorTMSpec
namespace Go.Vi
set_option linter.unusedSimpArgs false
theorem mk_wrap {x : Int} (h : -9223372036854775808 ≤ x ∧ x ≤ 9223372036854775807) : IntKind.wrap .i64 x = x := IntWalk.i64_in _ (by omega)
theorem recT {b : Bool} (h : b = true) : (Bool.rec False True b : Prop) := by subst h; trivial
theorem ek_refl (e : TypeId) (k : Kind) : (Bool.rec False True (Nat.beq e e && decide (k = k)) : Prop) := recT (by simp)
theorem retG_a1 {q r : Int} {a : List Int} {e : TypeId} {k : Kind} {J : List Blk} (h : q = r) : retG 1 (.int .i64 r) [⟨.ints .i64 a, e, k⟩] (.int .i64 q) (⟨.ints .i64 a, e, k⟩ :: J) := by
  subst h
  unfold retG leSel leSelBy autoSel
  simp [pairsL, pairsV, idPairs, pairsIn, selOf, lookN, selMem, chkB, nodupSel, hasSel, prefSel, leSt, leL, leV, nilToL, V.nilTo, selL, V.sel, Cells.selN, leMem, leCells, memUnder, underL, V.under]
theorem retG_m1 {q r : Int} {l : List (List Int)} {d e : TypeId} {k : Kind} {J : List Blk} (h : q = r) : retG 1 (.int .i64 r) [⟨.mat .i64 d l, e, k⟩] (.int .i64 q) (⟨.mat .i64 d l, e, k⟩ :: J) := by
  subst h
  unfold retG leSel leSelBy autoSel
  simp [pairsL, pairsV, idPairs, pairsIn, selOf, lookN, selMem, chkB, nodupSel, hasSel, prefSel, leSt, leL, leV, nilToL, V.nilTo, selL, V.sel, Cells.selN, leMem, leCells, memUnder, underL, V.under]
theorem retG_a1l {q r : Bool} {a : List Int} {e : TypeId} {k : Kind} {J : List Blk} (h : q = r) : retG 1 (.bool r) [⟨.ints .i64 a, e, k⟩] (.lit q) (⟨.ints .i64 a, e, k⟩ :: J) := by
  subst h
  unfold retG leSel leSelBy autoSel
  simp [pairsL, pairsV, idPairs, pairsIn, selOf, lookN, selMem, chkB, nodupSel, hasSel, prefSel, leSt, leL, leV, nilToL, V.nilTo, selL, V.sel, Cells.selN, leMem, leCells, memUnder, underL, V.under]
theorem retG_a2l {q r : Bool} {a b : List Int} {e f : TypeId} {k g : Kind} {J : List Blk} (h : q = r) : retG 2 (.bool r) [⟨.ints .i64 a, e, k⟩, ⟨.ints .i64 b, f, g⟩] (.lit q) (⟨.ints .i64 a, e, k⟩ :: ⟨.ints .i64 b, f, g⟩ :: J) := by
  subst h
  unfold retG leSel leSelBy autoSel
  simp [pairsL, pairsV, idPairs, pairsIn, selOf, lookN, selMem, chkB, nodupSel, hasSel, prefSel, leSt, leL, leV, nilToL, V.nilTo, selL, V.sel, Cells.selN, leMem, leCells, memUnder, underL, V.under]
theorem retG_m2l {q r : Bool} {a b : List (List Int)} {c d e f : TypeId} {k g : Kind} {J : List Blk} (h : q = r) : retG 2 (.bool r) [⟨.mat .i64 c a, e, k⟩, ⟨.mat .i64 d b, f, g⟩] (.lit q) (⟨.mat .i64 c a, e, k⟩ :: ⟨.mat .i64 d b, f, g⟩ :: J) := by
  subst h
  unfold retG leSel leSelBy autoSel
  simp [pairsL, pairsV, idPairs, pairsIn, selOf, lookN, selMem, chkB, nodupSel, hasSel, prefSel, leSt, leL, leV, nilToL, V.nilTo, selL, V.sel, Cells.selN, leMem, leCells, memUnder, underL, V.under]
theorem drop_cons {α : Type} {l : List α} {i : Nat} (h : i < l.length) (d : α) : l.drop i = l.getD i d :: l.drop (i + 1) := by
  rw [List.drop_eq_getElem_cons h, List.getD_eq_getElem?_getD, List.getElem?_eq_getElem h]
  rfl
theorem getD_mem {α : Type} {l : List α} {i : Nat} (h : i < l.length) (d : α) : l.getD i d ∈ l := by
  rw [List.getD_eq_getElem?_getD, List.getElem?_eq_getElem h]
  exact List.getElem_mem h
theorem set_fill {α : Type} {l : List α} {i : Nat} (h : i < l.length) (d z : α) : (l.take i ++ List.replicate (l.length - i) z).set i (l.getD i d) = l.take (i + 1) ++ List.replicate (l.length - (i + 1)) z := by
  have e : l.length - i = (l.length - (i + 1)) + 1 := by omega
  rw [List.set_append_right _ _ (by rw [List.length_take]; omega), List.length_take, Nat.min_eq_left (by omega), Nat.sub_self, e, List.replicate_succ, List.set_cons_zero, List.take_succ_eq_append_getElem h,
    List.getD_eq_getElem?_getD, List.getElem?_eq_getElem h, List.append_assoc]
  rfl
theorem fill_end {α : Type} {l : List α} {i : Nat} (h : ¬ i < l.length) (z : α) : l.take i ++ List.replicate (l.length - i) z = l := by
  rw [List.take_of_length_le (by omega), show l.length - i = 0 by omega]
  simp
theorem fill_len {α : Type} {l : List α} {i : Nat} (h : i ≤ l.length) (z : α) : (l.take i ++ List.replicate (l.length - i) z).length = l.length := by
  rw [List.length_append, List.length_take, List.length_replicate]
  omega
theorem retG_copy {a b : List Int} {e f : TypeId} {k g : Kind} {n : Nat} {J : List Blk} (h : b = a) : retG 1 (.row 1 n) [⟨.ints .i64 a, e, k⟩, ⟨.ints .i64 a, f, g⟩] (.row 1 n) (⟨.ints .i64 a, e, k⟩ :: ⟨.ints .i64 b, f, g⟩ :: J) := by
  subst h
  unfold retG leSel leSelBy autoSel
  simp [pairsL, pairsV, idPairs, pairsIn, selOf, lookN, findSel, selMem, chkB, nodupSel, hasSel, prefSel, leSt, leL, leV, nilToL, V.nilTo, isNilS, isGhost, selL, V.sel, Cells.selN, leMem, leCells, memUnder, underL, V.under]
  trivial
theorem take_snoc {α : Type} {l : List α} {i : Nat} (h : i < l.length) (d : α) : l.take (i + 1) = l.take i ++ [l.getD i d] := by
  rw [List.take_succ_eq_append_getElem h]
  simp [List.getD_eq_getElem?_getD, List.getElem?_eq_getElem h]
theorem ne_at {α : Type} [BEq α] [LawfulBEq α] {a b : List α} {i : Nat} {d : α} (h : (a.getD i d == b.getD i d) = false) : (a == b) = false := by
  rw [beq_eq_false_iff_ne] at h ⊢
  rintro rfl
  exact h rfl
theorem vc_laws_eqIntS (n m : Nat) (a b : List Int) (e : TypeId) (k : Kind) (f : TypeId) (q : Kind) (h : a.length = n ∧ b.length = m ∧ n ≤ 2000000 ∧ m ≤ 2000000) : VC_laws_eqIntS n m a b e k f q (retG 2 (.bool (a == b)) [⟨.ints .i64 a, e, k⟩, ⟨.ints .i64 b, f, q⟩]) := by
  obtain ⟨rfl, rfl, h1, h2⟩ := h
  unfold VC_laws_eqIntS
  refine ⟨fun hne => retG_a2l ?_, fun heq => ⟨⟨by simp, ⟨⟨ek_refl e k, rfl, rfl⟩, ⟨ek_refl f q, rfl, rfl⟩, trivial⟩, trivial⟩, ?_, fun i hi => ⟨fun hc => ?_, fun hc => retG_a2l ?_⟩⟩⟩
  · symm
    rw [beq_eq_false_iff_ne]
    rintro rfl
    simp at hne
  · simp only [bne_eq_false_iff_eq] at heq
    exact ⟨by omega, by omega, by omega, h1, rfl⟩
  · have hc := of_decide_eq_true hc
    obtain ⟨g1, g2, g3, g4, g5⟩ := hi
    have hla : i.toNat < a.length := by omega
    have hlb : i.toNat < b.length := by omega
    rw [mk_wrap (x := i + 1) (by omega)]
    refine ⟨trivial, ⟨g1, hc⟩, ⟨hla⟩, ⟨by omega, by omega⟩, ⟨hlb⟩, fun hn => retG_a2l ?_, fun he => ⟨⟨by simp, ⟨⟨ek_refl e k, rfl, rfl⟩, ⟨ek_refl f q, rfl, rfl⟩, trivial⟩, trivial⟩, ⟨⟨by omega, by omega, g3, g4, ?_⟩, by omega⟩⟩⟩
    · exact (ne_at (i := i.toNat) (d := 0) (by simpa [bne] using hn)).symm
    · simp only [bne_eq_false_iff_eq] at he
      rw [show (i + 1).toNat = i.toNat + 1 by omega, take_snoc hla 0, take_snoc hlb 0, g5, he]
  · have hc := of_decide_eq_false hc
    obtain ⟨g1, g2, g3, g4, g5⟩ := hi
    rw [List.take_of_length_le (by omega), List.take_of_length_le (by omega)] at g5
    simp [g5]
theorem vc_laws_eqIntSS (n m : Nat) (l j : List (List Int)) (h : l.length = n ∧ j.length = m ∧ smallM l ∧ smallM j) : VC_laws_eqIntSS n m l j (retG 2 (.bool (l == j)) [⟨.mat .i64 3 l, 33, .mat⟩, ⟨.mat .i64 3 j, 33, .mat⟩]) := by
  obtain ⟨rfl, rfl, h1, h2⟩ := h
  unfold VC_laws_eqIntSS
  refine ⟨fun hne => retG_m2l ?_, fun heq => ⟨by simp, ?_, fun i hi => ⟨fun hc => ?_, fun hc => retG_m2l ?_⟩⟩⟩
  · symm
    rw [beq_eq_false_iff_ne]
    rintro rfl
    simp at hne
  · simp only [bne_eq_false_iff_eq] at heq
    exact ⟨by omega, by omega, by omega, rfl⟩
  · have hc := of_decide_eq_true hc
    obtain ⟨g1, g2, g3, g5⟩ := hi
    have hla : i.toNat < l.length := by omega
    have hlb : i.toNat < j.length := by omega
    have hsz := h1.1
    rw [mk_wrap (x := i + 1) (by omega)]
    refine ⟨trivial, ⟨g1, hc⟩, ⟨hla⟩, ⟨by omega, by omega⟩, ⟨hlb⟩, ⟨rfl, rfl, h1.2 _ (getD_mem hla []), h2.2 _ (getD_mem hlb [])⟩, fun hn => retG_m2l ?_, fun he => ⟨by simp, ⟨⟨by omega, by omega, g3, ?_⟩, by omega⟩⟩⟩
    · exact (ne_at (i := i.toNat) (d := []) (by simpa using hn)).symm
    · simp only [Bool.not_eq_false', beq_iff_eq] at he
      rw [show (i + 1).toNat = i.toNat + 1 by omega, take_snoc hla [], take_snoc hlb [], g5, he]
  · have hc := of_decide_eq_false hc
    obtain ⟨g1, g2, g3, g5⟩ := hi
    rw [List.take_of_length_le (by omega), List.take_of_length_le (by omega)] at g5
    simp [g5]
theorem ramp_len (k : Int) (n : Nat) : (ramp k n).length = n := by simp [ramp]
theorem ramp_succ (k : Int) (n : Nat) : ramp k (n + 1) = ramp k n ++ [k + (n : Int)] := by simp [ramp, List.range_succ]
theorem mrkRow_len {a : List Int} {k : Int} {i : Nat} (h : i ≤ a.length) : (mrkRow a k i).length = a.length := by
  simp only [mrkRow, List.length_append, ramp_len, List.length_drop]
  omega
theorem mrkRow_set {a : List Int} {k v : Int} {i : Nat} (h : i < a.length) (hv : v = k + (i : Int)) : (mrkRow a k i).set i v = mrkRow a k (i + 1) := by
  subst hv
  unfold mrkRow
  rw [List.set_append_right _ _ (by rw [ramp_len]; exact Nat.le_refl _), ramp_len, Nat.sub_self, List.drop_eq_getElem_cons h, List.set_cons_zero, ramp_succ, List.append_assoc]
  rfl
theorem retG_w1 {q r : Int} {a b : List Int} {e : TypeId} {k : Kind} {J : List Blk} (h : q = r) (hb : b = a) : retG 1 (.int .i64 r) [⟨.ints .i64 a, e, k⟩] (.int .i64 q) (⟨.ints .i64 b, e, k⟩ :: J) := by
  subst hb; exact retG_a1 h
theorem retG_wm1 {q r : Int} {a b : List (List Int)} {d e : TypeId} {k : Kind} {J : List Blk} (h : q = r) (hb : b = a) : retG 1 (.int .i64 r) [⟨.mat .i64 d a, e, k⟩] (.int .i64 q) (⟨.mat .i64 d b, e, k⟩ :: J) := by
  subst hb; exact retG_m1 h
theorem vc_laws_markIntS (k : Int) (n : Nat) (a : List Int) (h : a.length = n ∧ n ≤ 2000000 ∧ 0 ≤ k ∧ k ≤ 1000000000000000) : VC_laws_markIntS k n a (retG 1 (.int .i64 (k + (n : Nat))) [⟨.ints .i64 (ramp k n), 3, .row⟩]) := by
  obtain ⟨rfl, h1, h2, h3⟩ := h
  unfold VC_laws_markIntS
  refine ⟨by simp [mrkRow, ramp], ⟨by omega, by omega⟩, fun i hi => ⟨fun hc => ?_, fun hc => ?_⟩⟩
  · have hc := of_decide_eq_true hc
    obtain ⟨g1, g2⟩ := hi
    rw [mk_wrap (x := i + 1) (by omega), mk_wrap (x := k + i + 1) (by omega), mrkRow_set (by omega) (show k + i = k + ((i.toNat : Nat) : Int) by omega), mrkRow_len (by omega), show (i + 1).toNat = i.toNat + 1 by omega]
    refine ⟨⟨g1, hc⟩, ⟨by omega⟩, ⟨⟨⟨rfl, rfl⟩, ⟨trivial, by omega⟩, ⟨trivial, rfl⟩, trivial⟩, ⟨⟨trivial, rfl, rfl⟩, trivial⟩, trivial⟩, ⟨⟨by omega, by omega⟩, by omega⟩⟩
  · have hc := of_decide_eq_false hc
    obtain ⟨g1, g2⟩ := hi
    have e : i.toNat = a.length := by omega
    refine retG_w1 (by omega) ?_
    unfold mrkRow
    rw [e, List.drop_length, List.append_nil]
theorem totL_append : ∀ a b : List (List Int), totL (a ++ b) = totL a + totL b
  | [], b => by simp [totL]
  | r :: a, b => by simp only [List.cons_append, totL, totL_append a b]; omega
theorem rampM_append : ∀ (k : Int) (a b : List (List Int)), rampM k (a ++ b) = rampM k a ++ rampM (k + (totL a : Nat)) b
  | k, [], b => by simp [rampM, totL]
  | k, r :: a, b => by
    simp only [List.cons_append, rampM, totL, rampM_append (k + (r.length : Nat)) a b, List.cons.injEq, true_and]
    congr 2
    omega
theorem rampM_len : ∀ (k : Int) (l : List (List Int)), (rampM k l).length = l.length
  | _, [] => rfl
  | k, r :: l => by simp [rampM, rampM_len (k + (r.length : Nat)) l]
theorem totL_bd : ∀ {l : List (List Int)} {c : Nat}, (∀ r ∈ l, r.length ≤ c) → totL l ≤ l.length * c
  | [], c, _ => by simp [totL]
  | r :: l, c, h => by
    have h1 := h r (by simp)
    have h2 := totL_bd (l := l) (c := c) fun q hq => h q (by simp [hq])
    simp only [totL, List.length_cons, Nat.succ_mul]
    omega
theorem totL_small {l : List (List Int)} (h : smallM l) : totL l ≤ 4000000000000 := by
  have h1 := totL_bd h.2
  have h2 : l.length * 2000000 ≤ 2000000 * 2000000 := Nat.mul_le_mul_right _ h.1
  omega
theorem totL_take {l : List (List Int)} {i : Nat} (h : i < l.length) : totL (l.take (i + 1)) = totL (l.take i) + (l.getD i []).length := by
  rw [take_snoc h [], totL_append]
  simp [totL]
theorem totL_le (l : List (List Int)) (i : Nat) : totL (l.take i) ≤ totL l := by
  have := totL_append (l.take i) (l.drop i)
  rw [List.take_append_drop] at this
  omega
theorem rampM_take {l : List (List Int)} {k : Int} {i : Nat} (h : i < l.length) : rampM k (l.take (i + 1)) = rampM k (l.take i) ++ [ramp (k + (totL (l.take i) : Nat)) (l.getD i []).length] := by
  rw [take_snoc h [], rampM_append]
  rfl
theorem mrkMat_len {l : List (List Int)} {k : Int} {i : Nat} (h : i ≤ l.length) : (mrkMat l k i).length = l.length := by
  simp only [mrkMat, List.length_append, rampM_len, List.length_take, List.length_drop]
  omega
theorem mrkMat_get {l : List (List Int)} {k : Int} {i : Nat} (h : i < l.length) : (mrkMat l k i).getD i [] = l.getD i [] := by
  have hl : (rampM k (l.take i)).length = i := by rw [rampM_len, List.length_take]; omega
  unfold mrkMat
  rw [List.getD_eq_getElem?_getD, List.getElem?_append_right (by omega), hl, Nat.sub_self, List.getElem?_drop, Nat.add_zero, ← List.getD_eq_getElem?_getD]
theorem mrkMat_set {l : List (List Int)} {k : Int} {i : Nat} (h : i < l.length) : (mrkMat l k i).set i (ramp (k + (totL (l.take i) : Nat)) (l.getD i []).length) = mrkMat l k (i + 1) := by
  have hl : (rampM k (l.take i)).length = i := by rw [rampM_len, List.length_take]; omega
  unfold mrkMat
  rw [List.set_append_right _ _ (by omega), hl, Nat.sub_self, drop_cons h [], List.set_cons_zero, rampM_take h, List.append_assoc]
  rfl
theorem vc_laws_markIntSS (k : Int) (n : Nat) (l : List (List Int)) (h : l.length = n ∧ smallM l ∧ 0 ≤ k ∧ k ≤ 1000000) : VC_laws_markIntSS k n l (retG 1 (.int .i64 (k + (totL l : Nat))) [⟨.mat .i64 3 (rampM k l), 33, .mat⟩]) := by
  obtain ⟨rfl, h1, h2, h3⟩ := h
  have hsz := h1.1
  have htot := totL_small h1
  unfold VC_laws_markIntSS
  refine ⟨by simp [mrkMat, rampM, totL], ⟨by omega, by omega⟩, fun i hi => ⟨fun hc => ?_, fun hc => ?_⟩⟩
  · have hc := of_decide_eq_true hc
    obtain ⟨g1, g2⟩ := hi
    have hil : i.toNat < l.length := by omega
    have hle := totL_le l i.toNat
    rw [mk_wrap (x := i + 1) (by omega), mrkMat_get hil, mrkMat_set hil, mrkMat_len (by omega), show (i + 1).toNat = i.toNat + 1 by omega, totL_take hil, ramp_len]
    refine ⟨⟨g1, hc⟩, ⟨hil⟩, ⟨rfl, h1.2 _ (getD_mem hil []), by omega, by omega⟩, ⟨rfl⟩, ⟨⟨⟨rfl, rfl⟩, ⟨trivial, by omega⟩, ⟨trivial, rfl⟩, trivial⟩, ⟨⟨trivial, trivial, rfl⟩, trivial⟩, trivial⟩, ⟨⟨by omega, by omega⟩, by omega⟩⟩
  · have hc := of_decide_eq_false hc
    obtain ⟨g1, g2⟩ := hi
    have e : i.toNat = l.length := by omega
    refine retG_wm1 ?_ ?_
    · rw [e, List.take_length]
    · unfold mrkMat
      rw [e, List.drop_length, List.append_nil, List.take_length]
theorem vc_laws_heldIntS (q : Int) (n : Nat) (a : List Int) (e : TypeId) (k : Kind) (h : a.length = n ∧ n ≤ 2000000 ∧ 0 ≤ q ∧ q ≤ 1000000000000000) : VC_laws_heldIntS q n a e k (retG 1 (.int .i64 (bif a == ramp q n then q + (n : Nat) else -1)) [⟨.ints .i64 a, e, k⟩]) := by
  obtain ⟨rfl, h1, h2, h3⟩ := h
  unfold VC_laws_heldIntS
  refine ⟨⟨by simp, ⟨⟨ek_refl e k, rfl, rfl⟩, trivial⟩, trivial⟩, ⟨⟨by omega, by omega⟩, by simp [ramp]⟩, fun i ⟨⟨g1, g2⟩, g3⟩ => ⟨fun hc => ?_, fun hc => retG_a1 ?_⟩⟩
  · have hc := of_decide_eq_true hc
    have hil : i.toNat < a.length := by omega
    rw [mk_wrap (x := i + 1) (by omega), mk_wrap (x := q + i + 1) (by omega)]
    refine ⟨⟨g1, hc⟩, ⟨hil⟩, fun hn => retG_a1 ?_, fun hy => ⟨⟨⟨⟨rfl, rfl⟩, ⟨trivial, by omega⟩, ⟨trivial, rfl⟩, trivial⟩, ⟨⟨ek_refl e k, rfl, rfl⟩, trivial⟩, trivial⟩, ⟨⟨⟨by omega, by omega⟩, ?_⟩, by omega⟩⟩⟩
    · have hne : (a == ramp q a.length) = false := by
        refine ne_at (i := i.toNat) (d := 0) ?_
        rw [show (ramp q a.length).getD i.toNat 0 = q + i by
          simp [ramp, List.getD_eq_getElem?_getD, hil]
          omega]
        simpa [bne] using hn
      rw [hne]; rfl
    · simp only [bne_eq_false_iff_eq] at hy
      rw [show (i + 1).toNat = i.toNat + 1 by omega, take_snoc hil 0, ramp_succ, g3, hy, show q + ((i.toNat : Nat) : Int) = q + i by omega]
  · have hc := of_decide_eq_false hc
    have e : i.toNat = a.length := by omega
    rw [e, List.take_length] at g3
    rw [← g3]
    simp
    omega
theorem held_row {a : List Int} {q : Int} (hq : 0 ≤ q) : decide ((bif a == ramp q a.length then q + (a.length : Nat) else (-1 : Int)) < 0) = !(a == ramp q a.length) := by
  cases h : a == ramp q a.length with
  | true => simp only [cond_true, Bool.not_true, decide_eq_false_iff_not]; omega
  | false => rfl
theorem vc_laws_heldIntSS (q : Int) (n : Nat) (l : List (List Int)) (h : l.length = n ∧ smallM l ∧ 0 ≤ q ∧ q ≤ 1000000) : VC_laws_heldIntSS q n l (retG 1 (.int .i64 (bif l == rampM q l then q + (totL l : Nat) else -1)) [⟨.mat .i64 3 l, 33, .mat⟩]) := by
  obtain ⟨rfl, h1, h2, h3⟩ := h
  have hsz := h1.1
  have htot := totL_small h1
  unfold VC_laws_heldIntSS
  refine ⟨by simp [totL], ⟨⟨by omega, by omega⟩, by simp [rampM]⟩, fun i ⟨⟨g1, g2⟩, g3⟩ => ⟨fun hc => ?_, fun hc => retG_m1 ?_⟩⟩
  · have hc := of_decide_eq_true hc
    have hil : i.toNat < l.length := by omega
    have hle := totL_le l i.toNat
    have hrt := rampM_take (k := q) hil
    rw [mk_wrap (x := i + 1) (by omega), show (i + 1).toNat = i.toNat + 1 by omega, totL_take hil, held_row (by omega)]
    refine ⟨⟨g1, hc⟩, ⟨hil⟩, ⟨rfl, h1.2 _ (getD_mem hil []), by omega, by omega⟩, fun hn => retG_m1 ?_, fun hy => ?_⟩
    · simp only [Bool.not_eq_true', beq_eq_false_iff_ne, ne_eq] at hn
      have hne : (l == rampM q l) = false := by
        rw [beq_eq_false_iff_ne]
        intro he
        refine hn ?_
        have h4 : rampM q l = rampM q (l.take (i.toNat + 1)) ++ rampM (q + (totL (l.take (i.toNat + 1)) : Nat)) (l.drop (i.toNat + 1)) := by rw [← rampM_append, List.take_append_drop]
        have hlen : (rampM q (l.take i.toNat)).length = i.toNat := by rw [rampM_len, List.length_take]; omega
        rw [hrt] at h4
        have h5 : l[i.toNat]? = some (ramp (q + (totL (l.take i.toNat) : Nat)) (l.getD i.toNat []).length) := by
          conv => lhs; rw [he, h4]
          rw [List.append_assoc, List.getElem?_append_right (by omega), hlen, Nat.sub_self]
          rfl
        conv => lhs; rw [List.getD_eq_getElem?_getD, h5]
        rfl
      rw [hne]; rfl
    · simp only [Bool.not_eq_false', beq_iff_eq] at hy
      rw [← hy]
      refine ⟨⟨⟨rfl, rfl⟩, ⟨trivial, by simp; omega⟩, ⟨trivial, rfl⟩, trivial⟩, ⟨⟨trivial, trivial, rfl⟩, trivial⟩, trivial⟩ |> fun z => ⟨z, ⟨⟨⟨by omega, by omega⟩, ?_⟩, by omega⟩⟩
      rw [show (i + 1).toNat = i.toNat + 1 by omega, hrt, ← g3, ← hy, ← take_snoc hil]
  · have hc := of_decide_eq_false hc
    have e : i.toNat = l.length := by omega
    rw [e, List.take_length] at g3 ⊢
    rw [← g3]
    simp
theorem rampM_idem : ∀ (k q : Int) (l : List (List Int)), rampM k (rampM q l) = rampM k l
  | _, _, [] => rfl
  | k, q, r :: l => by simp only [rampM, ramp_len, rampM_idem]
theorem totL_ramp : ∀ (q : Int) (l : List (List Int)), totL (rampM q l) = totL l
  | _, [] => rfl
  | q, r :: l => by simp only [rampM, totL, ramp_len, totL_ramp]
theorem smallM_ramp {q : Int} {l : List (List Int)} (h : smallM l) : smallM (rampM q l) := by
  refine ⟨by rw [rampM_len]; exact h.1, ?_⟩
  have key : ∀ (l : List (List Int)) (q : Int), (∀ r ∈ l, r.length ≤ 2000000) → ∀ r ∈ rampM q l, r.length ≤ 2000000 := by
    intro l
    induction l with
    | nil => intro q _ r hr; cases hr
    | cons a l ih =>
      intro q h r hr
      simp only [rampM, List.mem_cons] at hr
      rcases hr with rfl | hr
      · rw [ramp_len]; exact h a (by simp)
      · exact ih _ (fun s hs => h s (by simp [hs])) r hr
  exact key l q h.2
end Go.Vi
