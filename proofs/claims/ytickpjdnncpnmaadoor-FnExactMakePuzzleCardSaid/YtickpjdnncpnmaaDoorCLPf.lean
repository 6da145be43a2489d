/- Rows of spots: the conditions hold. -/
import Derived.Test.YtickpjdnncpnmaaDoorCLVc
import Derived.Test.YtickpjdnncpnmaaDoorCLSpec
namespace Go.Vi
theorem vc_laws_eqClue (ax ay ak bx by_ bk : Int) (_ : True) : VC_laws_eqClue ax ay ak bx by_ bk (retP (.bool (ax == bx && ay == by_ && ak == bk))) := by
 unfold VC_laws_eqClue
 simp only [retP_lit]
 refine ⟨fun h => ?_, fun h => ⟨fun h2 => ?_, fun h2 => ⟨fun h3 => ?_, fun h3 => ?_⟩⟩⟩
 all_goals simp_all
theorem sp3_at {i : Int} : i.toNat * 3 + 0 = sp3 i /\ i.toNat * 3 = sp3 i /\ i.toNat * 3 + 1 = sp3 i + 1 /\ i.toNat * 3 + 2 = sp3 i + 2 := by unfold sp3; omega
theorem sp3_next {i : Int} (h : 0 <= i) : sp3 (i + 1) = sp3 i + 1 + 1 + 1 := by unfold sp3; omega
theorem sp3_lt {i : Int} {n : Nat} (h : 0 <= i /\ i < n) : sp3 i + 2 < 3 * n := by unfold sp3; omega
theorem take_succ_int {l : List Int} {i : Nat} (h : i < l.length) : l.take (i + 1) = l.take i ++ [l.getD i 0] := by
 rw [List.take_succ_eq_append_getElem h]
 simp [List.getD_eq_getElem?_getD, List.getElem?_eq_getElem h]
theorem retG_sp2 {q r : Bool} {a b : List Int} {e : TypeId} (h : q = r) : retG 2 (.bool r) [⟨.ints .i64 a, e, .rows 3⟩, ⟨.ints .i64 b, e, .rows 3⟩] (.lit q) [⟨.ints .i64 a, e, .rows 3⟩, ⟨.ints .i64 b, e, .rows 3⟩] := by
 subst h
 unfold retG leSel leSelBy autoSel
 simp [pairsL, pairsV, idPairs, pairsIn, selOf, lookN, selMem, chkB, nodupSel, hasSel, prefSel, leSt, leL, leV, nilToL, V.nilTo, selL, V.sel, Cells.selN, leMem, leCells, memUnder, underL, V.under]
theorem retG_sp1 {q r : Int} {a b : List Int} {e : TypeId} (h : q = r) (hb : b = a) : retG 1 (.int .i64 r) [⟨.ints .i64 a, e, .rows 3⟩] (.int .i64 q) [⟨.ints .i64 b, e, .rows 3⟩] := by
 subst h; subst hb
 unfold retG leSel leSelBy autoSel
 simp [pairsL, pairsV, idPairs, pairsIn, selOf, lookN, selMem, chkB, nodupSel, hasSel, prefSel, leSt, leL, leV, nilToL, V.nilTo, selL, V.sel, Cells.selN, leMem, leCells, memUnder, underL, V.under]
theorem ne_of_getD {a b : List Int} {i : Nat} (h : a.getD i 0 ≠ b.getD i 0) : (a == b) = false := by
 rw [beq_eq_false_iff_ne]
 rintro rfl
 exact h rfl
theorem vc_laws_eqClueS (n m : Nat) (a b : List Int) (h : a.length = 3 * n /\ b.length = 3 * m /\ n <= 2000000 /\ m <= 2000000) : VC_laws_eqClueS n m a b (retG 2 (.bool (a == b)) [⟨.ints .i64 a, 83, .rows 3⟩, ⟨.ints .i64 b, 83, .rows 3⟩]) := by
 obtain ⟨ha, hb, h1, h2⟩ := h
 unfold VC_laws_eqClueS
 refine ⟨fun hne => ?_, fun heq => ⟨by simp, ⟨by omega, by omega, rfl⟩, fun i hi => ⟨fun hc => ?_, fun hc => ?_⟩⟩⟩
 ·refine retG_sp2 ?_
  symm
  rw [beq_eq_false_iff_ne]
  rintro rfl
  simp only [bne_iff_ne, ne_eq] at hne
  omega
 ·have hc := of_decide_eq_true hc
  simp only [bne_eq_false_iff_eq] at heq
  obtain ⟨g1, g2, g3⟩ := hi
  have hl := sp3_lt ⟨g1, hc⟩
  obtain ⟨_, e0, e1, _⟩ := @sp3_at i
  rw [wrap64_in (x := i + 1) (by omega), e0]
  refine ⟨trivial, ⟨g1, hc⟩, ⟨by omega⟩, ⟨by omega, by omega⟩, ⟨by omega⟩, ⟨trivial⟩, fun hn => retG_sp2 ?_, fun he => ⟨by simp, ⟨⟨by omega, by omega, ?_⟩, by omega⟩⟩⟩
  ·simp only [Bool.not_eq_true', Bool.and_eq_false_iff, beq_eq_false_iff_ne] at hn
   rcases hn with (hn | hn) | hn
   ·rw [ne_of_getD hn]
   ·rw [ne_of_getD hn]
   ·rw [ne_of_getD hn]
  ·simp only [Bool.not_eq_false', Bool.and_eq_true, beq_iff_eq] at he
   obtain ⟨⟨x1, x2⟩, x3⟩ := he
   rw [sp3_next g1, take_succ_int (show sp3 i + 1 + 1 < a.length by omega), take_succ_int (show sp3 i + 1 < a.length by omega), take_succ_int (show sp3 i < a.length by omega),
    take_succ_int (show sp3 i + 1 + 1 < b.length by omega), take_succ_int (show sp3 i + 1 < b.length by omega), take_succ_int (show sp3 i < b.length by omega), g3, x1, x2, x3]
 ·have hc := of_decide_eq_false hc
  simp only [bne_eq_false_iff_eq] at heq
  obtain ⟨g1, g2, g3⟩ := hi
  refine retG_sp2 ?_
  rw [List.take_of_length_le (by unfold sp3; omega), List.take_of_length_le (by unfold sp3; omega)] at g3
  simp [g3]
theorem vc_laws_eqPuzzle (ar : List UInt8) (aw ah : Int) (cr : List UInt8) (cw ch : Int) (n m : Nat) (a b : List Int) (h : a.length = 3 * n /\ b.length = 3 * m /\ n <= 2000000 /\ m <= 2000000) : VC_laws_eqPuzzle ar aw ah cr cw ch n m a b
  (retG 2 (.bool (ar == cr && a == b && aw == cw && ah == ch)) [⟨.ints .i64 a, 83, .rows 3⟩, ⟨.ints .i64 b, 83, .rows 3⟩]) := by
 unfold VC_laws_eqPuzzle
 have key : ∀ q : Bool, q = (ar == cr && a == b && aw == cw && ah == ch) -> ∀ b2 b3 : Blk, retG 2 (.bool (ar == cr && a == b && aw == cw && ah == ch)) [⟨.ints .i64 a, 83, .rows 3⟩, ⟨.ints .i64 b, 83, .rows 3⟩] (.lit q) [⟨.ints .i64 a, 83, .rows 3⟩, ⟨.ints .i64 b, 83, .rows 3⟩, b2, b3] := by
  intro q hq b2 b3
  subst hq
  unfold retG leSel leSelBy autoSel
  simp [pairsL, pairsV, idPairs, pairsIn, selOf, lookN, selMem, chkB, nodupSel, hasSel, prefSel, leSt, leL, leV, nilToL, V.nilTo, selL, V.sel, Cells.selN, leMem, leCells, memUnder, underL, V.under]
 refine ⟨fun c1 => key _ ?_ _ _, fun c1 => ⟨fun c3 => key _ ?_ _ _, fun c3 => ⟨fun c4 => key _ ?_ _ _, fun c4 => ⟨⟨h⟩, fun c2 => key _ ?_ _ _, fun c2 => key _ ?_ _ _⟩⟩⟩⟩
 all_goals simp_all
theorem ramp_len (k : Int) (n : Nat) : (ramp k n).length = n := by simp [ramp]
theorem ramp_succ (k : Int) (n : Nat) : ramp k (n + 1) = ramp k n ++ [k + (n : Int)] := by simp [ramp, List.range_succ]
theorem mksRow_len {a : List Int} {k : Int} {m : Nat} (h : m <= a.length) : (mksRow a k m).length = a.length := by
 simp only [mksRow, List.length_append, ramp_len, List.length_drop]
 omega
theorem mksRow_set {a : List Int} {k v : Int} {m : Nat} (h : m < a.length) (hv : v = k + (m : Int)) : (mksRow a k m).set m v = mksRow a k (m + 1) := by
 subst hv
 unfold mksRow
 rw [List.set_append_right _ _ (by rw [ramp_len]; exact Nat.le_refl _), ramp_len, Nat.sub_self, List.drop_eq_getElem_cons h, List.set_cons_zero, ramp_succ, List.append_assoc]
 rfl
theorem vc_laws_markClueS (k : Int) (n : Nat) (a : List Int) (h : a.length = 3 * n /\ n <= 2000000 /\ 0 <= k /\ k <= 1000) : VC_laws_markClueS k n a (retG 1 (.int .i64 (k + (3 * n : Nat))) [⟨.ints .i64 (ramp k (3 * n)), 83, .rows 3⟩]) := by
 obtain ⟨ha, h1, h2, h3⟩ := h
 unfold VC_laws_markClueS
 refine ⟨by simp [mksRow, ramp, sp3], ⟨by omega, by omega⟩, fun i hi => ⟨fun hc => ?_, fun hc => ?_⟩⟩
 ·have hc := of_decide_eq_true hc
  obtain ⟨g1, g2⟩ := hi
  have hl := sp3_lt ⟨g1, hc⟩
  obtain ⟨e0, _, e1, e2⟩ := @sp3_at i
  have hs : (sp3 i : Int) = 3 * i := by unfold sp3; omega
  rw [e0, e1, e2, wrap64_in (x := i + 1) (by omega), wrap64_in (x := k + 3 * i + 1) (by omega), wrap64_in (x := k + 3 * i + 1 + 1) (by omega), wrap64_in (x := k + 3 * i + 1 + 1 + 1) (by omega), mksRow_set (by omega) (by omega), mksRow_set (by omega) (by omega), mksRow_set (m := sp3 i + 1 + 1) (by omega) (by omega), sp3_next g1,
   mksRow_len (by omega), mksRow_len (by omega), mksRow_len (by omega)]
  refine ⟨⟨g1, hc⟩, ⟨by omega⟩, ⟨g1, hc⟩, ⟨by omega⟩, ⟨g1, hc⟩, ⟨by omega⟩, ?_, ⟨⟨by omega, by omega⟩, by omega⟩⟩
  refine ⟨⟨⟨rfl, rfl⟩, ⟨trivial, by omega⟩, ⟨trivial, rfl⟩, trivial⟩, ⟨⟨trivial, rfl, rfl⟩, trivial⟩, trivial⟩
 ·have hc := of_decide_eq_false hc
  obtain ⟨g1, g2⟩ := hi
  have e : i = (n : Int) := by omega
  subst e
  have e2 : sp3 (n : Int) = 3 * n := by unfold sp3; omega
  refine retG_sp1 (by omega) ?_
  rw [e2]
  unfold mksRow
  rw [<- ha, List.drop_length, List.append_nil]
theorem ramp_getD {k : Int} {n m : Nat} (h : m < n) : (ramp k n).getD m 0 = k + (m : Int) := by
 simp [ramp, List.getD_eq_getElem?_getD, h]
theorem vc_laws_heldClueS (k : Int) (n : Nat) (a : List Int) (h : a.length = 3 * n /\ n <= 2000000 /\ 0 <= k /\ k <= 1000) : VC_laws_heldClueS k n a (retG 1 (.int .i64 (bif a == ramp k (3 * n) then k + (3 * n : Nat) else -1)) [⟨.ints .i64 a, 83, .rows 3⟩]) := by
 obtain ⟨ha, h1, h2, h3⟩ := h
 unfold VC_laws_heldClueS
 refine ⟨by simp, ⟨by omega, by omega, by simp [ramp, sp3]⟩, fun i hi => ⟨fun hc => ?_, fun hc => ?_⟩⟩
 ·have hc := of_decide_eq_true hc
  obtain ⟨g1, g2, g3⟩ := hi
  have hl := sp3_lt ⟨g1, hc⟩
  obtain ⟨e0, _, e1, e2⟩ := @sp3_at i
  have hs : (sp3 i : Int) = 3 * i := by unfold sp3; omega
  have bad : ∀ (m : Nat) (v : Int), m < 3 * n -> v = k + (m : Int) -> (a.getD m 0 != v) = true -> (a == ramp k (3 * n)) = false := by
   intro m v hm hv hn
   simp only [bne_iff_ne, ne_eq] at hn
   exact ne_of_getD (i := m) (by rw [ramp_getD hm, <- hv]; exact hn)
  rw [e0, e1, e2, wrap64_in (x := i + 1) (by omega), wrap64_in (x := k + 3 * i + 1) (by omega), wrap64_in (x := k + 3 * i + 1 + 1) (by omega), wrap64_in (x := k + 3 * i + 1 + 1 + 1) (by omega)]
  refine ⟨⟨g1, hc⟩, ⟨by omega⟩, fun hn => retG_sp1 ?_ rfl, fun x1 => ⟨⟨g1, hc⟩, ⟨by omega⟩, fun hn => retG_sp1 ?_ rfl, fun x2 => ⟨⟨g1, hc⟩, ⟨by omega⟩, fun hn => retG_sp1 ?_ rfl, fun x3 => ⟨?_, ⟨⟨by omega, by omega, ?_⟩, by omega⟩⟩⟩⟩⟩
  ·rw [bad _ _ (by omega) (by omega) hn]; rfl
  ·rw [bad _ _ (by omega) (by omega) hn]; rfl
  ·rw [bad _ _ (by omega) (by omega) hn]; rfl
  ·refine ⟨⟨⟨rfl, rfl⟩, ⟨trivial, by omega⟩, ⟨trivial, rfl⟩, trivial⟩, ⟨⟨trivial, rfl, rfl⟩, trivial⟩, trivial⟩
  ·simp only [bne_eq_false_iff_eq] at x1 x2 x3
   rw [sp3_next g1, take_succ_int (show sp3 i + 1 + 1 < a.length by omega), take_succ_int (show sp3 i + 1 < a.length by omega), take_succ_int (show sp3 i < a.length by omega), ramp_succ, ramp_succ, ramp_succ, g3, x1, x2, x3]
   rw [show k + ((sp3 i : Nat) : Int) = k + 3 * i by omega, show k + ((sp3 i + 1 : Nat) : Int) = k + 3 * i + 1 by omega, show k + ((sp3 i + 1 + 1 : Nat) : Int) = k + 3 * i + 1 + 1 by omega]
 ·have hc := of_decide_eq_false hc
  obtain ⟨g1, g2, g3⟩ := hi
  have e : i = (n : Int) := by omega
  subst e
  have e2 : sp3 (n : Int) = 3 * n := by unfold sp3; omega
  rw [e2, <- ha, List.take_length] at g3
  refine retG_sp1 ?_ rfl
  rw [<- ha, <- g3]
  simp
  omega
theorem retG_arg {q r : Int} {a : List Int} {e : TypeId} {k : Kind} {rest : List Blk} (h : q = r) : retG 1 (.int .i64 r) [⟨.ints .i64 a, e, k⟩] (.int .i64 q) (⟨.ints .i64 a, e, k⟩ :: rest) := by
 subst h
 unfold retG leSel leSelBy autoSel
 simp [pairsL, pairsV, idPairs, pairsIn, selOf, lookN, selMem, chkB, nodupSel, hasSel, prefSel, leSt, leL, leV, nilToL, V.nilTo, selL, V.sel, Cells.selN, leMem, leCells, memUnder, underL, V.under]
theorem vc_laws_szClueS (left : Int) (n : Nat) (a : List Int) (h : 0 <= left /\ left <= 1000000000 /\ (n : Int) <= 9223372036854775807) : VC_laws_szClueS left n a (retG 1 (.int .i64 (szS n left)) [⟨.ints .i64 a, 99, .arg 3⟩]) := by
 unfold VC_laws_szClueS
 rw [wrap64_in (x := left - n) (by omega)]
 refine ⟨fun hc => retG_arg ?_, fun hc => retG_arg ?_⟩ <;>
 ·unfold szS
  rw [hc]; rfl
theorem vc_laws_szPuzzle (left : Int) (pr : List UInt8) (pw ph : Int) (n : Nat) (a : List Int) (h : 0 <= left /\ left <= 1000000000 /\ (n : Int) <= 9223372036854775807 /\ (pr.length : Int) <= 9223372036854775807) :
  VC_laws_szPuzzle left pr pw ph n a (retG 1 (.int .i64 (szP pr n left)) [⟨.ints .i64 a, 99, .arg 3⟩]) := by
 unfold VC_laws_szPuzzle
 rw [wrap64_in (x := left - pr.length) (by omega)]
 refine ⟨fun hc => retG_arg ?_, fun hc => ?_⟩
 ·unfold szP
  rw [hc]; rfl
 ·have hc' := of_decide_eq_false hc
  refine ⟨⟨by omega, by omega, h.2.2.1⟩, fun h2 => retG_arg ?_, fun h2 => retG_arg ?_⟩ <;>
  ·unfold szP
   rw [hc, h2]; rfl
theorem vc_laws_toClue (ax ay ak : Int) (_ : True) : VC_laws_toClue ax ay ak (retP (.agg [.int .i64 ax, .int .i64 ay, .int .i64 ak])) := by
 unfold VC_laws_toClue
 simp [retP, leV, leL, chkB, V.under, underL]
theorem cpy_get {a : List Int} {i : Nat} (h : 3 * i <= a.length) (j : Nat) : (cpy a i)[j]? = if j < 3 * i then a[j]? else if j < a.length then some 0 else none := by
 unfold cpy
 by_cases hj : j < 3 * i
 ·rw [if_pos hj, List.getElem?_append_left (by rw [List.length_take]; omega), List.getElem?_take, if_pos hj]
 ·rw [if_neg hj, List.getElem?_append_right (by rw [List.length_take]; omega), List.length_take, Nat.min_eq_left h, List.getElem?_replicate]
  by_cases hl : j < a.length
  ·rw [if_pos hl, if_pos (by omega)]
  ·rw [if_neg hl, if_neg (by omega)]
theorem cpy_len {a : List Int} {i : Nat} (h : 3 * i <= a.length) : (cpy a i).length = a.length := by
 simp only [cpy, List.length_append, List.length_take, List.length_replicate]
 omega
theorem cpy_step {a : List Int} {i : Nat} (h : 3 * (i + 1) <= a.length) : setInts (cpy a i) (i * 3) [a.getD (i * 3) 0, a.getD (i * 3 + 1) 0, a.getD (i * 3 + 1 + 1) 0] = cpy a (i + 1) := by
 show (((cpy a i).set (i * 3) (a.getD (i * 3) 0)).set (i * 3 + 1) (a.getD (i * 3 + 1) 0)).set (i * 3 + 1 + 1) (a.getD (i * 3 + 1 + 1) 0) = _
 have hl := cpy_len (a := a) (i := i) (by omega)
 have hg : ∀ j, j < a.length -> some (a.getD j 0) = a[j]? := fun j hj => (getD_some hj).symm
 apply List.ext_getElem?
 intro j
 rw [List.getElem?_set, List.getElem?_set, List.getElem?_set, cpy_get (by omega), cpy_get h]
 simp only [List.length_set, hl]
 by_cases h2 : i * 3 + 1 + 1 = j
 ·rw [if_pos h2, if_pos (by omega), if_pos (by omega), hg _ (by omega), h2]
 ·rw [if_neg h2]
  by_cases h1 : i * 3 + 1 = j
  ·rw [if_pos h1, if_pos (by omega), if_pos (by omega), hg _ (by omega), h1]
  ·rw [if_neg h1]
   by_cases h0 : i * 3 = j
   ·rw [if_pos h0, if_pos (by omega), if_pos (by omega), hg _ (by omega), h0]
   ·rw [if_neg h0]
    by_cases hj : j < 3 * i
    ·rw [if_pos hj, if_pos (by omega)]
    ·rw [if_neg hj, if_neg (show ¬ j < 3 * (i + 1) by omega)]
theorem cpy_all {a : List Int} {n : Nat} (h : a.length = n * 3) : cpy a n = a := by
 unfold cpy
 rw [show a.length - 3 * n = 0 by omega, List.take_of_length_le (by omega)]
 simp
theorem vc_laws_toClueS (n : Nat) (a : List Int) (h : a.length = n * 3 /\ n <= 2000000) : VC_laws_toClueS n a (retG 1 (.row 1 n) [⟨.ints .i64 a, 99, .arg 3⟩, ⟨.ints .i64 a, 83, .rows 3⟩]) := by
 obtain ⟨ha, hn⟩ := h
 unfold VC_laws_toClueS
 refine ⟨⟨by omega, by omega, by omega⟩, ?_, ⟨Int.le_refl _, by omega, hn, trivial⟩, fun i hi => ⟨fun hc => ?_, fun hc => ?_⟩⟩
 ·have e : cpy a 0 = List.replicate (n * 3) 0 := by simp [cpy, ha]
  simp [e]
 ·have hc := of_decide_eq_true hc
  obtain ⟨g1, g2, _, _⟩ := hi
  have hs := cpy_step (a := a) (i := i.toNat) (by omega)
  rw [wrap64_in (x := i + 1) (by omega), show (i + 1).toNat = i.toNat + 1 by omega, hs]
  refine ⟨⟨g1, hc⟩, ⟨by omega⟩, ⟨trivial⟩, ⟨g1, hc⟩, ⟨by rw [cpy_len (by omega)]; simp only [List.length_cons, List.length_nil]; omega⟩, by simp, ⟨⟨by omega, by omega, hn, trivial⟩, by omega⟩⟩
 ·have hc := of_decide_eq_false hc
  obtain ⟨g1, g2, _, _⟩ := hi
  rw [show i.toNat = n by omega, cpy_all ha]
  unfold retG leSel leSelBy autoSel
  simp [pairsL, pairsV, idPairs, pairsIn, selOf, lookN, selMem, chkB, nodupSel, hasSel, prefSel, leSt, leL, leV, nilToL, V.nilTo, isNilS, findSel, selL, V.sel, Cells.selN, leMem, leCells, memUnder, underL, V.under]
  exact trivial
theorem vc_laws_toPuzzle (pr : List UInt8) (pw ph : Int) (n : Nat) (a : List Int) (h : a.length = n * 3 /\ n <= 2000000) : VC_laws_toPuzzle pr pw ph n a
  (retG 1 (.agg [.str pr, .int .i64 pw, .int .i64 ph, .row 1 n]) [⟨.ints .i64 a, 99, .arg 3⟩, ⟨.ints .i64 a, 83, .rows 3⟩]) := by
 unfold VC_laws_toPuzzle
 refine ⟨⟨h⟩, ?_⟩
 unfold retG leSel leSelBy autoSel
 simp [pairsL, pairsV, idPairs, pairsIn, selOf, lookN, selMem, chkB, nodupSel, hasSel, prefSel, leSt, leL, leV, nilToL, V.nilTo, isNilS, findSel, selL, V.sel, Cells.selN, leMem, leCells, memUnder, underL, V.under]
 exact trivial
theorem retG_c1 {v u : V} {a : List Int} {e : TypeId} {rest : List Blk} (h : v = u) (hu : u.under 1 = true) (hn : ∃ k n, u = .int k n) : retG 1 u [⟨.ints .i64 a, e, .rows 3⟩] v (⟨.ints .i64 a, e, .rows 3⟩ :: rest) := by
 subst h
 obtain ⟨k, n, rfl⟩ := hn
 unfold retG leSel leSelBy autoSel
 simp [pairsL, pairsV, idPairs, pairsIn, selOf, lookN, selMem, chkB, nodupSel, hasSel, prefSel, leSt, leL, leV, nilToL, V.nilTo, selL, V.sel, Cells.selN, leMem, leCells, memUnder, underL, V.under]
theorem vc_laws_markPuzzle (k : Int) (pr : List UInt8) (pw ph : Int) (n : Nat) (a : List Int) (h : a.length = 3 * n /\ n <= 2000000 /\ 0 <= k /\ k <= 1000) : VC_laws_markPuzzle k pr pw ph n a (retG 1 (.int .i64 (k + (3 * n : Nat))) [⟨.ints .i64 (ramp k (3 * n)), 83, .rows 3⟩]) := by
 unfold VC_laws_markPuzzle
 exact ⟨⟨h⟩, retG_c1 rfl rfl ⟨_, _, rfl⟩⟩
theorem vc_laws_heldPuzzle (k : Int) (pr : List UInt8) (pw ph : Int) (n : Nat) (a : List Int) (h : a.length = 3 * n /\ n <= 2000000 /\ 0 <= k /\ k <= 1000) : VC_laws_heldPuzzle k pr pw ph n a (retG 1 (.int .i64 (bif a == ramp k (3 * n) then k + (3 * n : Nat) else -1)) [⟨.ints .i64 a, 83, .rows 3⟩]) := by
 unfold VC_laws_heldPuzzle
 refine ⟨⟨h⟩, fun hc => retG_c1 ?_ rfl ⟨_, _, rfl⟩, fun hc => retG_c1 rfl rfl ⟨_, _, rfl⟩⟩
 have hc := of_decide_eq_true hc
 cases hq : (a == ramp k (3 * n))
 ·rfl
 ·rw [hq] at hc
  simp only [cond_true] at hc
  omega
end Go.Vi
