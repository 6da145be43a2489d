/- The conditions of what plains that come in go through; IsPlain's. -/
import Derived.Test.YtpkokghbkamelaaI1Vc
import Derived.Test.YtpkokghbkamelaaI1Spec
namespace Go.Vi
theorem retG_arg {q r : Int} {a : List Int} {e : TypeId} {k : Kind} {rest : List Blk} (h : q = r) : retG 1 (.int .i64 r) [⟨.ints .i64 a, e, k⟩] (.int .i64 q) (⟨.ints .i64 a, e, k⟩ :: rest) := by
 subst h
 unfold retG leSel leSelBy autoSel
 simp [pairsL, pairsV, idPairs, pairsIn, selOf, lookN, selMem, chkB, nodupSel, hasSel, prefSel, leSt, leL, leV, nilToL, V.nilTo, selL, V.sel, Cells.selN, leMem, leCells, memUnder, underL, V.under]
theorem retG_yes {q r : Bool} {v : V} {a : List Int} {e : TypeId} {k : Kind} {rest : List Blk} (hv : v = .lit q \/ v = .bool q) (h : q = r) : retG 1 (.bool r) [⟨.ints .i64 a, e, k⟩] v (⟨.ints .i64 a, e, k⟩ :: rest) := by
 subst h
 rcases hv with rfl | rfl <;>
 ·unfold retG leSel leSelBy autoSel
  simp [pairsL, pairsV, idPairs, pairsIn, selOf, lookN, selMem, chkB, nodupSel, hasSel, prefSel, leSt, leL, leV, nilToL, V.nilTo, selL, V.sel, Cells.selN, leMem, leCells, memUnder, underL, V.under]
theorem vc_laws_szSpotS (left : Int) (n : Nat) (a : List Int) (h : 0 <= left /\ left <= 1000000000 /\ (n : Int) <= 9223372036854775807) : VC_laws_szSpotS left n a (retG 1 (.int .i64 (szS n left)) [⟨.ints .i64 a, 65, .arg 3⟩]) := by
 unfold VC_laws_szSpotS
 rw [wrap64_in (x := left - n) (by omega)]
 refine ⟨fun hc => retG_arg ?_, fun hc => retG_arg ?_⟩ <;>
 ·unfold szS
  rw [hc]; rfl
theorem szS_bd {n : Nat} {left : Int} (h : 0 <= left) : szS n left <= left := by
 unfold szS
 cases decide (left - n < 0) <;> simp only [cond_true, cond_false] <;> omega
theorem szP_n {r : List UInt8} {n : Nat} (h : ¬ szP r n 1048576 < 0) : n <= 2000000 := by
 unfold szP szS at h
 by_cases h1 : (1048576 : Int) - r.length < 0
 ·rw [decide_eq_true h1] at h
  simp at h
 ·rw [decide_eq_false h1] at h
  by_cases h2 : (1048576 : Int) - r.length - n < 0
  ·rw [decide_eq_true h2] at h
   simp at h
  ·omega
theorem vc_laws_szPlain (left : Int) (pr : List UInt8) (n : Nat) (px py pd : Int) (a : List Int) (h : 0 <= left /\ left <= 1000000000 /\ (n : Int) <= 9223372036854775807 /\ (pr.length : Int) <= 9223372036854775807) :
  VC_laws_szPlain left pr n px py pd a (retG 1 (.int .i64 (szP pr n left)) [⟨.ints .i64 a, 65, .arg 3⟩]) := by
 unfold VC_laws_szPlain
 rw [wrap64_in (x := left - pr.length) (by omega)]
 refine ⟨fun hc => retG_arg ?_, fun hc => ?_⟩
 ·unfold szP
  rw [hc]; rfl
 ·have hc' := of_decide_eq_false hc
  refine ⟨⟨by omega, by omega, h.2.2.1⟩, fun h2 => retG_arg ?_, fun h2 => retG_arg ?_⟩ <;>
  ·unfold szP
   rw [hc, h2]; rfl
theorem vc_laws_toSpot (ax ay ak : Int) (_ : True) : VC_laws_toSpot ax ay ak (retP (.agg [.int .i64 ax, .int .i64 ay, .int .i64 ak])) := by
 unfold VC_laws_toSpot
 simp [retP, leV, leL, chkB, V.under, underL]
theorem cpy_get {a : List Int} {i : Nat} (h : 3 * i <= a.length) (j : Nat) : (cpy a i)[j]? = if j < 3 * i then a[j]? else if j < a.length then some 0 else none := by
 unfold cpy
 by_cases hj : j < 3 * i
 ·rw [if_pos hj, List.getElem?_append_left (by rw [List.length_take]; omega), List.getElem?_take, if_pos hj]
 ·rw [if_neg hj, List.getElem?_append_right (by rw [List.length_take]; omega), List.length_take, Nat.min_eq_left h, List.getElem?_replicate]
  by_cases hl : j < a.length
  ·rw [if_pos hl, if_pos (by omega)]
  ·rw [if_neg hl, if_neg (by omega)]
theorem cpy_len {a : List Int} {i : Nat} (h : 3 * i <= a.length) : (cpy a i).length = a.length := by
 simp only [cpy, List.length_append, List.length_take, List.length_replicate]
 omega
theorem cpy_step {a : List Int} {i : Nat} (h : 3 * (i + 1) <= a.length) : setInts (cpy a i) (i * 3) [a.getD (i * 3) 0, a.getD (i * 3 + 1) 0, a.getD (i * 3 + 1 + 1) 0] = cpy a (i + 1) := by
 show (((cpy a i).set (i * 3) (a.getD (i * 3) 0)).set (i * 3 + 1) (a.getD (i * 3 + 1) 0)).set (i * 3 + 1 + 1) (a.getD (i * 3 + 1 + 1) 0) = _
 have hl := cpy_len (a := a) (i := i) (by omega)
 have hg : ∀ j, j < a.length -> some (a.getD j 0) = a[j]? := fun j hj => (getD_some hj).symm
 apply List.ext_getElem?
 intro j
 rw [List.getElem?_set, List.getElem?_set, List.getElem?_set, cpy_get (by omega), cpy_get h]
 simp only [List.length_set, hl]
 by_cases h2 : i * 3 + 1 + 1 = j
 ·rw [if_pos h2, if_pos (by omega), if_pos (by omega), hg _ (by omega), h2]
 ·rw [if_neg h2]
  by_cases h1 : i * 3 + 1 = j
  ·rw [if_pos h1, if_pos (by omega), if_pos (by omega), hg _ (by omega), h1]
  ·rw [if_neg h1]
   by_cases h0 : i * 3 = j
   ·rw [if_pos h0, if_pos (by omega), if_pos (by omega), hg _ (by omega), h0]
   ·rw [if_neg h0]
    by_cases hj : j < 3 * i
    ·rw [if_pos hj, if_pos (by omega)]
    ·rw [if_neg hj, if_neg (show ¬ j < 3 * (i + 1) by omega)]
theorem cpy_all {a : List Int} {n : Nat} (h : a.length = n * 3) : cpy a n = a := by
 unfold cpy
 rw [show a.length - 3 * n = 0 by omega, List.take_of_length_le (by omega)]
 simp
theorem vc_laws_toSpotS (n : Nat) (a : List Int) (h : a.length = n * 3 /\ n <= 2000000) : VC_laws_toSpotS n a (retG 1 (.row 1 n) [⟨.ints .i64 a, 65, .arg 3⟩, ⟨.ints .i64 a, 63, .rows 3⟩]) := by
 obtain ⟨ha, hn⟩ := h
 unfold VC_laws_toSpotS
 refine ⟨⟨by omega, by omega, by omega⟩, ?_, ⟨Int.le_refl _, by omega, hn, trivial⟩, fun i hi => ⟨fun hc => ?_, fun hc => ?_⟩⟩
 ·have e : cpy a 0 = List.replicate (n * 3) 0 := by simp [cpy, ha]
  simp [e]
 ·have hc := of_decide_eq_true hc
  obtain ⟨g1, g2, _, _⟩ := hi
  have hs := cpy_step (a := a) (i := i.toNat) (by omega)
  rw [wrap64_in (x := i + 1) (by omega), show (i + 1).toNat = i.toNat + 1 by omega, hs]
  refine ⟨⟨g1, hc⟩, ⟨by omega⟩, ⟨trivial⟩, ⟨g1, hc⟩, ⟨by rw [cpy_len (by omega)]; simp only [List.length_cons, List.length_nil]; omega⟩, by simp, ⟨⟨by omega, by omega, hn, trivial⟩, by omega⟩⟩
 ·have hc := of_decide_eq_false hc
  obtain ⟨g1, g2, _, _⟩ := hi
  rw [show i.toNat = n by omega, cpy_all ha]
  unfold retG leSel leSelBy autoSel
  simp [pairsL, pairsV, idPairs, pairsIn, selOf, lookN, selMem, chkB, nodupSel, hasSel, prefSel, leSt, leL, leV, nilToL, V.nilTo, isNilS, findSel, selL, V.sel, Cells.selN, leMem, leCells, memUnder, underL, V.under]
  exact trivial
theorem vc_laws_toPlain (pr : List UInt8) (n : Nat) (px py pd : Int) (a : List Int) (h : a.length = n * 3 /\ n <= 2000000) : VC_laws_toPlain pr n px py pd a
  (retG 1 (.agg [.str pr, .row 1 n, .int .i64 px, .int .i64 py, .int .i64 pd]) [⟨.ints .i64 a, 65, .arg 3⟩, ⟨.ints .i64 a, 63, .rows 3⟩]) := by
 unfold VC_laws_toPlain
 refine ⟨⟨h⟩, ?_⟩
 unfold retG leSel leSelBy autoSel
 simp [pairsL, pairsV, idPairs, pairsIn, selOf, lookN, selMem, chkB, nodupSel, hasSel, prefSel, leSt, leL, leV, nilToL, V.nilTo, isNilS, findSel, selL, V.sel, Cells.selN, leMem, leCells, memUnder, underL, V.under]
 exact trivial
/-! ### what is a plain -/
theorem vc_spec_enFar (n : Int) (_ : True) : VC_spec_enFar n (retP (.bool (inB n (-1000) 1000))) := by
 unfold VC_spec_enFar
 first | exact ⟨⟨trivial⟩, (retP_bool _ _).2 rfl⟩ | simp [retP_bool]
theorem vc_spec_enLess (ax ay ak bx by_ bk : Int) (_ : True) : VC_spec_enLess ax ay ak bx by_ bk (retP (.bool (lessS ax ay bx by_))) := by
 unfold VC_spec_enLess lessS
 cases h1 : decide (ay < by_) <;> cases h2 : (ay == by_) <;> simp [retP_bool, retP_lit]
theorem vc_cmp_Compare_int (a b : Int) (_ : True) : VC_cmp_Compare_int a b (retP (.int .i64 (cmp3 a b))) := by
 unfold VC_cmp_Compare_int cmp3
 refine ⟨fun h => by simp at h, fun _ => ⟨fun h => by simp at h, fun _ => ⟨fun h => ?_, fun h => ⟨fun h2 => ?_, fun h2 => ?_⟩⟩⟩⟩
 ·rw [retP_int, h]; rfl
 ·rw [retP_int, h, h2]; rfl
 ·rw [retP_int, h, h2]; rfl
theorem orF_zero : ∀ {a : List Int} {i : Nat}, i < a.length -> a.getD i 0 = 0 -> orF (a.drop i) = orF (a.drop (i + 1)) := by
 intro a i h h0
 rw [List.drop_eq_getElem_cons h]
 have : a[i] = 0 := by rw [<- h0, List.getD_eq_getElem?_getD, List.getElem?_eq_getElem h]; rfl
 simp [orF, this]
theorem vc_cmp_Or_int (n : Nat) (a : List Int) (h : n = a.length /\ n <= 100) : VC_cmp_Or_int n a (retG 1 (.int .i64 (orF a)) [⟨.ints .i64 a, 3, .row⟩]) := by
 obtain ⟨rfl, h1⟩ := h
 unfold VC_cmp_Or_int
 refine ⟨by simp, ⟨Int.le_refl _, by omega, by omega, by simp⟩, fun i hi => ⟨fun hc => ?_, fun hc => ?_⟩⟩
 ·have hc := of_decide_eq_true hc
  obtain ⟨g1, g2, g3, g4⟩ := hi
  have hl : i.toNat < a.length := by omega
  rw [wrap64_in (x := i + 1) (by omega)]
  refine ⟨⟨g1, hc⟩, ⟨hl⟩, fun hn => retG_arg ?_, fun hn => ⟨by simp, ⟨⟨by omega, by omega, by omega, ?_⟩, by omega⟩⟩⟩
  ·rw [g4, List.drop_eq_getElem_cons hl]
   have e : a[i.toNat] = a.getD i.toNat 0 := by rw [List.getD_eq_getElem?_getD, List.getElem?_eq_getElem hl]; rfl
   have hne : (a.getD i.toNat 0 == 0) = false := by simpa using hn
   rw [e]
   simp only [orF, hne, cond_false]
  ·show orF a = orF (a.drop (i + 1).toNat)
   rw [g4, show (i + 1).toNat = i.toNat + 1 by omega]
   exact orF_zero hl (by simpa using hn)
 ·have hc := of_decide_eq_false hc
  obtain ⟨g1, g2, g3, g4⟩ := hi
  refine retG_arg ?_
  rw [g4, List.drop_of_length_le (by omega)]
  rfl
theorem vc_impl_compareSpots (ax ay ak bx by_ bk : Int) (_ : True) : VC_impl_compareSpots ax ay ak bx by_ bk (retP (.int .i64 (cmpS ax ay bx by_))) := by
 unfold VC_impl_compareSpots
 have e : orF [cmp3 ay by_, cmp3 ax bx] = cmpS ax ay bx by_ := by
  unfold cmpS
  cases h : cmp3 ay by_ == 0
  ·simp [orF, h]
  ·have : ∀ z : Int, orF [z] = z := fun z => by
    simp only [orF]
    by_cases hz : z = 0
    ·subst hz; rfl
    ·rw [show (z == 0) = false by simpa using hz]; rfl
   show (bif cmp3 ay by_ == 0 then orF [cmp3 ax bx] else cmp3 ay by_) = _
   rw [h, this]
 rw [e]
 simp [retP_int]
theorem cmpS_less {ax ay bx by_ : Int} : decide (cmpS ax ay bx by_ ≥ 0) = !lessS ax ay bx by_ := by
 have h3 : ∀ p q : Int, cmp3 p q = -1 /\ p < q \/ cmp3 p q = 1 /\ p > q \/ cmp3 p q = 0 /\ p = q := by
  intro p q
  unfold cmp3
  by_cases h1 : p < q
  ·rw [decide_eq_true h1]; exact .inl ⟨rfl, h1⟩
  ·rw [decide_eq_false h1]
   by_cases h2 : p > q
   ·rw [decide_eq_true h2]; exact .inr (.inl ⟨rfl, h2⟩)
   ·rw [decide_eq_false h2]; exact .inr (.inr ⟨rfl, by omega⟩)
 unfold cmpS lessS
 rcases h3 ay by_ with ⟨e, h⟩ | ⟨e, h⟩ | ⟨e, h⟩
 ·rw [e, decide_eq_true h]; rfl
 ·rw [e, decide_eq_false (show ¬ ay < by_ by omega), show (ay == by_) = false by simp; omega]; rfl
 ·subst h
  rw [e, decide_eq_false (show ¬ ay < ay by omega), show (ay == ay) = true by simp]
  show decide (cmp3 ax bx ≥ 0) = !(decide (ax < bx))
  rcases h3 ax bx with ⟨e, h⟩ | ⟨e, h⟩ | ⟨e, h⟩
  ·rw [e, decide_eq_true h]; rfl
  ·rw [e, decide_eq_false (show ¬ ax < bx by omega)]; rfl
  ·rw [e, decide_eq_false (show ¬ ax < bx by omega)]; rfl
theorem allS_no {k : Int} {a : List Int} {i : Nat} (h : oneS k a i = false) : ∀ {n : Nat}, i < n -> allS k a n = false
 | 0, hn => by omega
 | n + 1, hn => by
  simp only [allS]
  by_cases hi : i < n
  ·rw [allS_no h hi, Bool.false_and]
  ·rw [show n = i by omega, h, Bool.and_false]
theorem allS_step {k : Int} {a : List Int} {i : Int} (h0 : 0 <= i) (ha : allS k a i.toNat = true) (h : oneS k a i.toNat = true) : allS k a (i + 1).toNat = true := by
 rw [show (i + 1).toNat = i.toNat + 1 by omega]
 simp only [allS, ha, h, Bool.and_self]
theorem good_no {r : List UInt8} {n : Nat} {a : List Int} {x y d : Int} (h : ruleB r = false \/ ¬ n <= 300 \/ inB x (-1000) 1000 = false \/ inB y (-1000) 1000 = false \/ inB d 0 3 = false \/ allS r.length a n = false) : false = goodP r n a x y d := by
 unfold goodP farB
 rcases h with h | h | h | h | h | h
 ·simp [h]
 ·simp [h]
 ·simp [h]
 ·simp [h]
 ·simp [h]
 ·simp [h]
theorem good_yes {r : List UInt8} {n : Nat} {a : List Int} {x y d : Int} (h1 : ruleB r = true) (h2 : n <= 300) (h3 : inB x (-1000) 1000 = true) (h4 : inB y (-1000) 1000 = true) (h5 : inB d 0 3 = true) (h6 : allS r.length a n = true) : true = goodP r n a x y d := by
 unfold goodP farB
 simp [h1, h2, h3, h4, h5, h6]
theorem one_yes {k : Int} {a : List Int} {i : Nat} (h1 : inB (a.getD (i * 3) 0) (-1000) 1000 = true) (h2 : inB (a.getD (i * 3 + 1) 0) (-1000) 1000 = true) (h3 : inB (a.getD (i * 3 + 1 + 1) 0) 1 (k - 1) = true) (h4 : i = 0 \/ lessS (spX a (i - 1)) (spY a (i - 1)) (spX a i) (spY a i) = true) : oneS k a i = true := by
 unfold oneS farB
 unfold spX spY at h4
 unfold spX spY spK
 rw [h1, h2, h3]
 rcases h4 with h4 | h4
 ·simp [h4]
 ·rw [h4]; simp
theorem one_no {k : Int} {a : List Int} {i : Nat} (h : inB (a.getD (i * 3) 0) (-1000) 1000 = false \/ inB (a.getD (i * 3 + 1) 0) (-1000) 1000 = false \/ inB (a.getD (i * 3 + 1 + 1) 0) 1 (k - 1) = false \/ (i ≠ 0 /\ lessS (spX a (i - 1)) (spY a (i - 1)) (spX a i) (spY a i) = false)) : oneS k a i = false := by
 unfold oneS farB
 unfold spX spY at h
 unfold spX spY spK
 rcases h with h | h | h | ⟨h0, h⟩
 ·rw [h, Bool.false_and, Bool.false_and, Bool.false_and]
 ·rw [h, Bool.and_false, Bool.false_and, Bool.false_and]
 ·rw [h, Bool.and_false, Bool.false_and]
 ·rw [h, show (i == 0) = false by simpa using h0]; simp
theorem vc_spec_enGood (pr : List UInt8) (n : Nat) (px py pd : Int) (a : List Int) (h : a.length = n * 3 /\ n <= 2000000) : VC_spec_enGood pr n px py pd a (retG 1 (.bool (goodP pr n a px py pd)) [⟨.ints .i64 a, 63, .rows 3⟩]) := by
 obtain ⟨ha, hn⟩ := h
 unfold VC_spec_enGood
 refine ⟨⟨trivial⟩, fun h1 => retG_yes (.inl rfl) (good_no (.inl (by simpa using h1))), fun h1 => ⟨fun h2 => retG_yes (.inl rfl) (good_no (.inr (.inl (by have := of_decide_eq_true h2; omega)))), fun h2 => ⟨⟨trivial⟩, fun h3 => retG_yes (.inl rfl) (good_no (.inr (.inr (.inl (by simpa using h3))))), fun h3 => ⟨⟨trivial⟩, fun h4 => retG_yes (.inl rfl) (good_no (.inr (.inr (.inr (.inl (by simpa using h4)))))), fun h4 => ⟨⟨trivial⟩, fun h5 => retG_yes (.inl rfl) (good_no (.inr (.inr (.inr (.inr (.inl (by simpa using h5))))))), fun h5 => ?_⟩⟩⟩⟩⟩
 have h2 := of_decide_eq_false h2
 have h300 : n <= 300 := by omega
 simp only [Bool.not_eq_false'] at h1 h3 h4 h5
 have hr := rule_len h1
 refine ⟨by simp, ⟨h300, hr.1, hr.2, Int.le_refl _, by omega, hn, rfl⟩, fun i hi => ⟨fun hc => ?_, fun hc => ?_⟩⟩
 ·have hc := of_decide_eq_true hc
  obtain ⟨_, _, _, g1, g2, _, g4⟩ := hi
  have hil : i.toNat < n := by omega
  have no : ∀ {q : Bool}, oneS pr.length a i.toNat = q -> q = false -> false = goodP pr n a px py pd := fun e hq => good_no (.inr (.inr (.inr (.inr (.inr (allS_no (e.trans hq) hil))))))
  rw [wrap64_in (x := (pr.length : Int) - 1) (by omega), wrap64_in (x := i + 1) (by omega)]
  refine ⟨⟨g1, hc⟩, ⟨by omega⟩, trivial, ⟨trivial⟩, fun k1 => retG_yes (.inl rfl) (no (one_no (.inl (by simpa using k1))) rfl), fun k1 => ⟨⟨trivial⟩, fun k2 => retG_yes (.inl rfl) (no (one_no (.inr (.inl (by simpa using k2)))) rfl), fun k2 => ⟨⟨trivial⟩, fun k3 => retG_yes (.inl rfl) (no (one_no (.inr (.inr (.inl (by simpa using k3))))) rfl), fun k3 => ⟨fun k4 => ?_, fun k4 => ?_⟩⟩⟩⟩
  ·have k4 := of_decide_eq_true k4
   simp only [Bool.not_eq_false'] at k1 k2 k3
   rw [wrap64_in (x := i - 1) (by omega), show (i - 1).toNat = i.toNat - 1 by omega]
   refine ⟨⟨by omega, by omega⟩, ⟨by omega⟩, ⟨trivial⟩, fun k5 => retG_yes (.inl rfl) (no (one_no (.inr (.inr (.inr ⟨by omega, by simpa [spX, spY] using k5⟩)))) rfl), fun k5 => ⟨by simp, ⟨⟨h300, hr.1, hr.2, by omega, by omega, hn, allS_step g1 g4 (one_yes k1 k2 k3 (.inr (by simpa [spX, spY] using k5)))⟩, by omega⟩⟩⟩
  ·have k4 := of_decide_eq_false k4
   simp only [Bool.not_eq_false'] at k1 k2 k3
   exact ⟨by simp, ⟨⟨h300, hr.1, hr.2, by omega, by omega, hn, allS_step g1 g4 (one_yes k1 k2 k3 (.inl (by omega)))⟩, by omega⟩⟩
 ·have hc := of_decide_eq_false hc
  obtain ⟨_, _, _, g1, g2, _, g4⟩ := hi
  rw [show i.toNat = n by omega] at g4
  exact retG_yes (.inl rfl) (good_yes h1 h300 h3 h4 h5 g4)
theorem vc_impl_IsPlain (pr : List UInt8) (n : Nat) (px py pd : Int) (a : List Int) (h : a.length = n * 3 /\ n <= 2000000) : VC_impl_IsPlain pr n px py pd a (retG 1 (.bool (goodP pr n a px py pd)) [⟨.ints .i64 a, 63, .rows 3⟩]) := by
 obtain ⟨ha, hn⟩ := h
 unfold VC_impl_IsPlain
 refine ⟨⟨trivial⟩, fun h1 => retG_yes (.inl rfl) (good_no (.inl (by simpa using h1))), fun h1 => ⟨⟨trivial⟩, fun h3 => ⟨⟨trivial⟩, fun h4 => retG_yes (.inl rfl) (good_no (.inr (.inr (.inr (.inl (by simpa using h4)))))), fun h4 => ⟨⟨trivial⟩, fun h5 => retG_yes (.inl rfl) (good_no (.inr (.inr (.inr (.inr (.inl (by simpa using h5))))))), fun h5 => ⟨fun h2 => retG_yes (.inl rfl) (good_no (.inr (.inl (by have := of_decide_eq_true h2; omega)))), fun h2 => ?_⟩⟩⟩, fun h3 => retG_yes (.inl rfl) (good_no (.inr (.inr (.inl h3))))⟩⟩
 have h2 := of_decide_eq_false h2
 have h300 : n <= 300 := by omega
 simp only [Bool.not_eq_false'] at h1 h4 h5
 have hr := rule_len h1
 refine ⟨by simp, ⟨h300, hr.1, hr.2, Int.le_refl _, by omega, hn, rfl⟩, fun i hi => ⟨fun hc => ?_, fun hc => ?_⟩⟩
 ·have hc := of_decide_eq_true hc
  obtain ⟨_, _, _, g1, g2, _, g4⟩ := hi
  have hil : i.toNat < n := by omega
  have no : ∀ {q : Bool}, oneS pr.length a i.toNat = q -> q = false -> false = goodP pr n a px py pd := fun e hq => good_no (.inr (.inr (.inr (.inr (.inr (allS_no (e.trans hq) hil))))))
  rw [wrap64_in (x := (pr.length : Int) - 1) (by omega), wrap64_in (x := i + 1) (by omega)]
  refine ⟨⟨g1, hc⟩, ⟨by omega⟩, ⟨trivial⟩, fun k1 => ⟨⟨trivial⟩, fun k2 => retG_yes (.inl rfl) (no (one_no (.inr (.inl (by simpa using k2)))) rfl), fun k2 => ⟨⟨trivial⟩, fun k3 => retG_yes (.inl rfl) (no (one_no (.inr (.inr (.inl (by simpa using k3))))) rfl), fun k3 => ⟨trivial, fun k4 => ?_, fun k4 => ?_⟩⟩⟩, fun k1 => retG_yes (.inl rfl) (no (one_no (.inl k1)) rfl)⟩
  ·have k4 := of_decide_eq_true k4
   simp only [Bool.not_eq_false'] at k2 k3
   rw [wrap64_in (x := i - 1) (by omega), show (i - 1).toNat = i.toNat - 1 by omega, cmpS_less]
   refine ⟨⟨by omega, by omega⟩, ⟨by omega⟩, ⟨trivial⟩, fun k5 => retG_yes (.inl rfl) (no (one_no (.inr (.inr (.inr ⟨by omega, by simpa [spX, spY] using k5⟩)))) rfl), fun k5 => ⟨by simp, ⟨⟨h300, hr.1, hr.2, by omega, by omega, hn, allS_step g1 g4 (one_yes k1 k2 k3 (.inr (by simpa [spX, spY] using k5)))⟩, by omega⟩⟩⟩
  ·have k4 := of_decide_eq_false k4
   simp only [Bool.not_eq_false'] at k2 k3
   exact ⟨by simp, ⟨⟨h300, hr.1, hr.2, by omega, by omega, hn, allS_step g1 g4 (one_yes k1 k2 k3 (.inl (by omega)))⟩, by omega⟩⟩
 ·have hc := of_decide_eq_false hc
  obtain ⟨_, _, _, g1, g2, _, g4⟩ := hi
  rw [show i.toNat = n by omega] at g4
  exact retG_yes (.inl rfl) (good_yes h1 h300 h3 h4 h5 g4)
end Go.Vi
