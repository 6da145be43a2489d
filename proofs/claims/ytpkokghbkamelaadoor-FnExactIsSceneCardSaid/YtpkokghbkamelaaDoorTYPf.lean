/- Tables told: the conditions hold. -/
import Derived.Test.YtpkokghbkamelaaDoorTYVc
import Derived.Test.YtpkokghbkamelaaDoorTYSpec
namespace Go.Vi
set_option linter.unusedSimpArgs false
theorem num1_len (n : Int) : (num1 n).length = 1 := rfl
theorem ten {n : Int} (h : 0 <= n /\ n <= 9) : n = 0 \/ n = 1 \/ n = 2 \/ n = 3 \/ n = 4 \/ n = 5 \/ n = 6 \/ n = 7 \/ n = 8 \/ n = 9 := by omega
theorem vc_spec_l1Num (n : Int) (h : 0 <= n /\ n <= 9) : VC_spec_l1Num n (retP (.str (num1 n))) := by
 have e : IntKind.wrap IntKind.u8 (IntKind.wrap IntKind.i64 (48 + n)) = 48 + n := by
  rcases ten h with rfl | rfl | rfl | rfl | rfl | rfl | rfl | rfl | rfl | rfl <;> decide
 unfold VC_spec_l1Num
 rw [e]
 refine ⟨fun _ => ⟨⟨fun m hm => ?_⟩, ⟨by simp⟩, ?_⟩, fun hn => ?_⟩
 ·rw [List.mem_singleton] at hm
  omega
 ·rw [retP_str]; rfl
 ·rw [decide_eq_false_iff_not] at hn
  omega
theorem vc_strconv_FormatInt (n b : Int) (h : b = 10 /\ 0 <= n /\ n <= 9) : VC_strconv_FormatInt n b (retP (.str (num1 n))) := by
 obtain ⟨rfl, h⟩ := h
 unfold VC_strconv_FormatInt
 refine ⟨fun _ => ⟨fun _ => ⟨fun _ => ⟨fun _ => ⟨?_, ?_⟩, fun hf => ?_⟩, fun hf => ?_⟩, fun hf => ?_⟩, fun hf => ?_⟩
 ·rw [wrap64_in (by omega)]
  refine ⟨h.1, by omega, ?_⟩
  simp only [List.length_cons, List.length_nil]
  omega
 ·rw [retP_str, wrap64_in (by omega)]
  rcases ten h with rfl | rfl | rfl | rfl | rfl | rfl | rfl | rfl | rfl | rfl <;> rfl
 ·rw [decide_eq_false_iff_not] at hf; omega
 ·rw [decide_eq_false_iff_not] at hf; omega
 ·rw [decide_eq_false_iff_not] at hf; omega
 ·exact absurd hf (by decide)
theorem vc_strconv_Itoa (n : Int) (h : 0 <= n /\ n <= 9) : VC_strconv_Itoa n (retP (.str (num1 n))) := ⟨⟨rfl, h⟩, by rw [retP_str]⟩
theorem tx_facts {s i : Int} {l : List Row3} (h : tabB s i l = true) : (1 <= s /\ s <= 4) /\ (1 <= i /\ i <= 4) /\ ∀ r ∈ l, (0 <= r.a /\ r.a <= 9) /\ r.t.length = 1 /\ (0 <= r.b /\ r.b <= 9) := by
 unfold tabB at h
 simp only [Bool.and_eq_true, inB_eq, decide_eq_true_eq, List.all_eq_true] at h
 obtain ⟨⟨⟨h1, h2⟩, h3⟩, h4⟩ := h
 refine ⟨h1, h2, fun r hr => ?_⟩
 have := h4 r hr
 unfold rowG tsB at this
 simp only [Bool.and_eq_true, inB_eq, decide_eq_true_eq] at this
 obtain ⟨⟨q1, q2⟩, q3⟩ := this
 exact ⟨by omega, q2.1, by omega⟩
theorem tx_len : ∀ {l : List Row3}, (∀ r ∈ l, r.t.length = 1) -> (l.flatMap tx1).length = 3 * l.length
 | [], _ => rfl
 | r :: l, h => by
  have ih := tx_len (l := l) (fun q hq => h q (by simp [hq]))
  have hr := h r (by simp)
  rw [List.flatMap_cons, List.length_append, ih]
  unfold tx1
  simp only [List.length_append, num1_len, hr, List.length_cons]
  omega
theorem txK_len {s i : Int} {l : List Row3} (h : tabB s i l = true) (j : Nat) : (txK s i l j).length <= 4 + 3 * l.length := by
 have h1 := tx_len (l := l.take j) (fun r hr => ((tx_facts h).2.2 r (List.mem_of_mem_take hr)).2.1)
 unfold txK txH
 simp only [List.length_append, num1_len, List.length_cons, List.length_nil, h1, List.length_take]
 omega
theorem txK_snoc {s i : Int} {l : List Row3} {j : Nat} (h : j < l.length) : txK s i l (j + 1) = txK s i l j ++ tx1 (l.getD j default) := by
 unfold txK
 rw [take_snoc h default, List.flatMap_append, List.append_assoc]
 simp
theorem retG_tx1 {u v : List UInt8} {c : List Sc} {sh : List Sh} {e : TypeId} {J : List Blk} (h : v = u) : retG 1 (.str u) [⟨.recs sh c, e, .rows 3⟩] (.str v) (⟨.recs sh c, e, .rows 3⟩ :: J) := by
 subst h
 unfold retG leSel leSelBy autoSel
 simp [pairsL, pairsV, idPairs, pairsIn, selOf, lookN, selMem, chkB, nodupSel, hasSel, prefSel, leSt, leL, leV, nilToL, V.nilTo, isNilS, isGhost, findSel, selL, V.sel, Cells.selN, Cells.none0, leMem, leCells, memUnder, underL, V.under, Kind.isRow]
theorem retG_tx2 {u v : List UInt8} {p q : Bool} {c : List Sc} {sh : List Sh} {e : TypeId} {J : List Blk} (h : v = u) (hq : q = p) : retG 1 (.tup [.str u, .bool p]) [⟨.recs sh c, e, .rows 3⟩] (.tup [.str v, .lit q]) (⟨.recs sh c, e, .rows 3⟩ :: J) := by
 subst h; subst hq
 unfold retG leSel leSelBy autoSel
 simp [pairsL, pairsV, idPairs, pairsIn, selOf, lookN, selMem, chkB, nodupSel, hasSel, prefSel, leSt, leL, leV, nilToL, V.nilTo, isNilS, isGhost, findSel, selL, V.sel, Cells.selN, Cells.none0, leMem, leCells, memUnder, underL, V.under, Kind.isRow]
theorem retG_tx3 {u v : List UInt8} {p q : Bool} {c : List Sc} {sh : List Sh} {e y : TypeId} {z : Kind} {g0 g1 g2 g3 : List UInt8} {J : List Blk} (h : v = u) (hq : q = p) : retG 2 (.tup [.str u, .bool p]) [⟨.recs sh c, e, .rows 3⟩, ⟨.vals [.str g0, .str g1, .str g2, .str g3], y, z⟩] (.tup [.str v, .lit q]) (⟨.recs sh c, e, .rows 3⟩ :: ⟨.vals [.str g0, .str g1, .str g2, .str g3], y, z⟩ :: J) := by
 subst h; subst hq
 unfold retG leSel leSelBy autoSel
 simp [pairsL, pairsV, idPairs, pairsIn, selOf, lookN, selMem, chkB, nodupSel, hasSel, prefSel, leSt, leL, leV, nilToL, V.nilTo, isNilS, isGhost, findSel, selL, V.sel, Cells.selN, Cells.none0, leMem, leCells, memUnder, underL, V.under, Kind.isRow]
theorem tx_step {s i : Int} {n m : Nat} {c : List Sc} (hc : is3 c n) (hn : n <= 2000000) (hg : tabB s i (rows3 c) = true) (hm : m < n) :
  m * 3 + 3 <= c.length /\ (0 <= (c.getD (m * 3) ⟨0, []⟩).i /\ (c.getD (m * 3) ⟨0, []⟩).i <= 9) /\ (0 <= (c.getD (m * 3 + 1 + 1) ⟨0, []⟩).i /\ (c.getD (m * 3 + 1 + 1) ⟨0, []⟩).i <= 9) /\ (c.getD (m * 3 + 1) ⟨0, []⟩).s.length = 1 /\ (txK s i (rows3 c) m).length <= 6000004 /\ num1 (c.getD (m * 3) ⟨0, []⟩).i ++ (c.getD (m * 3 + 1) ⟨0, []⟩).s ++ num1 (c.getD (m * 3 + 1 + 1) ⟨0, []⟩).i = tx1 ((rows3 c).getD m default) := by
 have hl : c.length = n * 3 := by rw [hc.1, flat3_length, hc.2]
 have hm' : m < (rows3 c).length := by rw [hc.2]; exact hm
 obtain ⟨f0, f1, f2⟩ := flat3_get (rows3 c) m ⟨0, []⟩ hm'
 rw [<- hc.1] at f0 f1 f2
 obtain ⟨a1, a2, a3⟩ := (tx_facts hg).2.2 _ (getD_mem hm' default)
 have hk := txK_len hg m
 rw [hc.2] at hk
 have e2 : m * 3 + 1 + 1 = m * 3 + 2 := rfl
 refine ⟨by omega, ?_, ?_, ?_, by omega, ?_⟩
 ·rw [f0]; exact a1
 ·rw [e2, f2]; exact a3
 ·rw [f1]; exact a2
 ·rw [e2, f0, f1, f2]; rfl
theorem vc_spec_taText (s i : Int) (n : Nat) (c : List Sc) (h : is3 c n /\ n <= 2000000 /\ tabB s i (rows3 c) = true) : VC_spec_taText s i n c (retG 1 (.str (txT s i (rows3 c))) [⟨.recs [.int .i64, .str, .int .i64] c, 96, .rows 3⟩]) := by
 obtain ⟨hc, hn, hg⟩ := h
 obtain ⟨b1, b2, _⟩ := tx_facts hg
 unfold VC_spec_taText
 simp only [at_iff, true_and, and_true, and_self, num1_len, List.length_append, List.length_cons, List.length_nil]
 refine ⟨⟨by omega, by omega, by omega, by omega, by omega, rfl⟩, by simp [txK], ⟨hg, by omega, by omega⟩, fun j hj => ⟨fun hd => ?_, fun hd => ?_⟩⟩
 ·have hd := of_decide_eq_true hd
  obtain ⟨_, q1, q2⟩ := hj
  obtain ⟨m, rfl⟩ : ∃ m : Nat, j = m := ⟨j.toNat, by omega⟩
  obtain ⟨t1, t2, t3, t4, t5, t6⟩ := tx_step hc hn hg (m := m) (by omega)
  have e4 : IntKind.wrap .i64 ((m : Int) + 1) = (m : Int) + 1 := wrap64_in (by omega)
  have hm' : m < (rows3 c).length := by rw [hc.2]; omega
  rw [e4]
  simp only [Int.toNat_natCast, show ((m : Int) + 1).toNat = m + 1 by omega, t4, t6, txK_snoc hm', true_and, and_true, and_self]
  exact ⟨⟨by omega, by omega⟩, ⟨t1, by omega⟩, ⟨t2, by omega, t3, by omega, by omega⟩, ⟨hg, by omega, by omega⟩, by omega⟩
 ·have hd := of_decide_eq_false hd
  obtain ⟨_, q1, q2⟩ := hj
  refine retG_tx1 ?_
  unfold txT
  rw [hc.2, show j.toNat = n by omega]
theorem vc_spec_TableText (s i : Int) (n : Nat) (c : List Sc) (h : is3 c n /\ n <= 2000000) : VC_spec_TableText s i n c (retG 1 (.tup [.str (bif tabB s i (rows3 c) then txT s i (rows3 c) else []), .bool (tabB s i (rows3 c))]) [⟨.recs [.int .i64, .str, .int .i64] c, 96, .rows 3⟩]) := by
 unfold VC_spec_TableText
 refine ⟨⟨h⟩, fun hg => ?_, fun hg => ?_⟩
 ·rw [Bool.not_eq_true'] at hg
  rw [hg]
  exact retG_tx2 rfl rfl
 ·rw [Bool.not_eq_false'] at hg
  refine ⟨⟨h.1, h.2, hg⟩, ?_⟩
  rw [hg]
  exact retG_tx2 rfl rfl
theorem vc_impl_TableText (s i : Int) (n : Nat) (c : List Sc) (g0 g1 g2 g3 : List UInt8) (h : is3 c n /\ n <= 2000000 /\ isSg g0 g1 g2 g3) : VC_impl_TableText s i n c g0 g1 g2 g3 (retG 2 (.tup [.str (bif tabB s i (rows3 c) then txT s i (rows3 c) else []), .bool (tabB s i (rows3 c))]) [⟨.recs [.int .i64, .str, .int .i64] c, 96, .rows 3⟩, ⟨.vals [.str g0, .str g1, .str g2, .str g3], 9, .gl 0⟩]) := by
 have hc := h.1
 have hn := h.2.1
 unfold VC_impl_TableText
 simp only [at_iff, true_and, and_true, and_self, num1_len, List.length_append, List.length_cons, List.length_nil]
 refine ⟨h, fun hg => ?_, fun hg => ?_⟩
 ·rw [Bool.not_eq_true'] at hg
  rw [hg]
  exact retG_tx3 rfl rfl
 rw [Bool.not_eq_false'] at hg
 obtain ⟨b1, b2, _⟩ := tx_facts hg
 refine ⟨⟨by omega, by omega, by omega, by omega, by omega, rfl⟩, by simp [txK], ⟨hg, by omega, by omega⟩, fun j hj => ⟨fun hd => ?_, fun hd => ?_⟩⟩
 ·have hd := of_decide_eq_true hd
  obtain ⟨_, q1, q2⟩ := hj
  obtain ⟨m, rfl⟩ : ∃ m : Nat, j = m := ⟨j.toNat, by omega⟩
  obtain ⟨t1, t2, t3, t4, t5, t6⟩ := tx_step hc hn hg (m := m) (by omega)
  have e4 : IntKind.wrap .i64 ((m : Int) + 1) = (m : Int) + 1 := wrap64_in (by omega)
  have hm' : m < (rows3 c).length := by rw [hc.2]; omega
  rw [e4]
  simp only [Int.toNat_natCast, show ((m : Int) + 1).toNat = m + 1 by omega, t4, t6, txK_snoc hm', true_and, and_true, and_self]
  exact ⟨⟨by omega, by omega⟩, ⟨t1, by omega⟩, ⟨t2, by omega, t3, by omega, by omega⟩, ⟨hg, by omega, by omega⟩, by omega⟩
 ·have hd := of_decide_eq_false hd
  obtain ⟨_, q1, q2⟩ := hj
  rw [hg]
  refine retG_tx3 ?_ rfl
  unfold txT
  rw [hc.2, show j.toNat = n by omega]
  rfl
end Go.Vi
