/- Tables, which can be undone: the conditions hold. -/
import Derived.Test.YtpkokghbkamelaaDoorTDVc
import Derived.Test.YtpkokghbkamelaaDoorTDSpec
namespace Go.Vi
set_option linter.unusedVariables false
set_option linter.unusedSimpArgs false
theorem retG_c2l {a a' b b' : Bool} {c : List Sc} {sh : List Sh} {e : TypeId} {k : Kind} {f : TypeId} {g : Kind} {g0 g1 g2 g3 : List UInt8} {J : List Blk} (h1 : a' = a) (h2 : b' = b) : retG 2 (.tup [.bool a, .bool b]) [⟨.recs sh c, e, k⟩, ⟨.vals [.str g0, .str g1, .str g2, .str g3], f, g⟩] (.tup [.lit a', .lit b']) (⟨.recs sh c, e, k⟩ :: ⟨.vals [.str g0, .str g1, .str g2, .str g3], f, g⟩ :: J) := by
 subst h1; subst h2
 unfold retG leSel leSelBy autoSel
 simp [pairsL, pairsV, idPairs, pairsIn, selOf, lookN, selMem, chkB, nodupSel, hasSel, prefSel, leSt, leL, leV, nilToL, V.nilTo, selL, V.sel, Cells.selN, leMem, leCells, memUnder, underL, V.under]
/-! ### rows that make the same -/
theorem undo_zero (l : List Row3) : undoInv l 0 := ⟨by omega, by omega, rfl⟩
theorem undo_step {l : List Row3} {k : Int} (h : undoInv l k) (hk : k < l.length) (hd : dupAt l k.toNat = false) : undoInv l (k + 1) := by
 obtain ⟨h0, h1, h2⟩ := h
 refine ⟨by omega, by omega, ?_⟩
 rw [show (k + 1).toNat = k.toNat + 1 by omega, List.range_succ, List.all_append, h2]
 simp [hd]
theorem undo_done {l : List Row3} {k : Int} (h : undoInv l k) (hk : ¬ k < l.length) : undoB l = true := by
 obtain ⟨h0, h1, h2⟩ := h
 rw [show k.toNat = l.length by omega] at h2
 exact h2
theorem undo_bad {l : List Row3} {k : Int} (h : undoInv l k) (hk : k < l.length) (hd : dupAt l k.toNat = true) : undoB l = false := by
 obtain ⟨h0, h1, h2⟩ := h
 exact List.all_eq_false.2 ⟨k.toNat, List.mem_range.2 (by omega), by rw [hd]; decide⟩
theorem take_getD {l : List Row3} {k j : Nat} (h : j < k) : (l.take k).getD j default = l.getD j default := by
 rw [List.getD_eq_getElem?_getD, List.getD_eq_getElem?_getD, List.getElem?_take, if_pos h]
theorem dup_zero {l : List Row3} {k : Int} (h : 0 <= k) : dupInv l k 0 := ⟨by omega, h, rfl⟩
theorem dup_step {l : List Row3} {k j : Int} (h : dupInv l k j) (hj : j < k) (hk : k < l.length) (hd : sameO (l.getD k.toNat default) (l.getD j.toNat default) = false) : dupInv l k (j + 1) := by
 obtain ⟨h0, h1, h2⟩ := h
 refine ⟨by omega, by omega, ?_⟩
 rw [show (j + 1).toNat = j.toNat + 1 by omega, take_snoc (by rw [List.length_take]; omega) default, List.any_append, h2, take_getD (by omega)]
 simp only [List.any_cons, List.any_nil, hd, Bool.or_false]
theorem dup_done {l : List Row3} {k j : Int} (h : dupInv l k j) (hj : ¬ j < k) : dupAt l k.toNat = false := by
 obtain ⟨h0, h1, h2⟩ := h
 rw [List.take_of_length_le (by rw [List.length_take]; omega)] at h2
 exact h2
theorem dup_yes {l : List Row3} {k j : Int} (h : dupInv l k j) (hj : j < k) (hk : k < l.length) (hd : sameO (l.getD k.toNat default) (l.getD j.toNat default) = true) : dupAt l k.toNat = true := by
 obtain ⟨h0, h1, h2⟩ := h
 refine List.any_eq_true.2 ⟨l.getD j.toNat default, ?_, hd⟩
 rw [<- take_getD (l := l) (k := k.toNat) (by omega)]
 exact getD_mem (by rw [List.length_take]; omega) default
theorem fwF_lt (p q : Int) : ∀ (l : List Row3) (k : Nat) (i : Int), k < l.length -> ((l.getD k default).a == p && (l.getD k default).b == q) = true ->
  decide (fwF l p q i < i + k) = (l.take k).any fun r => r.a == p && r.b == q
 | [], k, i, h, _ => by simp at h
 | r :: l, 0, i, h, hp => by
  have hp : (r.a == p && r.b == q) = true := hp
  simp only [fwF, hp, cond_true, List.take_zero, List.any_nil]
  exact decide_eq_false (by omega)
 | r :: l, k + 1, i, h, hp => by
  have hp : ((l.getD k default).a == p && (l.getD k default).b == q) = true := hp
  have ih := fwF_lt p q l k (i + 1) (by simpa using h) hp
  rw [List.take_succ_cons, List.any_cons]
  cases hr : (r.a == p && r.b == q) with
  | true =>
   simp only [fwF, hr, cond_true, Bool.true_or]
   exact decide_eq_true (by omega)
  | false =>
   simp only [fwF, hr, cond_false, Bool.false_or]
   rw [<- ih, show i + ((k + 1 : Nat) : Int) = i + 1 + (k : Int) by omega]
theorem fw_dup {l : List Row3} {k : Int} (h0 : 0 <= k) (hk : k < l.length) : decide (fwF l (l.getD k.toNat default).a (l.getD k.toNat default).b 0 < k) = dupAt l k.toNat := by
 have h := fwF_lt (l.getD k.toNat default).a (l.getD k.toNat default).b l k.toNat 0 (by omega) (by simp)
 rw [show (0 : Int) + (k.toNat : Int) = k by omega] at h
 rw [h]
 unfold dupAt
 congr 1
 funext x
 unfold sameO
 rw [BEq.comm (a := x.a), BEq.comm (a := x.b)]
theorem fw_step {l : List Row3} {p q k : Int} (h : fwInv l p q k) (hk : k < l.length) (hr : ((l.getD k.toNat default).a == p && (l.getD k.toNat default).b == q) = false) : fwInv l p q (k + 1) := by
 obtain ⟨h0, h1, h2⟩ := h
 refine ⟨by omega, by omega, ?_⟩
 rw [drop_cons (by omega) default, fwF, hr] at h2
 rw [show (k + 1).toNat = k.toNat + 1 by omega]
 exact h2
theorem fw_yes {l : List Row3} {p q k : Int} (h : fwInv l p q k) (hk : k < l.length) (hr : ((l.getD k.toNat default).a == p && (l.getD k.toNat default).b == q) = true) : k = fwF l p q 0 := by
 obtain ⟨h0, h1, h2⟩ := h
 rw [drop_cons (by omega) default, fwF, hr] at h2
 exact h2
theorem fw_done {l : List Row3} {p q k : Int} (h : fwInv l p q k) (hk : ¬ k < l.length) : -1 = fwF l p q 0 := by
 obtain ⟨h0, h1, h2⟩ := h
 rw [List.drop_eq_nil_of_le (by omega)] at h2
 exact h2
theorem vc_impl_outcomeOf (ra : Int) (rt : List UInt8) (rb : Int) (_ : True) : VC_impl_outcomeOf ra rt rb (retP (.agg [.int .i64 ra, .int .i64 rb])) := by
 unfold VC_impl_outcomeOf
 simp [retP, leV, leL, chkB, V.under, underL]
theorem vc_impl_outcome (n : Nat) (c : List Sc) (p q : Int) (h : is3 c n /\ n <= 2000000) : VC_impl_outcome n c p q (retG 1 (.int .i64 (fwF (rows3 c) p q 0)) [⟨.recs [.int .i64, .str, .int .i64] c, 96, .rows 3⟩]) := by
 obtain ⟨⟨hc, hn⟩, h2⟩ := h
 unfold VC_impl_outcome
 generalize rows3 c = l at hc hn ⊢
 subst hc; subst hn
 have hlen := flat3_length l
 refine ⟨by simp, ⟨by omega, by omega, rfl⟩, fun k hk => ⟨fun hd => ?_, fun hd => retG_r1i (fw_done hk (of_decide_eq_false hd))⟩⟩
 have hd := of_decide_eq_true hd
 obtain ⟨g1, g2, _⟩ := id hk
 obtain ⟨e0, e1, e2⟩ := flat3_get l k.toNat ⟨0, []⟩ (by omega)
 rw [e0, e1, e2, wrap64_in (x := k + 1) (by omega)]
 simp only [Bool.and_true]
 exact ⟨⟨g1, hd⟩, ⟨by omega, by omega⟩, trivial, ⟨trivial⟩, fun hr => retG_r1i (fw_yes hk hd hr), fun hr => ⟨by simp, ⟨fw_step hk hd hr, by omega⟩⟩⟩
theorem vc_spec_taUndo (s i : Int) (n : Nat) (c : List Sc) (h : is3 c n /\ n <= 2000000) : VC_spec_taUndo s i n c (retG 1 (.bool (undoB (rows3 c))) [⟨.recs [.int .i64, .str, .int .i64] c, 96, .rows 3⟩]) := by
 obtain ⟨⟨hc, hn⟩, h2⟩ := h
 unfold VC_spec_taUndo
 generalize rows3 c = l at hc hn ⊢
 subst hc; subst hn
 have hlen := flat3_length l
 refine ⟨by simp, ⟨undo_zero l⟩, fun k hk => ⟨fun hd => ?_, fun hd => retG_r1l (undo_done hk (of_decide_eq_false hd)).symm⟩⟩
 have hd := of_decide_eq_true hd
 obtain ⟨g1, g2, _⟩ := id hk
 obtain ⟨e0, e1, e2⟩ := flat3_get l k.toNat ⟨0, []⟩ (by omega)
 rw [e0, e1, e2, wrap64_in (x := k + 1) (by omega)]
 refine ⟨⟨g1, hd⟩, ⟨by omega, by omega⟩, ⟨g1, by omega, by show l.length * 3 <= (flat3 l).length; omega⟩, by simp, ⟨dup_zero g1⟩, fun j hj => ⟨fun hjd => ?_, fun hjd => ⟨by simp, ⟨undo_step hk hd (dup_done hj (by have := of_decide_eq_false hjd; omega)), by omega⟩⟩⟩⟩
 have hjd := of_decide_eq_true hjd
 obtain ⟨j1, j2, _⟩ := id hj
 have hjk : j < k := by omega
 obtain ⟨f0, f1, f2⟩ := flat3_get l j.toNat ⟨0, []⟩ (by omega)
 rw [Nat.zero_add, f0, f1, f2, wrap64_in (x := j + 1) (by omega)]
 simp only
 refine ⟨⟨j1, hjd⟩, ⟨by omega, by omega⟩, fun t1 => ⟨fun t2 => retG_r1l (undo_bad hk hd (dup_yes hj hjk hd ?_)).symm, fun t2 => ⟨by simp, ⟨dup_step hj hjk hd ?_, by omega⟩⟩⟩, fun t1 => ⟨by simp, ⟨dup_step hj hjk hd ?_, by omega⟩⟩⟩
 ·unfold sameO; rw [t1, t2]; rfl
 ·unfold sameO; rw [t1, t2]; rfl
 ·unfold sameO; rw [t1]; rfl
theorem vc_impl_CanUndo (s i : Int) (n : Nat) (c : List Sc) (g0 g1 g2 g3 : List UInt8) (h : is3 c n /\ n <= 2000000 /\ isSg g0 g1 g2 g3) : VC_impl_CanUndo s i n c g0 g1 g2 g3 (retG 2 (.tup [.bool (tabB s i (rows3 c) && undoB (rows3 c)), .bool (tabB s i (rows3 c))]) [⟨.recs [.int .i64, .str, .int .i64] c, 96, .rows 3⟩, ⟨.vals [.str g0, .str g1, .str g2, .str g3], 9, .gl 0⟩]) := by
 obtain ⟨⟨hc, hn⟩, h2, hg⟩ := h
 unfold VC_impl_CanUndo
 rw [show (is3 c n /\ n <= 2000000 /\ isSg g0 g1 g2 g3) = True from eq_true ⟨⟨hc, hn⟩, h2, hg⟩, show (is3 c n /\ n <= 2000000) = True from eq_true ⟨⟨hc, hn⟩, h2⟩]
 generalize rows3 c = l at hc hn ⊢
 subst hc; subst hn
 have hlen := flat3_length l
 refine ⟨⟨trivial⟩, fun h1 => retG_c2l ?_ ?_, fun h1 => ⟨by simp, ⟨undo_zero l⟩, fun k hk => ⟨fun hd => ?_, fun hd => retG_c2l ?_ ?_⟩⟩⟩
 ·simp_all
 ·simp_all
 ·have hd := of_decide_eq_true hd
  obtain ⟨k1, k2, _⟩ := id hk
  obtain ⟨e0, e1, e2⟩ := flat3_get l k.toNat ⟨0, []⟩ (by omega)
  rw [e0, e1, e2, wrap64_in (x := k + 1) (by omega)]
  simp only [fw_dup k1 hd]
  refine ⟨⟨k1, hd⟩, ⟨by omega, by omega⟩, trivial, ⟨trivial⟩, ⟨trivial⟩, fun t1 => retG_c2l ?_ ?_, fun t1 => ⟨by simp, ⟨undo_step hk hd t1, by omega⟩⟩⟩
  ·rw [undo_bad hk hd t1, Bool.and_false]
  ·simpa using h1.symm
 ·rw [undo_done hk (of_decide_eq_false hd)]
  simpa using h1.symm
 ·simpa using h1.symm
end Go.Vi
