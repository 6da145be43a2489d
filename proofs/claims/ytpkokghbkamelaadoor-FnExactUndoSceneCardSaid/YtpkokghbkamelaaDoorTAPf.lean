/- Tables: the conditions hold. -/
import Derived.Test.YtpkokghbkamelaaDoorTAVc
import Derived.Test.YtpkokghbkamelaaDoorTASpec
namespace Go.Vi
set_option linter.unusedVariables false
set_option linter.unusedSimpArgs false
theorem wrap64_in {x : Int} (h : -9223372036854775808 <= x /\ x <= 9223372036854775807) : IntKind.wrap .i64 x = x := IntWalk.i64_in _ (by omega)
theorem inB_eq {n lo hi : Int} : inB n lo hi = true ↔ lo <= n /\ n <= hi := by unfold inB; simp
theorem inB_ne {n lo hi : Int} : inB n lo hi = false ↔ ¬ (lo <= n /\ n <= hi) := by rw [<- inB_eq]; simp
theorem vc_spec_l1In (n lo hi : Int) (_ : True) : VC_spec_l1In n lo hi (retP (.bool (inB n lo hi))) := by
 unfold VC_spec_l1In inB
 simp only [retP_bool, retP_lit]
 refine ⟨fun h => ?_, fun h => ?_⟩
 all_goals (simp_all; try omega)
theorem vc_impl_within (n lo hi : Int) (_ : True) : VC_impl_within n lo hi (retP (.bool (inB n lo hi))) := by
 unfold VC_impl_within inB
 simp only [retP_bool, retP_lit]
 refine ⟨fun h => ?_, fun h => ?_⟩
 all_goals (simp_all; try omega)
theorem all_take_succ {p : UInt8 -> Bool} {l : List UInt8} {i : Nat} (h : i < l.length) : (l.take (i + 1)).all p = ((l.take i).all p && p (l.getD i 0)) := by
 rw [List.take_succ_eq_append_getElem h, List.all_append]
 simp [List.getD_eq_getElem?_getD, List.getElem?_eq_getElem h]
theorem all_getD {p : UInt8 -> Bool} {l : List UInt8} {i : Nat} (h : i < l.length) (hp : p (l.getD i 0) = false) : l.all p = false := by
 rw [List.all_eq_false]
 refine ⟨l[i], List.getElem_mem h, ?_⟩
 rw [List.getD_eq_getElem?_getD, List.getElem?_eq_getElem h] at hp
 simpa using hp
def signI (n : Int) : Bool := n == 76 || n == 82 || n == 78 || n == 85
theorem signI_toNat (c : UInt8) : signI c.toNat = signB c := by
 have h : ∀ n : Nat, n < 256 -> (((c.toNat : Int) == (n : Int)) = (c == UInt8.ofNat n)) := fun n hn => by
  rw [Bool.eq_iff_iff]
  simp only [beq_iff_eq, <- UInt8.toNat_inj, UInt8.toNat_ofNat']
  omega
 have h1 := h 76 (by omega); have h2 := h 82 (by omega); have h3 := h 78 (by omega); have h4 := h 85 (by omega)
 unfold signI signB
 exact congr (congrArg _ (congr (congrArg _ (congr (congrArg _ h1) h2)) h3)) h4
theorem ruleInv_step {s : List UInt8} {i : Int} (h : ruleInv s i) (hi : i < s.length) (hc : signB (s.getD i.toNat 0) = true) :
  ruleInv s (IntKind.wrap .i64 (i + 1)) /\ ((s.length : Int) - IntKind.wrap .i64 (i + 1)).toNat < ((s.length : Int) - i).toNat := by
 obtain ⟨h0, h1, h2, h3, h4⟩ := h
 rw [wrap64_in (by omega)]
 refine ⟨⟨by omega, by omega, h2, h3, ?_⟩, by omega⟩
 rw [show (i + 1).toNat = i.toNat + 1 by omega, all_take_succ (by omega), h4, hc]
 rfl
theorem rule_long {s : List UInt8} (h : ¬ (s.length : Int) <= 6) : ruleB s = false := by
 unfold ruleB; simp only [Bool.and_eq_false_iff, decide_eq_false_iff_not]; omega
theorem rule_short {s : List UInt8} (h : ¬ 1 <= (s.length : Int)) : ruleB s = false := by
 unfold ruleB; simp only [Bool.and_eq_false_iff, decide_eq_false_iff_not]; omega
theorem rule_bad {s : List UInt8} {i : Int} (h : ruleInv s i) (hi : i < s.length) (hc : signB (s.getD i.toNat 0) = false) : ruleB s = false := by
 obtain ⟨h0, h1, h2, h3, h4⟩ := h
 unfold ruleB
 rw [all_getD (by omega) hc, Bool.and_false]
theorem rule_done {s : List UInt8} {i : Int} (h : ruleInv s i) (hi : ¬ i < s.length) : ruleB s = true := by
 obtain ⟨h0, h1, h2, h3, h4⟩ := h
 rw [List.take_of_length_le (by omega)] at h4
 unfold ruleB
 simp [h4, h2, h3]
theorem rule_start {s : List UInt8} (h1 : 1 <= (s.length : Int)) (h2 : (s.length : Int) <= 6) : ruleInv s 0 := ⟨by omega, by omega, by omega, by omega, by simp⟩
theorem vc_spec_woRule (s : List UInt8) (_ : True) : VC_spec_woRule s (retP (.bool (ruleB s))) := by
 unfold VC_spec_woRule
 simp only [at_iff, retP_lit, and_true, true_and, Bool.not_eq_true', Bool.not_eq_false', inB_eq, inB_ne, decide_eq_true_eq, decide_eq_false_iff_not]
 refine ⟨fun h => ?_, fun h => ⟨rule_start h.1 h.2, fun i hi => ⟨fun hlt => ⟨⟨hi.1, hlt⟩, ?_⟩, fun hge => (rule_done hi hge).symm⟩⟩⟩
 ·by_cases h1 : 1 <= (s.length : Int)
  ·exact (rule_long (fun h2 => h ⟨h1, h2⟩)).symm
  ·exact (rule_short h1).symm
 have hs := signI_toNat (s.getD i.toNat 0)
 unfold signI at hs
 have yes := fun h => ruleInv_step hi hlt h
 have no := fun h => (rule_bad hi hlt h).symm
 rw [<- hs] at yes no
 generalize ((s.getD i.toNat 0).toNat : Int) = c at *
 cases h1 : c == 76 <;> cases h2 : c == 82 <;> cases h3 : c == 78 <;> cases h4 : c == 85 <;> simp_all


theorem vc_spec_taSign (s : List UInt8) (_ : True) : VC_spec_taSign s (retP (.bool (tsB s))) := by
 unfold VC_spec_taSign tsB
 simp only [retP_bool, retP_lit]
 refine ⟨fun h => ⟨⟨trivial⟩, ?_⟩, fun h => ?_⟩
 ·have : s.length = 1 := by
   have := of_decide_eq_true h
   omega
  simp [this]
 ·have : ¬ s.length = 1 := fun e => by rw [e] at h; simp at h
  simp [this]
/-! ### ends -/
theorem retG_r1i {q r : Int} {c : List Sc} {sh : List Sh} {e : TypeId} {k : Kind} {J : List Blk} (h : q = r) : retG 1 (.int .i64 r) [⟨.recs sh c, e, k⟩] (.int .i64 q) (⟨.recs sh c, e, k⟩ :: J) := by
 subst h
 unfold retG leSel leSelBy autoSel
 simp [pairsL, pairsV, idPairs, pairsIn, selOf, lookN, selMem, chkB, nodupSel, hasSel, prefSel, leSt, leL, leV, nilToL, V.nilTo, selL, V.sel, Cells.selN, leMem, leCells, memUnder, underL, V.under]
theorem retG_r1b {q r : Bool} {c : List Sc} {sh : List Sh} {e : TypeId} {k : Kind} {J : List Blk} (h : q = r) : retG 1 (.bool r) [⟨.recs sh c, e, k⟩] (.bool q) (⟨.recs sh c, e, k⟩ :: J) := by
 subst h
 unfold retG leSel leSelBy autoSel
 simp [pairsL, pairsV, idPairs, pairsIn, selOf, lookN, selMem, chkB, nodupSel, hasSel, prefSel, leSt, leL, leV, nilToL, V.nilTo, selL, V.sel, Cells.selN, leMem, leCells, memUnder, underL, V.under]
theorem retG_r1l {q r : Bool} {c : List Sc} {sh : List Sh} {e : TypeId} {k : Kind} {J : List Blk} (h : q = r) : retG 1 (.bool r) [⟨.recs sh c, e, k⟩] (.lit q) (⟨.recs sh c, e, k⟩ :: J) := by
 subst h
 unfold retG leSel leSelBy autoSel
 simp [pairsL, pairsV, idPairs, pairsIn, selOf, lookN, selMem, chkB, nodupSel, hasSel, prefSel, leSt, leL, leV, nilToL, V.nilTo, selL, V.sel, Cells.selN, leMem, leCells, memUnder, underL, V.under]
theorem retG_r2l {q r : Bool} {c d : List Sc} {sh sh' : List Sh} {e f : TypeId} {k g : Kind} {J : List Blk} (h : q = r) : retG 2 (.bool r) [⟨.recs sh c, e, k⟩, ⟨.recs sh' d, f, g⟩] (.lit q) (⟨.recs sh c, e, k⟩ :: ⟨.recs sh' d, f, g⟩ :: J) := by
 subst h
 unfold retG leSel leSelBy autoSel
 simp [pairsL, pairsV, idPairs, pairsIn, selOf, lookN, selMem, chkB, nodupSel, hasSel, prefSel, leSt, leL, leV, nilToL, V.nilTo, selL, V.sel, Cells.selN, leMem, leCells, memUnder, underL, V.under]
theorem retG_gl {q r : Bool} {c : List Sc} {sh : List Sh} {e f : TypeId} {k g : Kind} {g0 g1 g2 g3 : List UInt8} {J : List Blk} (h : q = r) : retG 2 (.bool r) [⟨.recs sh c, e, k⟩, ⟨.vals [.str g0, .str g1, .str g2, .str g3], f, g⟩] (.lit q) (⟨.recs sh c, e, k⟩ :: ⟨.vals [.str g0, .str g1, .str g2, .str g3], f, g⟩ :: J) := by
 subst h
 unfold retG leSel leSelBy autoSel
 simp [pairsL, pairsV, idPairs, pairsIn, selOf, lookN, selMem, chkB, nodupSel, hasSel, prefSel, leSt, leL, leV, nilToL, V.nilTo, selL, V.sel, Cells.selN, leMem, leCells, memUnder, underL, V.under]
theorem retG_g1 {q r : Int} {f : TypeId} {g : Kind} {g0 g1 g2 g3 : List UInt8} {J : List Blk} (h : q = r) : retG 1 (.int .i64 r) [⟨.vals [.str g0, .str g1, .str g2, .str g3], f, g⟩] (.int .i64 q) (⟨.vals [.str g0, .str g1, .str g2, .str g3], f, g⟩ :: J) := by
 subst h
 unfold retG leSel leSelBy autoSel
 simp [pairsL, pairsV, idPairs, pairsIn, selOf, lookN, selMem, chkB, nodupSel, hasSel, prefSel, leSt, leL, leV, nilToL, V.nilTo, selL, V.sel, Cells.selN, leMem, leCells, memUnder, underL, V.under]
/-! ### rows laid flat -/
theorem rows3_flat : ∀ l : List Row3, rows3 (flat3 l) = l
 | [] => rfl
 | r :: l => by simp only [flat3, rows3, rows3_flat l]
theorem flat3_get : ∀ (l : List Row3) (i : Nat) (d : Sc), i < l.length ->
  (flat3 l).getD (i * 3) d = ⟨(l.getD i default).a, []⟩ /\ (flat3 l).getD (i * 3 + 1) d = ⟨0, (l.getD i default).t⟩ /\ (flat3 l).getD (i * 3 + 1 + 1) d = ⟨(l.getD i default).b, []⟩
 | [], i, d, h => by simp at h
 | r :: l, 0, d, h => by simp [flat3]
 | r :: l, i + 1, d, h => by
  obtain ⟨h0, h1, h2⟩ := flat3_get l i d (by simpa using h)
  rw [show (i + 1) * 3 = i * 3 + 1 + 1 + 1 by omega]
  simp only [flat3, List.getD_cons_succ]
  exact ⟨h0, h1, h2⟩
theorem flat3_append : ∀ (a b : List Row3), flat3 (a ++ b) = flat3 a ++ flat3 b
 | [], b => rfl
 | r :: a, b => by simp only [List.cons_append, flat3, flat3_append a b]
theorem take_snoc {α : Type} {l : List α} {i : Nat} (h : i < l.length) (d : α) : l.take (i + 1) = l.take i ++ [l.getD i d] := by
 rw [List.take_succ_eq_append_getElem h]
 simp [List.getD_eq_getElem?_getD, List.getElem?_eq_getElem h]
theorem getD_mem {α : Type} {l : List α} {i : Nat} (h : i < l.length) (d : α) : l.getD i d ∈ l := by
 rw [List.getD_eq_getElem?_getD, List.getElem?_eq_getElem h]
 exact List.getElem_mem h
theorem drop_cons {α : Type} {l : List α} {i : Nat} (h : i < l.length) (d : α) : l.drop i = l.getD i d :: l.drop (i + 1) := by
 rw [List.drop_eq_getElem_cons h, List.getD_eq_getElem?_getD, List.getElem?_eq_getElem h]
 rfl
theorem fillR_len {l : List Row3} {i : Nat} (h : i <= l.length) : (fillR l i).length = l.length * 3 := by
 unfold fillR
 rw [List.length_append, flat3_length, List.length_take, List.length_replicate]
 omega
theorem fillR_zero (l : List Row3) : List.replicate (l.length * 3) (⟨0, []⟩ : Sc) = fillR l 0 := by
 unfold fillR
 simp [flat3]
theorem fillR_end {l : List Row3} {i : Nat} (h : ¬ i < l.length) : fillR l i = flat3 l := by
 unfold fillR
 rw [List.take_of_length_le (by omega), show l.length - i = 0 by omega]
 simp
theorem fillR_set {l : List Row3} {i : Nat} (h : i < l.length) : setScs (fillR l i) (i * 3) [⟨(l.getD i default).a, []⟩, ⟨0, (l.getD i default).t⟩, ⟨(l.getD i default).b, []⟩] = fillR l (i + 1) := by
 unfold fillR
 have hl : (flat3 (l.take i)).length = i * 3 := by rw [flat3_length, List.length_take]; omega
 rw [take_snoc h default, flat3_append, show (l.length - i) * 3 = (l.length - (i + 1)) * 3 + 1 + 1 + 1 by omega]
 generalize flat3 (l.take i) = A at hl
 simp only [setScs, List.replicate_succ, flat3]
 rw [List.set_append_right _ _ (by omega), hl, Nat.sub_self, List.set_cons_zero, List.set_append_right _ _ (by omega), hl, show i * 3 + 1 - i * 3 = 1 by omega, List.set_append_right _ _ (by omega), hl, show i * 3 + 1 + 1 - i * 3 = 2 by omega]
 simp
/-! ### signs -/
theorem qtF_nn : ∀ (l : List (List UInt8)) (i : Int) (s : List UInt8), 0 <= i -> (decide (qtF l i s < 0) = !(l.any fun g => g == s))
 | [], _, _, _ => rfl
 | g :: l, i, s, h => by
  unfold qtF
  rw [List.any_cons]
  cases hg : g == s with
  | true => simp; exact h
  | false =>
   simp only [cond_false, Bool.false_or]
   exact qtF_nn l (i + 1) s (by omega)
theorem qtI_ts (s : List UInt8) : decide (qtI s < 0) = !tsB s := by
 unfold qtI
 rw [qtF_nn _ _ _ (by omega)]
 congr 1
 unfold tsB ruleB signs
 match s with
 | [] => rfl
 | [c] =>
  simp only [List.any_cons, List.any_nil, List.length_cons, List.length_nil, List.all_cons, List.all_nil, signB, Bool.or_false, Bool.and_true]
  have e : ∀ d : UInt8, (([d] : List UInt8) == [c]) = (c == d) := fun d => by
   rw [Bool.eq_iff_iff]
   simp only [beq_iff_eq, List.cons.injEq, and_true]
   exact eq_comm
  rw [e, e, e, e]
  cases c == 78 <;> cases c == 82 <;> cases c == 85 <;> cases c == 76 <;> rfl
 | a :: b :: r =>
  have e : ∀ d : UInt8, (([d] : List UInt8) == a :: b :: r) = false := fun d => by simp
  have e2 : decide ((a :: b :: r).length = 1) = false := by simp
  simp only [List.any_cons, List.any_nil, e, e2, Bool.or_false, Bool.false_and]
theorem vc_impl_quartersOfTurn (s g0 g1 g2 g3 : List UInt8) (h : isSg g0 g1 g2 g3) : VC_impl_quartersOfTurn s g0 g1 g2 g3 (retG 1 (.int .i64 (qtI s)) [⟨.vals [.str g0, .str g1, .str g2, .str g3], 9, .gl 0⟩]) := by
 unfold VC_impl_quartersOfTurn
 have hs : [g0, g1, g2, g3] = signs := by obtain ⟨rfl, rfl, rfl, rfl⟩ := h; rfl
 refine ⟨by simp, ⟨by omega, by omega, rfl⟩, fun i hi => ⟨fun hc => ?_, fun hc => retG_g1 ?_⟩⟩
 ·have hc := of_decide_eq_true hc
  obtain ⟨h0, h1, h2⟩ := hi
  have hl : i.toNat < signs.length := by show i.toNat < 4; omega
  rw [drop_cons hl [], qtF] at h2
  rw [hs, wrap64_in (x := i + 1) (by omega)]
  refine ⟨⟨h0, hc⟩, fun he => retG_g1 ?_, fun he => ⟨by simp, ⟨⟨by omega, by omega, ?_⟩, by omega⟩⟩⟩
  ·rw [he] at h2; exact h2
  ·rw [he] at h2
   rw [show (i + 1).toNat = i.toNat + 1 by omega]
   exact h2
 ·have hc := of_decide_eq_false hc
  obtain ⟨h0, h1, h2⟩ := hi
  obtain rfl : i = 4 := by omega
  exact h2
/-! ### sizes -/
theorem vc_laws_szRow (a : Int) (t : List UInt8) (b : Int) (left : Int) (h : (0 <= left /\ left <= 1048576) /\ (t.length : Int) <= 9223372036854775807) : VC_laws_szRow a t b left (retP (.int .i64 (szI t.length left))) := by
 unfold VC_laws_szRow szI
 rw [wrap64_in (by omega)]
 simp only [retP_int]
 refine ⟨fun h => by rw [h]; rfl, fun h => by rw [h]; rfl⟩
theorem szI_bd {n left : Int} (h : ¬ szI n left < 0) (hn : 0 <= n) : szI n left = left - n /\ 0 <= left - n /\ left - n <= left := by
 unfold szI at h ⊢
 by_cases hd : left - n < 0
 ·rw [decide_eq_true hd] at h
  exact absurd (show (-1 : Int) < 0 by omega) h
 ·rw [decide_eq_false hd]
  exact ⟨rfl, by omega, by omega⟩
theorem szTL_m1 : ∀ (l : List Row3) (left : Int), 0 <= left -> szTL l left < 0 -> szTL l left = -1
 | [], left, h, g => by
  have g : left < 0 := g
  omega
 | r :: l, left, h, g => by
  unfold szTL at g ⊢
  by_cases hd : szI r.t.length left < 0
  ·rw [decide_eq_true hd]; rfl
  ·rw [decide_eq_false hd] at g ⊢
   exact szTL_m1 l _ (by omega) g
theorem szT_m1 {l : List Row3} {left : Int} (h : szT l left < 0) : szT l left = -1 := by
 unfold szT at h ⊢
 by_cases hd : left - l.length < 0
 ·rw [decide_eq_true hd]; rfl
 ·rw [decide_eq_false hd] at h ⊢
  exact szTL_m1 l _ (by omega) h
theorem vc_laws_szRowS (left : Int) (n : Nat) (c : List Sc) (h : (0 <= left /\ left <= 1048576) /\ (n : Int) <= 9223372036854775807 /\ is3 c n /\ ∀ r ∈ rows3 c, (r.t.length : Int) <= 9223372036854775807) :
  VC_laws_szRowS left n c (retG 1 (.int .i64 (szT (rows3 c) left)) [⟨.recs [.int .i64, .str, .int .i64] c, 139, .arg 3⟩]) := by
 obtain ⟨⟨h1, h2⟩, h3, ⟨hc, hn⟩, h5⟩ := h
 unfold VC_laws_szRowS
 generalize rows3 c = l at hc hn h5 ⊢
 subst hc; subst hn
 have hlen := flat3_length l
 rw [wrap64_in (x := left - l.length) (by omega)]
 refine ⟨fun hd => retG_r1i ?_, fun hd => ⟨by simp, ⟨by simp only; omega, by simp only; omega, by have := of_decide_eq_false hd; simp only; omega, by simp only; omega, rfl⟩, fun q hq => ?_⟩⟩
 ·unfold szT; rw [hd]; rfl
 ·obtain ⟨i, lf⟩ := q
  obtain ⟨g1, g2, g3, g4, g5⟩ := hq
  simp only at g1 g2 g3 g4 g5 ⊢
  refine ⟨fun hi => ?_, fun hi => retG_r1i ?_⟩
  ·have hi := of_decide_eq_true hi
   have hil : i.toNat < l.length := by omega
   have hrow := h5 _ (getD_mem hil default)
   obtain ⟨_, e1, _⟩ := flat3_get l i.toNat ⟨0, []⟩ hil
   rw [drop_cons hil default, szTL] at g5
   rw [e1, wrap64_in (x := i + 1) (by omega)]
   simp only
   refine ⟨⟨g1, hi⟩, ⟨by omega, by omega⟩, ⟨⟨g3, g4⟩, hrow⟩, fun hm => retG_r1i ?_, fun hm => ?_⟩
   ·rw [hm] at g5
    unfold szT
    rw [hd]
    exact g5
   ·rw [hm] at g5
    have hm := of_decide_eq_false hm
    obtain ⟨e1, e2, e3⟩ := szI_bd hm (by omega)
    refine ⟨by simp, ⟨⟨by simp only; omega, by simp only; omega, by simp only; omega, by simp only; omega, ?_⟩, by omega⟩⟩
    simp only
    rw [show (i + 1).toNat = i.toNat + 1 by omega]
    exact g5
  ·have hi := of_decide_eq_false hi
   rw [List.drop_eq_nil_of_le (by omega)] at g5
   unfold szT
   rw [hd]
   exact g5
theorem vc_laws_szTable (left s i : Int) (n : Nat) (c : List Sc) (h : (0 <= left /\ left <= 1048576) /\ (n : Int) <= 9223372036854775807 /\ is3 c n /\ ∀ r ∈ rows3 c, (r.t.length : Int) <= 9223372036854775807) :
  VC_laws_szTable left s i n c (retG 1 (.int .i64 (szT (rows3 c) left)) [⟨.recs [.int .i64, .str, .int .i64] c, 139, .arg 3⟩]) := by
 unfold VC_laws_szTable
 exact ⟨⟨h⟩, fun hd => retG_r1i (szT_m1 (of_decide_eq_true hd)).symm, fun hd => retG_r1i rfl⟩
/-! ### copies -/
theorem vc_laws_toRow (a : Int) (t : List UInt8) (b : Int) (_ : True) : VC_laws_toRow a t b (retP (.agg [.int .i64 a, .str t, .int .i64 b])) := by
 unfold VC_laws_toRow
 simp [retP, leV, leL, chkB, V.under, underL]
theorem retG_copyR {a b : List Sc} {sh : List Sh} {e f : TypeId} {k g : Kind} {n : Nat} {J : List Blk} (h : b = a) : retG 1 (.row 1 n) [⟨.recs sh a, e, k⟩, ⟨.recs sh a, f, g⟩] (.row 1 n) (⟨.recs sh a, e, k⟩ :: ⟨.recs sh b, f, g⟩ :: J) := by
 subst h
 unfold retG leSel leSelBy autoSel
 simp [pairsL, pairsV, idPairs, pairsIn, selOf, lookN, findSel, selMem, chkB, nodupSel, hasSel, prefSel, leSt, leL, leV, nilToL, V.nilTo, isNilS, isGhost, selL, V.sel, Cells.selN, leMem, leCells, memUnder, underL, V.under]
 trivial
theorem vc_laws_toRowS (n : Nat) (c : List Sc) (h : is3 c n /\ n <= 2000000) : VC_laws_toRowS n c (retG 1 (.row 1 n) [⟨.recs [.int .i64, .str, .int .i64] c, 139, .arg 3⟩, ⟨.recs [.int .i64, .str, .int .i64] c, 96, .rows 3⟩]) := by
 obtain ⟨⟨hc, hn⟩, h2⟩ := h
 unfold VC_laws_toRowS
 generalize rows3 c = l at hc hn ⊢
 subst hc; subst hn
 have hlen := flat3_length l
 refine ⟨⟨by omega, by omega, by omega⟩, ⟨trivial, by simp, ⟨⟨trivial, trivial, rfl⟩, ⟨trivial, trivial, fillR_zero l⟩, trivial⟩, trivial⟩, ⟨by omega, by omega⟩, fun i hi => ⟨fun hd => ?_, fun hd => retG_copyR ?_⟩⟩
 ·have hd := of_decide_eq_true hd
  obtain ⟨g1, g2⟩ := hi
  have hil : i.toNat < l.length := by omega
  obtain ⟨e0, e1, e2⟩ := flat3_get l i.toNat ⟨0, []⟩ hil
  rw [e0, e1, e2, wrap64_in (x := i + 1) (by omega), show (i + 1).toNat = i.toNat + 1 by omega]
  exact ⟨⟨g1, hd⟩, ⟨by omega, by omega⟩, ⟨trivial⟩, ⟨g1, hd⟩, ⟨by rw [fillR_len (by omega)]; omega, by omega⟩, ⟨trivial, by simp, ⟨⟨trivial, trivial, rfl⟩, ⟨trivial, trivial, fillR_set hil⟩, trivial⟩, trivial⟩, ⟨⟨by omega, by omega⟩, by omega⟩⟩
 ·have hd := of_decide_eq_false hd
  exact fillR_end (by omega)
theorem vc_laws_toTable (s i : Int) (n : Nat) (c : List Sc) (h : is3 c n /\ n <= 2000000) : VC_laws_toTable s i n c (retG 1 (.agg [.int .i64 s, .int .i64 i, .row 1 n]) [⟨.recs [.int .i64, .str, .int .i64] c, 139, .arg 3⟩, ⟨.recs [.int .i64, .str, .int .i64] c, 96, .rows 3⟩]) := by
 unfold VC_laws_toTable
 refine ⟨⟨h⟩, ?_⟩
 unfold retG leSel leSelBy autoSel
 simp [pairsL, pairsV, idPairs, pairsIn, selOf, lookN, findSel, selMem, chkB, nodupSel, hasSel, prefSel, leSt, leL, leV, nilToL, V.nilTo, isNilS, isGhost, selL, V.sel, Cells.selN, leMem, leCells, memUnder, underL, V.under]
 trivial
/-! ### the same -/
theorem vc_laws_eqRow (a : Int) (t : List UInt8) (b p : Int) (u : List UInt8) (q : Int) (_ : True) : VC_laws_eqRow a t b p u q (retP (.bool (a == p && t == u && b == q))) := by
 unfold VC_laws_eqRow
 simp only [retP_lit]
 cases h1 : a == p <;> cases h2 : t == u <;> cases h3 : b == q <;> simp_all [bne]
theorem vc_laws_eqRowS (n m : Nat) (c d : List Sc) (h : is3 c n /\ is3 d m /\ n <= 2000000 /\ m <= 2000000) : VC_laws_eqRowS n m c d (retG 2 (.bool (rows3 c == rows3 d)) [⟨.recs [.int .i64, .str, .int .i64] c, 96, .rows 3⟩, ⟨.recs [.int .i64, .str, .int .i64] d, 96, .rows 3⟩]) := by
 obtain ⟨⟨hc, hn⟩, ⟨hd, hm⟩, h1, h2⟩ := h
 unfold VC_laws_eqRowS
 generalize rows3 c = l at hc hn ⊢
 generalize rows3 d = j at hd hm ⊢
 subst hc; subst hn; subst hd; subst hm
 have hlen := flat3_length l
 have hlej := flat3_length j
 refine ⟨fun hne => retG_r2l ?_, fun heq => ⟨by simp, ?_, fun i hi => ⟨fun hc => ?_, fun hc => retG_r2l ?_⟩⟩⟩
 ·symm
  rw [beq_eq_false_iff_ne]
  rintro rfl
  simp at hne
 ·simp only [bne_eq_false_iff_eq] at heq
  exact ⟨by omega, by omega, by omega, h1, rfl⟩
 ·have hc := of_decide_eq_true hc
  obtain ⟨g1, g2, g3, g4, g5⟩ := hi
  have hla : i.toNat < l.length := by omega
  have hlb : i.toNat < j.length := by omega
  obtain ⟨e0, e1, e2⟩ := flat3_get l i.toNat ⟨0, []⟩ hla
  obtain ⟨f0, f1, f2⟩ := flat3_get j i.toNat ⟨0, []⟩ hlb
  rw [e0, e1, e2, f0, f1, f2, wrap64_in (x := i + 1) (by omega)]
  simp only
  have hsame : ((l.getD i.toNat default).a == (j.getD i.toNat default).a && (l.getD i.toNat default).t == (j.getD i.toNat default).t && (l.getD i.toNat default).b == (j.getD i.toNat default).b) = true ↔ l.getD i.toNat default = j.getD i.toNat default := by
   generalize l.getD i.toNat default = x
   generalize j.getD i.toNat default = y
   cases x; cases y
   simp [and_assoc]
  refine ⟨trivial, ⟨g1, hc⟩, ⟨by omega, by omega⟩, ⟨by omega, by omega⟩, ⟨by omega, by omega⟩, ⟨trivial⟩, fun hn => retG_r2l ?_, fun he => ⟨by simp, ⟨⟨by omega, by omega, g3, g4, ?_⟩, by omega⟩⟩⟩
  ·symm
   rw [beq_eq_false_iff_ne]
   rintro rfl
   rw [hsame.2 rfl] at hn
   cases hn
  ·have he := hsame.1 (by simpa using he)
   rw [show (i + 1).toNat = i.toNat + 1 by omega, take_snoc hla default, take_snoc hlb default, g5, he]
 ·have hc := of_decide_eq_false hc
  obtain ⟨g1, g2, g3, g4, g5⟩ := hi
  rw [List.take_of_length_le (by omega), List.take_of_length_le (by omega)] at g5
  simp [g5]
theorem vc_laws_eqTable (s i : Int) (n : Nat) (c : List Sc) (p q : Int) (m : Nat) (d : List Sc) (h : is3 c n /\ is3 d m /\ n <= 2000000 /\ m <= 2000000) : VC_laws_eqTable s i n c p q m d (retG 2 (.bool (s == p && i == q && rows3 c == rows3 d)) [⟨.recs [.int .i64, .str, .int .i64] c, 96, .rows 3⟩, ⟨.recs [.int .i64, .str, .int .i64] d, 96, .rows 3⟩]) := by
 unfold VC_laws_eqTable
 refine ⟨fun h1 => retG_r2l ?_, fun h1 => ⟨fun h2 => retG_r2l ?_, fun h2 => ⟨⟨h⟩, fun h3 => retG_r2l ?_, fun h3 => retG_r2l ?_⟩⟩⟩
 all_goals simp_all
/-! ### what is good -/
theorem vc_impl_isTableSize (a b : Int) (_ : True) : VC_impl_isTableSize a b (retP (.bool (inB a 1 4 && inB b 1 4))) := by
 unfold VC_impl_isTableSize
 simp only [retP_bool, retP_lit]
 exact ⟨⟨trivial⟩, fun h => ⟨⟨trivial⟩, by simp [h]⟩, fun h => by simp [h]⟩
theorem all_step {s i : Int} {l : List Row3} {k : Int} (h : allInv s i l k) (hk : k < l.length) (hr : rowG s i (l.getD k.toNat default) = true) : allInv s i l (k + 1) := by
 obtain ⟨h0, h1, h2⟩ := h
 refine ⟨by omega, by omega, ?_⟩
 rw [show (k + 1).toNat = k.toNat + 1 by omega, take_snoc (by omega) default, List.all_append, h2]
 simp only [List.all_cons, List.all_nil, hr, Bool.and_self]
theorem all_bad {s i : Int} {l : List Row3} {k : Int} (h : allInv s i l k) (hk : k < l.length) (hr : rowG s i (l.getD k.toNat default) = false) : tabB s i l = false := by
 obtain ⟨h0, h1, h2⟩ := h
 have : l.all (rowG s i) = false := List.all_eq_false.2 ⟨l.getD k.toNat default, getD_mem (by omega) default, by rw [hr]; decide⟩
 unfold tabB
 rw [this, Bool.and_false]
theorem all_done {s i : Int} {l : List Row3} {k : Int} (h : allInv s i l k) (hk : ¬ k < l.length) (h1 : inB s 1 4 = true) (h2 : inB i 1 4 = true) (h3 : (l.length : Int) = s * i) : tabB s i l = true := by
 obtain ⟨h0, _, h4⟩ := h
 rw [List.take_of_length_le (by omega)] at h4
 unfold tabB
 rw [h1, h2, h4, decide_eq_true h3]
 rfl
theorem si_bd {s i : Int} (h1 : inB s 1 4 = true) (h2 : inB i 1 4 = true) : (1 <= s /\ s <= 4) /\ (1 <= i /\ i <= 4) /\ 0 <= s * i /\ s * i <= 16 := by
 have h1 := inB_eq.1 h1
 have h2 := inB_eq.1 h2
 exact ⟨h1, h2, Int.mul_nonneg (by omega) (by omega), Int.le_trans (Int.mul_le_mul h1.2 h2.2 (by omega) (by omega)) (by omega)⟩
theorem vc_spec_taGood (s i : Int) (n : Nat) (c : List Sc) (h : is3 c n /\ n <= 2000000) : VC_spec_taGood s i n c (retG 1 (.bool (tabB s i (rows3 c))) [⟨.recs [.int .i64, .str, .int .i64] c, 96, .rows 3⟩]) := by
 obtain ⟨⟨hc, hn⟩, h2⟩ := h
 unfold VC_spec_taGood
 generalize rows3 c = l at hc hn ⊢
 subst hc; subst hn
 have hlen := flat3_length l
 refine ⟨⟨trivial⟩, fun h1 => retG_r1l ?_, fun h1 => ⟨⟨trivial⟩, fun h3 => retG_r1l ?_, fun h3 => ?_⟩⟩
 ·simp only [Bool.not_eq_true'] at h1
  unfold tabB; rw [h1]; rfl
 ·simp only [Bool.not_eq_true'] at h3
  unfold tabB; rw [h3, Bool.and_false]; rfl
 simp only [Bool.not_eq_false'] at h1 h3
 obtain ⟨b1, b2, b3, b4⟩ := si_bd h1 h3
 rw [wrap64_in (x := s * i) (by omega), wrap64_in (x := i - 1) (by omega), wrap64_in (x := s - 1) (by omega)]
 refine ⟨fun hne => retG_r1l ?_, fun heq => ⟨by simp, ⟨by omega, by omega, by simp⟩, fun k hk => ⟨fun hd => ?_, fun hd => retG_r1l ?_⟩⟩⟩
 ·simp only [bne_iff_ne] at hne
  unfold tabB; rw [decide_eq_false hne, Bool.and_false]; rfl
 ·have hd := of_decide_eq_true hd
  obtain ⟨g1, g2, _⟩ := id hk
  have hil : k.toNat < l.length := by omega
  obtain ⟨e0, e1, e2⟩ := flat3_get l k.toNat ⟨0, []⟩ hil
  rw [e0, e1, e2, wrap64_in (x := k + 1) (by omega)]
  have yes := fun hr => all_step hk hd hr
  have no := fun hr => (all_bad hk hd hr).symm
  unfold rowG at yes no
  simp only
  refine ⟨⟨g1, hd⟩, ⟨by omega, by omega⟩, ⟨trivial⟩, fun t1 => retG_r1l (no ?_), fun t1 => ⟨⟨trivial⟩, fun t2 => retG_r1l (no ?_), fun t2 => ⟨⟨trivial⟩, fun t3 => retG_r1l (no ?_), fun t3 => ⟨by simp, ⟨yes ?_, by omega⟩⟩⟩⟩⟩
  all_goals simp_all
 ·have hd := of_decide_eq_false hd
  simp only [bne_eq_false_iff_eq] at heq
  exact (all_done hk hd h1 h3 heq).symm
theorem vc_impl_IsTable (s i : Int) (n : Nat) (c : List Sc) (g0 g1 g2 g3 : List UInt8) (h : is3 c n /\ n <= 2000000 /\ isSg g0 g1 g2 g3) : VC_impl_IsTable s i n c g0 g1 g2 g3 (retG 2 (.bool (tabB s i (rows3 c))) [⟨.recs [.int .i64, .str, .int .i64] c, 96, .rows 3⟩, ⟨.vals [.str g0, .str g1, .str g2, .str g3], 9, .gl 0⟩]) := by
 obtain ⟨⟨hc, hn⟩, h2, hsg⟩ := h
 unfold VC_impl_IsTable
 generalize rows3 c = l at hc hn ⊢
 subst hc; subst hn
 have hlen := flat3_length l
 refine ⟨⟨trivial⟩, fun h1 => retG_gl ?_, fun h1 => ?_⟩
 ·simp only [Bool.not_eq_true'] at h1
  unfold tabB; rw [h1]; rfl
 simp only [Bool.not_eq_false', Bool.and_eq_true] at h1
 obtain ⟨h1, h3⟩ := h1
 obtain ⟨b1, b2, b3, b4⟩ := si_bd h1 h3
 rw [wrap64_in (x := s * i) (by omega), wrap64_in (x := i - 1) (by omega), wrap64_in (x := s - 1) (by omega)]
 refine ⟨fun hne => retG_gl ?_, fun heq => ⟨by simp, ⟨by omega, by omega, by simp⟩, fun k hk => ⟨fun hd => ?_, fun hd => retG_gl ?_⟩⟩⟩
 ·simp only [bne_iff_ne] at hne
  unfold tabB; rw [decide_eq_false hne, Bool.and_false]; rfl
 ·have hd := of_decide_eq_true hd
  obtain ⟨k1, k2, _⟩ := id hk
  have hil : k.toNat < l.length := by omega
  obtain ⟨e0, e1, e2⟩ := flat3_get l k.toNat ⟨0, []⟩ hil
  rw [e0, e1, e2, wrap64_in (x := k + 1) (by omega)]
  have yes := fun hr => all_step hk hd hr
  have no := fun hr => (all_bad hk hd hr).symm
  unfold rowG at yes no
  simp only [qtI_ts]
  refine ⟨⟨k1, hd⟩, ⟨by omega, by omega⟩, ⟨trivial⟩, fun t1 => retG_gl (no ?_), fun t1 => ⟨⟨hsg⟩, fun t2 => retG_gl (no ?_), fun t2 => ⟨⟨trivial⟩, fun t3 => retG_gl (no ?_), fun t3 => ⟨by simp, ⟨yes ?_, by omega⟩⟩⟩⟩⟩
  all_goals simp_all
 ·have hd := of_decide_eq_false hd
  simp only [bne_eq_false_iff_eq] at heq
  exact (all_done hk hd h1 h3 heq).symm
theorem recs3_law {n : Nat} {l : List Row3} (h : l.length = n /\ n <= maxLen /\ ∀ r ∈ l, r.t.length <= maxLen) : (n : Int) <= 9223372036854775807 /\ is3 (flat3 l) n /\ ∀ r ∈ rows3 (flat3 l), (r.t.length : Int) <= 9223372036854775807 := by
 obtain ⟨h1, h2, h3⟩ := recs3_bd h
 unfold is3
 rw [rows3_flat]
 exact ⟨h2, ⟨rfl, h1⟩, h3⟩
end Go.Vi
