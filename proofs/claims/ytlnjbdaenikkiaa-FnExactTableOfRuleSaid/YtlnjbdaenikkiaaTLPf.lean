/- Tables of rules: the conditions hold. -/
import Derived.Test.YtlnjbdaenikkiaaTLVc
import Derived.Test.YtlnjbdaenikkiaaTLSpec
namespace Go.Vi
set_option linter.unusedSimpArgs false
theorem vc_impl_IsRule (s : List UInt8) (_ : True) : VC_impl_IsRule s (retP (.bool (ruleB s))) := by
  unfold VC_impl_IsRule
  simp only [at_iff, retP_lit, and_true, true_and, Bool.not_eq_true', Bool.not_eq_false', inB_eq, inB_ne, decide_eq_true_eq, decide_eq_false_iff_not]
  refine ⟨fun h => ?_, fun h => ⟨rule_start h.1 h.2, fun i hi => ⟨fun hlt => ⟨⟨hi.1, hlt⟩, ?_⟩, fun hge => (rule_done hi hge).symm⟩⟩⟩
  · by_cases h1 : 1 ≤ (s.length : Int)
    · exact (rule_long (fun h2 => h ⟨h1, h2⟩)).symm
    · exact (rule_short h1).symm
  have hs := signI_toNat (s.getD i.toNat 0)
  unfold signI at hs
  have yes := fun h => ruleInv_step hi hlt h
  have no := fun h => (rule_bad hi hlt h).symm
  rw [← hs] at yes no
  generalize ((s.getD i.toNat 0).toNat : Int) = c at *
  cases h1 : c == 76 <;> cases h2 : c == 82 <;> cases h3 : c == 78 <;> cases h4 : c == 85 <;> simp_all
theorem retG_trno {sh : List Sh} {e : TypeId} {b0 : Blk} {J : List Blk} : retG 0 (.tup [.agg [.int .i64 0, .int .i64 0, .row 0 0], .bool false]) [⟨.recs sh [], e, .rows 3⟩] (.tup [.agg [.int .i64 0, .int .i64 0, .raw (.slice none 0 0)], .lit false]) (b0 :: J) := by
  unfold retG leSel leSelBy autoSel
  simp [pairsL, pairsV, idPairs, pairsIn, selOf, lookN, selMem, chkB, nodupSel, hasSel, prefSel, leSt, leL, leV, nilToL, V.nilTo, isNilS, isGhost, findSel, selL, V.sel, Cells.selN, Cells.none0, leMem, leCells, memUnder, underL, V.under, Kind.isRow]
  try exact trivial
theorem retG_tr {s i : Int} {d d' : List Sc} {sh : List Sh} {f : TypeId} {n m : Nat} {b0 b1 b2 : Blk} (hd : d' = d) (hm : m = n) : retG 0 (.tup [.agg [.int .i64 s, .int .i64 i, .row 0 n], .bool true]) [⟨.recs sh d, f, .rows 3⟩] (.tup [.agg [.int .i64 s, .int .i64 i, .row 3 m], .lit true]) [b0, b1, b2, ⟨.recs sh d', f, .rows 3⟩] := by
  subst hd; subst hm
  unfold retG leSel leSelBy autoSel
  simp [pairsL, pairsV, idPairs, pairsIn, selOf, lookN, selMem, chkB, nodupSel, hasSel, prefSel, leSt, leL, leV, nilToL, V.nilTo, isNilS, isGhost, findSel, selL, V.sel, Cells.selN, Cells.none0, leMem, leCells, memUnder, underL, V.under, Kind.isRow]
  try exact trivial
theorem retG_tr2 {s i : Int} {d d' : List Sc} {sh : List Sh} {f : TypeId} {n m : Nat} {b0 b1 : Blk} (hd : d' = d) (hm : m = n) : retG 0 (.tup [.agg [.int .i64 s, .int .i64 i, .row 0 n], .bool true]) [⟨.recs sh d, f, .rows 3⟩] (.tup [.agg [.int .i64 s, .int .i64 i, .row 2 m], .lit true]) [b0, b1, ⟨.recs sh d', f, .rows 3⟩] := by
  subst hd; subst hm
  unfold retG leSel leSelBy autoSel
  simp [pairsL, pairsV, idPairs, pairsIn, selOf, lookN, selMem, chkB, nodupSel, hasSel, prefSel, leSt, leL, leV, nilToL, V.nilTo, isNilS, isGhost, findSel, selL, V.sel, Cells.selN, Cells.none0, leMem, leCells, memUnder, underL, V.under, Kind.isRow]
  try exact trivial
theorem rl_len (s : List UInt8) (n : Nat) : (rlK s n).length = n := by unfold rlK; simp
theorem rl_snoc (s : List UInt8) (n : Nat) : flat3 (rlK s (n + 1)) = flat3 (rlK s n) ++ [⟨((n : Int) + 1) % s.length, []⟩, ⟨0, [s.getD n 0]⟩, ⟨0, []⟩] := by
  unfold rlK
  rw [List.range_succ, List.map_append, flat3_append]
  rfl
theorem one_cut {s : List UInt8} {n : Nat} (h : n < s.length) : (s.take (n + 1)).drop n = [s.getD n 0] := by
  rw [List.drop_take, show n + 1 - n = 1 by omega, List.drop_eq_getElem_cons h, List.getD_eq_getElem?_getD, List.getElem?_eq_getElem h]
  rfl
theorem rlB_facts {s : List UInt8} (h : rlB s = true) : 1 ≤ s.length ∧ s.length ≤ 4 ∧ ∀ i : Nat, i < s.length → (s.getD i 0).toNat < 128 := by
  unfold rlB ruleB at h
  simp only [Bool.and_eq_true, decide_eq_true_eq] at h
  refine ⟨h.1.1.1, h.2, fun i hi => ?_⟩
  have := List.all_eq_true.1 h.1.2 (s.getD i 0) (getD_mem hi 0)
  unfold signB at this
  simp only [Bool.or_eq_true, beq_iff_eq] at this
  rcases this with ((h | h) | h) | h <;> rw [h] <;> decide
theorem retG_rlno {s : List UInt8} {sh : List Sh} {e : TypeId} {b0 : Blk} {J : List Blk} (h : rlB s = false) : retG 0 (.tup [.agg [.int .i64 (bif rlB s then 1 else 0), .int .i64 (bif rlB s then s.length else 0), .row 0 (rlR s).length], .bool (rlB s)]) [⟨.recs sh (flat3 (rlR s)), e, .rows 3⟩] (.tup [.agg [.int .i64 0, .int .i64 0, .raw (.slice none 0 0)], .lit false]) (b0 :: J) := by
  unfold rlR
  rw [h]
  exact retG_trno
theorem vc_spec_TableOfRule (s : List UInt8) (_ : True) : VC_spec_TableOfRule s (retG 0 (.tup [.agg [.int .i64 (bif rlB s then 1 else 0), .int .i64 (bif rlB s then s.length else 0), .row 0 (rlR s).length], .bool (rlB s)]) [⟨.recs [.int .i64, .str, .int .i64] (flat3 (rlR s)), 31, .rows 3⟩]) := by
  unfold VC_spec_TableOfRule
  simp only [at_iff, Bool.not_eq_true', Bool.not_eq_false', true_and, and_true, and_self, Int.toNat_natCast]
  refine ⟨fun h => retG_rlno (by unfold rlB; rw [h]; rfl), fun h => ⟨fun h2 => retG_rlno ?_, fun h2 => ?_⟩⟩
  · have := of_decide_eq_true h2
    unfold rlB
    rw [decide_eq_false (by omega), Bool.and_false]
  have h2 := of_decide_eq_false h2
  have hb : rlB s = true := by
    unfold rlB
    rw [h, decide_eq_true (by omega)]
    rfl
  obtain ⟨f1, f2, f3⟩ := rlB_facts hb
  refine ⟨rfl, ⟨hb, by omega⟩, fun n hn => ⟨fun hlt => ?_, fun hge => ?_⟩⟩
  · have e1 : IntKind.wrap .i64 ((n : Int) + 1) = (n : Int) + 1 := wrap64_in (by omega)
    have hl : (flat3 (rlK s n)).length = n * 3 := by rw [flat3_length, rl_len]
    have ht : Int.tmod ((n : Int) + 1) (s.length : Int) = ((n : Int) + 1) % s.length := Int.tmod_eq_emod_of_nonneg (by omega)
    rw [rl_snoc, e1, ht]
    simp only [show ((n : Int) + 1).toNat = n + 1 by omega, one_cut hlt, hl, true_and, and_true, and_self]
    exact ⟨f3 n hlt, by omega, ⟨by omega, by omega, by omega⟩, ⟨by simp, by omega, by omega⟩, rfl, ⟨hb, by omega⟩, by omega⟩
  · have : n = s.length := by have := hn.2; omega
    subst this
    unfold rlR
    rw [hb]
    exact retG_tr rfl (by rw [cond_true, rl_len])
theorem vc_impl_TableOfRule (s : List UInt8) (_ : True) : VC_impl_TableOfRule s (retG 0 (.tup [.agg [.int .i64 (bif rlB s then 1 else 0), .int .i64 (bif rlB s then s.length else 0), .row 0 (rlR s).length], .bool (rlB s)]) [⟨.recs [.int .i64, .str, .int .i64] (flat3 (rlR s)), 31, .rows 3⟩]) := by
  unfold VC_impl_TableOfRule
  simp only [at_iff, Bool.not_eq_true', Bool.not_eq_false', true_and, and_true, and_self, Int.toNat_natCast]
  refine ⟨fun h => retG_rlno (by unfold rlB; rw [h]; rfl), fun h => ⟨fun h2 => retG_rlno ?_, fun h2 => ?_⟩⟩
  · have := of_decide_eq_true h2
    unfold rlB
    rw [decide_eq_false (by omega), Bool.and_false]
  have h2 := of_decide_eq_false h2
  have hb : rlB s = true := by
    unfold rlB
    rw [h, decide_eq_true (by omega)]
    rfl
  obtain ⟨f1, f2, f3⟩ := rlB_facts hb
  refine ⟨rfl, ⟨by omega, hb, by omega⟩, fun i hi => ⟨fun hlt => ?_, fun hge => ?_⟩⟩
  · have hlt := of_decide_eq_true hlt
    obtain ⟨n, rfl⟩ : ∃ n : Nat, i = n := ⟨i.toNat, by have := hi.1; omega⟩
    have e1 : IntKind.wrap .i64 ((n : Int) + 1) = (n : Int) + 1 := wrap64_in (by omega)
    have hl : (flat3 (rlK s n)).length = n * 3 := by rw [flat3_length, rl_len]
    have ht : Int.tmod ((n : Int) + 1) (s.length : Int) = ((n : Int) + 1) % s.length := Int.tmod_eq_emod_of_nonneg (by omega)
    have hn : n < s.length := by omega
    rw [e1, ht]
    simp only [show ((n : Int) + 1).toNat = n + 1 by omega, Int.toNat_natCast, rl_snoc, one_cut hn, hl, true_and, and_true, and_self]
    exact ⟨by omega, ⟨by omega, by omega, by omega⟩, ⟨by simp, by omega, by omega⟩, rfl, ⟨by omega, hb, by omega⟩, by omega⟩
  · have hge := of_decide_eq_false hge
    have h0 := hi.1
    have h1 := hi.2.2
    have : i.toNat = s.length := by omega
    rw [this]
    unfold rlR
    rw [hb]
    exact retG_tr2 rfl (by rw [cond_true, rl_len])
end Go.Vi
