/- Worms: odd nodes and longest lives: the conditions hold. -/
import Derived.Test.YtioppaofihbmpabDoorWEVc
import Derived.Test.YtioppaofihbmpabDoorWESpec
namespace Go.Vi
set_option linter.unusedSimpArgs false
theorem odd_succ (m : Wo) (k : Nat) : oddW m (k + 1) = oddW m k ++ (bif oddB m k then [(k : Int)] else []) := by
  unfold oddW
  rw [List.range_succ, List.filter_append, List.map_append]
  congr 1
  cases h : oddB m k <;> simp [h]
theorem odd_len (m : Wo) (k : Nat) : (oddW m k).length ≤ k := by
  unfold oddW
  rw [List.length_map]
  have := List.length_filter_le (oddB m) (List.range k)
  rw [List.length_range] at this
  exact this
theorem odR_len (m : Wo) : (odR m).length ≤ 2000000 := by
  unfold odR
  cases h : womB m with
  | false => simp
  | true =>
    have h1 := odd_len m (m.w * m.h).toNat
    have h2 := wom_len h
    simp only [cond_true]
    omega
theorem node_xy {m : Wo} (hm : womB m = true) {i : Int} (h0 : 0 ≤ i) (h1 : i < m.w * m.h) : (0 ≤ i % m.w ∧ i % m.w ≤ m.w - 1) ∧ (0 ≤ i / m.w ∧ i / m.w ≤ m.h - 1) ∧ i / m.w * m.w + i % m.w = i := by
  obtain ⟨hw, hh, _⟩ := wom_facts hm
  have hx := emod_bd i (m := m.w) (by omega)
  have hy : 0 ≤ i / m.w := Int.ediv_nonneg h0 (by omega)
  have hy2 : i / m.w < m.h := Int.ediv_lt_of_lt_mul (by omega) (by rw [Int.mul_comm]; exact h1)
  have he := Int.mul_ediv_add_emod i m.w
  rw [Int.mul_comm] at he
  exact ⟨hx, by omega, he⟩
theorem odd_eq {m : Wo} {i : Int} (h0 : 0 ≤ i) : (Int.tmod (cntW m (i % m.w) (i / m.w) 4) 2 == 1) = oddB m i.toNat := by
  have hb := cntW_bd m (i % m.w) (i / m.w) 4
  unfold oddB
  rw [tmod_emod hb.1, show ((i.toNat : Nat) : Int) = i by omega]
theorem od_step {m : Wo} {i : Int} (h : odInv m i) (hi : i < m.w * m.h) : odInv m (IntKind.wrap .i64 (i + 1)) ∧ IntKind.wrap .i64 (i + 1) = i + 1 ∧ (i + 1).toNat = i.toNat + 1 ∧ m.w * m.h ≤ 36 ∧ ((i.toNat : Nat) : Int) = i := by
  obtain ⟨hm, h0, h1⟩ := h
  have hl := wom_len hm
  rw [wrap64_in (by omega)]
  exact ⟨⟨hm, by omega, by omega⟩, rfl, by omega, hl.2.2.2, by omega⟩
theorem vc_spec_OddNodes (mw mh : Int) (mr mn : List UInt8) (mx my md : Int) (_ : True) : VC_spec_OddNodes mw mh mr mn mx my md
    (retG 0 (.tup [.row 0 (odR ⟨mw, mh, mr, mn, mx, my, md⟩).length, .bool (womB ⟨mw, mh, mr, mn, mx, my, md⟩)]) [⟨.ints .i64 (odR ⟨mw, mh, mr, mn, mx, my, md⟩), 3, .row⟩]) := by
  unfold VC_spec_OddNodes
  simp only [at_iff, true_and, and_true, Bool.not_eq_true', Bool.not_eq_false']
  have hno : womB ⟨mw, mh, mr, mn, mx, my, md⟩ = false → odR ⟨mw, mh, mr, mn, mx, my, md⟩ = [] := fun h => by unfold odR; rw [h]; rfl
  refine ⟨fun h => retG_tkno (hno h) (by rw [hno h]; rfl) h, fun hm => ?_⟩
  have hl := wom_len hm
  obtain ⟨hw, hh, _⟩ := wom_facts hm
  simp only at hl hw hh
  refine ⟨by simp [oddW], ⟨hm, by omega, by simp only; omega⟩, fun i hi => ⟨fun hlt => ?_, fun hge => ?_⟩⟩
  · have hlt := of_decide_eq_true hlt
    have hlt2 : i < mw * mh := by omega
    obtain ⟨s1, s2, s3, s4, s5⟩ := od_step hi hlt2
    obtain ⟨hx, hy, _⟩ := node_xy hm hi.2.1 hlt2
    have h0 := hi.2.1
    have hod := odd_eq (m := ⟨mw, mh, mr, mn, mx, my, md⟩) h0
    simp only at hod s4 hx hy
    have hln := odd_len ⟨mw, mh, mr, mn, mx, my, md⟩ i.toNat
    have hyb := ediv_bd (k := i) (w := mw) ⟨h0, by omega⟩ (by omega)
    rw [tdiv_ediv h0, tmod_emod h0, wrap64_in (x := i / mw) (by omega), hod, s2, s3]
    have hne : mw ≠ 0 := by omega
    refine ⟨hne, hne, ⟨hm, inB_eq.2 hx, inB_eq.2 hy⟩, by decide, fun ho => ⟨⟨⟨by omega, by simp⟩, by omega, by omega⟩, ?_, s2 ▸ s1, by omega⟩, fun ho => ⟨?_, s2 ▸ s1, by omega⟩⟩
    · rw [odd_succ, ho]; simp [s5]
    · rw [odd_succ, ho]; simp
  · have hge := of_decide_eq_false hge
    obtain ⟨_, h0, h1⟩ := hi
    simp only at h1
    have e : oddW ⟨mw, mh, mr, mn, mx, my, md⟩ i.toNat = odR ⟨mw, mh, mr, mn, mx, my, md⟩ := by
      unfold odR; rw [hm, cond_true, show i = mw * mh by omega]
    rw [e]
    exact retG_tk rfl hm
theorem vc_impl_OddNodes (mw mh : Int) (mr mn : List UInt8) (mx my md : Int) (_ : True) : VC_impl_OddNodes mw mh mr mn mx my md
    (retG 0 (.tup [.row 0 (odR ⟨mw, mh, mr, mn, mx, my, md⟩).length, .bool (womB ⟨mw, mh, mr, mn, mx, my, md⟩)]) [⟨.ints .i64 (odR ⟨mw, mh, mr, mn, mx, my, md⟩), 3, .row⟩]) := by
  unfold VC_impl_OddNodes
  simp only [at_iff, true_and, and_true, Bool.not_eq_true', Bool.not_eq_false']
  have hno : womB ⟨mw, mh, mr, mn, mx, my, md⟩ = false → odR ⟨mw, mh, mr, mn, mx, my, md⟩ = [] := fun h => by unfold odR; rw [h]; rfl
  refine ⟨fun h => retG_tkno (hno h) (by rw [hno h]; rfl) h, fun hm => ?_⟩
  have hl := wom_len hm
  obtain ⟨hw, hh, _⟩ := wom_facts hm
  simp only at hl hw hh
  refine ⟨hm, (crB_iff.1 (crB_of hm)).1, by simp [oddW, crOf], ⟨hm, by omega, by simp only; omega⟩, fun i hi => ⟨fun hlt => ?_, fun hge => ?_⟩⟩
  · have hlt := of_decide_eq_true hlt
    obtain ⟨s1, s2, s3, s4, s5⟩ := od_step hi hlt
    obtain ⟨hx, hy, hxy⟩ := node_xy hm hi.2.1 hlt
    have h0 := hi.2.1
    have hod := odd_eq (m := ⟨mw, mh, mr, mn, mx, my, md⟩) h0
    have hc := cnt_of hm hx hy 4
    simp only at hod s4 hx hy hxy hc
    rw [hxy] at hc
    have hln := odd_len ⟨mw, mh, mr, mn, mx, my, md⟩ i.toNat
    rw [hc, hod, s2, s3]
    refine ⟨⟨crB_of hm, h0, hlt⟩, by decide, fun ho => ⟨⟨⟨by omega, by simp⟩, by omega, by omega⟩, ?_, s2 ▸ s1, by omega⟩, fun ho => ⟨?_, s2 ▸ s1, by omega⟩⟩
    · rw [odd_succ, ho]; simp [s5]
    · rw [odd_succ, ho]; simp
  · have hge := of_decide_eq_false hge
    obtain ⟨_, h0, h1⟩ := hi
    simp only at h1
    have e : oddW ⟨mw, mh, mr, mn, mx, my, md⟩ i.toNat = odR ⟨mw, mh, mr, mn, mx, my, md⟩ := by
      unfold odR; rw [hm, cond_true, show i = mw * mh by omega]
    rw [e]
    exact retG_tk rfl hm
/-! ### longest lives -/
theorem ll_succ (m : Wo) (z : Int) {i : Nat} (h : i < 6) : llW m z (i + 1) = llStep m (llW m z i) (tastes.getD i []) := by
  unfold llW
  rw [take_snoc (l := tastes) (by rw [tastes_len]; exact h) [], List.foldl_append]
  rfl
theorem ll_len (m : Wo) (z : Int) : ∀ i : Nat, i ≤ 6 → (llW m z i).1.length ≤ i
  | 0, _ => by simp [llW]
  | i + 1, h => by
    have ih := ll_len m z i (by omega)
    rw [ll_succ m z (by omega)]
    unfold llStep
    cases decide ((lifK (tastes.getD i []) m : Int) > (llW m z i).2) <;> cases ((lifK (tastes.getD i []) m : Nat) : Int) == (llW m z i).2 <;> simp only [cond_true, cond_false, List.length_append, List.length_singleton] <;> omega
theorem llStep_gt {m : Wo} {q : List (List UInt8) × Int} {t : List UInt8} (h : (lifK t m : Int) > q.2) : llStep m q t = ([t], ((lifK t m : Nat) : Int)) := by unfold llStep; rw [decide_eq_true h]; rfl
theorem llStep_eq {m : Wo} {q : List (List UInt8) × Int} {t : List UInt8} (h : ¬ (lifK t m : Int) > q.2) (h2 : ((lifK t m : Nat) : Int) = q.2) : llStep m q t = (q.1 ++ [t], q.2) := by
  unfold llStep
  rw [decide_eq_false h, beq_iff_eq.2 h2]; rfl
theorem ll_same (m : Wo) : ∀ i : Nat, i < 6 → llW m (-1) (i + 1) = llW m 0 (i + 1)
  | 0, h => by
    rw [ll_succ m (-1) h, ll_succ m 0 h, llStep_gt (q := llW m (-1) 0) (show ((lifK (tastes.getD 0 []) m : Nat) : Int) > -1 by omega)]
    by_cases hz : ((lifK (tastes.getD 0 []) m : Nat) : Int) > 0
    · rw [llStep_gt (q := llW m 0 0) hz]
    · have hz2 : ((lifK (tastes.getD 0 []) m : Nat) : Int) = 0 := by omega
      rw [llStep_eq (q := llW m 0 0) hz hz2, hz2]
      rfl
  | i + 1, h => by
    rw [ll_succ m (-1) h, ll_succ m 0 h, ll_same m i (by omega)]
theorem taste_at {i : Nat} (h : i < 6) : tasB (tastes.getD i []) = true := ts_yes h (by simp)
theorem retG_ll {l : List (List UInt8)} {n k : Nat} {a b : Int} {ok : Bool} {b0 b1 : Blk} {e : TypeId} {J : List Blk} (hn : n = k) (ha : a = b) (ho : ok = true) : retG 0 (.tup [.row 0 k, .int .i64 b, .bool ok]) [⟨.strs l, e, .row⟩] (.tup [.row 2 n, .int .i64 a, .lit true]) (b0 :: b1 :: ⟨.strs l, e, .row⟩ :: J) := by
  subst hn; subst ha; subst ho
  unfold retG leSel leSelBy autoSel
  simp [pairsL, pairsV, idPairs, pairsIn, selOf, lookN, selMem, chkB, nodupSel, hasSel, prefSel, leSt, leL, leV, nilToL, V.nilTo, isNilS, findSel, selL, V.sel, Cells.selN, leMem, leCells, memUnder, underL, V.under]
  exact trivial
theorem retG_llno {l : List (List UInt8)} {k : Nat} {b : Int} {ok : Bool} {b0 : Blk} {e : TypeId} {J : List Blk} (hl : l = []) (hn : k = 0) (ha : b = 0) (ho : ok = false) : retG 0 (.tup [.row 0 k, .int .i64 b, .bool ok]) [⟨.strs l, e, .row⟩] (.tup [.raw (.slice none 0 0), .int .i64 0, .lit false]) (b0 :: J) := by
  subst hl; subst hn; subst ha; subst ho
  unfold retG leSel leSelBy autoSel
  simp [pairsL, pairsV, idPairs, pairsIn, selOf, lookN, selMem, chkB, nodupSel, prefSel, leSt, leL, leV, nilToL, V.nilTo, isNilS, isGhost, selL, V.sel, Cells.none0, leMem, leCells, memUnder, underL, V.under, Kind.isRow]
  exact trivial
theorem retG_llg {l : List (List UInt8)} {n k : Nat} {a b : Int} {ok : Bool} {b1 : Blk} {e f : TypeId} {g : Kind} {g0 g1 g2 g3 g4 g5 : List UInt8} {J : List Blk} (hn : n = k) (ha : a = b) (ho : ok = true) : retG 1 (.tup [.row 1 k, .int .i64 b, .bool ok]) [⟨.vals [.str g0, .str g1, .str g2, .str g3, .str g4, .str g5], f, g⟩, ⟨.strs l, e, .row⟩] (.tup [.row 2 n, .int .i64 a, .lit true]) (⟨.vals [.str g0, .str g1, .str g2, .str g3, .str g4, .str g5], f, g⟩ :: b1 :: ⟨.strs l, e, .row⟩ :: J) := by
  subst hn; subst ha; subst ho
  unfold retG leSel leSelBy autoSel
  simp [pairsL, pairsV, idPairs, pairsIn, selOf, lookN, selMem, chkB, nodupSel, hasSel, prefSel, leSt, leL, leV, nilToL, V.nilTo, isNilS, findSel, selL, V.sel, Cells.selN, leMem, leCells, memUnder, underL, V.under]
  exact trivial
theorem retG_llgno {l : List (List UInt8)} {k : Nat} {b : Int} {ok : Bool} {e f : TypeId} {g : Kind} {g0 g1 g2 g3 g4 g5 : List UInt8} {J : List Blk} (hl : l = []) (hn : k = 0) (ha : b = 0) (ho : ok = false) : retG 1 (.tup [.row 1 k, .int .i64 b, .bool ok]) [⟨.vals [.str g0, .str g1, .str g2, .str g3, .str g4, .str g5], f, g⟩, ⟨.strs l, e, .row⟩] (.tup [.raw (.slice none 0 0), .int .i64 0, .lit false]) (⟨.vals [.str g0, .str g1, .str g2, .str g3, .str g4, .str g5], f, g⟩ :: J) := by
  subst hl; subst hn; subst ha; subst ho
  unfold retG leSel leSelBy autoSel
  simp [pairsL, pairsV, idPairs, pairsIn, selOf, lookN, selMem, chkB, nodupSel, hasSel, prefSel, leSt, leL, leV, nilToL, V.nilTo, isNilS, isGhost, selL, V.sel, Cells.selN, Cells.none0, leMem, leCells, memUnder, underL, V.under, Kind.isRow, findSel]
  exact trivial
theorem llR_no {m : Wo} (h : womB m = false) : llR m = [] ∧ llN m = 0 := by unfold llR llN; rw [h]; exact ⟨rfl, rfl⟩
theorem llR_yes {m : Wo} (h : womB m = true) : llR m = (llW m 0 6).1 ∧ llN m = (llW m 0 6).2 := by unfold llR llN; rw [h]; exact ⟨rfl, rfl⟩
theorem ll_step {m : Wo} {i : Int} (h : llInv m i) (hi : i < 6) : llInv m (IntKind.wrap .i64 (i + 1)) ∧ ((6 : Int) - IntKind.wrap .i64 (i + 1)).toNat < ((6 : Int) - i).toNat ∧ IntKind.wrap .i64 (i + 1) = i + 1 ∧ (i + 1).toNat = i.toNat + 1 ∧ i.toNat < 6 := by
  obtain ⟨hm, h0, h1⟩ := h
  rw [wrap64_in (by omega)]
  exact ⟨⟨hm, by omega, by omega⟩, by omega, rfl, by omega, by omega⟩
theorem vc_spec_LongestLife (mw mh : Int) (mr mn : List UInt8) (mx my md : Int) (_ : True) : VC_spec_LongestLife mw mh mr mn mx my md
    (retG 0 (.tup [.row 0 (llR ⟨mw, mh, mr, mn, mx, my, md⟩).length, .int .i64 (llN ⟨mw, mh, mr, mn, mx, my, md⟩), .bool (womB ⟨mw, mh, mr, mn, mx, my, md⟩)]) [⟨.strs (llR ⟨mw, mh, mr, mn, mx, my, md⟩), 9, .row⟩]) := by
  unfold VC_spec_LongestLife
  simp only [at_iff, true_and, and_true, Bool.not_eq_true', Bool.not_eq_false', meals_len]
  refine ⟨fun h => retG_llno (llR_no h).1 (by rw [(llR_no h).1]; rfl) (llR_no h).2 h, fun hm => ⟨by simp [llW], ⟨hm, by omega, by omega⟩, fun i hi => ⟨fun hlt => ?_, fun hge => ?_⟩⟩⟩
  · have hlt := of_decide_eq_true hlt
    obtain ⟨s1, s2, s3, s4, s5⟩ := ll_step hi hlt
    have hs := ll_succ ⟨mw, mh, mr, mn, mx, my, md⟩ (-1) s5
    have hl := ll_len ⟨mw, mh, mr, mn, mx, my, md⟩ (-1) i.toNat (by omega)
    have h0 := hi.2.1
    rw [s3, s4, hs]
    unfold llStep
    refine ⟨⟨h0, by omega⟩, by rw [tastes_len]; exact s5, ⟨hm, taste_at s5⟩, fun hg => ⟨fun _ => ⟨⟨⟨by simp, by simp⟩, by omega, by omega⟩, ?_, s3 ▸ s1, s3 ▸ s2⟩, fun hx => ?_⟩, fun hg => ⟨fun he => ⟨⟨⟨by omega, by simp⟩, by omega, by omega⟩, ?_, s3 ▸ s1, s3 ▸ s2⟩, fun he => ⟨?_, s3 ▸ s1, s3 ▸ s2⟩⟩⟩
    · rw [hg]; simp
    · simp at hx
    · rw [hg, he]; simp
    · rw [hg, he]; simp
  · have hge := of_decide_eq_false hge
    obtain ⟨_, h0, h1⟩ := hi
    have e : llW ⟨mw, mh, mr, mn, mx, my, md⟩ (-1) i.toNat = llW ⟨mw, mh, mr, mn, mx, my, md⟩ 0 6 := by
      rw [show i.toNat = 5 + 1 by omega]; exact ll_same _ 5 (by omega)
    rw [e, (llR_yes hm).1, (llR_yes hm).2]
    exact retG_ll rfl rfl hm
theorem vc_impl_LongestLife (mw mh : Int) (mr mn : List UInt8) (mx my md : Int) (g0 g1 g2 g3 g4 g5 : List UInt8) (h : isTs g0 g1 g2 g3 g4 g5) : VC_impl_LongestLife mw mh mr mn mx my md g0 g1 g2 g3 g4 g5
    (retG 1 (.tup [.row 1 (llR ⟨mw, mh, mr, mn, mx, my, md⟩).length, .int .i64 (llN ⟨mw, mh, mr, mn, mx, my, md⟩), .bool (womB ⟨mw, mh, mr, mn, mx, my, md⟩)]) [⟨.vals [.str g0, .str g1, .str g2, .str g3, .str g4, .str g5], 9, .gl 0⟩, ⟨.strs (llR ⟨mw, mh, mr, mn, mx, my, md⟩), 9, .row⟩]) := by
  have hg : ([g0, g1, g2, g3, g4, g5] : List (List UInt8)) = tastes := by
    obtain ⟨rfl, rfl, rfl, rfl, rfl, rfl⟩ := h; rfl
  unfold VC_impl_LongestLife
  rw [hg]
  simp only [at_iff, true_and, and_true, h, Bool.not_eq_true', Bool.not_eq_false']
  refine ⟨fun h => retG_llgno (llR_no h).1 (by rw [(llR_no h).1]; rfl) (llR_no h).2 h, fun hm => ⟨by simp [llW], ⟨hm, by omega, by omega⟩, fun i hi => ⟨fun hlt => ?_, fun hge => ?_⟩⟩⟩
  · have hlt := of_decide_eq_true hlt
    obtain ⟨s1, s2, s3, s4, s5⟩ := ll_step hi hlt
    have hs := ll_succ ⟨mw, mh, mr, mn, mx, my, md⟩ 0 s5
    have hl := ll_len ⟨mw, mh, mr, mn, mx, my, md⟩ 0 i.toNat (by omega)
    have h0 := hi.2.1
    have ha : askB (tastes.getD i.toNat []) ⟨mw, mh, mr, mn, mx, my, md⟩ = true := by unfold askB; rw [hm, taste_at s5]; rfl
    rw [s3, s4, hs, (ask_yes ha).1, runes_len]
    unfold llStep
    refine ⟨⟨h0, by omega⟩, fun hg => ⟨fun _ => ⟨⟨⟨by simp, by simp⟩, by omega, by omega⟩, ?_, s3 ▸ s1, s3 ▸ s2⟩, fun hx => ?_⟩, fun hg => ⟨fun he => ⟨⟨⟨by omega, by simp⟩, by omega, by omega⟩, ?_, s3 ▸ s1, s3 ▸ s2⟩, fun he => ⟨?_, s3 ▸ s1, s3 ▸ s2⟩⟩⟩
    · rw [hg]; simp
    · simp at hx
    · rw [hg, he]; simp
    · rw [hg, he]; simp
  · have hge := of_decide_eq_false hge
    obtain ⟨_, h0, h1⟩ := hi
    rw [show i.toNat = 6 by omega, (llR_yes hm).1, (llR_yes hm).2]
    exact retG_llg rfl rfl hm
theorem llR_len (m : Wo) : (llR m).length ≤ 2000000 := by
  unfold llR
  cases womB m
  · simp
  · have := ll_len m 0 6 (by omega)
    simp only [cond_true]; omega
end Go.Vi
