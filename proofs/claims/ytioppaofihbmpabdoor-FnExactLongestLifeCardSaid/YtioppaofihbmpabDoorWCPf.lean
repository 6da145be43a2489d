/- Worms: the conditions of lives hold. -/
import Derived.Test.YtioppaofihbmpabDoorWCVc
import Derived.Test.YtioppaofihbmpabDoorWCSpec
namespace Go.Vi
set_option linter.unusedSimpArgs false
theorem iter_succ (t : List UInt8) (k : Nat) (m : Wo) : iterW t (k + 1) m = nxtW t (iterW t k m) := rfl
theorem meals_succ (t : List UInt8) (m : Wo) (k : Nat) : mealsW t m (k + 1) = mealsW t m k ++ [signW t (iterW t k m)] := by
  unfold mealsW; rw [List.range_succ, List.map_append]; rfl
theorem runes_succ (t : List UInt8) (m : Wo) (k : Nat) : runesW t m (k + 1) = runesW t m k ++ [((signW t (iterW t k m)).toNat : Int)] := by
  unfold runesW; rw [List.range_succ, List.map_append]; rfl
theorem track_succ (t : List UInt8) (m : Wo) (k : Nat) : trackW t m (k + 1) = trackW t m k ++ [nodeW (iterW t (k + 1) m)] := by
  unfold trackW; rw [List.range_succ, List.map_append]; rfl
theorem meals_len (t : List UInt8) (m : Wo) (k : Nat) : (mealsW t m k).length = k := by simp [mealsW]
theorem runes_len (t : List UInt8) (m : Wo) (k : Nat) : (runesW t m k).length = k := by simp [runesW]
theorem track_len (t : List UInt8) (m : Wo) (k : Nat) : (trackW t m k).length = k + 1 := by simp [trackW]
theorem eat_live {t : List UInt8} {m : Wo} (h : liveW t m = true) : eatS m t = [signW t m] := by
  unfold liveW at h
  unfold eatS signW
  cases hf : findW m t with
  | none => rw [hf] at h; cases h
  | some s => rfl
theorem goS_live {t : List UInt8} {m : Wo} (hm : womB m = true) (h : liveW t m = true) : goS (crOf m) t = ((signW t m).toNat : Int) := by
  unfold liveW at h
  unfold goS signW
  rw [find_of hm]
  cases hf : findW m t with
  | none => rw [hf] at h; cases h
  | some s => rfl
theorem nxt_dead {t : List UInt8} {m : Wo} (h : liveW t m = false) : nxtW t m = m := by
  unfold liveW at h
  unfold nxtW
  cases hf : findW m t with
  | none => rfl
  | some s => rw [hf] at h; cases h
theorem cnt_mid {l : List UInt8} {i : Nat} (h : i < l.length) (h1 : l.getD i 0 = 49) : (l.take i ++ [48] ++ l.drop (i + 1)).countP (· == 49) + 1 = l.countP (· == 49) := by
  have e : l = l.take i ++ [49] ++ l.drop (i + 1) := by
    have hg : l[i] = 49 := by rw [List.getD_eq_getElem?_getD, List.getElem?_eq_getElem h] at h1; simpa using h1
    rw [← hg, ← List.take_succ_eq_append_getElem h, List.take_append_drop]
  have e2 : l.countP (· == 49) = (l.take i).countP (· == 49) + 1 + (l.drop (i + 1)).countP (· == 49) := by
    conv => lhs; rw [e]
    simp only [List.countP_append, List.countP_singleton]
    rfl
  rw [e2]
  simp only [List.countP_append, List.countP_singleton]
  have : (if ((48 : UInt8) == 49) = true then 1 else 0) = 0 := rfl
  omega
theorem ones_set {m : Wo} (hm : womB m = true) {x y q : Int} (hx : 0 ≤ x ∧ x ≤ m.w - 1) (hy : 0 ≤ y ∧ y ≤ m.h - 1) (h : hasW m x y q = true) : onesW (setW m x y q [48]) + 1 = onesW m := by
  have hi := (ixW_bd hm hx hy q).2
  unfold hasW at h
  unfold onesW setW
  cases hd : dnB q with
  | true =>
    rw [hd] at h
    simp only [cond_true, beq_iff_eq] at h ⊢
    have := cnt_mid hi.2.1 h
    omega
  | false =>
    rw [hd] at h
    simp only [cond_false, beq_iff_eq] at h ⊢
    have := cnt_mid hi.1 h
    omega
theorem ones_nxt {t : List UInt8} {m : Wo} (hm : womB m = true) (h : liveW t m = true) : onesW (nxtW t m) + 1 = onesW m := by
  unfold liveW at h
  unfold nxtW
  cases hf : findW m t with
  | none => rw [hf] at h; cases h
  | some s =>
    have hp := List.find?_some hf
    obtain ⟨_, _, h3, h4, _⟩ := wom_facts hm
    exact ones_set hm h3 h4 hp
theorem ones_bd {m : Wo} (hm : womB m = true) : onesW m ≤ 72 := by
  have hl := wom_len hm
  have h1 := List.countP_le_length (p := (· == (49 : UInt8))) (l := m.r)
  have h2 := List.countP_le_length (p := (· == (49 : UInt8))) (l := m.n)
  unfold onesW
  omega
theorem ones_iter {t : List UInt8} {m : Wo} (hm : womB m = true) : ∀ {k : Nat}, allL t k m = true → onesW (iterW t k m) + k = onesW m
  | 0, _ => rfl
  | k + 1, h => by
    simp only [allL, Bool.and_eq_true] at h
    have h1 := ones_iter hm h.1
    have h2 := ones_nxt (wom_iter hm t k) h.2
    rw [iter_succ]
    omega
theorem die_eq {t : List UInt8} {m : Wo} : ∀ (f j k : Nat), j ≤ k → k < j + f → allL t k m = true → liveW t (iterW t k m) = false → dieF t m f j = k
  | 0, j, k, h1, h2, _, _ => by omega
  | f + 1, j, k, h1, h2, ha, hd => by
    rw [dieF]
    by_cases e : j = k
    · subst e; rw [hd]; rfl
    · have := allL_le (j := j + 1) (by omega) ha
      simp only [allL, Bool.and_eq_true] at this
      rw [this.2, cond_true]
      exact die_eq f (j + 1) k (by omega) (by omega) ha hd
theorem lif_eq {t : List UInt8} {m : Wo} {k : Nat} (h : lfInv t m k) (hd : liveW t (iterW t k m) = false) : lifK t m = k := by
  obtain ⟨hm, _, ha⟩ := h
  have h1 := ones_iter hm ha
  have h2 := ones_bd hm
  exact die_eq 73 0 k (by omega) (by omega) ha hd
theorem lf_bd {t : List UInt8} {m : Wo} {k : Nat} (h : lfInv t m k) : k ≤ 72 := by
  have h1 := ones_iter h.1 h.2.2
  have h2 := ones_bd h.1
  omega
theorem lf_step {t : List UInt8} {m : Wo} {k : Nat} (h : lfInv t m k) (hl : liveW t (iterW t k m) = true) : lfInv t m (k + 1) ∧ onesW (iterW t (k + 1) m) < onesW (iterW t k m) := by
  obtain ⟨hm, ht, ha⟩ := h
  refine ⟨⟨hm, ht, ?_⟩, ?_⟩
  · simp only [allL, ha, hl, Bool.and_self]
  · have := ones_nxt (wom_iter hm t k) hl
    rw [iter_succ]; omega
theorem node_wrap {m : Wo} (hm : womB m = true) : IntKind.wrap .i64 (IntKind.wrap .i64 (m.y * m.w) + m.x) = nodeW m := by
  obtain ⟨h1, h2, h3, h4, _⟩ := wom_facts hm
  have hb := mul_bd6 h1 h2
  have hc := cell_ix (by omega) h3 h4
  rw [wrap64_in (x := m.y * m.w) (by omega), wrap64_in (by omega)]; rfl
theorem retG_life {u m : Wo} {s r : List UInt8} {l : List Int} {n k : Nat} {b0 b1 : Blk} {e : TypeId} (hu : u = m) (hs : r = s) (hn : n = k) : retG 0 (.tup [woV m, .str s, .row 0 k]) [⟨.ints .i64 l, e, .row⟩] (.tup [woV u, .str r, .row 2 n]) [b0, b1, ⟨.ints .i64 l, e, .row⟩] := by
  subst hu; subst hs; subst hn
  unfold retG leSel leSelBy autoSel
  simp [woV, pairsL, pairsV, idPairs, pairsIn, selOf, lookN, selMem, chkB, nodupSel, hasSel, prefSel, leSt, leL, leV, nilToL, V.nilTo, selL, V.sel, Cells.selN, leMem, leCells, memUnder, underL, V.under, findSel, isNilS]
  exact trivial
theorem vc_spec_wmLife (mw mh : Int) (mr mn : List UInt8) (mx my md : Int) (t : List UInt8) (h : womB ⟨mw, mh, mr, mn, mx, my, md⟩ = true ∧ tasB t = true) : VC_spec_wmLife mw mh mr mn mx my md t
    (retG 0 (.tup [woV (iterW t (lifK t ⟨mw, mh, mr, mn, mx, my, md⟩) ⟨mw, mh, mr, mn, mx, my, md⟩), .str (mealsW t ⟨mw, mh, mr, mn, mx, my, md⟩ (lifK t ⟨mw, mh, mr, mn, mx, my, md⟩)), .row 0 (lifK t ⟨mw, mh, mr, mn, mx, my, md⟩ + 1)]) [⟨.ints .i64 (trackW t ⟨mw, mh, mr, mn, mx, my, md⟩ (lifK t ⟨mw, mh, mr, mn, mx, my, md⟩)), 3, .row⟩]) := by
  obtain ⟨hm, ht⟩ := h
  unfold VC_spec_wmLife
  simp only [at_iff, true_and, and_true, Nat.sub_self, Nat.add_sub_cancel]
  refine ⟨?_, ⟨hm, ht, rfl⟩, fun k hk => ?_⟩
  · have := node_wrap hm
    simp only at this
    rw [this]
    simp [mealsW, trackW, iterW]
  · have hw := wom_iter hm t k
    have hb := lf_bd hk
    refine ⟨⟨hw, ht⟩, fun he => ?_, fun he => ?_⟩
    · have hd := notT ((eat_nil _ _).symm.trans he)
      rw [nxt_dead hd, lif_eq hk hd]
      exact retG_life (u := iterW t k ⟨mw, mh, mr, mn, mx, my, md⟩) rfl rfl rfl
    · have hl := notF ((eat_nil _ _).symm.trans he)
      have hs := lf_step hk hl
      rw [node_wrap (wom_nxt hw t), eat_live hl]
      refine ⟨by rw [meals_len]; simp only [List.length_singleton]; omega, ⟨⟨by rw [track_len]; omega, by simp⟩, by omega, by omega⟩, ?_, hs⟩
      simp [iter_succ, meals_succ, track_succ]
theorem retG_lv {u m : Wo} {rl tl : List Int} {a b c d : Nat} {ok : Bool} {f e1 e2 : TypeId} {g : Kind} {g0 g1 g2 g3 g4 g5 : List UInt8} {b1 b2 b3 : Blk} {J : List Blk} (hu : u = m) (ha : a = c) (hb : b = d) (ho : ok = true) :
    retG 1 (.tup [.agg [.row 1 c, .row 2 d, .int .i64 m.w, .int .i64 m.h, .str m.r, .str m.n, .int .i64 m.x, .int .i64 m.y, .int .i64 m.d], .bool ok]) [⟨.vals [.str g0, .str g1, .str g2, .str g3, .str g4, .str g5], f, g⟩, ⟨.ints .i32 rl, e1, .row⟩, ⟨.ints .i64 tl, e2, .row⟩]
      (.tup [.agg [.row 4 a, .row 5 b, .int .i64 u.w, .int .i64 u.h, .str u.r, .str u.n, .int .i64 u.x, .int .i64 u.y, .int .i64 u.d], .lit true]) (⟨.vals [.str g0, .str g1, .str g2, .str g3, .str g4, .str g5], f, g⟩ :: b1 :: b2 :: b3 :: ⟨.ints .i32 rl, e1, .row⟩ :: ⟨.ints .i64 tl, e2, .row⟩ :: J) := by
  subst hu; subst ha; subst hb; subst ho
  unfold retG leSel leSelBy autoSel
  simp [pairsL, pairsV, idPairs, pairsIn, selOf, lookN, selMem, chkB, nodupSel, hasSel, prefSel, leSt, leL, leV, nilToL, V.nilTo, selL, V.sel, Cells.selN, leMem, leCells, memUnder, underL, V.under, findSel, isNilS]
  exact trivial
theorem retG_lvno {rl tl : List Int} {a b : Nat} {m : Wo} {ok : Bool} {f e1 e2 : TypeId} {g : Kind} {g0 g1 g2 g3 g4 g5 : List UInt8} {J : List Blk} (hm : m = zeroWo) (h1 : rl = []) (h2 : tl = []) (ha : a = 0) (hb : b = 0) (ho : ok = false) :
    retG 1 (.tup [.agg [.row 1 a, .row 2 b, .int .i64 m.w, .int .i64 m.h, .str m.r, .str m.n, .int .i64 m.x, .int .i64 m.y, .int .i64 m.d], .bool ok]) [⟨.vals [.str g0, .str g1, .str g2, .str g3, .str g4, .str g5], f, g⟩, ⟨.ints .i32 rl, e1, .row⟩, ⟨.ints .i64 tl, e2, .row⟩]
      (.tup [.agg [.raw (.slice none 0 0), .raw (.slice none 0 0), .int .i64 0, .int .i64 0, .str [], .str [], .int .i64 0, .int .i64 0, .int .i64 0], .lit false]) (⟨.vals [.str g0, .str g1, .str g2, .str g3, .str g4, .str g5], f, g⟩ :: J) := by
  subst hm; subst h1; subst h2; subst ha; subst hb; subst ho
  unfold retG leSel leSelBy autoSel
  simp [zeroWo, pairsL, pairsV, idPairs, pairsIn, selOf, lookN, selMem, chkB, nodupSel, hasSel, prefSel, leSt, leL, leV, nilToL, V.nilTo, isGhost, selL, V.sel, Cells.selN, Cells.none0, leMem, leCells, memUnder, underL, V.under, findSel, isNilS, Kind.isRow]
  exact trivial
theorem ask_no {t : List UInt8} {m : Wo} (h : askB t m = false) : mlR t m = [] ∧ mlS t m = [] ∧ tkR t m = [] ∧ dthW t m = zeroWo := by
  unfold mlR mlS tkR dthW; rw [h]; exact ⟨rfl, rfl, rfl, rfl⟩
theorem ask_yes {t : List UInt8} {m : Wo} (h : askB t m = true) : mlR t m = runesW t m (lifK t m) ∧ mlS t m = mealsW t m (lifK t m) ∧ tkR t m = trackW t m (lifK t m) ∧ dthW t m = iterW t (lifK t m) m := by
  unfold mlR mlS tkR dthW; rw [h]; exact ⟨rfl, rfl, rfl, rfl⟩
theorem vc_impl_lived (mw mh : Int) (mr mn : List UInt8) (mx my md : Int) (t g0 g1 g2 g3 g4 g5 : List UInt8) (h : isTs g0 g1 g2 g3 g4 g5) : VC_impl_lived mw mh mr mn mx my md t g0 g1 g2 g3 g4 g5
    (retG 1 (.tup [.agg [.row 1 (mlR t ⟨mw, mh, mr, mn, mx, my, md⟩).length, .row 2 (tkR t ⟨mw, mh, mr, mn, mx, my, md⟩).length, .int .i64 (dthW t ⟨mw, mh, mr, mn, mx, my, md⟩).w, .int .i64 (dthW t ⟨mw, mh, mr, mn, mx, my, md⟩).h, .str (dthW t ⟨mw, mh, mr, mn, mx, my, md⟩).r, .str (dthW t ⟨mw, mh, mr, mn, mx, my, md⟩).n, .int .i64 (dthW t ⟨mw, mh, mr, mn, mx, my, md⟩).x, .int .i64 (dthW t ⟨mw, mh, mr, mn, mx, my, md⟩).y, .int .i64 (dthW t ⟨mw, mh, mr, mn, mx, my, md⟩).d], .bool (askB t ⟨mw, mh, mr, mn, mx, my, md⟩)])
      [⟨.vals [.str g0, .str g1, .str g2, .str g3, .str g4, .str g5], 9, .gl 0⟩, ⟨.ints .i32 (mlR t ⟨mw, mh, mr, mn, mx, my, md⟩), 21, .row⟩, ⟨.ints .i64 (tkR t ⟨mw, mh, mr, mn, mx, my, md⟩), 3, .row⟩]) := by
  unfold VC_impl_lived
  simp only [at_iff, true_and, and_true, and_self, h, Nat.sub_self, Nat.add_sub_cancel, Bool.not_eq_true', Bool.not_eq_false']
  have no : askB t ⟨mw, mh, mr, mn, mx, my, md⟩ = false → ∀ J, retG 1 (.tup [.agg [.row 1 (mlR t ⟨mw, mh, mr, mn, mx, my, md⟩).length, .row 2 (tkR t ⟨mw, mh, mr, mn, mx, my, md⟩).length, .int .i64 (dthW t ⟨mw, mh, mr, mn, mx, my, md⟩).w, .int .i64 (dthW t ⟨mw, mh, mr, mn, mx, my, md⟩).h, .str (dthW t ⟨mw, mh, mr, mn, mx, my, md⟩).r, .str (dthW t ⟨mw, mh, mr, mn, mx, my, md⟩).n, .int .i64 (dthW t ⟨mw, mh, mr, mn, mx, my, md⟩).x, .int .i64 (dthW t ⟨mw, mh, mr, mn, mx, my, md⟩).y, .int .i64 (dthW t ⟨mw, mh, mr, mn, mx, my, md⟩).d], .bool (askB t ⟨mw, mh, mr, mn, mx, my, md⟩)])
      [⟨.vals [.str g0, .str g1, .str g2, .str g3, .str g4, .str g5], 9, .gl 0⟩, ⟨.ints .i32 (mlR t ⟨mw, mh, mr, mn, mx, my, md⟩), 21, .row⟩, ⟨.ints .i64 (tkR t ⟨mw, mh, mr, mn, mx, my, md⟩), 3, .row⟩]
      (.tup [.agg [.raw (.slice none 0 0), .raw (.slice none 0 0), .int .i64 0, .int .i64 0, .str [], .str [], .int .i64 0, .int .i64 0, .int .i64 0], .lit false]) (⟨.vals [.str g0, .str g1, .str g2, .str g3, .str g4, .str g5], 9, .gl 0⟩ :: J) := fun e J => by
    obtain ⟨e1, _, e2, e3⟩ := ask_no e
    exact retG_lvno e3 e1 e2 (by rw [e1]; rfl) (by rw [e2]; rfl) e
  refine ⟨fun hm => no (by unfold askB; rw [hm]; rfl) _, fun hm => ⟨fun ht => no (by unfold askB; rw [ht]; simp) _, fun ht => ⟨hm, (crB_iff.1 (crB_of hm)).1, ?_, ⟨hm, ht, rfl⟩, fun k hk => ?_⟩⟩⟩
  · simp [iterW, runesW, trackW, nodeW, crOf]
  · have hw := wom_iter hm t k
    have hb := lf_bd hk
    refine ⟨⟨crB_of hw, ht⟩, fun he => ⟨crB_of hw, ?_⟩, fun he => ?_⟩
    · have hd : liveW t (iterW t k ⟨mw, mh, mr, mn, mx, my, md⟩) = false := (goB_of hw t).symm.trans he
      have hk2 := lif_eq hk hd
      have hy : askB t ⟨mw, mh, mr, mn, mx, my, md⟩ = true := by unfold askB; rw [hm, ht]; rfl
      obtain ⟨e1, _, e2, e3⟩ := ask_yes hy
      rw [e1, e2, e3, hk2, wormC_of hw, runes_len, track_len]
      exact retG_lv rfl rfl rfl hy
    · have hl : liveW t (iterW t k ⟨mw, mh, mr, mn, mx, my, md⟩) = true := (goB_of hw t).symm.trans he
      have hs := lf_step hk hl
      have hwn := wom_nxt hw t
      rw [goR_of hw hl, goS_live hw hl]
      refine ⟨⟨⟨by rw [runes_len]; omega, by simp⟩, by omega, by omega⟩, (crB_iff.1 (crB_of hwn)).1, ⟨⟨by rw [track_len]; omega, by simp⟩, by omega, by omega⟩, ?_, hs⟩
      simp [iter_succ, runes_succ, track_succ, nodeW, crOf]
/-! ### the functions -/
theorem retP_li {a b : Int} {x y : Bool} (h : a = b) (hx : x = y) : retP (.tup [.int .i64 b, .bool y]) (.tup [.int .i64 a, .lit x]) := by
  subst h; subst hx
  simp [retP, leV, leL, chkB, V.under, underL]
theorem retP_ls {a b : List UInt8} {x y : Bool} (h : a = b) (hx : x = y) : retP (.tup [.str b, .bool y]) (.tup [.str a, .lit x]) := by
  subst h; subst hx
  simp [retP, leV, leL, chkB, V.under, underL]
theorem retG_ti {a b : Int} {x y : Bool} {f : TypeId} {g : Kind} {g0 g1 g2 g3 g4 g5 : List UInt8} {J : List Blk} (h : a = b) (hx : x = y) : retG 1 (.tup [.int .i64 b, .bool y]) [⟨.vals [.str g0, .str g1, .str g2, .str g3, .str g4, .str g5], f, g⟩] (.tup [.int .i64 a, .bool x]) (⟨.vals [.str g0, .str g1, .str g2, .str g3, .str g4, .str g5], f, g⟩ :: J) := by
  subst h; subst hx
  unfold retG leSel leSelBy autoSel
  simp [pairsL, pairsV, idPairs, pairsIn, selOf, lookN, selMem, chkB, nodupSel, hasSel, prefSel, leSt, leL, leV, nilToL, V.nilTo, selL, V.sel, Cells.selN, leMem, leCells, memUnder, underL, V.under]
theorem retG_ts {a b : List UInt8} {x y : Bool} {f : TypeId} {g : Kind} {g0 g1 g2 g3 g4 g5 : List UInt8} {J : List Blk} (h : a = b) (hx : x = y) : retG 1 (.tup [.str b, .bool y]) [⟨.vals [.str g0, .str g1, .str g2, .str g3, .str g4, .str g5], f, g⟩] (.tup [.str a, .bool x]) (⟨.vals [.str g0, .str g1, .str g2, .str g3, .str g4, .str g5], f, g⟩ :: J) := by
  subst h; subst hx
  unfold retG leSel leSelBy autoSel
  simp [pairsL, pairsV, idPairs, pairsIn, selOf, lookN, selMem, chkB, nodupSel, hasSel, prefSel, leSt, leL, leV, nilToL, V.nilTo, selL, V.sel, Cells.selN, leMem, leCells, memUnder, underL, V.under]
theorem ask_def {t : List UInt8} {m : Wo} : askB t m = (womB m && tasB t) := rfl
theorem vc_spec_LifeOf (mw mh : Int) (mr mn : List UInt8) (mx my md : Int) (t : List UInt8) (_ : True) : VC_spec_LifeOf mw mh mr mn mx my md t (retP (.tup [.int .i64 (mlR t ⟨mw, mh, mr, mn, mx, my, md⟩).length, .bool (askB t ⟨mw, mh, mr, mn, mx, my, md⟩)])) := by
  unfold VC_spec_LifeOf
  simp only [at_iff, true_and, Bool.not_eq_true', Bool.not_eq_false', ← ask_def]
  refine ⟨fun h => retP_li (by rw [(ask_no h).1]; rfl) h.symm, fun h => ⟨by simpa [askB] using h, retP_li (by rw [(ask_yes h).1, meals_len, runes_len]) h.symm⟩⟩
theorem vc_impl_LifeOf (mw mh : Int) (mr mn : List UInt8) (mx my md : Int) (t g0 g1 g2 g3 g4 g5 : List UInt8) (h : isTs g0 g1 g2 g3 g4 g5) : VC_impl_LifeOf mw mh mr mn mx my md t g0 g1 g2 g3 g4 g5
    (retG 1 (.tup [.int .i64 (mlR t ⟨mw, mh, mr, mn, mx, my, md⟩).length, .bool (askB t ⟨mw, mh, mr, mn, mx, my, md⟩)]) [⟨.vals [.str g0, .str g1, .str g2, .str g3, .str g4, .str g5], 9, .gl 0⟩]) := by
  unfold VC_impl_LifeOf
  exact ⟨⟨h⟩, retG_ti rfl rfl⟩
theorem vc_spec_DeathOf (mw mh : Int) (mr mn : List UInt8) (mx my md : Int) (t : List UInt8) (_ : True) : VC_spec_DeathOf mw mh mr mn mx my md t (retP (okWo (askB t ⟨mw, mh, mr, mn, mx, my, md⟩) (iterW t (lifK t ⟨mw, mh, mr, mn, mx, my, md⟩) ⟨mw, mh, mr, mn, mx, my, md⟩))) := by
  unfold VC_spec_DeathOf
  simp only [at_iff, true_and, Bool.not_eq_true', Bool.not_eq_false', ← ask_def]
  refine ⟨fun h => ?_, fun h => ⟨by simpa [askB] using h, ?_⟩⟩
  · rw [h]; exact retP_okwl (u := zeroWo) rfl rfl
  · rw [h]; exact retP_okwl (u := iterW t (lifK t ⟨mw, mh, mr, mn, mx, my, md⟩) ⟨mw, mh, mr, mn, mx, my, md⟩) rfl rfl
theorem vc_impl_DeathOf (mw mh : Int) (mr mn : List UInt8) (mx my md : Int) (t g0 g1 g2 g3 g4 g5 : List UInt8) (h : isTs g0 g1 g2 g3 g4 g5) : VC_impl_DeathOf mw mh mr mn mx my md t g0 g1 g2 g3 g4 g5
    (retG 1 (okWo (askB t ⟨mw, mh, mr, mn, mx, my, md⟩) (iterW t (lifK t ⟨mw, mh, mr, mn, mx, my, md⟩) ⟨mw, mh, mr, mn, mx, my, md⟩)) [⟨.vals [.str g0, .str g1, .str g2, .str g3, .str g4, .str g5], 9, .gl 0⟩]) := by
  unfold VC_impl_DeathOf
  exact ⟨⟨h⟩, retG_twb (u := dthW t ⟨mw, mh, mr, mn, mx, my, md⟩) rfl rfl⟩
theorem vc_spec_MealsOfWorm (mw mh : Int) (mr mn : List UInt8) (mx my md : Int) (t : List UInt8) (_ : True) : VC_spec_MealsOfWorm mw mh mr mn mx my md t (retP (.tup [.str (mlS t ⟨mw, mh, mr, mn, mx, my, md⟩), .bool (askB t ⟨mw, mh, mr, mn, mx, my, md⟩)])) := by
  unfold VC_spec_MealsOfWorm
  simp only [at_iff, true_and, Bool.not_eq_true', Bool.not_eq_false', ← ask_def]
  refine ⟨fun h => retP_ls (by rw [(ask_no h).2.1]) h.symm, fun h => ⟨by simpa [askB] using h, retP_ls (by rw [(ask_yes h).2.1]) h.symm⟩⟩
theorem sign_ascii {t : List UInt8} (ht : tasB t = true) (m : Wo) : (signW t m).toNat < 128 := by
  unfold signW
  cases hf : findW m t with
  | none => decide
  | some s => exact (tas_ascii ht).1 s (List.mem_of_find?_eq_some hf)
theorem meals_text {t : List UInt8} {m : Wo} : (mlR t m).map (fun x => UInt8.ofNat x.toNat) = mlS t m := by
  unfold mlR mlS
  cases askB t m with
  | false => rfl
  | true =>
    simp only [cond_true, runesW, mealsW, List.map_map]
    refine List.map_congr_left fun j _ => ?_
    simp
theorem vc_impl_MealsOfWorm (mw mh : Int) (mr mn : List UInt8) (mx my md : Int) (t g0 g1 g2 g3 g4 g5 : List UInt8) (h : isTs g0 g1 g2 g3 g4 g5) : VC_impl_MealsOfWorm mw mh mr mn mx my md t g0 g1 g2 g3 g4 g5
    (retG 1 (.tup [.str (mlS t ⟨mw, mh, mr, mn, mx, my, md⟩), .bool (askB t ⟨mw, mh, mr, mn, mx, my, md⟩)]) [⟨.vals [.str g0, .str g1, .str g2, .str g3, .str g4, .str g5], 9, .gl 0⟩]) := by
  unfold VC_impl_MealsOfWorm
  refine ⟨⟨h⟩, ⟨Nat.le_refl _, fun x hx => ?_⟩, ?_⟩
  · cases ha : askB t ⟨mw, mh, mr, mn, mx, my, md⟩ with
    | false => rw [(ask_no ha).1] at hx; cases hx
    | true =>
      rw [(ask_yes ha).1] at hx
      unfold runesW at hx
      obtain ⟨j, _, rfl⟩ := List.mem_map.1 hx
      have ht : tasB t = true := by simp only [askB, Bool.and_eq_true] at ha; exact ha.2
      have := sign_ascii ht (iterW t j ⟨mw, mh, mr, mn, mx, my, md⟩)
      omega
  · rw [List.take_length, meals_text]
    exact retG_ts rfl rfl
theorem retG_tk {l : List Int} {n m : Nat} {ok : Bool} {b0 : Blk} {e : TypeId} {J : List Blk} (hn : n = m) (ho : ok = true) : retG 0 (.tup [.row 0 m, .bool ok]) [⟨.ints .i64 l, e, .row⟩] (.tup [.row 1 n, .lit true]) (b0 :: ⟨.ints .i64 l, e, .row⟩ :: J) := by
  subst hn; subst ho
  unfold retG leSel leSelBy autoSel
  simp [pairsL, pairsV, idPairs, pairsIn, selOf, lookN, selMem, chkB, nodupSel, hasSel, prefSel, leSt, leL, leV, nilToL, V.nilTo, isNilS, findSel, selL, V.sel, Cells.selN, leMem, leCells, memUnder, underL, V.under]
  exact trivial
theorem retG_tkno {l : List Int} {m : Nat} {ok : Bool} {b0 : Blk} {e : TypeId} {J : List Blk} (hl : l = []) (hn : m = 0) (ho : ok = false) : retG 0 (.tup [.row 0 m, .bool ok]) [⟨.ints .i64 l, e, .row⟩] (.tup [.raw (.slice none 0 0), .lit false]) (b0 :: J) := by
  subst hl; subst hn; subst ho
  unfold retG leSel leSelBy autoSel
  simp [pairsL, pairsV, idPairs, pairsIn, selOf, lookN, selMem, chkB, nodupSel, prefSel, leSt, leL, leV, nilToL, V.nilTo, isNilS, isGhost, selL, V.sel, Cells.none0, leMem, leCells, memUnder, underL, V.under, Kind.isRow]
  exact trivial
theorem vc_spec_TrackOfWorm (mw mh : Int) (mr mn : List UInt8) (mx my md : Int) (t : List UInt8) (_ : True) : VC_spec_TrackOfWorm mw mh mr mn mx my md t
    (retG 0 (.tup [.row 0 (tkR t ⟨mw, mh, mr, mn, mx, my, md⟩).length, .bool (askB t ⟨mw, mh, mr, mn, mx, my, md⟩)]) [⟨.ints .i64 (tkR t ⟨mw, mh, mr, mn, mx, my, md⟩), 3, .row⟩]) := by
  unfold VC_spec_TrackOfWorm
  simp only [at_iff, true_and, Bool.not_eq_true', Bool.not_eq_false', ← ask_def]
  refine ⟨fun h => retG_tkno (ask_no h).2.2.1 (by rw [(ask_no h).2.2.1]; rfl) h, fun h => ⟨by simpa [askB] using h, ?_⟩⟩
  rw [(ask_yes h).2.2.1]
  exact retG_tk (by rw [track_len]) h
theorem retG_tt {l : List Int} {n : Nat} {ok : Bool} {b1 b2 : Blk} {e f : TypeId} {g : Kind} {g0 g1 g2 g3 g4 g5 : List UInt8} {J : List Blk} : retG 1 (.tup [.row 1 n, .bool ok]) [⟨.vals [.str g0, .str g1, .str g2, .str g3, .str g4, .str g5], f, g⟩, ⟨.ints .i64 l, e, .row⟩] (.tup [.row 3 n, .bool ok]) (⟨.vals [.str g0, .str g1, .str g2, .str g3, .str g4, .str g5], f, g⟩ :: b1 :: b2 :: ⟨.ints .i64 l, e, .row⟩ :: J) := by
  unfold retG leSel leSelBy autoSel
  simp [pairsL, pairsV, idPairs, pairsIn, selOf, lookN, selMem, chkB, nodupSel, hasSel, prefSel, leSt, leL, leV, nilToL, V.nilTo, isNilS, findSel, selL, V.sel, Cells.selN, leMem, leCells, memUnder, underL, V.under]
  exact trivial
theorem vc_impl_TrackOfWorm (mw mh : Int) (mr mn : List UInt8) (mx my md : Int) (t g0 g1 g2 g3 g4 g5 : List UInt8) (h : isTs g0 g1 g2 g3 g4 g5) : VC_impl_TrackOfWorm mw mh mr mn mx my md t g0 g1 g2 g3 g4 g5
    (retG 1 (.tup [.row 1 (tkR t ⟨mw, mh, mr, mn, mx, my, md⟩).length, .bool (askB t ⟨mw, mh, mr, mn, mx, my, md⟩)]) [⟨.vals [.str g0, .str g1, .str g2, .str g3, .str g4, .str g5], 9, .gl 0⟩, ⟨.ints .i64 (tkR t ⟨mw, mh, mr, mn, mx, my, md⟩), 3, .row⟩]) := by
  unfold VC_impl_TrackOfWorm
  exact ⟨⟨h⟩, retG_tt⟩
theorem dieF_le (t : List UInt8) (m : Wo) : ∀ f j : Nat, dieF t m f j ≤ j + f
  | 0, j => Nat.le_refl _
  | f + 1, j => by
    rw [dieF]
    cases liveW t (iterW t j m)
    · simp
    · have := dieF_le t m f (j + 1)
      simp only [cond_true]
      omega
theorem tk_len (t : List UInt8) (m : Wo) : (tkR t m).length ≤ 2000000 := by
  have h : lifK t m ≤ 73 := by have := dieF_le t m 73 0; unfold lifK; omega
  unfold tkR
  cases askB t m
  · simp
  · simp only [cond_true, track_len]; omega
end Go.Vi
