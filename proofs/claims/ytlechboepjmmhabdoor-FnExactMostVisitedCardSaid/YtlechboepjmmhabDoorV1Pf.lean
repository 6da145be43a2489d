/- The visits' conditions hold. -/
import Derived.Test.YtlechboepjmmhabDoorV1Vc
import Derived.Test.YtlechboepjmmhabDoorV1Spec
namespace Go.Vi
/-! ### tracks -/
theorem likeW_refl (w : Wd) : likeW w w := ⟨rfl, rfl, rfl⟩
theorem likeW_step {w0 v : Wd} (h : likeW w0 v) (hg : goodB v = true) : likeW w0 (stepW v) := by
  obtain ⟨h1, h2, h3⟩ := h
  have hl : (stepW v).w = v.w ∧ (stepW v).h = v.h := ⟨rfl, rfl⟩
  refine ⟨h1, h2, ?_⟩
  have e1 := (good_bd hg).2.2.2.2.2.1
  have e2 := (good_bd (good_step hg)).2.2.2.2.2.1
  rw [hl.1, hl.2] at e2
  omega
theorem ixW_wr {v : Wd} (hg : goodB v = true) : IntKind.wrap .i64 (IntKind.wrap .i64 (v.y * v.w) + v.x) = ixW v ∧ 0 ≤ ixW v ∧ ixW v < (v.c.length : Int) := by
  have hb := cell_bd hg (good_has hg)
  obtain ⟨h1, h2, h3, h4, h5, _⟩ := hb
  have hn := (good_bd hg).1
  rw [wrap64_in (x := v.y * v.w) (by omega), wrap64_in (by omega)]
  exact ⟨rfl, h3, h4⟩
theorem trkF_len : ∀ (n : Nat) (w : Wd), (trkF n w).length = n
  | 0, _ => rfl
  | n + 1, w => by simp [trkF, trkF_len n (stepW w)]
theorem iterW_succ (n : Nat) (w : Wd) : iterW stepW (n + 1) w = iterW stepW n (stepW w) := rfl
theorem trkF_get : ∀ (n : Nat) (w : Wd) (k : Nat), k < n → (trkF n w)[k]? = some (ixW (iterW stepW k w))
  | 0, _, k, h => by omega
  | n + 1, w, 0, _ => rfl
  | n + 1, w, k + 1, h => by
    simp only [trkF, List.getElem?_cons_succ]
    rw [trkF_get n (stepW w) k (by omega), iterW_succ]
theorem good_iter {w : Wd} (hg : goodB w = true) : ∀ n : Nat, goodB (iterW stepW n w) = true ∧ likeW w (iterW stepW n w)
  | 0 => ⟨hg, likeW_refl w⟩
  | n + 1 => by
    have := good_iter hg n
    rw [iterW_out]
    exact ⟨good_step this.1, likeW_step this.2 this.1⟩
theorem trkF_bd {w : Wd} (hg : goodB w = true) {n : Nat} {x : Int} (hx : x ∈ trkF n w) : 0 ≤ x ∧ x < (w.c.length : Int) := by
  obtain ⟨k, hk⟩ := List.mem_iff_getElem?.1 hx
  have hl := (List.getElem?_eq_some_iff.1 hk).1
  rw [trkF_len] at hl
  rw [trkF_get n w k hl] at hk
  injection hk with hk
  obtain ⟨g1, g2⟩ := good_iter hg k
  have := ixW_wr g1
  rw [← hk]
  have := g2.2.2
  omega
theorem getD_mem {l : List Int} {i : Nat} (h : i < l.length) : l.getD i 0 ∈ l := by
  rw [List.getD_eq_getElem?_getD, List.getElem?_eq_getElem h]
  exact List.getElem_mem h
/-! ### visits -/
theorem bump_len (l : List Int) (i : Int) : (bump l i).length = l.length := by simp [bump]
theorem bump_bd {l : List Int} {n : Nat} {m i : Int} (h : visB l n m) (_ : 0 ≤ m) (hi : i.toNat < n) : visB (bump l i) n (m + 1) := by
  obtain ⟨h1, h2⟩ := h
  refine ⟨by rw [bump_len, h1], fun x hx => ?_⟩
  unfold bump at hx
  rcases List.mem_or_eq_of_mem_set hx with hx | hx
  · have := h2 x hx
    omega
  · have := h2 _ (getD_mem (l := l) (i := i.toNat) (by omega))
    omega
theorem visB_zero (n : Nat) : visB (List.replicate n 0) n 0 := by
  refine ⟨by simp, fun x hx => ?_⟩
  have := List.eq_of_mem_replicate hx
  omega
theorem fold_bd {n : Nat} : ∀ (t : List Int) (l : List Int) (m : Int), 0 ≤ m → visB l n m → (∀ x ∈ t, x.toNat < n) → visB (t.foldl bump l) n (m + t.length)
  | [], _, _, _, h, _ => by simpa using h
  | x :: t, l, m, hm, h, ht => by
    have := fold_bd t (bump l x) (m + 1) (by omega) (bump_bd h hm (ht x (by simp))) fun y hy => ht y (by simp [hy])
    simp only [List.foldl_cons, List.length_cons]
    rw [show m + ((t.length + 1 : Nat) : Int) = m + 1 + (t.length : Int) by omega]
    exact this
theorem visF_bd {w : Wd} (hg : goodB w = true) (n : Nat) : visB (visF n w) w.c.length n := by
  have := fold_bd (n := w.c.length) (trkF n w) (zrow w) 0 (Int.le_refl _) (visB_zero _) fun x hx => by
    have := trkF_bd hg hx
    omega
  rw [trkF_len, Int.zero_add] at this
  exact this
theorem wr_bump {l : List Int} {n : Nat} {m i : Int} (h : visB l n m) (hm : m ≤ 100000) (hi : i.toNat < n) : l.set i.toNat (IntKind.wrap .i64 (l.getD i.toNat 0 + 1)) = bump l i := by
  have := h.2 _ (getD_mem (l := l) (i := i.toNat) (by rw [h.1]; exact hi))
  rw [wrap64_in (by omega)]
  rfl
/-! ### ends -/
theorem retG_rowB {b0 b1 : Blk} {e : TypeId} {l l' : List Int} {n m : Nat} {rest : List Blk} (hl : l' = l) (hn : n = m) (hb : b1 = ⟨.ints .i64 l', e, .row⟩) : retG 0 (.row 0 m) [⟨.ints .i64 l, e, .row⟩] (.row 1 n) (b0 :: b1 :: rest) := by
  subst hl; subst hn; subst hb
  unfold retG leSel leSelBy autoSel
  simp [pairsL, pairsV, idPairs, pairsIn, selOf, lookN, selMem, chkB, nodupSel, hasSel, prefSel, leSt, leL, nilToL, V.nilTo, isNilS, findSel, selL, V.sel, Cells.selN, leMem, leCells, memUnder, underL, V.under]
  exact ⟨by simp [leV], trivial⟩
theorem retG_nilB {b0 : Blk} {e : TypeId} {l : List Int} {n : Nat} {ok : Bool} {rest : List Blk} (hl : l = []) (hn : n = 0) (hok : ok = false) : retG 0 (.tup [.row 0 n, .bool ok]) [⟨.ints .i64 l, e, .row⟩] (.tup [.raw (.slice none 0 0), .lit false]) (b0 :: rest) := by
  subst hl; subst hn; subst hok
  unfold retG leSel leSelBy autoSel
  simp [pairsL, pairsV, idPairs, pairsIn, selOf, lookN, selMem, chkB, nodupSel, prefSel, leSt, leL, leV, nilToL, V.nilTo, isNilS, isGhost, selL, V.sel, Cells.none0, leMem, leCells, memUnder, underL, V.under, Kind.isRow]
  exact trivial
theorem retG_okB {b0 b1 : Blk} {e : TypeId} {l l' : List Int} {n m : Nat} {ok : Bool} {rest : List Blk} (hl : l' = l) (hn : n = m) (hok : ok = true) (hb : b1 = ⟨.ints .i64 l', e, .row⟩) : retG 0 (.tup [.row 0 m, .bool ok]) [⟨.ints .i64 l, e, .row⟩] (.tup [.row 1 n, .lit true]) (b0 :: b1 :: rest) := by
  subst hl; subst hn; subst hok; subst hb
  unfold retG leSel leSelBy autoSel
  simp [pairsL, pairsV, idPairs, pairsIn, selOf, lookN, selMem, chkB, nodupSel, hasSel, prefSel, leSt, leL, leV, nilToL, V.nilTo, isNilS, findSel, selL, V.sel, Cells.selN, leMem, leCells, memUnder, underL, V.under]
  exact trivial
theorem retG_okC {b0 b1 b2 : Blk} {e : TypeId} {l l' : List Int} {n m : Nat} {ok : Bool} {rest : List Blk} (hl : l' = l) (hn : n = m) (hok : ok = true) (hb : b2 = ⟨.ints .i64 l', e, .row⟩) : retG 0 (.tup [.row 0 m, .bool ok]) [⟨.ints .i64 l, e, .row⟩] (.tup [.row 2 n, .lit true]) (b0 :: b1 :: b2 :: rest) := by
  subst hl; subst hn; subst hok; subst hb
  unfold retG leSel leSelBy autoSel
  simp [pairsL, pairsV, idPairs, pairsIn, selOf, lookN, selMem, chkB, nodupSel, hasSel, prefSel, leSt, leL, leV, nilToL, V.nilTo, isNilS, findSel, selL, V.sel, Cells.selN, leMem, leCells, memUnder, underL, V.under]
  exact trivial
theorem retP_ok2 {n k : Int} {b : Bool} (h : k = n) (hb : b = true) : retP (.tup [.int .i64 n, .bool b]) (.tup [.int .i64 k, .lit true]) := by
  subst h; subst hb
  simp [retP, leV, leL, chkB, V.under, underL]
theorem retP_no2 {n : Int} {b : Bool} (h : n = 0) (hb : b = false) : retP (.tup [.int .i64 n, .bool b]) (.tup [.int .i64 0, .lit false]) := by
  subst h; subst hb
  simp [retP, leV, leL, chkB, V.under, underL]
/-! ### the functions -/
theorem vc_spec_woSteps (wr : List UInt8) (ww wh : Int) (wc : List UInt8) (wx wy wd steps : Int) (_ : True) : VC_spec_woSteps wr ww wh wc wx wy wd steps (retP (.bool (goodB ⟨wr, ww, wh, wc, wx, wy, wd⟩ && inB steps 0 3000))) := by
  unfold VC_spec_woSteps
  refine ⟨⟨trivial⟩, fun hg => ⟨⟨trivial⟩, ?_⟩, fun hg => ?_⟩
  · rw [hg, retP_bool, Bool.true_and]
  · rw [hg, retP_lit]; rfl
theorem vis_next {s0 : Int} {w0 : Wd} {s : Int} {v : Wd} {l : List Int} (h : visInv s0 w0 ⟨s, v, l⟩) (hs : 0 < s) : visInv s0 w0 ⟨s - 1, stepW v, bump l (ixW v)⟩ := by
  obtain ⟨h1, h2, h3, h4, h5, h6⟩ := h
  simp only at h1 h2 h3 h4 h5 h6
  have hx := ixW_wr (v := v) h1
  have hl := h2.2.2
  refine ⟨good_step h1, likeW_step h2 h1, by simp only; omega, by simp only; omega, ?_, ?_⟩
  · simp only
    rw [show s0 - (s - 1) = s0 - s + 1 by omega]
    exact bump_bd h5 (by omega) (by omega)
  · simp only
    rw [← h6, show s.toNat = (s - 1).toNat + 1 by omega]
    rfl
theorem vc_spec_loVisits (wr : List UInt8) (ww wh : Int) (wc : List UInt8) (wx wy wd steps : Int) (h : goodB ⟨wr, ww, wh, wc, wx, wy, wd⟩ = true ∧ 0 ≤ steps ∧ steps ≤ 4000) : VC_spec_loVisits wr ww wh wc wx wy wd steps
    (retG 0 (.row 0 (visF steps.toNat ⟨wr, ww, wh, wc, wx, wy, wd⟩).length) [⟨.ints .i64 (visF steps.toNat ⟨wr, ww, wh, wc, wx, wy, wd⟩), 3, .row⟩]) := by
  obtain ⟨hg, h0, h1⟩ := h
  unfold VC_spec_loVisits
  have hb := good_bd hg
  simp only at hb
  have hm := mul_bd hb.1 hb.2.1
  have hc : (wc.length : Int) = ww * wh := hb.2.2.2.2.2.1
  rw [wrap64_in (x := ww * wh) (by omega), show (ww * wh).toNat = wc.length by omega]
  refine ⟨⟨by omega, by omega, by omega⟩, by simp, ⟨hg, likeW_refl _, h0, Int.le_refl _, ?_, rfl⟩, fun a ha => ⟨fun hs => ?_, fun hs => ?_⟩⟩
  · simp only
    rw [Int.sub_self]
    exact visB_zero _
  · obtain ⟨s, v, l⟩ := a
    have hs := of_decide_eq_true hs
    simp only at hs ⊢
    have hx := ixW_wr (v := v) ha.1
    have hlk : v.c.length = wc.length := ha.2.1.2.2
    have hv := ha.2.2.2.2.1
    simp only at hv
    have hsb := ha.2.2.2.1
    simp only at hsb
    have hll : l.length = wc.length := hv.1
    rw [hx.1, wrap64_in (x := s - 1) (by omega), wr_bump hv (by omega) (by omega)]
    exact ⟨⟨by omega, by omega⟩, ⟨by omega⟩, ⟨by omega, by omega⟩, ⟨by omega⟩, ⟨ha.1⟩, by simp, ⟨vis_next ha hs, by omega⟩⟩
  · obtain ⟨s, v, l⟩ := a
    have hs := of_decide_eq_false hs
    have h3 := ha.2.2.1
    have h5 := ha.2.2.2.2.1
    have h6 := ha.2.2.2.2.2
    simp only at hs h3 h5 h6
    rw [show s.toNat = 0 by omega] at h6
    refine retG_rowB h6 ?_ rfl
    have := visF_bd hg steps.toNat
    exact this.1.symm
theorem trk_next {s0 : Int} {w0 : Wd} {s : Int} {v : Wd} {l : List Int} (h : trkInv s0 w0 ⟨s, v, l⟩) (hs : s < s0) : trkInv s0 w0 ⟨s + 1, stepW v, l ++ [ixW v]⟩ := by
  obtain ⟨h1, h2, h3, h4, h5⟩ := h
  simp only at h1 h2 h3 h4 h5
  refine ⟨good_step h1, by simp only; omega, by simp only; omega, by simp only [List.length_append, List.length_cons, List.length_nil]; omega, ?_⟩
  simp only
  rw [← h5, show (s0 - s).toNat = (s0 - (s + 1)).toNat + 1 by omega, List.append_assoc]
  rfl
theorem trk_done {s0 : Int} {w0 : Wd} {s : Int} {v : Wd} {l : List Int} (h : trkInv s0 w0 ⟨s, v, l⟩) (hs : ¬ s < s0) : l = trkF s0.toNat w0 := by
  obtain ⟨_, _, _, _, h5⟩ := h
  simp only at h5
  rw [← h5, show (s0 - s).toNat = 0 by omega]
  simp [trkF]
theorem trk_start {s0 : Int} {w : Wd} (hg : goodB w = true) (h : 0 ≤ s0) : trkInv s0 w ⟨0, w, []⟩ := ⟨hg, Int.le_refl _, h, rfl, by simp⟩
theorem take11 (x : Int) : List.take (1 * 1) [x] = [x] := rfl
theorem vc_impl_trackOf (wr : List UInt8) (ww wh : Int) (wc : List UInt8) (wx wy wd steps : Int) (h : goodB ⟨wr, ww, wh, wc, wx, wy, wd⟩ = true ∧ 0 ≤ steps ∧ steps ≤ 4000) : VC_impl_trackOf wr ww wh wc wx wy wd steps
    (retG 0 (.row 0 (trkF steps.toNat ⟨wr, ww, wh, wc, wx, wy, wd⟩).length) [⟨.ints .i64 (trkF steps.toNat ⟨wr, ww, wh, wc, wx, wy, wd⟩), 3, .row⟩]) := by
  obtain ⟨hg, h0, h1⟩ := h
  unfold VC_impl_trackOf
  refine ⟨⟨by omega, h0, by omega⟩, by simp, ⟨trk_start hg h0⟩, fun a ha => ⟨fun hs => ?_, fun hs => ?_⟩⟩
  · obtain ⟨s, v, l⟩ := a
    have hs := of_decide_eq_true hs
    simp only at hs ⊢
    have hx := ixW_wr (v := v) ha.1
    have hl := ha.2.2.2.1
    have hs0 := ha.2.1
    simp only at hl hs0
    rw [hx.1, wrap64_in (x := s + 1) (by omega), take11]
    exact ⟨⟨⟨by omega, by simp⟩, by omega, by omega⟩, ⟨ha.1⟩, by simp, ⟨trk_next ha hs, by omega⟩⟩
  · obtain ⟨s, v, l⟩ := a
    have e := trk_done ha (of_decide_eq_false hs)
    exact retG_rowB e (by rw [e]) rfl
theorem vsAt_succ {t : List Int} {n i : Nat} (h : i < t.length) : vsAt t n (i + 1) = bump (vsAt t n i) (t.getD i 0) := by
  unfold vsAt
  rw [List.take_succ_eq_append_getElem h, List.foldl_append]
  simp [List.getD_eq_getElem?_getD, List.getElem?_eq_getElem h]
theorem vc_impl_visitsOf (wr : List UInt8) (ww wh : Int) (wc : List UInt8) (wx wy wd steps : Int) (h : goodB ⟨wr, ww, wh, wc, wx, wy, wd⟩ = true ∧ 0 ≤ steps ∧ steps ≤ 4000) : VC_impl_visitsOf wr ww wh wc wx wy wd steps
    (retG 0 (.row 0 (visF steps.toNat ⟨wr, ww, wh, wc, wx, wy, wd⟩).length) [⟨.ints .i64 (visF steps.toNat ⟨wr, ww, wh, wc, wx, wy, wd⟩), 3, .row⟩]) := by
  have hgs := h
  obtain ⟨hg, h0, h1⟩ := h
  unfold VC_impl_visitsOf
  have h81 := (good_nine hg).2.2.2.2.2.2
  simp only at h81
  have htb : ∀ x ∈ trkF steps.toNat ⟨wr, ww, wh, wc, wx, wy, wd⟩, 0 ≤ x ∧ x < (wc.length : Int) := fun x hx => trkF_bd hg hx
  have hlen := trkF_len steps.toNat ⟨wr, ww, wh, wc, wx, wy, wd⟩
  have hvis : visF steps.toNat ⟨wr, ww, wh, wc, wx, wy, wd⟩ = vsAt (trkF steps.toNat ⟨wr, ww, wh, wc, wx, wy, wd⟩) wc.length (trkF steps.toNat ⟨wr, ww, wh, wc, wx, wy, wd⟩).length := by
    unfold vsAt visF zrow
    rw [List.take_length]
  have hvb := (visF_bd hg steps.toNat).1
  simp only at hvb
  rw [hvb]
  rw [hvis]
  generalize trkF steps.toNat ⟨wr, ww, wh, wc, wx, wy, wd⟩ = t at htb hlen
  refine ⟨⟨by omega, by omega, by omega⟩, ⟨hgs⟩, by simp [vsAt], ⟨Int.le_refl _, by omega, visB_zero _⟩, fun i hi => ⟨fun hc => ?_, fun hc => ?_⟩⟩
  · have hc := of_decide_eq_true hc
    obtain ⟨g1, g2, g3⟩ := hi
    have hil : i.toNat < t.length := by omega
    have hx := htb _ (getD_mem hil)
    have hvl := g3.1
    rw [wrap64_in (x := i + 1) (by omega), wr_bump g3 (by omega) (by omega), show (i + 1).toNat = i.toNat + 1 by omega, ← vsAt_succ hil]
    refine ⟨⟨g1, hc⟩, ⟨hil⟩, ⟨hx⟩, ⟨by omega⟩, ⟨hx⟩, ⟨by omega⟩, by simp, ⟨⟨by omega, by omega, ?_⟩, by omega⟩⟩
    rw [show (i + 1).toNat = i.toNat + 1 by omega, vsAt_succ hil]
    exact bump_bd g3 g1 (by omega)
  · have hc := of_decide_eq_false hc
    obtain ⟨g1, g2, g3⟩ := hi
    refine retG_rowB ?_ rfl rfl
    rw [show i.toNat = t.length by omega]
/-! ### the library's -/
theorem retG_int1 {q r : Int} {a b : List Int} {e : TypeId} (h : q = r) (hb : b = a) : retG 1 (.int .i64 r) [⟨.ints .i64 a, e, .row⟩] (.int .i64 q) [⟨.ints .i64 b, e, .row⟩] := by
  subst h; subst hb
  unfold retG leSel leSelBy autoSel
  simp [pairsL, pairsV, idPairs, pairsIn, selOf, lookN, selMem, chkB, nodupSel, hasSel, prefSel, leSt, leL, leV, nilToL, V.nilTo, selL, V.sel, Cells.selN, leMem, leCells, memUnder, underL, V.under]
theorem take_succ_int {l : List Int} {i : Nat} (h : i < l.length) : l.take (i + 1) = l.take i ++ [l.getD i 0] := by
  rw [List.take_succ_eq_append_getElem h]
  simp [List.getD_eq_getElem?_getD, List.getElem?_eq_getElem h]
theorem idxF_ge (v : Int) : ∀ l : List Int, -1 ≤ idxF v l
  | [] => by simp [idxF]
  | x :: r => by
    have := idxF_ge v r
    simp only [idxF]
    cases h1 : v == x <;> cases h2 : decide (idxF v r < 0) <;> simp only [cond_true, cond_false] <;> omega
theorem idxF_none {v : Int} : ∀ {l : List Int}, idxF v l = -1 ↔ v ∉ l
  | [] => by simp [idxF]
  | x :: r => by
    have hg := idxF_ge v r
    have ih := idxF_none (v := v) (l := r)
    simp only [idxF, List.mem_cons, not_or]
    cases h1 : v == x
    · have hne : v ≠ x := by simpa using h1
      simp only [cond_false]
      by_cases h2 : idxF v r < 0
      · have : idxF v r = -1 := by omega
        simp only [h2, decide_true, cond_true]
        exact ⟨fun _ => ⟨hne, ih.1 this⟩, fun _ => trivial⟩
      · simp only [h2, decide_false, cond_false]
        refine ⟨fun h => by omega, fun h => ?_⟩
        have := ih.2 h.2
        omega
    · have he : v = x := by simpa using h1
      simp only [cond_true]
      exact ⟨fun h => by omega, fun h => absurd he h.1⟩
/-- The first place. -/
theorem idxF_at {v : Int} : ∀ {l : List Int} {i : Nat}, (∀ j : Nat, j < i → l.getD j 0 ≠ v) → i < l.length → l.getD i 0 = v → idxF v l = i
  | [], i, _, h, _ => by simp at h
  | x :: r, 0, _, _, h => by
    have : v = x := by simpa using h.symm
    simp [idxF, this]
  | x :: r, i + 1, hj, hl, h => by
    have hne : v ≠ x := fun e => hj 0 (by omega) (by simpa using e.symm)
    have ih := idxF_at (v := v) (l := r) (i := i) (fun j hji => by simpa using hj (j + 1) (by omega)) (by simpa using hl) (by simpa using h)
    have h1 : (v == x) = false := by simpa using hne
    simp only [idxF, h1, cond_false]
    rw [ih, show decide ((i : Int) < 0) = false from decide_eq_false (by omega)]
    simp
theorem idxF_take {v : Int} {l : List Int} {i : Nat} (hn : idxF v (l.take i) = -1) (hl : i < l.length) (h : v = l.getD i 0) : idxF v l = i := by
  refine idxF_at (fun j hj e => ?_) hl h.symm
  refine idxF_none.1 hn ?_
  rw [← e]
  have hjl : j < (l.take i).length := by rw [List.length_take]; omega
  have := getD_mem hjl
  rw [List.getD_eq_getElem?_getD, List.getElem?_take, if_pos hj, ← List.getD_eq_getElem?_getD] at this
  exact this
theorem vc_slices_Index_int_int (v : Int) (n : Nat) (a : List Int) (h : n = a.length ∧ n ≤ 10000) : VC_slices_Index_int_int v n a (retG 1 (.int .i64 (idxF v a)) [⟨.ints .i64 a, 3, .row⟩]) := by
  obtain ⟨rfl, h1⟩ := h
  unfold VC_slices_Index_int_int
  refine ⟨by simp, ⟨Int.le_refl _, by omega, h1, by simp [idxF]⟩, fun i hi => ⟨fun hc => ?_, fun hc => ?_⟩⟩
  · have hc := of_decide_eq_true hc
    obtain ⟨g1, g2, _, g3⟩ := hi
    have hl : i.toNat < a.length := by omega
    rw [wrap64_in (x := i + 1) (by omega)]
    refine ⟨⟨g1, hc⟩, ⟨hl⟩, fun he => retG_int1 ?_ rfl, fun hne => ⟨by simp, ⟨⟨by omega, by omega, h1, ?_⟩, by omega⟩⟩⟩
    · rw [idxF_take g3 hl (by simpa using he)]
      omega
    · show idxF v (a.take (i + 1).toNat) = -1
      rw [show (i + 1).toNat = i.toNat + 1 by omega, idxF_none, take_succ_int hl]
      have := idxF_none.1 g3
      simp only [List.mem_append, List.mem_singleton, not_or]
      exact ⟨this, by simpa using hne⟩
  · have hc := of_decide_eq_false hc
    obtain ⟨g1, g2, _, g3⟩ := hi
    rw [List.take_of_length_le (by omega)] at g3
    exact retG_int1 g3.symm rfl
theorem maxL_snoc {l : List Int} (h : 1 ≤ l.length) (x : Int) : maxL (l ++ [x]) = if maxL l < x then x else maxL l := by
  match l, h with
  | y :: r, _ =>
    show List.foldl (fun a b : Int => if a < b then b else a) y (r ++ [x]) = _
    rw [List.foldl_append]
    rfl
theorem vc_slices_Max_int_int (n : Nat) (a : List Int) (h : n = a.length ∧ n ≤ 10000 ∧ 1 ≤ n) : VC_slices_Max_int_int n a (retG 1 (.int .i64 (maxL a)) [⟨.ints .i64 a, 3, .row⟩]) := by
  obtain ⟨rfl, h1, h2⟩ := h
  unfold VC_slices_Max_int_int
  refine ⟨fun h => ?_, fun _ => ⟨⟨by omega, by omega⟩, ⟨by show 0 < a.length; omega⟩, ?_, ⟨by omega, by omega, h1, by omega⟩, fun i hi => ⟨fun hc => ?_, fun hc => ?_⟩⟩⟩
  · have := of_decide_eq_true h
    omega
  · match a, h2 with
    | x :: r, _ => simp [maxL]
  · have hc := of_decide_eq_true hc
    obtain ⟨g1, g2, _, g3⟩ := hi
    have hl : i.toNat < a.length := by omega
    rw [wrap64_in (x := i + 1) (by omega)]
    refine ⟨⟨g1, hc⟩, ⟨hl⟩, ?_, ⟨⟨by omega, by omega, h1, by omega⟩, by omega⟩⟩
    rw [show (i + 1).toNat = i.toNat + 1 by omega, take_succ_int hl, maxL_snoc (by rw [List.length_take]; omega)]
    simp
  · have hc := of_decide_eq_false hc
    obtain ⟨g1, g2, _, g3⟩ := hi
    refine retG_int1 ?_ rfl
    rw [List.take_of_length_le (by omega)]
/-! ### a row in hand -/
theorem okRow {ok : Bool} {steps : Int} {w : Wd} (h : ok = true) : visW ok steps w = visF steps.toNat w := by subst h; rfl
theorem noRow {ok : Bool} {steps : Int} {w : Wd} (h : ok = false) : visW ok steps w = [] := by subst h; rfl
theorem vc_spec_VisitsAfter (wr : List UInt8) (ww wh : Int) (wc : List UInt8) (wx wy wd steps : Int) (_ : True) : VC_spec_VisitsAfter wr ww wh wc wx wy wd steps
    (retG 0 (.tup [.row 0 (visW (goodB ⟨wr, ww, wh, wc, wx, wy, wd⟩ && inB steps 0 3000) steps ⟨wr, ww, wh, wc, wx, wy, wd⟩).length, .bool (goodB ⟨wr, ww, wh, wc, wx, wy, wd⟩ && inB steps 0 3000)]) [⟨.ints .i64 (visW (goodB ⟨wr, ww, wh, wc, wx, wy, wd⟩ && inB steps 0 3000) steps ⟨wr, ww, wh, wc, wx, wy, wd⟩), 3, .row⟩]) := by
  unfold VC_spec_VisitsAfter
  refine ⟨⟨trivial⟩, fun h => ?_, fun h => ?_⟩
  · simp only [Bool.not_eq_true'] at h
    rw [noRow h]
    exact retG_nilB rfl rfl h
  · simp only [Bool.not_eq_false'] at h
    have h2 := h
    simp only [Bool.and_eq_true] at h2
    have hb := inB_eq.1 h2.2
    rw [okRow h]
    exact ⟨⟨h2.1, hb.1, by omega⟩, retG_okB rfl rfl h rfl⟩
theorem vc_impl_VisitsAfter (wr : List UInt8) (ww wh : Int) (wc : List UInt8) (wx wy wd steps : Int) (_ : True) : VC_impl_VisitsAfter wr ww wh wc wx wy wd steps
    (retG 0 (.tup [.row 0 (visW (goodB ⟨wr, ww, wh, wc, wx, wy, wd⟩ && inB steps 0 3000) steps ⟨wr, ww, wh, wc, wx, wy, wd⟩).length, .bool (goodB ⟨wr, ww, wh, wc, wx, wy, wd⟩ && inB steps 0 3000)]) [⟨.ints .i64 (visW (goodB ⟨wr, ww, wh, wc, wx, wy, wd⟩ && inB steps 0 3000) steps ⟨wr, ww, wh, wc, wx, wy, wd⟩), 3, .row⟩]) := by
  unfold VC_impl_VisitsAfter
  refine ⟨⟨trivial⟩, fun hg => ?_, fun hg => ⟨⟨trivial⟩, fun hs => ?_, fun hs => ?_⟩⟩
  · simp only [Bool.not_eq_true'] at hg
    rw [noRow (by rw [hg, Bool.false_and])]
    exact retG_nilB rfl rfl (by rw [hg, Bool.false_and])
  · simp only [Bool.not_eq_true'] at hs
    rw [noRow (by rw [hs, Bool.and_false])]
    exact retG_nilB rfl rfl (by rw [hs, Bool.and_false])
  · simp only [Bool.not_eq_false'] at hg hs
    have hb := inB_eq.1 hs
    rw [okRow (by rw [hg, hs]; rfl)]
    exact ⟨⟨hg, hb.1, by omega⟩, retG_okB rfl rfl (by rw [hg, hs]; rfl) rfl⟩
theorem vc_impl_TrackAfter (wr : List UInt8) (ww wh : Int) (wc : List UInt8) (wx wy wd steps : Int) (_ : True) : VC_impl_TrackAfter wr ww wh wc wx wy wd steps
    (retG 0 (.tup [.row 0 (trkW (goodB ⟨wr, ww, wh, wc, wx, wy, wd⟩ && inB steps 0 200) steps ⟨wr, ww, wh, wc, wx, wy, wd⟩).length, .bool (goodB ⟨wr, ww, wh, wc, wx, wy, wd⟩ && inB steps 0 200)]) [⟨.ints .i64 (trkW (goodB ⟨wr, ww, wh, wc, wx, wy, wd⟩ && inB steps 0 200) steps ⟨wr, ww, wh, wc, wx, wy, wd⟩), 3, .row⟩]) := by
  unfold VC_impl_TrackAfter
  refine ⟨⟨trivial⟩, fun hg => ?_, fun hg => ⟨⟨trivial⟩, fun hs => ?_, fun hs => ?_⟩⟩
  · simp only [Bool.not_eq_true'] at hg
    rw [show trkW (goodB ⟨wr, ww, wh, wc, wx, wy, wd⟩ && inB steps 0 200) steps ⟨wr, ww, wh, wc, wx, wy, wd⟩ = [] by rw [hg, Bool.false_and]; rfl]
    exact retG_nilB rfl rfl (by rw [hg, Bool.false_and])
  · simp only [Bool.not_eq_true'] at hs
    rw [show trkW (goodB ⟨wr, ww, wh, wc, wx, wy, wd⟩ && inB steps 0 200) steps ⟨wr, ww, wh, wc, wx, wy, wd⟩ = [] by rw [hs, Bool.and_false]; rfl]
    exact retG_nilB rfl rfl (by rw [hs, Bool.and_false])
  · simp only [Bool.not_eq_false'] at hg hs
    have hb := inB_eq.1 hs
    rw [show trkW (goodB ⟨wr, ww, wh, wc, wx, wy, wd⟩ && inB steps 0 200) steps ⟨wr, ww, wh, wc, wx, wy, wd⟩ = trkF steps.toNat ⟨wr, ww, wh, wc, wx, wy, wd⟩ by rw [hg, hs]; rfl]
    exact ⟨⟨hg, hb.1, by omega⟩, retG_okB rfl rfl (by rw [hg, hs]; rfl) rfl⟩
theorem vc_spec_TrackAfter (wr : List UInt8) (ww wh : Int) (wc : List UInt8) (wx wy wd steps : Int) (_ : True) : VC_spec_TrackAfter wr ww wh wc wx wy wd steps
    (retG 0 (.tup [.row 0 (trkW (goodB ⟨wr, ww, wh, wc, wx, wy, wd⟩ && inB steps 0 200) steps ⟨wr, ww, wh, wc, wx, wy, wd⟩).length, .bool (goodB ⟨wr, ww, wh, wc, wx, wy, wd⟩ && inB steps 0 200)]) [⟨.ints .i64 (trkW (goodB ⟨wr, ww, wh, wc, wx, wy, wd⟩ && inB steps 0 200) steps ⟨wr, ww, wh, wc, wx, wy, wd⟩), 3, .row⟩]) := by
  unfold VC_spec_TrackAfter
  refine ⟨⟨trivial⟩, fun hg => ?_, fun hg => ⟨fun hs => ?_, fun hs => ?_⟩⟩
  · have hn : (goodB ⟨wr, ww, wh, wc, wx, wy, wd⟩ && inB steps 0 200) = false := by
      simp only [Bool.not_eq_true', Bool.and_eq_false_iff] at hg ⊢
      rcases hg with hg | hg
      · exact .inl hg
      · rw [inB_ne] at hg ⊢
        exact .inr (by omega)
    rw [hn]
    exact retG_nilB rfl rfl rfl
  · have hs := of_decide_eq_true hs
    have hn : (goodB ⟨wr, ww, wh, wc, wx, wy, wd⟩ && inB steps 0 200) = false := by
      rw [Bool.and_eq_false_iff, inB_ne]
      exact .inr (by omega)
    rw [hn]
    exact retG_nilB rfl rfl rfl
  · have hs := of_decide_eq_false hs
    simp only [Bool.not_eq_false', Bool.and_eq_true] at hg
    have hb := inB_eq.1 hg.2
    have hi : inB steps 0 200 = true := inB_eq.2 (by omega)
    rw [hg.1, hi]
    refine ⟨by simp, ⟨by simp only [Int.sub_self]; exact trk_start hg.1 hb.1, hg.1, hi⟩, fun a ha => ⟨fun hc => ?_, fun hc => ?_⟩⟩
    · obtain ⟨s, v, l⟩ := a
      have hc := of_decide_eq_true hc
      obtain ⟨ht, _, _⟩ := ha
      simp only at hc ht ⊢
      have hx := ixW_wr (v := v) ht.1
      have hl := ht.2.2.2.1
      have hs0 := ht.2.1
      simp only at hl hs0
      have hn := trk_next ht (by omega)
      rw [hx.1, wrap64_in (x := s - 1) (by omega), take11]
      refine ⟨⟨⟨by omega, by simp⟩, by omega, by omega⟩, ⟨ht.1⟩, by simp, ⟨⟨?_, hg.1, hi⟩, by omega⟩⟩
      simp only
      rw [show steps - (s - 1) = steps - s + 1 by omega]
      exact hn
    · obtain ⟨s, v, l⟩ := a
      have hc := of_decide_eq_false hc
      obtain ⟨ht, _, _⟩ := ha
      simp only at hc ht
      have e := trk_done ht (by omega)
      exact retG_okB e (by rw [e]; rfl) rfl rfl
theorem cntP_succ {l : List Int} {i : Nat} (h : i < l.length) : cntP (l.take (i + 1)) = cntP (l.take i) + (if 0 < l.getD i 0 then 1 else 0) := by
  unfold cntP
  rw [take_succ_int h, List.countP_append]
  by_cases hp : 0 < l.getD i 0
  · rw [List.countP_singleton]; simp only [hp, decide_true, if_true]; omega
  · rw [List.countP_singleton]; simp only [hp, decide_false, if_false, Bool.false_eq_true]; omega
theorem cntP_bd (l : List Int) : 0 ≤ cntP l ∧ cntP l ≤ l.length := by
  unfold cntP
  have := List.countP_le_length (p := fun x : Int => decide (0 < x)) (l := l)
  omega
theorem visF_le {w : Wd} (hg : goodB w = true) (n : Nat) : (visF n w).length ≤ 81 ∧ 1 ≤ (visF n w).length := by
  have h1 := (visF_bd hg n).1
  have h2 := (good_nine hg).2.2.2.2.2.2
  have h3 := good_bd hg
  have h4 := mul_bd h3.1 h3.2.1
  omega
theorem vc_spec_CellsVisited (wr : List UInt8) (ww wh : Int) (wc : List UInt8) (wx wy wd steps : Int) (_ : True) : VC_spec_CellsVisited wr ww wh wc wx wy wd steps
    (retP (.tup [.int .i64 (cntP (visW (goodB ⟨wr, ww, wh, wc, wx, wy, wd⟩ && inB steps 0 3000) steps ⟨wr, ww, wh, wc, wx, wy, wd⟩)), .bool (goodB ⟨wr, ww, wh, wc, wx, wy, wd⟩ && inB steps 0 3000)])) := by
  unfold VC_spec_CellsVisited
  refine ⟨⟨trivial⟩, fun h => ?_, fun h => ?_⟩
  · simp only [Bool.not_eq_true'] at h
    rw [noRow h]
    exact retP_no2 rfl h
  · simp only [Bool.not_eq_false'] at h
    have h2 := h
    simp only [Bool.and_eq_true] at h2
    have hb := inB_eq.1 h2.2
    rw [okRow h, h]
    have hl := visF_le h2.1 steps.toNat
    generalize visF steps.toNat ⟨wr, ww, wh, wc, wx, wy, wd⟩ = l at hl
    refine ⟨⟨h2.1, hb.1, by omega⟩, by simp [cntP], ⟨Int.le_refl _, by omega, by omega, trivial⟩, fun i hi => ⟨fun hc => ?_, fun hc => ?_⟩⟩
    · have hc := of_decide_eq_true hc
      obtain ⟨g1, g2, g3, _⟩ := hi
      have hil : i.toNat < l.length := by omega
      have hcs := cntP_succ hil
      have hcb := cntP_bd (l.take i.toNat)
      have htl : (l.take i.toNat).length ≤ 81 := by rw [List.length_take]; omega
      rw [wrap64_in (x := i + 1) (by omega), wrap64_in (by omega), show (i + 1).toNat = i.toNat + 1 by omega, hcs]
      refine ⟨⟨g1, hc⟩, ⟨hil⟩, fun hp => ⟨?_, ⟨⟨by omega, by omega, g3, trivial⟩, by omega⟩⟩, fun hp => ⟨?_, ⟨⟨by omega, by omega, g3, trivial⟩, by omega⟩⟩⟩
      · have hp := of_decide_eq_true hp
        rw [if_pos hp]
        simp
      · have hp := of_decide_eq_false hp
        rw [if_neg hp, Int.add_zero]
        simp
    · have hc := of_decide_eq_false hc
      obtain ⟨g1, g2, g3, _⟩ := hi
      exact retP_ok2 (by rw [List.take_of_length_le (by omega)]) rfl
theorem vc_impl_CellsVisited (wr : List UInt8) (ww wh : Int) (wc : List UInt8) (wx wy wd steps : Int) (_ : True) : VC_impl_CellsVisited wr ww wh wc wx wy wd steps
    (retP (.tup [.int .i64 (cntP (visW (goodB ⟨wr, ww, wh, wc, wx, wy, wd⟩ && inB steps 0 3000) steps ⟨wr, ww, wh, wc, wx, wy, wd⟩)), .bool (goodB ⟨wr, ww, wh, wc, wx, wy, wd⟩ && inB steps 0 3000)])) := by
  unfold VC_impl_CellsVisited
  refine ⟨⟨trivial⟩, fun h => ?_, fun h => ?_⟩
  · simp only [Bool.not_eq_true'] at h
    rw [noRow h]
    exact retP_no2 rfl h
  · simp only [Bool.not_eq_false'] at h
    have h2 := h
    simp only [Bool.and_eq_true] at h2
    rw [okRow h, h]
    have hl := visF_le h2.1 steps.toNat
    generalize visF steps.toNat ⟨wr, ww, wh, wc, wx, wy, wd⟩ = l at hl
    refine ⟨by simp [cntP], ⟨Int.le_refl _, by omega, by omega, trivial⟩, fun i hi => ⟨fun hc => ?_, fun hc => ?_⟩⟩
    · have hc := of_decide_eq_true hc
      obtain ⟨g1, g2, g3, _⟩ := hi
      have hil : i.toNat < l.length := by omega
      have hcs := cntP_succ hil
      have hcb := cntP_bd (l.take i.toNat)
      have htl : (l.take i.toNat).length ≤ 81 := by rw [List.length_take]; omega
      rw [wrap64_in (x := i + 1) (by omega), wrap64_in (by omega), show (i + 1).toNat = i.toNat + 1 by omega, hcs]
      refine ⟨⟨g1, hc⟩, ⟨hil⟩, fun hp => ⟨?_, ⟨⟨by omega, by omega, g3, trivial⟩, by omega⟩⟩, fun hp => ⟨?_, ⟨⟨by omega, by omega, g3, trivial⟩, by omega⟩⟩⟩
      · have hp := of_decide_eq_true hp
        rw [if_pos hp]
        simp
      · have hp := of_decide_eq_false hp
        rw [if_neg hp, Int.add_zero]
        simp
    · have hc := of_decide_eq_false hc
      obtain ⟨g1, g2, g3, _⟩ := hi
      exact retP_ok2 (by rw [List.take_of_length_le (by omega)]) rfl
/-! ### the greatest -/
theorem maxL_spec : ∀ (r : List Int) (m : Int), (∀ x ∈ r, x ≤ r.foldl (fun a b => if a < b then b else a) m) ∧ m ≤ r.foldl (fun a b => if a < b then b else a) m ∧ (r.foldl (fun a b => if a < b then b else a) m = m ∨ r.foldl (fun a b => if a < b then b else a) m ∈ r)
  | [], m => by simp
  | x :: r, m => by
    have ih := maxL_spec r (if m < x then x else m)
    simp only [List.foldl_cons]
    obtain ⟨h1, h2, h3⟩ := ih
    have hx : x ≤ (if m < x then x else m) ∧ m ≤ (if m < x then x else m) ∧ ((if m < x then x else m) = m ∨ (if m < x then x else m) = x) := by split <;> omega
    refine ⟨fun y hy => ?_, by omega, ?_⟩
    · rcases List.mem_cons.1 hy with rfl | hy
      · omega
      · exact h1 y hy
    · rcases h3 with h3 | h3
      · rcases hx.2.2 with e | e
        · exact .inl (h3.trans e)
        · exact .inr (by rw [h3, e]; simp)
      · exact .inr (List.mem_cons_of_mem _ h3)
theorem maxL_all {l : List Int} {x : Int} (h : x ∈ l) : x ≤ maxL l := by
  match l, h with
  | y :: r, h =>
    have := maxL_spec r y
    rcases List.mem_cons.1 h with rfl | h
    · exact this.2.1
    · exact this.1 x h
theorem maxL_mem {l : List Int} (h : 1 ≤ l.length) : maxL l ∈ l := by
  match l, h with
  | y :: r, _ =>
    rcases (maxL_spec r y).2.2 with h | h
    · show List.foldl _ y r ∈ _
      rw [h]; simp
    · exact List.mem_cons_of_mem _ h
theorem bst_done {a : List Int} {i b : Int} (h : bstInv a (i, b)) (hi : ¬ i < a.length) : b = idxF (maxL a) a := by
  obtain ⟨g1, g2, g3, g4, g5, g6, g7, g8⟩ := h
  simp only at g1 g2 g5 g6 g7 g8
  have hbl : b.toNat < a.length := by omega
  have hle : a.getD b.toNat 0 = maxL a := by
    have h1 := maxL_all (getD_mem hbl)
    obtain ⟨k, hk⟩ := List.mem_iff_getElem?.1 (maxL_mem g3)
    have hkl := (List.getElem?_eq_some_iff.1 hk).1
    have h2 := g7 k (by omega)
    rw [List.getD_eq_getElem?_getD, hk] at h2
    simp only [Option.getD_some] at h2
    omega
  have := idxF_at (v := maxL a) (l := a) (i := b.toNat) (fun j hj => ?_) hbl hle
  · rw [this]; omega
  · have := g8 j (by omega)
    omega
theorem vc_spec_MostVisited (wr : List UInt8) (ww wh : Int) (wc : List UInt8) (wx wy wd steps : Int) (_ : True) : VC_spec_MostVisited wr ww wh wc wx wy wd steps
    (retP (.tup [.int .i64 (bif goodB ⟨wr, ww, wh, wc, wx, wy, wd⟩ && inB steps 1 3000 then idxF (maxL (visF steps.toNat ⟨wr, ww, wh, wc, wx, wy, wd⟩)) (visF steps.toNat ⟨wr, ww, wh, wc, wx, wy, wd⟩) else 0), .bool (goodB ⟨wr, ww, wh, wc, wx, wy, wd⟩ && inB steps 1 3000)])) := by
  unfold VC_spec_MostVisited
  refine ⟨⟨trivial⟩, fun hg => ?_, fun hg => ⟨fun hs => ?_, fun hs => ?_⟩⟩
  · have hn : (goodB ⟨wr, ww, wh, wc, wx, wy, wd⟩ && inB steps 1 3000) = false := by
      simp only [Bool.not_eq_true', Bool.and_eq_false_iff] at hg ⊢
      rcases hg with hg | hg
      · exact .inl hg
      · rw [inB_ne] at hg ⊢
        exact .inr (by omega)
    rw [hn]
    exact retP_no2 rfl rfl
  · have hs := of_decide_eq_true hs
    have hn : (goodB ⟨wr, ww, wh, wc, wx, wy, wd⟩ && inB steps 1 3000) = false := by
      rw [Bool.and_eq_false_iff, inB_ne]
      exact .inr (by omega)
    rw [hn]
    exact retP_no2 rfl rfl
  · have hs := of_decide_eq_false hs
    simp only [Bool.not_eq_false', Bool.and_eq_true] at hg
    have hb := inB_eq.1 hg.2
    have hi : inB steps 1 3000 = true := inB_eq.2 (by omega)
    rw [hg.1, hi]
    have hl := visF_le hg.1 steps.toNat
    generalize visF steps.toNat ⟨wr, ww, wh, wc, wx, wy, wd⟩ = l at hl
    refine ⟨⟨rfl, hb.1, by omega⟩, by simp, ⟨Int.le_refl _, by simp only; omega, hl.2, by omega, Int.le_refl _, by simp only; omega, fun j hj => ?_, fun j hj => ?_⟩, fun a ha => ⟨fun hc => ?_, fun hc => ?_⟩⟩
    · simp only at hj; omega
    · simp only at hj; omega
    · obtain ⟨i, b⟩ := a
      have hc := of_decide_eq_true hc
      have hinv := ha
      obtain ⟨g1, g2, g3, g4, g5, g6, g7, g8⟩ := ha
      simp only at hc g1 g2 g5 g6 g7 g8 ⊢
      rw [wrap64_in (x := i + 1) (by omega)]
      refine ⟨⟨g1, hc⟩, ⟨by omega⟩, ⟨g5, g6⟩, ⟨by omega⟩, fun hp => ⟨by simp, ⟨⟨by simp only; omega, by simp only; omega, g3, g4, g1, hc, fun j hj => ?_, fun j hj => ?_⟩, by omega⟩⟩, fun hp => ⟨by simp, ⟨⟨by simp only; omega, by simp only; omega, g3, g4, g5, g6, fun j hj => ?_, g8⟩, by omega⟩⟩⟩
      · have hp := of_decide_eq_true hp
        simp only at hj ⊢
        by_cases hji : (j : Int) < i
        · have := g7 j hji; omega
        · rw [show i.toNat = j by omega]; exact Int.le_refl _
      · have hp := of_decide_eq_true hp
        simp only at hj ⊢
        have := g7 j hj
        omega
      · have hp := of_decide_eq_false hp
        simp only at hj ⊢
        by_cases hji : (j : Int) < i
        · exact g7 j hji
        · rw [show j = i.toNat by omega]; omega
    · obtain ⟨i, b⟩ := a
      exact retP_ok2 (bst_done ha (of_decide_eq_false hc)) rfl
theorem vc_impl_MostVisited (wr : List UInt8) (ww wh : Int) (wc : List UInt8) (wx wy wd steps : Int) (_ : True) : VC_impl_MostVisited wr ww wh wc wx wy wd steps
    (retP (.tup [.int .i64 (bif goodB ⟨wr, ww, wh, wc, wx, wy, wd⟩ && inB steps 1 3000 then idxF (maxL (visF steps.toNat ⟨wr, ww, wh, wc, wx, wy, wd⟩)) (visF steps.toNat ⟨wr, ww, wh, wc, wx, wy, wd⟩) else 0), .bool (goodB ⟨wr, ww, wh, wc, wx, wy, wd⟩ && inB steps 1 3000)])) := by
  unfold VC_impl_MostVisited
  refine ⟨⟨trivial⟩, fun hg => ?_, fun hg => ⟨fun hs => ?_, fun hs => ?_⟩⟩
  · have hn : (goodB ⟨wr, ww, wh, wc, wx, wy, wd⟩ && inB steps 1 3000) = false := by
      simp only [Bool.not_eq_true', Bool.and_eq_false_iff] at hg ⊢
      rcases hg with hg | hg
      · exact .inl hg
      · rw [inB_ne] at hg ⊢
        exact .inr (by omega)
    rw [hn]
    exact retP_no2 rfl rfl
  · have hs := of_decide_eq_true hs
    have hn : (goodB ⟨wr, ww, wh, wc, wx, wy, wd⟩ && inB steps 1 3000) = false := by
      rw [Bool.and_eq_false_iff, inB_ne]
      exact .inr (by omega)
    rw [hn]
    exact retP_no2 rfl rfl
  · have hs := of_decide_eq_false hs
    simp only [Bool.not_eq_false'] at hg
    have hg2 := hg
    simp only [Bool.and_eq_true] at hg2
    have hb := inB_eq.1 hg2.2
    have hi : inB steps 1 3000 = true := inB_eq.2 (by omega)
    rw [okRow hg, hg2.1, hi]
    have hl := visF_le hg2.1 steps.toNat
    exact ⟨⟨rfl, by omega, hl.2⟩, ⟨rfl, by omega⟩, retP_ok2 rfl rfl⟩
/-! ### covers -/
theorem covK_some {t : List Int} : ∀ {k : Nat} {s : Int}, covK t k = some s → ∀ j : Nat, j < k → 0 ≤ idxF (j : Int) t ∧ idxF (j : Int) t + 1 ≤ s
  | 0, s, h, j, hj => by omega
  | k + 1, s, h, j, hj => by
    simp only [covK] at h
    cases hk : covK t k with
    | none => rw [hk] at h; cases h
    | some s' =>
      rw [hk] at h
      simp only at h
      have ih := covK_some hk
      by_cases hn : idxF (k : Int) t < 0
      · rw [decide_eq_true hn] at h; cases h
      · rw [decide_eq_false hn] at h
        simp only [cond_false, Option.some.injEq] at h
        have hm : s' ≤ s ∧ idxF (k : Int) t + 1 ≤ s := by
          rw [← h]; split <;> omega
        by_cases hjk : j < k
        · have := ih j hjk; omega
        · rw [show j = k by omega]; omega
theorem covK_none {t : List Int} : ∀ {k : Nat}, covK t k = none → ∃ j : Nat, j < k ∧ idxF (j : Int) t < 0
  | 0, h => by cases h
  | k + 1, h => by
    simp only [covK] at h
    cases hk : covK t k with
    | none =>
      obtain ⟨j, h1, h2⟩ := covK_none hk
      exact ⟨j, by omega, h2⟩
    | some s' =>
      rw [hk] at h
      simp only at h
      by_cases hn : idxF (k : Int) t < 0
      · exact ⟨k, by omega, hn⟩
      · rw [decide_eq_false hn] at h; cases h
/-- The greatest of the bounds is met. -/
theorem covK_met {t : List Int} : ∀ {k : Nat} {s : Int}, covK t k = some s → s = 0 ∨ ∃ j : Nat, j < k ∧ idxF (j : Int) t + 1 = s
  | 0, s, h => by simp [covK] at h; exact .inl h.symm
  | k + 1, s, h => by
    simp only [covK] at h
    cases hk : covK t k with
    | none => rw [hk] at h; cases h
    | some s' =>
      rw [hk] at h
      simp only at h
      by_cases hn : idxF (k : Int) t < 0
      · rw [decide_eq_true hn] at h; cases h
      · rw [decide_eq_false hn] at h
        simp only [cond_false, Option.some.injEq] at h
        by_cases hlt : s' < idxF (k : Int) t + 1
        · rw [if_pos hlt] at h
          exact .inr ⟨k, by omega, h⟩
        · rw [if_neg hlt] at h
          subst h
          rcases covK_met hk with h | ⟨j, h1, h2⟩
          · exact .inl h
          · exact .inr ⟨j, by omega, h2⟩
theorem idxF_lt {v : Int} : ∀ {l : List Int}, idxF v l < l.length
  | [] => by simp [idxF]
  | x :: r => by
    have := idxF_lt (v := v) (l := r)
    simp only [idxF, List.length_cons]
    cases h1 : v == x <;> cases h2 : decide (idxF v r < 0) <;> simp only [cond_true, cond_false] <;> omega
/-- In the first s of a track. -/
theorem mem_take_idx {v : Int} : ∀ {l : List Int} {s : Nat}, v ∈ l.take s ↔ 0 ≤ idxF v l ∧ idxF v l < s
  | [], s => by simp [idxF]
  | x :: r, 0 => by simp
  | x :: r, s + 1 => by
    have ih := mem_take_idx (v := v) (l := r) (s := s)
    have hg := idxF_ge v r
    simp only [List.take_succ_cons, List.mem_cons, idxF]
    by_cases h1 : v = x
    · rw [show (v == x) = true by simpa using h1]
      simp only [cond_true]
      exact ⟨fun _ => by omega, fun _ => .inl h1⟩
    · rw [show (v == x) = false by simpa using h1]
      simp only [cond_false, h1, false_or]
      rw [ih]
      by_cases h2 : idxF v r < 0
      · rw [decide_eq_true h2]; simp only [cond_true]; omega
      · rw [decide_eq_false h2]; simp only [cond_false]; omega
/-- What covers is told by the first k cells and the places of all. -/
theorem covK_eq {t : List Int} {n : Nat} {s : Nat} (hall : ∀ j : Nat, j < n → (j : Int) ∈ t.take s) (hone : ∃ j : Nat, j < n ∧ (j : Int) ∉ t.take (s - 1)) (hs : 1 ≤ s) : covK t n = some (s : Int) := by
  cases hk : covK t n with
  | none =>
    obtain ⟨j, h1, h2⟩ := covK_none hk
    have := (mem_take_idx.1 (hall j h1)).1
    omega
  | some m =>
    have h1 := covK_some hk
    have h2 := covK_met hk
    obtain ⟨j, hj, hnot⟩ := hone
    have a1 := h1 j hj
    have a2 := mem_take_idx.1 (hall j hj)
    have a3 : ¬ idxF (j : Int) t < (s - 1 : Nat) := fun h => hnot (mem_take_idx.2 ⟨a2.1, h⟩)
    rcases h2 with h2 | ⟨i, hi, h2⟩
    · omega
    · have a4 := mem_take_idx.1 (hall i hi)
      congr 1
      omega
theorem countP_set_true : ∀ {l : List Bool} {i : Nat}, i < l.length → l.getD i false = false → ((l.set i true).countP fun b => !b) + 1 = l.countP fun b => !b
  | [], i, h, _ => by simp at h
  | b :: r, 0, _, h => by
    have : b = false := by simpa using h
    subst this
    simp
  | b :: r, i + 1, hl, h => by
    have ih := countP_set_true (l := r) (i := i) (by simpa using hl) (by simpa using h)
    simp only [List.set_cons_succ, List.countP_cons]
    omega
theorem countP_zero {l : List Bool} (h : (l.countP fun b => !b) = 0) {i : Nat} (hi : i < l.length) : l.getD i false = true := by
  rw [List.countP_eq_zero] at h
  have := h _ (List.getElem_mem hi)
  rw [List.getD_eq_getElem?_getD, List.getElem?_eq_getElem hi]
  simpa using this
theorem countP_pos' {l : List Bool} (h : 1 ≤ (l.countP fun b => !b)) : ∃ i : Nat, i < l.length ∧ l.getD i false = false := by
  obtain ⟨b, hb, hn⟩ := List.countP_pos_iff.1 h
  obtain ⟨i, hi⟩ := List.mem_iff_getElem?.1 hb
  refine ⟨i, (List.getElem?_eq_some_iff.1 hi).1, ?_⟩
  rw [List.getD_eq_getElem?_getD, hi]
  simpa using hn
theorem countP_all (n : Nat) : ((List.replicate n false).countP fun b => !b) = n := by
  induction n with
  | zero => rfl
  | succ n ih => rw [List.replicate_succ, List.countP_cons, ih]; rfl
theorem cov_at {w0 : Wd} {s : Int} {v : Wd} {l : List Bool} {k : Int} (h : covInv w0 ⟨s, v, l, k⟩) (hs : s ≤ 4000) : (trkF 4000 w0).take s.toNat = (trkF 4000 w0).take (s - 1).toNat ++ [ixW v] ∧ 0 ≤ ixW v ∧ ixW v < (w0.c.length : Int) := by
  obtain ⟨hg, h1, h2, h3, h4, h5, h6, h7, h8, h9⟩ := h
  simp only at h1 h2 h3 h6
  have hx := ixW_wr h1
  have hlk := h2.2.2
  have hget := trkF_get 4000 w0 (s - 1).toNat (by omega)
  rw [← h6] at hget
  refine ⟨?_, by omega, by omega⟩
  have hlt := (List.getElem?_eq_some_iff.1 hget)
  rw [show s.toNat = (s - 1).toNat + 1 by omega, List.take_succ_eq_append_getElem hlt.1, hlt.2]
/-- A step of the cover: the cell is marked. -/
theorem cov_mark {w0 : Wd} {s : Int} {v : Wd} {l : List Bool} {k : Int} (h : covInv w0 ⟨s, v, l, k⟩) (hs : s ≤ 4000) :
    ∀ j : Nat, j < w0.c.length → ((l.set (ixW v).toNat true).getD j false = true ↔ (j : Int) ∈ (trkF 4000 w0).take s.toNat) := by
  obtain ⟨e, x1, x2⟩ := cov_at h hs
  obtain ⟨hg, h1, h2, h3, h4, h5, h6, h7, h8, h9⟩ := h
  simp only at h5 h9
  intro j hj
  rw [e, List.mem_append, List.mem_singleton, List.getD_eq_getElem?_getD, List.getElem?_set]
  by_cases hji : (ixW v).toNat = j
  · rw [if_pos hji, if_pos (by omega)]
    exact ⟨fun _ => .inr (by omega), fun _ => rfl⟩
  · rw [if_neg hji, ← List.getD_eq_getElem?_getD, h9 j hj]
    exact ⟨.inl, fun h => h.resolve_right (by omega)⟩
theorem cov_stay {w0 : Wd} {s : Int} {v : Wd} {l : List Bool} {k : Int} (h : covInv w0 ⟨s, v, l, k⟩) (hs : s ≤ 4000) (hm : l.getD (ixW v).toNat false = true) : covInv w0 ⟨s + 1, stepW v, l, k⟩ ∧ (4001 - (s + 1)).toNat < (4001 - s).toNat := by
  have hmk := cov_mark h hs
  have hx := cov_at h hs
  obtain ⟨hg, h1, h2, h3, h4, h5, h6, h7, h8, h9⟩ := h
  simp only at h1 h2 h3 h4 h5 h6 h7 h8
  refine ⟨⟨hg, good_step h1, likeW_step h2 h1, by simp only; omega, by simp only; omega, h5, ?_, h7, h8, fun j hj => ?_⟩, by omega⟩
  · simp only
    rw [show (s + 1 - 1).toNat = (s - 1).toNat + 1 by omega, iterW_out, ← h6]
  · simp only
    rw [show (s + 1 - 1).toNat = s.toNat by omega, ← hmk j hj, List.getD_eq_getElem?_getD, List.getD_eq_getElem?_getD, List.getElem?_set]
    by_cases hji : (ixW v).toNat = j
    · rw [if_pos hji, if_pos (by omega), ← List.getD_eq_getElem?_getD, ← hji, hm]; simp
    · rw [if_neg hji]
theorem cov_move {w0 : Wd} {s : Int} {v : Wd} {l : List Bool} {k : Int} (h : covInv w0 ⟨s, v, l, k⟩) (hs : s ≤ 4000) (hm : l.getD (ixW v).toNat false = false) (hk : k - 1 ≠ 0) : covInv w0 ⟨s + 1, stepW v, l.set (ixW v).toNat true, k - 1⟩ ∧ (4001 - (s + 1)).toNat < (4001 - s).toNat := by
  have hmk := cov_mark h hs
  have hx := cov_at h hs
  obtain ⟨hg, h1, h2, h3, h4, h5, h6, h7, h8, h9⟩ := h
  simp only at h1 h2 h3 h4 h5 h6 h7 h8
  have hcp := countP_set_true (l := l) (i := (ixW v).toNat) (by omega) hm
  refine ⟨⟨hg, good_step h1, likeW_step h2 h1, by simp only; omega, by simp only; omega, by simp only [List.length_set]; exact h5, ?_, by simp only; omega, by simp only; omega, fun j hj => ?_⟩, by omega⟩
  · simp only
    rw [show (s + 1 - 1).toNat = (s - 1).toNat + 1 by omega, iterW_out, ← h6]
  · simp only
    rw [show (s + 1 - 1).toNat = s.toNat by omega]
    exact hmk j hj
theorem cov_done {w0 : Wd} {s : Int} {v : Wd} {l : List Bool} {k : Int} (h : covInv w0 ⟨s, v, l, k⟩) (hs : s ≤ 4000) (hm : l.getD (ixW v).toNat false = false) (hk : k - 1 = 0) : covK (trkF 4000 w0) w0.c.length = some s := by
  have hmk := cov_mark h hs
  have hx := cov_at h hs
  obtain ⟨hg, h1, h2, h3, h4, h5, h6, h7, h8, h9⟩ := h
  simp only at h1 h2 h3 h4 h5 h6 h7 h8 h9
  have hcp := countP_set_true (l := l) (i := (ixW v).toNat) (by omega) hm
  have h0 : ((l.set (ixW v).toNat true).countP fun b => !b) = 0 := by omega
  have := covK_eq (t := trkF 4000 w0) (n := w0.c.length) (s := s.toNat) (fun j hj => (hmk j hj).1 (countP_zero h0 (by rw [List.length_set]; omega))) ⟨(ixW v).toNat, by omega, fun hin => ?_⟩ (by omega)
  · rw [this]; congr 1; omega
  · have := (h9 (ixW v).toNat (by omega)).2 (by rw [show (s - 1).toNat = s.toNat - 1 by omega]; exact hin)
    rw [hm] at this
    cases this
theorem cov_end {w0 : Wd} {s : Int} {v : Wd} {l : List Bool} {k : Int} (h : covInv w0 ⟨s, v, l, k⟩) (hs : ¬ s ≤ 4000) : covK (trkF 4000 w0) w0.c.length = none := by
  obtain ⟨hg, h1, h2, h3, h4, h5, h6, h7, h8, h9⟩ := h
  simp only at h3 h4 h5 h7 h8 h9
  obtain ⟨i, hi, hf⟩ := countP_pos' (l := l) (by omega)
  have hnot : ¬ (i : Int) ∈ (trkF 4000 w0).take (s - 1).toNat := fun hin => by
    have := (h9 i (by omega)).2 hin
    rw [hf] at this
    cases this
  cases hk : covK (trkF 4000 w0) w0.c.length with
  | none => rfl
  | some m =>
    have := (covK_some hk i (by omega)).1
    exact absurd (mem_take_idx.2 ⟨this, by have := idxF_lt (v := (i : Int)) (l := trkF 4000 w0); rw [trkF_len] at this; omega⟩) hnot
theorem covW_yes {ok : Bool} {w : Wd} (h : ok = true) : covW ok w = covK (trkF 4000 w) w.c.length := by subst h; rfl
theorem covW_no {ok : Bool} {w : Wd} (h : ok = false) : covW ok w = none := by subst h; rfl
theorem until_le {p : Wd → Bool} {l : Int} : ∀ (n : Nat) (s : Int) (v : Wd) (k : Int), untilF p l n s v = some k → k < s + n
  | 0, s, v, k, h => by cases h
  | n + 1, s, v, k, h => by
    rw [untilF_succ] at h
    cases hb : (decide (l ≤ s) && p v) with
    | true =>
      rw [hb] at h
      injection h with h
      omega
    | false =>
      rw [hb] at h
      have := until_le n (s + 1) (stepW v) k h
      omega
theorem untilW_some {ok : Bool} {p : Wd → Bool} {w : Wd} {k : Int} (h : untilW ok p 1 w = some k) : ok = true ∧ 1 ≤ k ∧ k ≤ 4000 := by
  cases ok with
  | false => cases h
  | true =>
    have h' := h
    rw [untilW_yes rfl] at h'
    have h1 := (until_ge _ _ _ _ h').2
    have h2 := until_le _ _ _ _ h'
    refine ⟨rfl, h1, ?_⟩
    omega
theorem nevW_some {ok : Bool} {w : Wd} {p : Int} (h : untilW ok (pPer w) 1 w = some p) : nevW ok w = nevL (visF p.toNat w) := by unfold nevW; rw [h]
theorem nevW_none {ok : Bool} {w : Wd} (h : untilW ok (pPer w) 1 w = none) : nevW ok w = [] := by unfold nevW; rw [h]
theorem zerF_len (l : List Int) : ∀ k : Nat, (zerF l k).length ≤ k
  | 0 => Nat.le_refl _
  | k + 1 => by
    have := zerF_len l k
    simp only [zerF, List.length_append]
    cases l.getD k 0 == 0 <;> simp <;> omega
theorem zerF_yes {l : List Int} {k : Nat} (h : (l.getD k 0 == 0) = true) : zerF l (k + 1) = zerF l k ++ [(k : Int)] := by
  simp only [zerF, h, cond_true]
theorem zerF_no {l : List Int} {k : Nat} (h : (l.getD k 0 == 0) = false) : zerF l (k + 1) = zerF l k := by
  simp only [zerF, h, cond_false, List.append_nil]
theorem vc_impl_NeverVisited (wr : List UInt8) (ww wh : Int) (wc : List UInt8) (wx wy wd : Int) (_ : True) : VC_impl_NeverVisited wr ww wh wc wx wy wd
    (retG 0 (.tup [.row 0 (nevW (goodB ⟨wr, ww, wh, wc, wx, wy, wd⟩) ⟨wr, ww, wh, wc, wx, wy, wd⟩).length, .bool (untilW (goodB ⟨wr, ww, wh, wc, wx, wy, wd⟩) (pPer ⟨wr, ww, wh, wc, wx, wy, wd⟩) 1 ⟨wr, ww, wh, wc, wx, wy, wd⟩).isSome]) [⟨.ints .i64 (nevW (goodB ⟨wr, ww, wh, wc, wx, wy, wd⟩) ⟨wr, ww, wh, wc, wx, wy, wd⟩), 3, .row⟩]) := by
  unfold VC_impl_NeverVisited
  refine ⟨⟨trivial⟩, fun hn => ?_, fun hn => ?_⟩
  · simp only [Bool.not_eq_true', Option.isSome_eq_false_iff, Option.isNone_iff_eq_none] at hn
    rw [nevW_none hn]
    exact retG_nilB rfl rfl (by rw [hn]; rfl)
  · simp only [Bool.not_eq_false', Option.isSome_iff_exists] at hn
    obtain ⟨p, hp⟩ := hn
    rw [nevW_some hp, hp, show optI (some p) = p from rfl]
    obtain ⟨hg, hp1, hp2⟩ := untilW_some hp
    have hl := visF_le hg p.toNat
    generalize visF p.toNat ⟨wr, ww, wh, wc, wx, wy, wd⟩ = l at hl
    refine ⟨⟨hg, by omega, by omega⟩, ?_, ⟨Int.le_refl _, by omega, by omega, trivial⟩, fun i hi => ⟨fun hc => ?_, fun hc => ?_⟩⟩
    · simp [zerF]
    · have hc := of_decide_eq_true hc
      obtain ⟨g1, g2, g3, _⟩ := hi
      have hil : i.toNat < l.length := by omega
      have hz := zerF_len l i.toNat
      have hii : ((i.toNat : Nat) : Int) = i := by omega
      rw [wrap64_in (x := i + 1) (by omega), show (i + 1).toNat = i.toNat + 1 by omega, take11]
      refine ⟨⟨g1, hc⟩, ⟨hil⟩, fun h0 => ?_, fun h0 => ?_⟩
      · rw [zerF_yes h0, hii]
        exact ⟨⟨⟨by omega, by simp⟩, by omega, by omega⟩, by simp, ⟨⟨by omega, by omega, g3, trivial⟩, by omega⟩⟩
      · rw [zerF_no h0]
        exact ⟨by simp, ⟨⟨by omega, by omega, g3, trivial⟩, by omega⟩⟩
    · have hc := of_decide_eq_false hc
      obtain ⟨g1, g2, g3, _⟩ := hi
      have e : i.toNat = l.length := by omega
      exact retG_okC (by rw [e]; rfl) (by rw [e]; rfl) rfl rfl
theorem vc_spec_NeverVisited (wr : List UInt8) (ww wh : Int) (wc : List UInt8) (wx wy wd : Int) (_ : True) : VC_spec_NeverVisited wr ww wh wc wx wy wd
    (retG 0 (.tup [.row 0 (nevW (goodB ⟨wr, ww, wh, wc, wx, wy, wd⟩) ⟨wr, ww, wh, wc, wx, wy, wd⟩).length, .bool (untilW (goodB ⟨wr, ww, wh, wc, wx, wy, wd⟩) (pPer ⟨wr, ww, wh, wc, wx, wy, wd⟩) 1 ⟨wr, ww, wh, wc, wx, wy, wd⟩).isSome]) [⟨.ints .i64 (nevW (goodB ⟨wr, ww, wh, wc, wx, wy, wd⟩) ⟨wr, ww, wh, wc, wx, wy, wd⟩), 3, .row⟩]) := by
  unfold VC_spec_NeverVisited
  refine ⟨⟨trivial⟩, fun hn => ?_, fun hg0 => ?_⟩
  · simp only [Bool.not_eq_true'] at hn
    have hu := untilW_no (p := pPer ⟨wr, ww, wh, wc, wx, wy, wd⟩) (l := 1) (w := ⟨wr, ww, wh, wc, wx, wy, wd⟩) hn
    rw [nevW_none hu]
    exact retG_nilB rfl rfl (by rw [hu]; rfl)
  · simp only [Bool.not_eq_false'] at hg0
    refine ⟨⟨hg0⟩, ?_⟩
    cases hp : untilW (goodB ⟨wr, ww, wh, wc, wx, wy, wd⟩) (pPer ⟨wr, ww, wh, wc, wx, wy, wd⟩) 1 ⟨wr, ww, wh, wc, wx, wy, wd⟩ with
    | none =>
      rw [nevW_none hp]
      refine ⟨fun _ => retG_nilB rfl rfl rfl, fun h => ?_⟩
      cases h
    | some p =>
      rw [nevW_some hp, show optI (some p) = p from rfl]
      obtain ⟨hg, hp1, hp2⟩ := untilW_some hp
      have hl := visF_le hg p.toNat
      have hgp : goodB ⟨wr, ww, wh, wc, wx, wy, wd⟩ = true ∧ 0 ≤ p ∧ p ≤ 4000 := ⟨hg, by omega, hp2⟩
      generalize visF p.toNat ⟨wr, ww, wh, wc, wx, wy, wd⟩ = l at hl
      refine ⟨fun h0 => ?_, fun _ => ⟨by simp [hgp], ?_, ⟨Int.le_refl _, by omega, by omega, trivial⟩, fun i hi => ⟨fun hc => ?_, fun hc => ?_⟩⟩⟩
      · have : p = 0 := by simpa using h0
        omega
      · simp [zerF]
      · have hc := of_decide_eq_true hc
        obtain ⟨g1, g2, g3, _⟩ := hi
        have hil : i.toNat < l.length := by omega
        have hz := zerF_len l i.toNat
        have hii : ((i.toNat : Nat) : Int) = i := by omega
        rw [wrap64_in (x := i + 1) (by omega), show (i + 1).toNat = i.toNat + 1 by omega, take11]
        refine ⟨⟨g1, hc⟩, ⟨hil⟩, fun h0 => ?_, fun h0 => ?_⟩
        · rw [zerF_yes h0, hii]
          exact ⟨⟨⟨by omega, by simp⟩, by omega, by omega⟩, by simp, ⟨⟨by omega, by omega, g3, trivial⟩, by omega⟩⟩
        · rw [zerF_no h0]
          exact ⟨by simp, ⟨⟨by omega, by omega, g3, trivial⟩, by omega⟩⟩
      · have hc := of_decide_eq_false hc
        obtain ⟨g1, g2, g3, _⟩ := hi
        have e : i.toNat = l.length := by omega
        exact retG_okC (by rw [e]; rfl) (by rw [e]; rfl) rfl rfl
theorem covInv_start {w : Wd} (hg : goodB w = true) : covInv w ⟨1, w, List.replicate w.c.length false, w.c.length⟩ := by
  have h3 := good_bd hg
  have h4 := mul_bd h3.1 h3.2.1
  refine ⟨hg, hg, likeW_refl w, Int.le_refl _, by simp only; omega, by simp, rfl, by simp only; rw [countP_all], by simp only; omega, fun j hj => ?_⟩
  simp [List.getD_eq_getElem?_getD, hj]
theorem vc_spec_CoverSteps (wr : List UInt8) (ww wh : Int) (wc : List UInt8) (wx wy wd : Int) (_ : True) : VC_spec_CoverSteps wr ww wh wc wx wy wd
    (retP (.tup [.int .i64 (optI (covW (goodB ⟨wr, ww, wh, wc, wx, wy, wd⟩) ⟨wr, ww, wh, wc, wx, wy, wd⟩)), .bool (covW (goodB ⟨wr, ww, wh, wc, wx, wy, wd⟩) ⟨wr, ww, wh, wc, wx, wy, wd⟩).isSome])) := by
  unfold VC_spec_CoverSteps
  refine ⟨⟨trivial⟩, fun hg => retP_none (covW_no (by simpa using hg)), fun hg => ?_⟩
  simp only [Bool.not_eq_false'] at hg
  rw [covW_yes hg]
  have hb := good_bd hg
  simp only at hb
  have hm := mul_bd hb.1 hb.2.1
  have hc : (wc.length : Int) = ww * wh := hb.2.2.2.2.2.1
  rw [wrap64_in (x := ww * wh) (by omega), show (ww * wh).toNat = wc.length by omega]
  refine ⟨⟨by omega, by omega, by omega⟩, by simp, ⟨covInv_start hg⟩, fun a ha => ⟨fun hs => ?_, fun hs => ?_⟩⟩
  · obtain ⟨s, v, l, k⟩ := a
    have hs := of_decide_eq_true hs
    simp only at hs ⊢
    have hat := cov_at ha hs
    have hx := ixW_wr (v := v) ha.2.1
    have hll : l.length = wc.length := ha.2.2.2.2.2.1
    have hk1 : 1 ≤ k := ha.2.2.2.2.2.2.2.2.1
    have hs1 : 1 ≤ s := ha.2.2.2.1
    have hkc : k = (l.countP fun b => !b : Nat) := ha.2.2.2.2.2.2.2.1
    have hkl : (l.countP fun b => !b) ≤ l.length := List.countP_le_length
    simp only at hat
    rw [hx.1, wrap64_in (x := s + 1) (by omega), wrap64_in (x := k - 1) (by omega)]
    refine ⟨⟨hat.2⟩, ⟨by omega⟩, fun hm => ⟨⟨hat.2⟩, ⟨by omega⟩, fun hz => ?_, fun hz => ?_⟩, fun hm => ⟨fun hz => ?_, fun hz => ⟨⟨ha.2.1⟩, by simp, ⟨?_⟩⟩⟩⟩
    · have := cov_done ha hs (by simpa using hm) (by simpa using hz)
      exact retP_some this
    · exact ⟨⟨ha.2.1⟩, by simp, ⟨cov_move ha hs (by simpa using hm) (by simpa using hz)⟩⟩
    · have hz : k = 0 := by simpa using hz
      omega
    · exact cov_stay ha hs (by simpa using hm)
  · obtain ⟨s, v, l, k⟩ := a
    exact retP_none (cov_end ha (of_decide_eq_false hs))
theorem covK_succ {t : List Int} {k : Nat} {s : Int} (h : covK t k = some s) (hn : ¬ idxF (k : Int) t < 0) : covK t (k + 1) = some (if s < idxF (k : Int) t + 1 then idxF (k : Int) t + 1 else s) := by
  simp only [covK, h]
  rw [decide_eq_false hn]
  rfl
theorem covK_fail {t : List Int} : ∀ {n k : Nat}, k < n → idxF (k : Int) t < 0 → covK t n = none
  | 0, k, hk, _ => by omega
  | n + 1, k, hk, h => by
    simp only [covK]
    by_cases hkn : k < n
    · rw [covK_fail hkn h]
    · rw [show n = k by omega]
      cases covK t k with
      | none => rfl
      | some s => simp only; rw [decide_eq_true h]; rfl
theorem vc_impl_CoverSteps (wr : List UInt8) (ww wh : Int) (wc : List UInt8) (wx wy wd : Int) (_ : True) : VC_impl_CoverSteps wr ww wh wc wx wy wd
    (retP (.tup [.int .i64 (optI (covW (goodB ⟨wr, ww, wh, wc, wx, wy, wd⟩) ⟨wr, ww, wh, wc, wx, wy, wd⟩)), .bool (covW (goodB ⟨wr, ww, wh, wc, wx, wy, wd⟩) ⟨wr, ww, wh, wc, wx, wy, wd⟩).isSome])) := by
  unfold VC_impl_CoverSteps
  refine ⟨⟨trivial⟩, fun hg => retP_none (covW_no (by simpa using hg)), fun hg => ?_⟩
  simp only [Bool.not_eq_false'] at hg
  rw [covW_yes hg]
  have h81 := (good_nine hg).2.2.2.2.2.2
  simp only at h81
  have hlen := trkF_len 4000 ⟨wr, ww, wh, wc, wx, wy, wd⟩
  rw [show Int.toNat 4000 = 4000 from rfl]
  simp only
  generalize trkF 4000 ⟨wr, ww, wh, wc, wx, wy, wd⟩ = t at hlen
  refine ⟨⟨hg, by omega, by omega⟩, by simp, ⟨Int.le_refl _, by simp only; omega, h81, hlen, rfl, Int.le_refl _, by simp only; omega⟩, fun a ha => ⟨fun hc => ?_, fun hc => ?_⟩⟩
  · obtain ⟨i, s⟩ := a
    have hc := of_decide_eq_true hc
    obtain ⟨g1, g2, g3, g4, g5, g6, g7⟩ := ha
    simp only at hc g1 g2 g5 g6 g7 ⊢
    have hii : ((i.toNat : Nat) : Int) = i := by omega
    have hil := idxF_lt (v := i) (l := t)
    have hig := idxF_ge i t
    rw [wrap64_in (x := i + 1) (by omega), wrap64_in (x := idxF i t + 1) (by omega)]
    refine ⟨⟨trivial, by omega⟩, fun hn => ?_, fun hn => ⟨by simp, ⟨⟨by simp only; omega, by simp only; omega, h81, hlen, ?_, ?_, ?_⟩, by omega⟩⟩⟩
    · refine retP_none (covK_fail (k := i.toNat) (by omega) ?_)
      rw [hii]
      exact of_decide_eq_true hn
    · have hn := of_decide_eq_false hn
      have := covK_succ g5 (by rw [hii]; exact hn)
      rw [hii] at this
      simp only
      rw [show (i + 1).toNat = i.toNat + 1 by omega]
      exact this
    · simp only; split <;> omega
    · simp only; split <;> omega
  · obtain ⟨i, s⟩ := a
    have hc := of_decide_eq_false hc
    obtain ⟨g1, g2, g3, g4, g5, g6, g7⟩ := ha
    simp only at hc g1 g2 g5
    rw [show i.toNat = wc.length by omega] at g5
    exact retP_some g5
theorem visW_le (w : Wd) (steps : Int) : (visW (goodB w && inB steps 0 3000) steps w).length ≤ 10000 := by
  cases h : goodB w && inB steps 0 3000
  · rw [noRow rfl]; simp
  · simp only [Bool.and_eq_true] at h
    rw [okRow rfl]
    have := visF_le h.1 steps.toNat
    omega
theorem trkW_le (w : Wd) (steps : Int) : (trkW (goodB w && inB steps 0 200) steps w).length ≤ 10000 := by
  cases h : goodB w && inB steps 0 200
  · exact Nat.zero_le _
  · simp only [Bool.and_eq_true] at h
    show (trkF steps.toNat w).length ≤ 10000
    rw [trkF_len]
    have := inB_eq.1 h.2
    omega
theorem nevW_le (w : Wd) : (nevW (goodB w) w).length ≤ 10000 := by
  cases h : untilW (goodB w) (pPer w) 1 w with
  | none => rw [nevW_none h]; simp
  | some p =>
    rw [nevW_some h]
    have h1 := (untilW_some h).1
    have h2 := visF_le h1 p.toNat
    have h3 := zerF_len (visF p.toNat w) (visF p.toNat w).length
    unfold nevL
    omega
/-! ### rows of numbers in a law -/
theorem retG_lit2 {q : Bool} {r : Bool} {a b : List Int} {e : TypeId} (h : q = r) : retG 2 (.bool r) [⟨.ints .i64 a, e, .row⟩, ⟨.ints .i64 b, e, .row⟩] (.lit q) [⟨.ints .i64 a, e, .row⟩, ⟨.ints .i64 b, e, .row⟩] := by
  subst h
  unfold retG leSel leSelBy autoSel
  simp [pairsL, pairsV, idPairs, pairsIn, selOf, lookN, selMem, chkB, nodupSel, hasSel, prefSel, leSt, leL, leV, nilToL, V.nilTo, selL, V.sel, Cells.selN, leMem, leCells, memUnder, underL, V.under]
theorem ne_of_take {a b : List Int} {i : Nat} (h : (a.getD i 0 != b.getD i 0) = true) : (a == b) = false := by
  rw [beq_eq_false_iff_ne]
  rintro rfl
  simp at h
theorem vc_laws_eqIntS (n m : Nat) (a b : List Int) (h : n = a.length ∧ m = b.length ∧ n ≤ 10000 ∧ m ≤ 10000) : VC_laws_eqIntS n m a b (retG 2 (.bool (a == b)) [⟨.ints .i64 a, 3, .row⟩, ⟨.ints .i64 b, 3, .row⟩]) := by
  obtain ⟨rfl, rfl, h1, h2⟩ := h
  unfold VC_laws_eqIntS
  refine ⟨fun hne => ?_, fun heq => ⟨by simp, ?_, fun i hi => ⟨fun hc => ?_, fun hc => ?_⟩⟩⟩
  · refine retG_lit2 ?_
    symm
    rw [beq_eq_false_iff_ne]
    rintro rfl
    simp at hne
  · simp only [bne_eq_false_iff_eq] at heq
    exact ⟨by omega, by omega, by omega, h1, rfl⟩
  · have hc := of_decide_eq_true hc
    obtain ⟨g1, g2, g3, g4, g5⟩ := hi
    have hla : i.toNat < a.length := by omega
    have hlb : i.toNat < b.length := by omega
    rw [wrap64_in (x := i + 1) (by omega)]
    refine ⟨trivial, ⟨g1, hc⟩, ⟨hla⟩, ⟨by omega, by omega⟩, ⟨hlb⟩, fun hn => retG_lit2 (ne_of_take hn).symm, fun he => ⟨by simp, ⟨⟨by omega, by omega, g3, g4, ?_⟩, by omega⟩⟩⟩
    simp only [bne_eq_false_iff_eq] at he
    rw [show (i + 1).toNat = i.toNat + 1 by omega, take_succ_int hla, take_succ_int hlb, g5, he]
  · have hc := of_decide_eq_false hc
    obtain ⟨g1, g2, g3, g4, g5⟩ := hi
    refine retG_lit2 ?_
    rw [List.take_of_length_le (by omega), List.take_of_length_le (by omega)] at g5
    simp [g5]
theorem ramp_len (k : Int) (n : Nat) : (ramp k n).length = n := by simp [ramp]
theorem ramp_succ (k : Int) (n : Nat) : ramp k (n + 1) = ramp k n ++ [k + (n : Int)] := by simp [ramp, List.range_succ]
theorem mrkRow_len {a : List Int} {k i : Int} (h : mrkInv a k i) : (mrkRow a k i).length = a.length := by
  obtain ⟨h1, h2, _⟩ := h
  simp only [mrkRow, List.length_append, ramp_len, List.length_drop]
  omega
theorem mrkRow_set {a : List Int} {k i : Int} (h : mrkInv a k i) (hi : i < a.length) : (mrkRow a k i).set i.toNat (k + i) = mrkRow a k (i + 1) := by
  obtain ⟨h1, h2, _⟩ := h
  have hl : i.toNat < a.length := by omega
  unfold mrkRow
  rw [List.set_append_right _ _ (by rw [ramp_len]; exact Nat.le_refl _), ramp_len, Nat.sub_self, List.drop_eq_getElem_cons hl, List.set_cons_zero, show (i + 1).toNat = i.toNat + 1 by omega, ramp_succ, List.append_assoc]
  simp only [List.singleton_append]
  rw [show ((i.toNat : Nat) : Int) = i by omega]
theorem mrkInv_step {a : List Int} {k i : Int} (h : mrkInv a k i) (hi : i < a.length) : mrkInv a k (i + 1) ∧ ((a.length : Int) - (i + 1)).toNat < ((a.length : Int) - i).toNat := by
  obtain ⟨h1, h2, h3, h4, h5⟩ := h
  exact ⟨⟨by omega, by omega, h3, h4, h5⟩, by omega⟩
theorem vc_laws_markIntS (k : Int) (n : Nat) (a : List Int) (h : n = a.length ∧ n ≤ 10000 ∧ 0 ≤ k ∧ k ≤ 10000) : VC_laws_markIntS k n a (retG 1 (.int .i64 (k + n)) [⟨.ints .i64 (ramp k n), 3, .row⟩]) := by
  obtain ⟨rfl, h1, h2, h3⟩ := h
  unfold VC_laws_markIntS
  refine ⟨by simp [mrkRow, ramp], ⟨by omega, by omega, h1, h2, h3⟩, fun i hi => ⟨fun hc => ?_, fun hc => ?_⟩⟩
  · have hc := of_decide_eq_true hc
    have hb := hi
    obtain ⟨g1, g2, g3, g4, g5⟩ := hb
    have hst := mrkInv_step hi hc
    rw [wrap64_in (x := i + 1) (by omega), wrap64_in (x := k + i + 1) (by omega), mrkRow_len hi, mrkRow_set hi hc]
    refine ⟨⟨g1, hc⟩, ⟨by omega⟩, by simp [Int.add_assoc], ⟨hst⟩⟩
  · have hc := of_decide_eq_false hc
    obtain ⟨g1, g2, _⟩ := hi
    have e : i = (a.length : Int) := by omega
    subst e
    refine retG_int1 rfl ?_
    unfold mrkRow
    rw [show ((a.length : Int)).toNat = a.length by omega, List.drop_length, List.append_nil]
theorem vc_laws_heldIntS (k : Int) (n : Nat) (a : List Int) (h : n = a.length ∧ n ≤ 10000 ∧ 0 ≤ k ∧ k ≤ 10000) : VC_laws_heldIntS k n a (retG 1 (.int .i64 (bif a == ramp k n then k + n else -1)) [⟨.ints .i64 a, 3, .row⟩]) := by
  obtain ⟨rfl, h1, h2, h3⟩ := h
  unfold VC_laws_heldIntS
  refine ⟨by simp, ⟨⟨by omega, by omega, h1, h2, h3⟩, by simp [ramp]⟩, fun i hi => ⟨fun hc => ?_, fun hc => ?_⟩⟩
  · have hc := of_decide_eq_true hc
    obtain ⟨hm, ht⟩ := hi
    have hb := hm
    obtain ⟨g1, g2, g3, g4, g5⟩ := hb
    have hst := mrkInv_step hm hc
    have hl : i.toNat < a.length := by omega
    rw [wrap64_in (x := i + 1) (by omega), wrap64_in (x := k + i + 1) (by omega)]
    refine ⟨⟨g1, hc⟩, ⟨hl⟩, fun hn => retG_int1 ?_ rfl, fun he => ⟨by simp [Int.add_assoc], ⟨⟨hst.1, ?_⟩, hst.2⟩⟩⟩
    · have : (a == ramp k a.length) = false := by
        rw [beq_eq_false_iff_ne]
        intro e
        have e2 : a.getD i.toNat 0 = (ramp k a.length).getD i.toNat 0 := by rw [← e]
        rw [e2] at hn
        simp [ramp, List.getD_eq_getElem?_getD, hl] at hn
        omega
      rw [this]; rfl
    · simp only [bne_eq_false_iff_eq] at he
      rw [show (i + 1).toNat = i.toNat + 1 by omega, take_succ_int hl, ramp_succ, ht, he, show ((i.toNat : Nat) : Int) = i by omega]
  · have hc := of_decide_eq_false hc
    obtain ⟨⟨g1, g2, _⟩, ht⟩ := hi
    have e : i = (a.length : Int) := by omega
    subst e
    rw [show ((a.length : Int)).toNat = a.length by omega, List.take_length] at ht
    refine retG_int1 ?_ rfl
    rw [← ht]
    simp
end Go.Vi
