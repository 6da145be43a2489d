/- Corners, boxes, areas and windings of turtles: the conditions hold. -/
import Derived.Test.YtllocclgllappaaTVVc
import Derived.Test.YtllocclgllappaaTVSpec
namespace Go.Vi
set_option linter.unusedSimpArgs false
/-! ### ends of calls -/
theorem retG_mr {l l' : List (List Int)} {et e : TypeId} {u u' : Nat} {J : List Blk} (hu : u' = u) (hl : l' = l) :
    retG 0 (.row 0 u) [⟨.mat .i64 et l, e, .mat⟩] (.row 0 u') (⟨.mat .i64 et l', e, .mat⟩ :: J) := by
  subst hu; subst hl
  unfold retG leSel leSelBy autoSel
  simp [pairsL, pairsV, idPairs, pairsIn, selOf, lookN, findSel, selMem, chkB, nodupSel, hasSel, prefSel, leSt, leL, leV, nilToL, V.nilTo, isNilS, isGhost, selL, V.sel, Cells.selN, leMem, leCells, memUnder, underL, V.under]
  try trivial
theorem retG_cn {l : List (List Int)} {et e : TypeId} {u : Nat} {b : Bool} {J : List Blk} (hb : b = false) (hu : u = 0) (hl : l = []) :
    retG 0 (.tup [.row 0 u, .bool b]) [⟨.mat .i64 et l, e, .mat⟩] (.tup [.raw (.slice none 0 0), .lit false]) J := by
  subst hb; subst hu; subst hl
  unfold retG leSel leSelBy autoSel
  simp [pairsL, pairsV, idPairs, pairsIn, selOf, lookN, findSel, selMem, chkB, nodupSel, hasSel, prefSel, leSt, leL, leV, nilToL, V.nilTo, isNilS, isGhost, selL, V.sel, Cells.selN, Cells.none0, Kind.isRow, Blk.isOwnMat, leMem, leCells, memUnder, underL, V.under]
  try trivial
theorem retG_cy {l l' : List (List Int)} {et e : TypeId} {u u' : Nat} {b : Bool} {J : List Blk} (hb : b = true) (hu : u' = u) (hl : l' = l) :
    retG 0 (.tup [.row 0 u, .bool b]) [⟨.mat .i64 et l, e, .mat⟩] (.tup [.row 0 u', .lit true]) (⟨.mat .i64 et l', e, .mat⟩ :: J) := by
  subst hb; subst hu; subst hl
  unfold retG leSel leSelBy autoSel
  simp [pairsL, pairsV, idPairs, pairsIn, selOf, lookN, findSel, selMem, chkB, nodupSel, hasSel, prefSel, leSt, leL, leV, nilToL, V.nilTo, isNilS, isGhost, selL, V.sel, Cells.selN, leMem, leCells, memUnder, underL, V.under]
  try trivial
theorem retG_fn {l : List Int} {e : TypeId} {u : Nat} {b : Bool} {J : List Blk} (hb : b = false) (hu : u = 0) (hl : l = []) :
    retG 0 (.tup [.row 0 u, .bool b]) [⟨.ints .i64 l, e, .rows 2⟩] (.tup [.raw (.slice none 0 0), .lit false]) J := by
  subst hb; subst hu; subst hl
  unfold retG leSel leSelBy autoSel
  simp [pairsL, pairsV, idPairs, pairsIn, selOf, lookN, findSel, selMem, chkB, nodupSel, hasSel, prefSel, leSt, leL, leV, nilToL, V.nilTo, isNilS, isGhost, selL, V.sel, Cells.selN, Cells.none0, Kind.isRow, Blk.isOwnMat, leMem, leCells, memUnder, underL, V.under]
  try trivial
theorem retG_fy {l l' : List Int} {e : TypeId} {u u' : Nat} {b : Bool} {J : List Blk} (hb : b = true) (hu : u' = u) (hl : l' = l) :
    retG 0 (.tup [.row 0 u, .bool b]) [⟨.ints .i64 l, e, .rows 2⟩] (.tup [.row 0 u', .lit true]) (⟨.ints .i64 l', e, .rows 2⟩ :: J) := by
  subst hb; subst hu; subst hl
  unfold retG leSel leSelBy autoSel
  simp [pairsL, pairsV, idPairs, pairsIn, selOf, lookN, findSel, selMem, chkB, nodupSel, hasSel, prefSel, leSt, leL, leV, nilToL, V.nilTo, isNilS, isGhost, selL, V.sel, Cells.selN, leMem, leCells, memUnder, underL, V.under]
  try trivial
theorem retG_bn {l : List Int} {e : TypeId} {u : Nat} {b : Bool} {J : List Blk} (hb : b = false) (hu : u = 0) (hl : l = []) :
    retG 0 (.tup [.row 0 u, .bool b]) [⟨.ints .i64 l, e, .row⟩] (.tup [.raw (.slice none 0 0), .lit false]) J := by
  subst hb; subst hu; subst hl
  unfold retG leSel leSelBy autoSel
  simp [pairsL, pairsV, idPairs, pairsIn, selOf, lookN, findSel, selMem, chkB, nodupSel, hasSel, prefSel, leSt, leL, leV, nilToL, V.nilTo, isNilS, isGhost, selL, V.sel, Cells.selN, Cells.none0, Kind.isRow, Blk.isOwnMat, leMem, leCells, memUnder, underL, V.under]
  try trivial
theorem retG_by {l l' : List Int} {e : TypeId} {u u' : Nat} {b : Bool} {B : Blk} {J : List Blk} (hb : b = true) (hu : u' = u) (hl : l' = l) :
    retG 0 (.tup [.row 0 u, .bool b]) [⟨.ints .i64 l, e, .row⟩] (.tup [.row 1 u', .lit true]) (B :: ⟨.ints .i64 l', e, .row⟩ :: J) := by
  subst hb; subst hu; subst hl
  unfold retG leSel leSelBy autoSel
  simp [pairsL, pairsV, idPairs, pairsIn, selOf, lookN, findSel, selMem, chkB, nodupSel, hasSel, prefSel, leSt, leL, leV, nilToL, V.nilTo, isNilS, isGhost, selL, V.sel, Cells.selN, leMem, leCells, memUnder, underL, V.under]
  try trivial
theorem retG_mb {l : List (List Int)} {et e f : TypeId} {d d' : List Int} {J : List Blk} (hd : d' = d) :
    retG 1 (.row 1 4) [⟨.mat .i64 et l, e, .mat⟩, ⟨.ints .i64 d, f, .row⟩] (.row 1 4) (⟨.mat .i64 et l, e, .mat⟩ :: ⟨.ints .i64 d', f, .row⟩ :: J) := by
  subst hd
  unfold retG leSel leSelBy autoSel
  simp [pairsL, pairsV, idPairs, pairsIn, selOf, lookN, findSel, selMem, chkB, nodupSel, hasSel, prefSel, leSt, leL, leV, nilToL, V.nilTo, isNilS, isGhost, selL, V.sel, Cells.selN, leMem, leCells, memUnder, underL, V.under]
  try trivial
theorem retG_fb {l : List Int} {e f : TypeId} {d d' : List Int} {J : List Blk} (hd : d' = d) :
    retG 1 (.row 1 4) [⟨.ints .i64 l, e, .rows 2⟩, ⟨.ints .i64 d, f, .row⟩] (.row 1 4) (⟨.ints .i64 l, e, .rows 2⟩ :: ⟨.ints .i64 d', f, .row⟩ :: J) := by
  subst hd
  unfold retG leSel leSelBy autoSel
  simp [pairsL, pairsV, idPairs, pairsIn, selOf, lookN, findSel, selMem, chkB, nodupSel, hasSel, prefSel, leSt, leL, leV, nilToL, V.nilTo, isNilS, isGhost, selL, V.sel, Cells.selN, leMem, leCells, memUnder, underL, V.under]
  try trivial
/-! ### corners -/
theorem few_of {s : List UInt8} {k : Int} (h : fewB s k = true) : askB s k = true ∧ repN s k ≤ 400 := by
  unfold fewB at h
  simpa using h
theorem few_n1 {s : List UInt8} {k : Int} (h : askB s k = false) : fewB s k = false := by unfold fewB; rw [h]; rfl
theorem few_n2 {s : List UInt8} {k : Int} (h : ¬ repN s k ≤ 400) : fewB s k = false := by unfold fewB; rw [decide_eq_false h, Bool.and_false]
theorem few_y {s : List UInt8} {k : Int} (h : askB s k = true) (h2 : repN s k ≤ 400) : fewB s k = true := by unfold fewB; rw [h, decide_eq_true h2]; rfl
theorem cn_no {s : List UInt8} {k : Int} (h : fewB s k = false) : cnN s k = 0 ∧ cnR s k = [] ∧ cfR s k = [] := by unfold cnN cnR cfR; rw [h]; exact ⟨rfl, rfl, rfl⟩
theorem cn_yes {s : List UInt8} {k : Int} (h : fewB s k = true) : cnN s k = repN s k + 1 ∧ cnR s k = cnM (repS s k) (repN s k + 1) ∧ cfR s k = cnF (repS s k) (repN s k + 1) := by unfold cnN cnR cfR; rw [h]; exact ⟨rfl, rfl, rfl⟩
theorem vc_spec_tuFew (s : List UInt8) (k : Int) (h : (s.length : Int) ≤ 9223372036854775807) : VC_spec_tuFew s k (retP (.bool (fewB s k))) := by
  unfold VC_spec_tuFew
  simp only [at_iff, retP_lit, retP_bool, pg_half h]
  refine ⟨h, fun h1 => ⟨by omega, ?_⟩, fun h1 => (few_n1 h1).symm⟩
  obtain ⟨hp, h0, h2⟩ := ask_of h1
  have hl := prog_len hp
  have hm := Nat.mul_le_mul hl.2.2.1 (show k.toNat ≤ 100 by omega)
  have e1 : ((s.length / 2 : Nat) : Int) * k = ((s.length / 2 * k.toNat : Nat) : Int) := by
    rw [Int.natCast_mul]; congr 1; omega
  rw [e1, wrap64_in (by omega)]
  unfold fewB
  rw [h1, (rep_yes h1).1, Bool.true_and]
  exact decide_eq_decide.2 (by omega)
theorem vc_impl_turtle_point (x y w : Int) (_ : True) : VC_impl_turtle_point x y w (retG 0 (.agg [.int .i64 x, .int .i64 y]) []) := by
  unfold VC_impl_turtle_point
  simp [retG, leSel, leSelBy, autoSel, pairsL, pairsV, idPairs, pairsIn, selOf, lookN, findSel, selMem, chkB, nodupSel, prefSel, leSt, leL, leV, nilToL, V.nilTo, selL, V.sel, leMem, memUnder, underL, V.under]
theorem trM_app : ∀ {l : List Sc} (r : List Sc) (t : Tt), l.length % 2 = 0 → trM (l ++ r) t = trM l t ++ trM r (goC l t)
  | [], r, t, _ => by simp [goC, trM]
  | [_], _, _, h => by simp at h
  | a :: b :: l, r, t, h => by
    have := trM_app (l := l) r (tnT b.i (goT a.i t)) (by simp only [List.length_cons] at h; omega)
    simp only [List.cons_append, goC, trM, this]
theorem trM_len : ∀ (l : List Sc) (t : Tt), (trM l t).length = l.length / 2
  | [], _ => rfl
  | [_], _ => by simp [trM]
  | a :: b :: l, t => by
    simp only [trM, List.length_cons, trM_len l]
    omega
theorem trM_ix {c : List Sc} {n : Nat} (hn : c.length = n * 2) (t : Tt) : ∀ m, m ≤ n → trM (c.take (m * 2)) t = (List.range m).map fun j => xyT (goC (c.take ((j + 1) * 2)) t)
  | 0, _ => by simp [trM]
  | m + 1, h => by
    rw [sc_two hn h, trM_app _ _ (by rw [List.length_take]; omega), trM_ix hn t m (by omega), List.range_succ, List.map_append]
    congr 1
    simp only [List.map_cons, List.map_nil, trM]
    rw [goC_sc hn h]
theorem cnM_tr {c : List Sc} {n : Nat} (hn : c.length = n * 2) : [0, 0] :: trM c zeroT = cnM c (n + 1) := by
  have := trM_ix hn zeroT n (Nat.le_refl _)
  rw [← hn, List.take_length] at this
  rw [this]
  unfold cnM
  rw [List.range_succ_eq_map, List.map_cons, List.map_map]
  congr 1
theorem cnM_len (c : List Sc) (n : Nat) : (cnM c n).length = n := by simp [cnM]
theorem cnM_two (c : List Sc) (n : Nat) : twoM (cnM c n) := fun r hr => by
  obtain ⟨j, _, rfl⟩ := List.mem_map.1 hr
  rfl
theorem cnM_get {c : List Sc} {n j : Nat} (h : j < n) : (cnM c n).getD j [] = xyT (posT c j) := by
  unfold cnM
  rw [List.getD_eq_getElem?_getD, List.getElem?_map, List.getElem?_range h]
  rfl
theorem cnF_succ (c : List Sc) (n : Nat) : cnF c (n + 1) = cnF c n ++ xyT (posT c n) := by
  unfold cnF
  rw [List.range_succ, List.flatMap_append]
  simp
theorem cnF_len (c : List Sc) : ∀ n, (cnF c n).length = n * 2
  | 0 => rfl
  | n + 1 => by rw [cnF_succ, List.length_append, cnF_len c n]; simp [xyT]; omega
theorem cnF_get (c : List Sc) : ∀ (n j r : Nat), j < n → r < 2 → (cnF c n).getD (j * 2 + r) 0 = (xyT (posT c j)).getD r 0
  | 0, _, _, h, _ => by omega
  | n + 1, j, r, h, hr => by
    rw [cnF_succ, List.getD_eq_getElem?_getD]
    rcases Nat.lt_or_ge j n with hj | hj
    · rw [List.getElem?_append_left (by rw [cnF_len]; omega), ← List.getD_eq_getElem?_getD]
      exact cnF_get c n j r hj hr
    · have : j = n := by omega
      subst this
      rw [List.getElem?_append_right (by rw [cnF_len]; omega), cnF_len, show j * 2 + r - j * 2 = r by omega, ← List.getD_eq_getElem?_getD]
theorem unF_succ (f : List Int) (m : Nat) : unF f (m + 1) = unF f m ++ [[f.getD (m * 2) 0, f.getD (m * 2 + 1) 0]] := by
  unfold unF
  rw [List.range_succ, List.map_append]
  rfl
theorem unF_len (f : List Int) (m : Nat) : (unF f m).length = m := by simp [unF]
theorem unF_cn {c : List Sc} {n : Nat} : ∀ m, m ≤ n → unF (cnF c n) m = cnM c m
  | 0, _ => rfl
  | m + 1, h => by
    rw [unF_succ, unF_cn m (by omega)]
    have h0 := cnF_get c n m 0 h (by omega)
    have h1 := cnF_get c n m 1 h (by omega)
    rw [Nat.add_zero] at h0
    rw [h0, h1]
    unfold cnM
    rw [List.range_succ, List.map_append]
    rfl
theorem trM_two {s : List UInt8} {i : Nat} {t : Tt} (h : i + 2 ≤ s.length) (he : i % 2 = 0) : trM (ptS (s.take (i + 2))) t = trM (ptS (s.take i)) t ++ [xyT (tnT ((s.getD (i + 1) 0).toNat : Int) (goT (((s.getD i 0).toNat : Int) - 48) (goC (ptS (s.take i)) t)))] := by
  rw [ptS_two h he, trM_app _ _ (by rw [ptS_len]; omega)]
  simp [trM]
theorem vc_spec_tuCorners (s : List UInt8) (k : Int) (h : fewB s k = true) :
    VC_spec_tuCorners s k (retG 0 (.row 0 (repN s k + 1)) [⟨.mat .i64 3 (cnM (repS s k) (repN s k + 1)), 34, .mat⟩]) := by
  unfold VC_spec_tuCorners
  obtain ⟨ha0, hN⟩ := few_of h
  obtain ⟨hp, h0, h1⟩ := ask_of ha0
  have hl := prog_len hp
  have z0 : aftR s (k - k).toNat = zeroT := by rw [Int.sub_self]; rfl
  have pt0 : ptS (s.take (Int.toNat 0)) = [] := rfl
  have tr0 : ∀ t, trM [] t = [] := fun _ => rfl
  have go0 : ∀ t, goC [] t = t := fun _ => rfl
  have hLN : ∀ d : Nat, d ≤ k.toNat → s.length / 2 * d ≤ 900 := fun d hd => by
    have := Nat.mul_le_mul hl.2.2.1 (show d ≤ 100 by omega); omega
  have hRl : ∀ d, (repC d (ptS s)).length = s.length / 2 * d * 2 := fun d => by
    rw [repC_len, ptS_len, Nat.mul_comm d, Nat.mul_assoc, Nat.mul_comm 2, Nat.mul_assoc]
  have hRe : ∀ d, (repC d (ptS s)).length % 2 = 0 := fun d => by rw [hRl]; exact Nat.mul_mod_left _ _
  simp only [at_iff, true_and, and_true, z0, pt0, tr0, go0, List.append_nil]
  refine ⟨rfl, ⟨by rw [Int.sub_self]; rfl, by rw [Int.sub_self]; rfl, by decide⟩, ⟨h0, Int.le_refl _⟩, fun a ha => ⟨fun hc => ?_, fun hc => ?_⟩⟩
  · have hc := of_decide_eq_true hc
    refine ⟨by rw [Int.toNat_zero, Nat.zero_div, Nat.add_zero], ⟨hp, Int.le_refl _, by omega, rfl⟩, fun b hb => ⟨fun hd => ?_, fun hd => ?_⟩⟩
    · have hd := of_decide_eq_true hd
      obtain ⟨i, hi, he, hil, h19, hin, e1, e2, e3⟩ := ev_ev hb hd
      obtain ⟨hdg, ho⟩ := okP_at hl.2.2.2 he hil
      have hbd := go_bd hp (k := (k - a).toNat) (i := i) (by omega) (by omega) he
      have hg := inB_eq.1 hdg
      have hL := hLN (k - a).toNat (by omega)
      rw [e1, hin]
      simp only [Int.toNat_natCast]
      rw [goC_two hil he, trM_two hil he]
      refine ⟨⟨okT_mono hbd (by omega), by omega, hd, hdg⟩, ⟨okT_mono (okT_go hbd hg.1 hg.2) (by omega), by omega, by omega, by omega⟩, ⟨rfl, ?_, by omega⟩, ⟨by omega, ?_, rfl, rfl, rfl⟩, e2, e3⟩
      · rw [List.cons_append, List.length_cons, List.length_append, trM_len, trM_len, hRl, ptS_len, List.length_take]
        omega
      · rw [List.append_assoc]; rfl
    · have hd := of_decide_eq_false hd
      obtain ⟨_, g0, g1, g2⟩ := hb
      have e1 : IntKind.wrap .i64 (a - 1) = a - 1 := wrap64_in (by omega)
      have e2 : (k - (a - 1)).toNat = (k - a).toNat + 1 := by omega
      rw [show b.toNat = s.length by omega, List.take_length, e1, e2, aft_succ hp]
      refine ⟨⟨by rw [Nat.mul_succ, Nat.add_assoc], ?_, rfl, rfl, rfl⟩, by omega, by omega⟩
      rw [repC_succ', trM_app _ _ (hRe _)]
      rfl
  · have hc := of_decide_eq_false hc
    rw [show (k - a).toNat = k.toNat by omega]
    obtain ⟨r1, r2⟩ := rep_yes ha0
    refine retG_mr (by rw [r1]; omega) ?_
    rw [r2, r1]
    exact cnM_tr (hRl _)
theorem vc_spec_CornersAfter (s : List UInt8) (k : Int) (h : (s.length : Int) ≤ 9223372036854775807) :
    VC_spec_CornersAfter s k (retG 0 (.tup [.row 0 (cnN s k), .bool (fewB s k)]) [⟨.mat .i64 3 (cnR s k), 34, .mat⟩]) := by
  unfold VC_spec_CornersAfter
  simp only [at_iff, Bool.not_eq_true', Bool.not_eq_false']
  exact ⟨h, fun h1 => retG_cn h1 (cn_no h1).1 (cn_no h1).2.1, fun h1 => ⟨h1, retG_cy h1 (cn_yes h1).1.symm (cn_yes h1).2.1.symm⟩⟩
theorem vc_impl_cornersOf (s : List UInt8) (k : Int) (h : (s.length : Int) ≤ 9223372036854775807) :
    VC_impl_cornersOf s k (retG 0 (.tup [.row 0 (cnN s k), .bool (fewB s k)]) [⟨.ints .i64 (cfR s k), 65, .rows 2⟩]) := by
  unfold VC_impl_cornersOf
  have no : fewB s k = false → ∀ J, retG 0 (.tup [.row 0 (cnN s k), .bool (fewB s k)]) [⟨.ints .i64 (cfR s k), 65, .rows 2⟩] (.tup [.raw (.slice none 0 0), .lit false]) J := fun hn J => retG_fn hn (cn_no hn).1 (cn_no hn).2.2
  have t1 : Int.toNat 1 = 1 := rfl
  simp only [at_iff, Bool.not_eq_true', Bool.not_eq_false', true_and, and_true, t1, Nat.div_one, Nat.mod_one]
  refine ⟨h, fun h1 => no (few_n1 h1) _, fun h1 => ⟨fun h2 => no (few_n2 (by have := of_decide_eq_true h2; omega)) _, fun h2 => ?_⟩⟩
  have h2 := of_decide_eq_false h2
  have hN : repN s k ≤ 400 := by omega
  obtain ⟨r1, r2, r3⟩ := rep_ok h1
  rw [wrap64_in (by omega)]
  refine ⟨⟨by omega, by omega, by omega⟩, ⟨r1, r2, r3, by omega, by omega⟩, rfl, ⟨Int.le_refl _, by omega⟩, fun a ha => ⟨fun hc => ?_, fun hc => ?_⟩⟩
  · have hc := of_decide_eq_true hc
    obtain ⟨i, hi, hil, hin, e1, e2, e3⟩ := ix_ev ha hc (by omega)
    have g0 : (hlC (repS s k) 1 (repN s k + 1)).getD (i * 3) 0 = (tri (goC ((repS s k).take (1 * i * 2)) zeroT)).getD 0 0 := hlC_get (repS s k) 1 (repN s k + 1) i 0 hil (by omega)
    have g1 := hlC_get (repS s k) 1 (repN s k + 1) i 1 hil (by omega)
    rw [e1, hin]
    simp only [Int.toNat_natCast]
    rw [Nat.one_mul] at g0 g1
    rw [g0, g1, cnF_succ, hlC_len, cnF_len]
    exact ⟨⟨by omega, hc⟩, by omega, ⟨⟨rfl, by simp⟩, by omega, by omega⟩, ⟨trivial, rfl⟩, e2, e3⟩
  · have hc := of_decide_eq_false hc
    obtain ⟨g0, g1⟩ := ha
    have hy := few_y h1 hN
    rw [show a.toNat = repN s k + 1 by omega]
    exact retG_fy hy (cn_yes hy).1.symm (cn_yes hy).2.2.symm
theorem cf_len {s : List UInt8} {k : Int} (h : fewB s k = true) : (cfR s k).length = cnN s k * 2 ∧ 1 ≤ cnN s k ∧ cnN s k ≤ 401 := by
  obtain ⟨c1, c2, c3⟩ := cn_yes h
  have := (few_of h).2
  rw [c3, c1, cnF_len]
  exact ⟨rfl, by omega, by omega⟩
theorem vc_impl_CornersAfter (s : List UInt8) (k : Int) (h : (s.length : Int) ≤ 9223372036854775807) :
    VC_impl_CornersAfter s k (retG 0 (.tup [.row 0 (cnN s k), .bool (fewB s k)]) [⟨.mat .i64 3 (cnR s k), 34, .mat⟩]) := by
  unfold VC_impl_CornersAfter
  simp only [at_iff, Bool.not_eq_true', Bool.not_eq_false', true_and, and_true]
  refine ⟨h, fun h1 => retG_cn h1 (cn_no h1).1 (cn_no h1).2.1, fun h1 => ?_⟩
  obtain ⟨l1, l2, l3⟩ := cf_len h1
  refine ⟨⟨by omega, by omega, by omega⟩, rfl, ⟨Int.le_refl _, by omega⟩, fun a ha => ⟨fun hc => ?_, fun hc => ?_⟩⟩
  · have hc := of_decide_eq_true hc
    obtain ⟨i, hi, hil, hin, e1, e2, e3⟩ := ix_ev ha hc (by omega)
    rw [e1, hin]
    simp only [Int.toNat_natCast]
    rw [unF_succ, unF_len]
    exact ⟨⟨by omega, hc⟩, by omega, ⟨rfl, rfl, by omega⟩, ⟨trivial, rfl⟩, e2, e3⟩
  · have hc := of_decide_eq_false hc
    obtain ⟨g0, g1⟩ := ha
    obtain ⟨c1, c2, c3⟩ := cn_yes h1
    rw [show a.toNat = cnN s k by omega]
    refine retG_cy h1 rfl ?_
    rw [c2, c3, c1]
    exact unF_cn _ (Nat.le_refl _)
/-! ### boxes -/
theorem ix_ev' {n : Nat} {a : Int} (h : ixN n a) (hlt : a < n) (hn : n ≤ 1000) : ∃ i : Nat, a = i ∧ i < n ∧ a.toNat = i ∧ IntKind.wrap .i64 (a + 1) = ((i + 1 : Nat) : Int) ∧ ixN n ((i + 1 : Nat) : Int) ∧ ((n : Int) - ((i + 1 : Nat) : Int)).toNat < ((n : Int) - a).toNat := by
  obtain ⟨h0, h1⟩ := h
  refine ⟨a.toNat, by omega, by omega, rfl, ?_, ⟨by omega, by omega⟩, by omega⟩
  rw [wrap64_in (by omega)]; omega
theorem vc_spec_l1Least (a b : Int) (_ : True) : VC_spec_l1Least a b (retP (.int .i64 (leI a b))) := by
  unfold VC_spec_l1Least leI
  simp only [retP_int]
  refine ⟨fun h => ?_, fun h => ?_⟩
  · have := of_decide_eq_true h
    rw [if_neg (by omega)]
  · have := of_decide_eq_false h
    split <;> omega
theorem vc_spec_l1Most (a b : Int) (_ : True) : VC_spec_l1Most a b (retP (.int .i64 (moI a b))) := by
  unfold VC_spec_l1Most moI
  simp only [retP_int]
  refine ⟨fun h => ?_, fun h => ?_⟩
  · have := of_decide_eq_true h
    rw [if_neg (by omega)]
  · have := of_decide_eq_false h
    split <;> omega
theorem twoM_at {l : List (List Int)} (h : twoM l) {i : Nat} (hi : i < l.length) : (l.getD i []).length = 2 := h _ (getD_mem hi [])
theorem vc_spec_tuBox (n : Nat) (l : List (List Int)) (h : l.length = n ∧ 1 ≤ n ∧ n ≤ 1000 ∧ twoM l) :
    VC_spec_tuBox n l (retG 1 (.row 1 4) [⟨.mat .i64 3 l, 34, .mat⟩, ⟨.ints .i64 (bx4 (bxM l n)), 3, .row⟩]) := by
  unfold VC_spec_tuBox
  obtain ⟨hn, h1, h9, h2⟩ := h
  have t0 : Int.toNat 0 = 0 := rfl
  have t1 : Int.toNat 1 = 1 := rfl
  have t2 : Int.toNat 2 = 2 := rfl
  have t3 : Int.toNat 3 = 3 := rfl
  have hb : ∀ q, (bx4 q).length = 4 := fun _ => rfl
  have g0 : ∀ q, (bx4 q).getD 0 0 = q.a := fun _ => rfl
  have g1 : ∀ q, (bx4 q).getD 1 0 = q.b := fun _ => rfl
  have g2 : ∀ q, (bx4 q).getD 2 0 = q.c := fun _ => rfl
  have g3 : ∀ q, (bx4 q).getD 3 0 = q.d := fun _ => rfl
  have h20 := twoM_at h2 (show 0 < l.length by omega)
  simp only [at_iff, true_and, and_true, t0, t1, t2, t3, hb, g0, g1, g2, g3, h20]
  have start : [(l.getD 0 []).getD 0 0, (l.getD 0 []).getD 0 0, (l.getD 0 []).getD 1 0, (l.getD 0 []).getD 1 0] = bx4 (bxM l 0) := rfl
  refine ⟨by omega, by omega, by omega, by omega, by omega, by omega, by omega, by omega, by omega, by omega, by omega, by omega, by omega, by omega, by omega, by omega, start, ⟨Int.le_refl _, by omega⟩, fun a ha => ⟨fun hc => ?_, fun hc => ?_⟩⟩
  · have hc := of_decide_eq_true hc
    obtain ⟨i, hi, hil, hin, e1, e2, e3⟩ := ix_ev' ha hc h9
    have h2i := twoM_at h2 (show i < l.length by omega)
    rw [e1, hin]
    simp only [Int.toNat_natCast, h2i]
    refine ⟨⟨by omega, hc⟩, by omega, by omega, by omega, by omega, by omega, by omega, by omega, by omega, by omega, by omega, by omega, by omega, by omega, by omega, by omega, by omega, by omega, rfl, e2, e3⟩
  · have hc := of_decide_eq_false hc
    obtain ⟨q0, q1⟩ := ha
    rw [show a.toNat = n by omega]
    exact retG_mb rfl
theorem vc_impl_boxOf (n : Nat) (f : List Int) (h : f.length = n * 2 ∧ 1 ≤ n ∧ n ≤ 1000) :
    VC_impl_boxOf n f (retG 1 (.row 1 4) [⟨.ints .i64 f, 65, .rows 2⟩, ⟨.ints .i64 (bx4 (bxF f n)), 3, .row⟩]) := by
  unfold VC_impl_boxOf
  obtain ⟨hn, h1, h9⟩ := h
  have t0 : Int.toNat 0 = 0 := rfl
  have t1 : Int.toNat 1 = 1 := rfl
  have t2 : Int.toNat 2 = 2 := rfl
  have t3 : Int.toNat 3 = 3 := rfl
  have hb : ∀ q, (bx4 q).length = 4 := fun _ => rfl
  have g0 : ∀ q, (bx4 q).getD 0 0 = q.a := fun _ => rfl
  have g1 : ∀ q, (bx4 q).getD 1 0 = q.b := fun _ => rfl
  have g2 : ∀ q, (bx4 q).getD 2 0 = q.c := fun _ => rfl
  have g3 : ∀ q, (bx4 q).getD 3 0 = q.d := fun _ => rfl
  have k0 : ∀ a b c d : Int, [a, b, c, d].getD 0 0 = a := fun _ _ _ _ => rfl
  have k1 : ∀ a b c d : Int, [a, b, c, d].getD 1 0 = b := fun _ _ _ _ => rfl
  have k2 : ∀ a b c d : Int, [a, b, c, d].getD 2 0 = c := fun _ _ _ _ => rfl
  have k3 : ∀ a b c d : Int, [a, b, c, d].getD 3 0 = d := fun _ _ _ _ => rfl
  have kl : ∀ a b c d : Int, [a, b, c, d].length = 4 := fun _ _ _ _ => rfl
  have s01 : ∀ (q : Bx) (u v : Int), ((bx4 q).set 0 u).set 1 v = [u, v, q.c, q.d] := fun _ _ _ => rfl
  have s23 : ∀ (a b c d u v : Int), ([a, b, c, d].set 2 u).set 3 v = [a, b, u, v] := fun _ _ _ _ _ _ => rfl
  have s10 : ∀ (q : Bx) (u v : Int), ((bx4 q).set 1 u).set 0 v = [v, u, q.c, q.d] := fun _ _ _ => rfl
  have s32 : ∀ (a b c d u v : Int), ([a, b, c, d].set 3 u).set 2 v = [a, b, v, u] := fun _ _ _ _ _ _ => rfl
  have le : ∀ a b : Int, (if b < a then b else a) = leI a b := fun _ _ => rfl
  have mo : ∀ a b : Int, (if a < b then b else a) = moI a b := fun _ _ => rfl
  simp only [at_iff, true_and, and_true, and_self, t0, t1, t2, t3, hb, g0, g1, g2, g3, k0, k1, k2, k3, kl, s01, s23, s10, s32, le, mo, List.length_set]
  refine ⟨by omega, by omega, rfl, ⟨Int.le_refl _, by omega⟩, fun a ha => ⟨fun hc => ?_, fun hc => ?_⟩⟩
  · have hc := of_decide_eq_true hc
    obtain ⟨i, hi, hil, hin, e1, e2, e3⟩ := ix_ev' ha hc h9
    rw [e1, hin]
    simp only [Int.toNat_natCast]
    exact ⟨⟨by omega, hc⟩, by omega, by omega, by omega, rfl, e2, e3⟩
  · have hc := of_decide_eq_false hc
    obtain ⟨q0, q1⟩ := ha
    rw [show a.toNat = n by omega]
    exact retG_fb rfl
theorem bx_eq {c : List Sc} {n : Nat} (hn : 1 ≤ n) : ∀ m, m ≤ n → bxM (cnM c n) m = bxF (cnF c n) m
  | 0, _ => by
    have h0 : (cnF c n).getD 0 0 = _ := cnF_get c n 0 0 hn (by omega)
    have h1 : (cnF c n).getD 1 0 = _ := cnF_get c n 0 1 hn (by omega)
    unfold bxM bxF
    rw [h0, h1, cnM_get hn]
  | m + 1, h => by
    have h0 : (cnF c n).getD (m * 2) 0 = _ := cnF_get c n m 0 h (by omega)
    have h1 := cnF_get c n m 1 h (by omega)
    unfold bxM bxF
    rw [h0, h1, cnM_get h, bx_eq hn m (by omega)]
theorem bx_no {s : List UInt8} {k : Int} (h : fewB s k = false) : bxN s k = 0 ∧ bxR s k = [] := by unfold bxN bxR; rw [h]; exact ⟨rfl, rfl⟩
theorem bx_yes {s : List UInt8} {k : Int} (h : fewB s k = true) : bxN s k = 4 ∧ bxR s k = bx4 (bxF (cfR s k) (cnN s k)) := by unfold bxN bxR; rw [h]; exact ⟨rfl, rfl⟩
theorem vc_spec_BoxAfter (s : List UInt8) (k : Int) (h : (s.length : Int) ≤ 9223372036854775807) :
    VC_spec_BoxAfter s k (retG 0 (.tup [.row 0 (bxN s k), .bool (fewB s k)]) [⟨.ints .i64 (bxR s k), 3, .row⟩]) := by
  unfold VC_spec_BoxAfter
  simp only [at_iff, Bool.not_eq_true', Bool.not_eq_false']
  refine ⟨h, fun h1 => retG_bn h1 (bx_no h1).1 (bx_no h1).2, fun h1 => ⟨h1, ⟨cnM_len _ _, by omega, by have := (few_of h1).2; omega, cnM_two _ _⟩, retG_by h1 (bx_yes h1).1.symm ?_⟩⟩
  obtain ⟨c1, c2, c3⟩ := cn_yes h1
  rw [(bx_yes h1).2, c3, c1, bx_eq (by omega) _ (Nat.le_refl _)]
theorem vc_impl_BoxAfter (s : List UInt8) (k : Int) (h : (s.length : Int) ≤ 9223372036854775807) :
    VC_impl_BoxAfter s k (retG 0 (.tup [.row 0 (bxN s k), .bool (fewB s k)]) [⟨.ints .i64 (bxR s k), 3, .row⟩]) := by
  unfold VC_impl_BoxAfter
  simp only [at_iff, Bool.not_eq_true', Bool.not_eq_false']
  refine ⟨h, fun h1 => retG_bn h1 (bx_no h1).1 (bx_no h1).2, fun h1 => ?_⟩
  obtain ⟨l1, l2, l3⟩ := cf_len h1
  exact ⟨⟨l1, l2, by omega⟩, retG_by h1 (bx_yes h1).1.symm (bx_yes h1).2.symm⟩
/-! ### areas -/
theorem mul_bd {x y : Int} (hx : -400 ≤ x ∧ x ≤ 400) (hy : -400 ≤ y ∧ y ≤ 400) : -160000 ≤ x * y ∧ x * y ≤ 160000 := by
  have h := Int.natAbs_mul x y
  have := Nat.mul_le_mul (show x.natAbs ≤ 400 by omega) (show y.natAbs ≤ 400 by omega)
  omega
theorem pos_bd {c : List Sc} {n : Nat} (hn : c.length = n * 2) (h9 : n ≤ 36) (hc : okC c) {j : Nat} (hj : j ≤ n) : okT 400 (posT c j) := by
  have := okT_goC (okC_cut hn hc hj).1 okT_zero (Int.le_refl _)
  refine okT_mono this ?_
  rw [List.length_take]
  omega
theorem arC_bd {c : List Sc} {n : Nat} (hn : c.length = n * 2) (h9 : n ≤ 36) (hc : okC c) : ∀ i : Nat, i ≤ n → -(320000 * (i : Int)) ≤ arC c i ∧ arC c i ≤ 320000 * i
  | 0, _ => by simp [arC]
  | i + 1, h => by
    have ih := arC_bd hn h9 hc i (by omega)
    have p1 := pos_bd hn h9 hc (j := i) (by omega)
    have p2 := pos_bd hn h9 hc (j := i + 1) h
    have m1 := mul_bd p1.1 p2.2.1
    have m2 := mul_bd p2.1 p1.2.1
    simp only [arC]
    omega
theorem cl_bd {s : List UInt8} (h : clB s = true) : progB s = true ∧ 1 ≤ clS s ∧ clS s ≤ 4 := by
  unfold clB at h
  simp only [Bool.and_eq_true, decide_eq_true_eq] at h
  refine ⟨h.1, by omega, ?_⟩
  unfold clS
  cases zT (aftR s 1) <;> cases zT (aftR s 2) <;> cases zT (aftR s 3) <;> cases zT (aftR s 4) <;> decide
theorem cl_few {s : List UInt8} (h : clB s = true) : fewB s (clS s) = true ∧ repN s (clS s) ≤ 36 ∧ (repS s (clS s)).length = repN s (clS s) * 2 ∧ okC (repS s (clS s)) := by
  obtain ⟨hp, h1, h4⟩ := cl_bd h
  have hl := prog_len hp
  have ha : askB s (clS s) = true := ask_y hp (inB_eq.2 (by omega))
  obtain ⟨r1, r2, r3⟩ := rep_ok ha
  have hN : repN s (clS s) ≤ 36 := by
    rw [(rep_yes ha).1]
    have := Nat.mul_le_mul hl.2.2.1 (show (clS s).toNat ≤ 4 by omega)
    omega
  exact ⟨few_y ha (by omega), hN, r1, r3⟩
theorem ar_no {s : List UInt8} (h : clB s = false) : arF s = 0 := by unfold arF; rw [h]; rfl
theorem ar_yes {s : List UInt8} (h : clB s = true) : arF s = arC (repS s (clS s)) (repN s (clS s)) := by unfold arF; rw [h]; rfl
theorem clB_n1 {s : List UInt8} (h : progB s = false) : clB s = false := (cl_no h).2
theorem clB_n2 {s : List UInt8} (h : (clS s == 0) = true) : clB s = false := by
  have : clS s = 0 := by simpa using h
  unfold clB
  rw [this]; simp
theorem clS_nn (s : List UInt8) : 0 ≤ clS s := by
  unfold clS
  cases zT (aftR s 1) <;> cases zT (aftR s 2) <;> cases zT (aftR s 3) <;> cases zT (aftR s 4) <;> decide
theorem clB_y {s : List UInt8} (h : progB s = true) (h2 : (clS s == 0) = false) : clB s = true := by
  have : clS s ≠ 0 := by simpa using h2
  have := clS_nn s
  unfold clB
  rw [h, decide_eq_true (by omega)]; rfl
theorem vc_spec_TwiceArea (s : List UInt8) (h : (s.length : Int) ≤ 9223372036854775807) : VC_spec_TwiceArea s (retP (.tup [.int .i64 (arF s), .bool (clB s)])) := by
  unfold VC_spec_TwiceArea
  simp only [at_iff, Bool.not_eq_true', Bool.not_eq_false', true_and, and_true]
  refine ⟨h, fun h1 => retP_ibn (clB_n1 h1) (ar_no (clB_n1 h1)), fun h1 => ⟨h1, fun h2 => retP_ibn (clB_n2 h2) (ar_no (clB_n2 h2)), fun h2 => ?_⟩⟩
  have hy := clB_y h1 h2
  obtain ⟨f1, f2, f3, f4⟩ := cl_few hy
  refine ⟨h1, f1, rfl, by omega, fun a ha => ⟨fun hc => ?_, fun hc => ?_⟩⟩
  · have hc := of_decide_eq_true hc
    obtain ⟨i, hi⟩ : ∃ i : Nat, a = ((i + 1 : Nat) : Int) := ⟨a.toNat - 1, by omega⟩
    have e1 : IntKind.wrap .i64 (a - 1) = (i : Int) := by rw [wrap64_in (by omega)]; omega
    have e2 : IntKind.wrap .i64 (a + 1) = ((i + 2 : Nat) : Int) := by rw [wrap64_in (by omega)]; omega
    have e3 : a.toNat = i + 1 := by omega
    have hxy : ∀ t, (xyT t).length = 2 := fun _ => rfl
    rw [e1, e2, e3]
    simp only [Int.toNat_natCast, cnM_get (show i < repN s (clS s) + 1 by omega), cnM_get (show i + 1 < repN s (clS s) + 1 by omega), cnM_len, hxy, show i + 2 - 1 = i + 1 by omega, show i + 1 - 1 = i by omega]
    have ih := arC_bd f3 f2 f4 i (by omega)
    have ih2 := arC_bd f3 f2 f4 (i + 1) (by omega)
    have p1 := pos_bd f3 f2 f4 (j := i) (by omega)
    have p2 := pos_bd f3 f2 f4 (j := i + 1) (by omega)
    have m1 := mul_bd p1.1 p2.2.1
    have m2 := mul_bd p2.1 p1.2.1
    have q0 : ∀ t : Tt, (xyT t).getD (Int.toNat 0) 0 = t.x := fun _ => rfl
    have q1 : ∀ t : Tt, (xyT t).getD (Int.toNat 1) 0 = t.y := fun _ => rfl
    simp only [q0, q1]
    rw [Int.mul_comm (posT (repS s (clS s)) i).y]
    refine ⟨by omega, by omega, by omega, by omega, by omega, by omega, by omega, by omega, by omega, by omega, by omega, by omega, ?_, by omega, by omega⟩
    have wa : IntKind.wrap .i64 ((posT (repS s (clS s)) i).x * (posT (repS s (clS s)) (i + 1)).y) = (posT (repS s (clS s)) i).x * (posT (repS s (clS s)) (i + 1)).y := wrap64_in (by omega)
    have wb : IntKind.wrap .i64 ((posT (repS s (clS s)) (i + 1)).x * (posT (repS s (clS s)) i).y) = (posT (repS s (clS s)) (i + 1)).x * (posT (repS s (clS s)) i).y := wrap64_in (by omega)
    have wc : IntKind.wrap .i64 ((posT (repS s (clS s)) i).x * (posT (repS s (clS s)) (i + 1)).y - (posT (repS s (clS s)) (i + 1)).x * (posT (repS s (clS s)) i).y) = (posT (repS s (clS s)) i).x * (posT (repS s (clS s)) (i + 1)).y - (posT (repS s (clS s)) (i + 1)).x * (posT (repS s (clS s)) i).y := wrap64_in (by omega)
    rw [wa, wb, wc, wrap64_in (by omega)]
    rfl
  · have hc := of_decide_eq_false hc
    rw [show a.toNat - 1 = repN s (clS s) by omega]
    exact retP_iby hy (ar_yes hy).symm
theorem vc_impl_TwiceArea (s : List UInt8) (h : (s.length : Int) ≤ 9223372036854775807) : VC_impl_TwiceArea s (retP (.tup [.int .i64 (arF s), .bool (clB s)])) := by
  unfold VC_impl_TwiceArea
  have t1 : Int.toNat 1 = 1 := rfl
  simp only [at_iff, Bool.not_eq_true', Bool.not_eq_false', true_and, and_true, t1]
  refine ⟨h, fun h1 => retP_ibn h1 (ar_no h1), fun h1 => ⟨h, fun h2 => ?_, fun h2 => ?_⟩⟩
  · have := (cl_few h1).1
    rw [(cl_yes (cl_bd h1).1).1, this] at h2
    cases h2
  obtain ⟨f1, f2, f3, f4⟩ := cl_few h1
  rw [(cl_yes (cl_bd h1).1).1]
  obtain ⟨c1, c2, c3⟩ := cn_yes f1
  rw [c3, c1]
  simp only [Nat.add_sub_cancel, cnF_len]
  refine ⟨⟨by omega, by omega, ?_⟩, rfl, ⟨Int.le_refl _, by omega⟩, fun a ha => ⟨fun hc => ?_, fun hc => ?_⟩⟩
  · show _ ≤ (cnF _ _).length
    rw [cnF_len]; exact Nat.le_refl _
  · have hc := of_decide_eq_true hc
    obtain ⟨i, hi, hil, hin, e1, e2, e3⟩ := ix_ev ha hc (by omega)
    rw [e1, hin]
    simp only [Int.toNat_natCast]
    have ih := arC_bd f3 f2 f4 i (by omega)
    have ih2 := arC_bd f3 f2 f4 (i + 1) (by omega)
    have p1 := pos_bd f3 f2 f4 (j := i) (by omega)
    have p2 := pos_bd f3 f2 f4 (j := i + 1) (by omega)
    have m1 := mul_bd p1.1 p2.2.1
    have m2 := mul_bd p2.1 p1.2.1
    have w0 : (cnF (repS s (clS s)) (repN s (clS s) + 1)).getD (i * 2) 0 = (posT (repS s (clS s)) i).x := cnF_get _ _ i 0 (by omega) (by omega)
    have w1 : (cnF (repS s (clS s)) (repN s (clS s) + 1)).getD (i * 2 + 1) 0 = (posT (repS s (clS s)) i).y := cnF_get _ _ i 1 (by omega) (by omega)
    have w2 : (cnF (repS s (clS s)) (repN s (clS s) + 1)).getD ((i + 1) * 2) 0 = (posT (repS s (clS s)) (i + 1)).x := cnF_get _ _ (i + 1) 0 (by omega) (by omega)
    have w3 : (cnF (repS s (clS s)) (repN s (clS s) + 1)).getD ((i + 1) * 2 + 1) 0 = (posT (repS s (clS s)) (i + 1)).y := cnF_get _ _ (i + 1) 1 (by omega) (by omega)
    rw [Nat.add_comm 1 i, w0, w1, w2, w3]
    refine ⟨by omega, by omega, by omega, by omega, ?_, e2, e3⟩
    have wa : IntKind.wrap .i64 ((posT (repS s (clS s)) i).x * (posT (repS s (clS s)) (i + 1)).y) = (posT (repS s (clS s)) i).x * (posT (repS s (clS s)) (i + 1)).y := wrap64_in (by omega)
    have wb : IntKind.wrap .i64 ((posT (repS s (clS s)) (i + 1)).x * (posT (repS s (clS s)) i).y) = (posT (repS s (clS s)) (i + 1)).x * (posT (repS s (clS s)) i).y := wrap64_in (by omega)
    have wc : IntKind.wrap .i64 ((posT (repS s (clS s)) i).x * (posT (repS s (clS s)) (i + 1)).y - (posT (repS s (clS s)) (i + 1)).x * (posT (repS s (clS s)) i).y) = (posT (repS s (clS s)) i).x * (posT (repS s (clS s)) (i + 1)).y - (posT (repS s (clS s)) (i + 1)).x * (posT (repS s (clS s)) i).y := wrap64_in (by omega)
    rw [wa, wb, wc, wrap64_in (by omega)]
    rfl
  · have hc := of_decide_eq_false hc
    obtain ⟨q0, q1⟩ := ha
    rw [show a.toNat = repN s (clS s) by omega]
    exact retP_iby h1 (ar_yes h1).symm
/-! ### windings -/
theorem wi_no {s : List UInt8} (h : wiB s = false) : wiF s = 0 := by unfold wiF; rw [h]; rfl
theorem wi_yes {s : List UInt8} (h : wiB s = true) : wiF s = Int.tdiv (quC (ptS s) * clS s) 4 := by unfold wiF; rw [h]; rfl
theorem wi_n1 {s : List UInt8} (h : clB s = false) : wiB s = false := by unfold wiB; rw [h]; rfl
theorem wi_n2 {s : List UInt8} (h : hasU s = true) : wiB s = false := by unfold wiB; rw [h, Bool.not_true, Bool.and_false]
theorem wi_y {s : List UInt8} (h : clB s = true) (h2 : hasU s = false) : wiB s = true := by unfold wiB; rw [h, h2]; rfl
theorem wi_end {s : List UInt8} (h : clB s = true) : IntKind.wrap .i64 (Int.tdiv (IntKind.wrap .i64 (quC (ptS s) * clS s)) 4) = Int.tdiv (quC (ptS s) * clS s) 4 := by
  obtain ⟨hp, h1, h4⟩ := cl_bd h
  have hl := prog_len hp
  have hq := quC_bd (c := ptS s)
  rw [ptS_len] at hq
  have m := mul_bd (x := quC (ptS s)) (y := clS s) (by omega) (by omega)
  rw [wrap64_in (x := quC (ptS s) * clS s) (by omega)]
  generalize quC (ptS s) * clS s = z at *
  have : -160000 ≤ z.tdiv 4 ∧ z.tdiv 4 ≤ 160000 := by
    rcases Int.le_total 0 z with hz | hz
    · rw [Int.tdiv_eq_ediv_of_nonneg hz]; omega
    · have e : z.tdiv 4 = -((-z).tdiv 4) := by rw [Int.neg_tdiv, Int.neg_neg]
      rw [e, Int.tdiv_eq_ediv_of_nonneg (by omega)]; omega
  rw [wrap64_in (by omega)]
theorem hasU_two {s : List UInt8} {i : Nat} (h : i + 2 ≤ s.length) : hasU (s.take (i + 2)) = (hasU (s.take i) || (s.getD i 0 == 85 || s.getD (i + 1) 0 == 85)) := by
  rw [take_two h]
  unfold hasU
  rw [List.any_append]
  simp
theorem hasU_take {s : List UInt8} {i : Nat} (h : hasU (s.take i) = true) : hasU s = true := by
  unfold hasU at h ⊢
  rw [← List.take_append_drop i s, List.any_append, h]; rfl
theorem byte85 (c : UInt8) : ((c.toNat : Int) == 85) = (c == 85) := by
  rw [Bool.eq_iff_iff]
  simp only [beq_iff_eq, ← UInt8.toNat_inj]
  show ((c.toNat : Int) = 85) ↔ c.toNat = 85
  omega
theorem vc_spec_WindingOf (s : List UInt8) (h : (s.length : Int) ≤ 9223372036854775807) : VC_spec_WindingOf s (retP (.tup [.int .i64 (wiF s), .bool (wiB s)])) := by
  unfold VC_spec_WindingOf
  simp only [at_iff, Bool.not_eq_true', Bool.not_eq_false', true_and, and_true]
  have no : wiB s = false → retP (.tup [.int .i64 (wiF s), .bool (wiB s)]) (.tup [.int .i64 0, .lit false]) := fun hn => retP_ibn hn (wi_no hn)
  refine ⟨h, fun h1 => no (wi_n1 (clB_n1 h1)), fun h1 => ⟨h1, fun h2 => no (wi_n1 (clB_n2 h2)), fun h2 => ?_⟩⟩
  have hy := clB_y h1 h2
  have hl := prog_len h1
  refine ⟨⟨⟨h1, by omega, by omega, rfl⟩, rfl⟩, fun a ha => ⟨fun hc => ?_, fun hc => ?_⟩⟩
  · have hc := of_decide_eq_true hc
    obtain ⟨j, hj, he, hjl, h19, e1, e2, e3⟩ := od_ev ha.1 hc
    have hU := ha.2
    have hj1 : a.toNat = j + 1 := by omega
    rw [hj1, Nat.add_sub_cancel] at hU
    have ht := hasU_two hjl
    obtain ⟨hdg, _⟩ := okP_at hl.2.2.2 he hjl
    rw [inB_eq] at hdg
    have hn85 : (s.getD j 0 == 85) = false := by
      rw [← byte85, beq_eq_false_iff_ne]; omega
    rw [hU, hn85, Bool.false_or, Bool.false_or] at ht
    rw [e1, hj1, byte85]
    refine ⟨⟨by omega, hc⟩, fun h3 => no (wi_n2 (hasU_take (ht.trans h3))), fun h3 => ⟨⟨e2, ?_⟩, e3⟩⟩
    rw [Int.toNat_natCast, Nat.add_sub_cancel]
    exact ht.trans h3
  · have hc := of_decide_eq_false hc
    obtain ⟨⟨_, g0, g1, g2⟩, hU⟩ := ha
    rw [show a.toNat - 1 = s.length by omega, List.take_length] at hU
    have hw := wi_y hy hU
    exact ⟨h1, h1, by omega, retP_iby hw (by rw [wi_yes hw, wi_end hy])⟩
theorem vc_impl_WindingOf (s : List UInt8) (h : (s.length : Int) ≤ 9223372036854775807) : VC_impl_WindingOf s (retP (.tup [.int .i64 (wiF s), .bool (wiB s)])) := by
  unfold VC_impl_WindingOf
  simp only [at_iff, Bool.not_eq_true', Bool.not_eq_false', true_and, and_true]
  have no : wiB s = false → retP (.tup [.int .i64 (wiF s), .bool (wiB s)]) (.tup [.int .i64 0, .lit false]) := fun hn => retP_ibn hn (wi_no hn)
  refine ⟨h, h, fun h1 => no (wi_n1 (clB_n1 h1)), fun h1 => ⟨fun h2 => no (wi_n1 h2), fun h2 => ⟨fun h3 => no (wi_n2 h3), fun h3 => ⟨by omega, ?_⟩⟩⟩⟩
  have hw := wi_y h2 h3
  rw [h1, (cl_yes h1).1]
  exact retP_iby hw (by rw [wi_yes hw]; exact wi_end h2)
/-! ### for the laws -/
theorem cnR_ok (s : List UInt8) (k : Int) : (cnR s k).length = cnN s k ∧ smallM (cnR s k) := by
  cases h : fewB s k
  · rw [(cn_no h).1, (cn_no h).2.1]
    exact ⟨rfl, ⟨by simp, fun r hr => by simp at hr⟩⟩
  · obtain ⟨c1, c2, c3⟩ := cn_yes h
    have := (few_of h).2
    rw [c1, c2, cnM_len]
    exact ⟨rfl, ⟨by rw [cnM_len]; omega, fun r hr => by rw [cnM_two _ _ r hr]; omega⟩⟩
theorem bxR_ok (s : List UInt8) (k : Int) : (bxR s k).length = bxN s k ∧ bxN s k ≤ 2000000 := by
  cases h : fewB s k
  · rw [(bx_no h).1, (bx_no h).2]; exact ⟨rfl, by omega⟩
  · rw [(bx_yes h).1, (bx_yes h).2]; exact ⟨rfl, by omega⟩
end Go.Vi
