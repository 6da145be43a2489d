/- Rotors turned and reset, goals, lines used: the conditions hold. -/
import Derived.Test.YtopolpgligoldacREVc
import Derived.Test.YtopolpgligoldacRESpec
namespace Go.Vi
theorem hasI_iff {x : Int} : ∀ {q : List Int}, hasI q x = true ↔ x ∈ q
  | [] => by simp [hasI]
  | y :: q => by
    simp only [hasI, Bool.or_eq_true, beq_iff_eq, hasI_iff, List.mem_cons]
    constructor
    · rintro (h | h)
      · exact .inl h.symm
      · exact .inr h
    · rintro (h | h)
      · exact .inl h.symm
      · exact .inr h
theorem hasI_append {x : Int} {a b : List Int} : hasI (a ++ b) x = (hasI a x || hasI b x) := by
  rw [Bool.eq_iff_iff]
  simp only [Bool.or_eq_true, hasI_iff, List.mem_append]
theorem idxI_no {x : Int} : ∀ {q : List Int}, hasI q x = false → idxI q x = -1
  | [], _ => rfl
  | y :: q, h => by
    simp only [hasI, Bool.or_eq_false_iff] at h
    simp only [idxI, h.1, h.2, cond_false]
theorem idxI_ge {x : Int} : ∀ {q : List Int}, hasI q x = true → 0 ≤ idxI q x
  | y :: q, h => by
    unfold idxI
    cases hy : y == x with
    | true => exact Int.le_refl _
    | false =>
      simp only [hasI, hy, Bool.false_or] at h
      have := idxI_ge h
      simp only [h, cond_false, cond_true]
      omega
theorem idxI_at {x : Int} : ∀ {q : List Int} {i : Nat}, i < q.length → hasI (q.take i) x = false → (q.getD i 0 == x) = true → idxI q x = (i : Int)
  | y :: q, 0, _, _, h => by
    simp only [List.getD_cons_zero] at h
    simp only [idxI, h, cond_true]; rfl
  | y :: q, i + 1, hi, hn, h => by
    simp only [List.take_succ_cons, hasI, Bool.or_eq_false_iff] at hn
    simp only [List.getD_cons_succ] at h
    simp only [List.length_cons] at hi
    have hi : i < q.length := by omega
    have hh : hasI q x = true := hasI_iff.2 (by rw [← eq_of_beq h]; exact getD_mem hi 0)
    simp only [idxI, hn.1, hh, cond_false, cond_true, idxI_at hi hn.2 h]
    omega
theorem has_step {a : List Int} {x i : Int} (h : hasInv a x i) (hi : i < a.length) (hn : (a.getD i.toNat 0 == x) = false) : hasInv a x (i + 1) := by
  obtain ⟨⟨g1, g2⟩, g3⟩ := h
  refine ⟨⟨by omega, by omega⟩, ?_⟩
  rw [show (i + 1).toNat = i.toNat + 1 by omega, take_snoc (by omega) 0, hasI_append, g3]
  simp only [hasI, hn, Bool.or_false]
theorem has_all {a : List Int} {x i : Int} (h : hasInv a x i) (hi : ¬ i < a.length) : hasI a x = false := by
  have h2 := h.2
  rw [List.take_of_length_le (by omega)] at h2
  exact h2
theorem has_mem {a : List Int} {x i : Int} (g : 0 ≤ i) (hi : i < a.length) (hy : (a.getD i.toNat 0 == x) = true) : hasI a x = true :=
  hasI_iff.2 (by rw [← eq_of_beq hy]; exact getD_mem (by omega) 0)
theorem retG_a1b {q r : Bool} {a : List Int} {e : TypeId} {k : Kind} {J : List Blk} (h : q = r) : retG 1 (.bool r) [⟨.ints .i64 a, e, k⟩] (.bool q) (⟨.ints .i64 a, e, k⟩ :: J) := by
  subst h
  unfold retG leSel leSelBy autoSel
  simp [pairsL, pairsV, idPairs, pairsIn, selOf, lookN, selMem, chkB, nodupSel, hasSel, prefSel, leSt, leL, leV, nilToL, V.nilTo, selL, V.sel, Cells.selN, leMem, leCells, memUnder, underL, V.under]
/-! ### the functions -/
theorem vc_spec_l1Has (v : Int) (n : Nat) (a : List Int) (e : TypeId) (k : Kind) (h : a.length = n ∧ n ≤ 2000000) : VC_spec_l1Has v n a e k (retG 1 (.bool (hasI a v)) [⟨.ints .i64 a, e, k⟩]) := by
  obtain ⟨rfl, h2⟩ := h
  unfold VC_spec_l1Has
  refine ⟨⟨by simp, ⟨⟨ek_refl e k, rfl, rfl⟩, trivial⟩, trivial⟩, ⟨⟨by omega, by omega⟩, rfl⟩, fun i hi => ⟨fun hc => ?_, fun hc => retG_a1l (has_all hi (of_decide_eq_false hc)).symm⟩⟩
  have hc := of_decide_eq_true hc
  have g1 := hi.1.1
  rw [wrap64_in (x := i + 1) (by omega)]
  exact ⟨⟨g1, hc⟩, ⟨by omega⟩, fun hy => retG_a1l (has_mem g1 hc hy).symm, fun hn => ⟨⟨by simp, ⟨⟨ek_refl e k, rfl, rfl⟩, trivial⟩, trivial⟩, ⟨has_step hi hc hn, by omega⟩⟩⟩
theorem vc_slices_Index_int_int (v : Int) (n : Nat) (a : List Int) (e : TypeId) (k : Kind) (h : a.length = n ∧ n ≤ 2000000) : VC_slices_Index_int_int v n a e k (retG 1 (.int .i64 (idxI a v)) [⟨.ints .i64 a, e, k⟩]) := by
  obtain ⟨rfl, h2⟩ := h
  unfold VC_slices_Index_int_int
  refine ⟨⟨by simp, ⟨⟨ek_refl e k, rfl, rfl⟩, trivial⟩, trivial⟩, ⟨⟨by omega, by omega⟩, rfl⟩, fun i hi => ⟨fun hc => ?_, fun hc => retG_a1 (idxI_no (has_all hi (of_decide_eq_false hc))).symm⟩⟩
  have hc := of_decide_eq_true hc
  have g1 := hi.1.1
  rw [wrap64_in (x := i + 1) (by omega), show (v == a.getD i.toNat 0) = (a.getD i.toNat 0 == v) from BEq.comm]
  refine ⟨⟨g1, hc⟩, ⟨by omega⟩, fun hy => retG_a1 ?_, fun hn => ⟨⟨by simp, ⟨⟨ek_refl e k, rfl, rfl⟩, trivial⟩, trivial⟩, ⟨has_step hi hc hn, by omega⟩⟩⟩
  rw [idxI_at (by omega) hi.2 hy]
  omega
theorem vc_slices_Contains_int_int (v : Int) (n : Nat) (a : List Int) (h : a.length = n ∧ n ≤ 2000000) : VC_slices_Contains_int_int v n a (retG 1 (.bool (hasI a v)) [⟨.ints .i64 a, 3, .row⟩]) := by
  unfold VC_slices_Contains_int_int
  refine ⟨⟨h⟩, retG_a1b ?_⟩
  cases hb : hasI a v with
  | true => exact decide_eq_true (idxI_ge hb)
  | false => rw [idxI_no hb]; rfl
/-! ### ends of calls -/
theorem retG_zn {l c : List (List Int)} {ro d : List Int} {u v : Nat} {b : Bool} {et e f : TypeId} {J : List Blk} (hb : b = false) (hu : u = 0) (hv : v = 0) (hc : c = []) (hd : d = []) :
    retG 2 (.tup [.agg [.row 2 u, .row 3 v], .bool b]) [⟨.mat .i64 et l, e, .mat⟩, ⟨.ints .i64 ro, f, .row⟩, ⟨.mat .i64 et c, e, .mat⟩, ⟨.ints .i64 d, f, .row⟩] (.tup [.agg [.raw (.slice none 0 0), .raw (.slice none 0 0)], .lit false]) (⟨.mat .i64 et l, e, .mat⟩ :: ⟨.ints .i64 ro, f, .row⟩ ::  J) := by
  subst hb; subst hu; subst hv; subst hc; subst hd
  unfold retG leSel leSelBy autoSel
  simp [pairsL, pairsV, idPairs, pairsIn, selOf, lookN, findSel, selMem, chkB, nodupSel, hasSel, prefSel, leSt, leL, leV, nilToL, V.nilTo, isNilS, isGhost, selL, V.sel, Cells.selN, Cells.none0, Kind.isRow, Blk.isOwnMat, leMem, leCells, memUnder, underL, V.under]
  trivial
theorem retG_zy45 {l c c' : List (List Int)} {ro d d' : List Int} {u v u' v' : Nat} {b : Bool} {et e f : TypeId} {X Y : Blk} {J : List Blk} (hb : b = true) (hu : u' = u) (hv : v' = v) (hc : c' = c) (hd : d' = d) :
    retG 2 (.tup [.agg [.row 2 u, .row 3 v], .bool b]) [⟨.mat .i64 et l, e, .mat⟩, ⟨.ints .i64 ro, f, .row⟩, ⟨.mat .i64 et c, e, .mat⟩, ⟨.ints .i64 d, f, .row⟩] (.tup [.agg [.row 4 u', .row 5 v'], .lit true]) (⟨.mat .i64 et l, e, .mat⟩ :: ⟨.ints .i64 ro, f, .row⟩ ::  X :: Y :: ⟨.mat .i64 et c', e, .mat⟩ :: ⟨.ints .i64 d', f, .row⟩ :: J) := by
  subst hb; subst hu; subst hv; subst hc; subst hd
  unfold retG leSel leSelBy autoSel
  simp [pairsL, pairsV, idPairs, pairsIn, selOf, lookN, findSel, selMem, chkB, nodupSel, hasSel, prefSel, leSt, leL, leV, nilToL, V.nilTo, isNilS, isGhost, selL, V.sel, Cells.selN, leMem, leCells, memUnder, underL, V.under]
  trivial
theorem retG_zb45 {l c : List (List Int)} {ro d : List Int} {u v : Nat} {b : Bool} {et e f : TypeId} {X Y : Blk} {J : List Blk}  :
    retG 2 (.tup [.agg [.row 2 u, .row 3 v], .bool b]) [⟨.mat .i64 et l, e, .mat⟩, ⟨.ints .i64 ro, f, .row⟩, ⟨.mat .i64 et c, e, .mat⟩, ⟨.ints .i64 d, f, .row⟩] (.tup [.agg [.row 4 u, .row 5 v], .bool b]) (⟨.mat .i64 et l, e, .mat⟩ :: ⟨.ints .i64 ro, f, .row⟩ ::  X :: Y :: ⟨.mat .i64 et c, e, .mat⟩ :: ⟨.ints .i64 d, f, .row⟩ :: J) := by
  unfold retG leSel leSelBy autoSel
  simp [pairsL, pairsV, idPairs, pairsIn, selOf, lookN, findSel, selMem, chkB, nodupSel, hasSel, prefSel, leSt, leL, leV, nilToL, V.nilTo, isNilS, isGhost, selL, V.sel, Cells.selN, leMem, leCells, memUnder, underL, V.under]
  trivial
theorem retG_zy47 {l c c' : List (List Int)} {ro d d' : List Int} {u v u' v' : Nat} {b : Bool} {et e f : TypeId} {X Y Z W : Blk} {J : List Blk} (hb : b = true) (hu : u' = u) (hv : v' = v) (hc : c' = c) (hd : d' = d) :
    retG 2 (.tup [.agg [.row 2 u, .row 3 v], .bool b]) [⟨.mat .i64 et l, e, .mat⟩, ⟨.ints .i64 ro, f, .row⟩, ⟨.mat .i64 et c, e, .mat⟩, ⟨.ints .i64 d, f, .row⟩] (.tup [.agg [.row 4 u', .row 7 v'], .lit true]) (⟨.mat .i64 et l, e, .mat⟩ :: ⟨.ints .i64 ro, f, .row⟩ ::  X :: Y :: ⟨.mat .i64 et c', e, .mat⟩ :: Z :: W :: ⟨.ints .i64 d', f, .row⟩ :: J) := by
  subst hb; subst hu; subst hv; subst hc; subst hd
  unfold retG leSel leSelBy autoSel
  simp [pairsL, pairsV, idPairs, pairsIn, selOf, lookN, findSel, selMem, chkB, nodupSel, hasSel, prefSel, leSt, leL, leV, nilToL, V.nilTo, isNilS, isGhost, selL, V.sel, Cells.selN, leMem, leCells, memUnder, underL, V.under]
  trivial
theorem retG_zy56 {l c c' : List (List Int)} {ro d d' : List Int} {u v u' v' : Nat} {b : Bool} {et e f : TypeId} {X Y Z : Blk} {J : List Blk} (hb : b = true) (hu : u' = u) (hv : v' = v) (hc : c' = c) (hd : d' = d) :
    retG 2 (.tup [.agg [.row 2 u, .row 3 v], .bool b]) [⟨.mat .i64 et l, e, .mat⟩, ⟨.ints .i64 ro, f, .row⟩, ⟨.mat .i64 et c, e, .mat⟩, ⟨.ints .i64 d, f, .row⟩] (.tup [.agg [.row 5 u', .row 6 v'], .lit true]) (⟨.mat .i64 et l, e, .mat⟩ :: ⟨.ints .i64 ro, f, .row⟩ ::  X :: Y :: Z :: ⟨.mat .i64 et c', e, .mat⟩ :: ⟨.ints .i64 d', f, .row⟩ :: J) := by
  subst hb; subst hu; subst hv; subst hc; subst hd
  unfold retG leSel leSelBy autoSel
  simp [pairsL, pairsV, idPairs, pairsIn, selOf, lookN, findSel, selMem, chkB, nodupSel, hasSel, prefSel, leSt, leL, leV, nilToL, V.nilTo, isNilS, isGhost, selL, V.sel, Cells.selN, leMem, leCells, memUnder, underL, V.under]
  trivial
theorem retG_ro {l : List (List Int)} {ro d : List Int} {r r' s s' : Int} {et e f g : TypeId} {J : List Blk} (hr : r' = r) (hs : s' = s) :
    retG 3 (.tup [.int .i64 r, .int .i64 s]) [⟨.mat .i64 et l, e, .mat⟩, ⟨.dead, g, .row⟩, ⟨.ints .i64 d, f, .row⟩] (.tup [.int .i64 r', .int .i64 s']) (⟨.mat .i64 et l, e, .mat⟩ :: ⟨.ints .i64 ro, g, .row⟩ :: ⟨.ints .i64 d, f, .row⟩ :: J) := by
  subst hr; subst hs
  unfold retG leSel leSelBy autoSel
  simp [pairsL, pairsV, idPairs, pairsIn, selOf, lookN, findSel, selMem, chkB, nodupSel, hasSel, prefSel, leSt, leL, leV, nilToL, V.nilTo, selL, V.sel, Cells.selN, leMem, leCells, memUnder, underL, V.under]
theorem retG_gt {l : List (List Int)} {q d : List Int} {r r' x : Int} {n : Nat} {b b' : Bool} {et e f t : TypeId} {J : List Blk} (hr : r' = r) (hb : b' = b) :
    retG 3 (.tup [.int .i64 r, .bool b]) [⟨.dead, t, .box⟩, ⟨.ints .i64 d, f, .row⟩, ⟨.mat .i64 et l, e, .mat⟩] (.tup [.int .i64 r', .lit b']) (⟨.mixi [.row 2 n, .int .i64 x] 10 q [], t, .box⟩ :: ⟨.ints .i64 d, f, .row⟩ :: ⟨.mat .i64 et l, e, .mat⟩ :: J) := by
  subst hr; subst hb
  unfold retG leSel leSelBy autoSel
  simp [pairsL, pairsV, idPairs, pairsIn, selOf, lookN, findSel, selMem, chkB, nodupSel, hasSel, prefSel, leSt, leL, leV, nilToL, V.nilTo, selL, V.sel, Cells.selN, leMem, leCells, memUnder, underL, V.under]
theorem retG_sl {l : List (List Int)} {ro : List Int} {r r' : Int} {b b' : Bool} {et e f : TypeId} {J : List Blk} (hr : r' = r) (hb : b' = b) :
    retG 2 (.tup [.int .i64 r, .bool b]) [⟨.mat .i64 et l, e, .mat⟩, ⟨.ints .i64 ro, f, .row⟩] (.tup [.int .i64 r', .lit b']) (⟨.mat .i64 et l, e, .mat⟩ :: ⟨.ints .i64 ro, f, .row⟩ ::  J) := by
  subst hr; subst hb
  unfold retG leSel leSelBy autoSel
  simp [pairsL, pairsV, idPairs, pairsIn, selOf, lookN, findSel, selMem, chkB, nodupSel, hasSel, prefSel, leSt, leL, leV, nilToL, V.nilTo, selL, V.sel, Cells.selN, leMem, leCells, memUnder, underL, V.under]
theorem retG_sb {l : List (List Int)} {ro : List Int} {r r' : Int} {b b' : Bool} {et e f : TypeId} {J : List Blk} (hr : r' = r) (hb : b' = b) :
    retG 2 (.tup [.int .i64 r, .bool b]) [⟨.mat .i64 et l, e, .mat⟩, ⟨.ints .i64 ro, f, .row⟩] (.tup [.int .i64 r', .bool b']) (⟨.mat .i64 et l, e, .mat⟩ :: ⟨.ints .i64 ro, f, .row⟩ ::  J) := by
  subst hr; subst hb
  unfold retG leSel leSelBy autoSel
  simp [pairsL, pairsV, idPairs, pairsIn, selOf, lookN, findSel, selMem, chkB, nodupSel, hasSel, prefSel, leSt, leL, leV, nilToL, V.nilTo, selL, V.sel, Cells.selN, leMem, leCells, memUnder, underL, V.under]
theorem retG_un {l c : List (List Int)} {ro : List Int} {u : Nat} {b : Bool} {et e f : TypeId} {J : List Blk} (hb : b = false) (hu : u = 0) (hc : c = []) :
    retG 2 (.tup [.row 2 u, .bool b]) [⟨.mat .i64 et l, e, .mat⟩, ⟨.ints .i64 ro, f, .row⟩, ⟨.mat .i64 et c, e, .mat⟩] (.tup [.raw (.slice none 0 0), .lit false]) (⟨.mat .i64 et l, e, .mat⟩ :: ⟨.ints .i64 ro, f, .row⟩ ::  J) := by
  subst hb; subst hu; subst hc
  unfold retG leSel leSelBy autoSel
  simp [pairsL, pairsV, idPairs, pairsIn, selOf, lookN, findSel, selMem, chkB, nodupSel, hasSel, prefSel, leSt, leL, leV, nilToL, V.nilTo, isNilS, isGhost, selL, V.sel, Cells.selN, Cells.none0, Kind.isRow, Blk.isOwnMat, leMem, leCells, memUnder, underL, V.under]
  trivial
theorem retG_uy5 {l c c' : List (List Int)} {ro : List Int} {u u' : Nat} {b : Bool} {et e f : TypeId} {X Y Z : Blk} {J : List Blk} (hb : b = true) (hu : u' = u) (hc : c' = c) :
    retG 2 (.tup [.row 2 u, .bool b]) [⟨.mat .i64 et l, e, .mat⟩, ⟨.ints .i64 ro, f, .row⟩, ⟨.mat .i64 et c, e, .mat⟩] (.tup [.row 5 u', .lit true]) (⟨.mat .i64 et l, e, .mat⟩ :: ⟨.ints .i64 ro, f, .row⟩ ::  X :: Y :: Z :: ⟨.mat .i64 et c', e, .mat⟩ :: J) := by
  subst hb; subst hu; subst hc
  unfold retG leSel leSelBy autoSel
  simp [pairsL, pairsV, idPairs, pairsIn, selOf, lookN, findSel, selMem, chkB, nodupSel, hasSel, prefSel, leSt, leL, leV, nilToL, V.nilTo, isNilS, isGhost, selL, V.sel, Cells.selN, leMem, leCells, memUnder, underL, V.under]
  trivial
theorem retG_uy3 {l c c' : List (List Int)} {ro : List Int} {u u' : Nat} {b : Bool} {et e f : TypeId} {X : Blk} {J : List Blk} (hb : b = true) (hu : u' = u) (hc : c' = c) :
    retG 2 (.tup [.row 2 u, .bool b]) [⟨.mat .i64 et l, e, .mat⟩, ⟨.ints .i64 ro, f, .row⟩, ⟨.mat .i64 et c, e, .mat⟩] (.tup [.row 3 u', .lit true]) (⟨.mat .i64 et l, e, .mat⟩ :: ⟨.ints .i64 ro, f, .row⟩ ::  X :: ⟨.mat .i64 et c', e, .mat⟩ :: J) := by
  subst hb; subst hu; subst hc
  unfold retG leSel leSelBy autoSel
  simp [pairsL, pairsV, idPairs, pairsIn, selOf, lookN, findSel, selMem, chkB, nodupSel, hasSel, prefSel, leSt, leL, leV, nilToL, V.nilTo, isNilS, isGhost, selL, V.sel, Cells.selN, leMem, leCells, memUnder, underL, V.under]
  trivial
/-! ### rotors turned and reset -/
theorem vc_spec_TurnRotor (x : Int) (n m : Nat) (l : List (List Int)) (ro : List Int) (h : l.length = n ∧ ro.length = m ∧ smallM l ∧ m ≤ 2000000) : VC_spec_TurnRotor x n m l ro (retG 2 (.tup [.agg [.row 2 (numW l ro n x 1 n), .row 3 (numW l ro n x 1 n)], .bool (wkOk l ro n x 1)]) [⟨.mat .i64 3 l, 23, .mat⟩, ⟨.ints .i64 ro, 3, .row⟩, ⟨.mat .i64 3 (walkL l ro n x 1), 23, .mat⟩, ⟨.ints .i64 (walkR l ro n x 1), 3, .row⟩]) := by
  unfold VC_spec_TurnRotor
  refine ⟨⟨h⟩, fun hn => ?_, fun hy => ?_⟩
  · simp only [Bool.not_eq_true'] at hn
    rw [← wk_one] at hn
    obtain ⟨w1, w2, w3, w4, _⟩ := walk_no hn n
    exact retG_zn hn w1 w1 w3 w4
  · simp only [Bool.not_eq_false'] at hy
    obtain ⟨hw, hm, hn1, hn2⟩ := okW_of h.1 hy
    rw [← wk_one] at hy
    obtain ⟨w1, w2, w3, w4, _⟩ := walk_yes hy n
    rw [w1, w3, w4]
    exact ⟨⟨h.1, h.2.1, h.2.2.1, h.2.2.2, by omega, okW_rows hw⟩, ⟨h.1, h.2.1, hw⟩, retG_zy45 hy rfl (by omega) rfl (wS_one l x ro).2.symm⟩
theorem vc_impl_TurnRotor (x : Int) (n m : Nat) (l : List (List Int)) (ro : List Int) (h : l.length = n ∧ ro.length = m ∧ smallM l ∧ m ≤ 2000000) : VC_impl_TurnRotor x n m l ro (retG 2 (.tup [.agg [.row 2 (numW l ro n x 1 n), .row 3 (numW l ro n x 1 n)], .bool (wkOk l ro n x 1)]) [⟨.mat .i64 3 l, 23, .mat⟩, ⟨.ints .i64 ro, 3, .row⟩, ⟨.mat .i64 3 (walkL l ro n x 1), 23, .mat⟩, ⟨.ints .i64 (walkR l ro n x 1), 3, .row⟩]) := by
  unfold VC_impl_TurnRotor
  exact ⟨⟨h⟩, retG_zb45⟩
theorem rt_zero {l : List (List Int)} {ro : List Int} (h : routeB l ro = true) : rtOk l ro l.length 0 = true := by
  unfold rtOk
  rw [h]
  unfold routeB at h
  simp only [Bool.and_eq_true] at h
  have := inB_eq.1 h.1.1
  rw [inB_eq.2 ⟨Int.le_refl _, by omega⟩]; rfl
theorem vc_spec_ResetRoute (n m : Nat) (l : List (List Int)) (ro : List Int) (h : l.length = n ∧ ro.length = m ∧ smallM l ∧ m ≤ 2000000) : VC_spec_ResetRoute n m l ro (retG 2 (.tup [.agg [.row 2 (numZ l ro n), .row 3 (numZ l ro n)], .bool (routeB l ro)]) [⟨.mat .i64 3 l, 23, .mat⟩, ⟨.ints .i64 ro, 3, .row⟩, ⟨.mat .i64 3 (zeroL l ro), 23, .mat⟩, ⟨.ints .i64 (List.replicate (numZ l ro n) 0), 3, .row⟩]) := by
  unfold VC_spec_ResetRoute
  refine ⟨⟨h⟩, fun hn => ?_, fun hy => ?_⟩
  · simp only [Bool.not_eq_true'] at hn
    have e1 : numZ l ro n = 0 := by unfold numZ; rw [hn]; rfl
    have e2 : zeroL l ro = [] := by unfold zeroL; rw [hn]; rfl
    exact retG_zn hn e1 e1 e2 (by rw [e1]; rfl)
  · simp only [Bool.not_eq_false'] at hy
    have e1 : numZ l ro n = n := by unfold numZ; rw [hy]; rfl
    have e2 : zeroL l ro = l := by unfold zeroL; rw [hy]; rfl
    rw [e1, e2]
    obtain ⟨hw, hm, hn1, hn2⟩ := okW_of h.1 (h.1 ▸ rt_zero hy)
    exact ⟨⟨h.1, h.2.1, h.2.2.1, h.2.2.2, by omega, okW_rows hw⟩, ⟨by omega, by omega, by omega⟩, retG_zy47 hy rfl (by omega) rfl (by rw [show ((m : Nat) : Int).toNat = n by omega])⟩
theorem vc_impl_ResetRoute (n m : Nat) (l : List (List Int)) (ro : List Int) (h : l.length = n ∧ ro.length = m ∧ smallM l ∧ m ≤ 2000000) : VC_impl_ResetRoute n m l ro (retG 2 (.tup [.agg [.row 2 (numZ l ro n), .row 3 (numZ l ro n)], .bool (routeB l ro)]) [⟨.mat .i64 3 l, 23, .mat⟩, ⟨.ints .i64 ro, 3, .row⟩, ⟨.mat .i64 3 (zeroL l ro), 23, .mat⟩, ⟨.ints .i64 (List.replicate (numZ l ro n) 0), 3, .row⟩]) := by
  unfold VC_impl_ResetRoute
  have no : routeB l ro = false → ∀ J, retG 2 (.tup [.agg [.row 2 (numZ l ro n), .row 3 (numZ l ro n)], .bool (routeB l ro)]) [⟨.mat .i64 3 l, 23, .mat⟩, ⟨.ints .i64 ro, 3, .row⟩, ⟨.mat .i64 3 (zeroL l ro), 23, .mat⟩, ⟨.ints .i64 (List.replicate (numZ l ro n) 0), 3, .row⟩] (.tup [.agg [.raw (.slice none 0 0), .raw (.slice none 0 0)], .lit false]) (⟨.mat .i64 3 l, 23, .mat⟩ :: ⟨.ints .i64 ro, 3, .row⟩ :: J) := fun hn J => by
    have e1 : numZ l ro n = 0 := by unfold numZ; rw [hn]; rfl
    have e2 : zeroL l ro = [] := by unfold zeroL; rw [hn]; rfl
    exact retG_zn hn e1 e1 e2 (by rw [e1]; rfl)
  refine ⟨⟨h⟩, fun hn => no (by simpa using hn) _, fun hy => ⟨⟨h⟩, fun h2 => ?_, fun h2 => ?_⟩⟩
  · simp only [Bool.not_eq_false'] at hy
    obtain ⟨hw, hm, hn1, hn2⟩ := okW_of h.1 (h.1 ▸ rt_zero hy)
    simp only [Bool.not_eq_true', inB_ne] at h2
    exact absurd ⟨Int.le_refl _, by omega⟩ h2
  · simp only [Bool.not_eq_false'] at hy
    obtain ⟨hw, hm, hn1, hn2⟩ := okW_of h.1 (h.1 ▸ rt_zero hy)
    have e1 : numZ l ro n = n := by unfold numZ; rw [hy]; rfl
    have e2 : zeroL l ro = l := by unfold zeroL; rw [hy]; rfl
    rw [e1, e2]
    have hz : okW l [0, 0, 0, 0, 0, 0, 0, 0, 0, 0] 0 := by
      obtain ⟨a1, a2, a3, a4, a5⟩ := hw
      have hg : ∀ i, ([0, 0, 0, 0, 0, 0, 0, 0, 0, 0] : List Int).getD i 0 = 0 := fun i => by
        have : ([0, 0, 0, 0, 0, 0, 0, 0, 0, 0] : List Int) = List.replicate 10 0 := rfl
        rw [this, List.getD_eq_getElem?_getD, List.getElem?_replicate]
        split <;> rfl
      refine ⟨a1, a2, a3, by simpa using a3, fun i hi => ?_⟩
      obtain ⟨b1, b2, b3, b4, b5⟩ := a5 i hi
      rw [hg]
      exact ⟨b1, b2, Int.le_refl _, by omega, b5⟩
    refine ⟨trivial, ⟨h.2.1⟩, ⟨h.1, rfl, hz⟩, retG_zy56 hy rfl rfl rfl ?_⟩
    have : ([0, 0, 0, 0, 0, 0, 0, 0, 0, 0] : List Int) = List.replicate 10 0 := rfl
    rw [this, List.take_replicate, Nat.min_eq_left hn2]
/-! ### goals -/
theorem toN_first {l : List (List Int)} {x : Int} {ro e : List Int} : toInv l x ro e 1 := ⟨Int.le_refl _, by omega, rfl⟩
theorem toN_hit {l : List (List Int)} {x : Int} {ro e : List Int} {s : Int} (h : toInv l x ro e s) (hs : s ≤ 3000) (hh : hasI e (wA l x ro ((s - 1).toNat + 1)) = true) : toN l x ro e = s.toNat ∧ (toN l x ro e : Int) = s := by
  obtain ⟨h1, h2, h3⟩ := h
  have e1 : (3001 - s).toNat = (3000 - s).toNat + 1 := by omega
  have e2 : toN l x ro e = (s - 1).toNat + 1 := by
    rw [h3, e1]
    generalize (3000 - s).toNat = f
    show (bif hitP l x ro e (s - 1).toNat then (s - 1).toNat + 1 else _) = _
    unfold hitP
    rw [hh]; rfl
  omega
theorem toN_miss {l : List (List Int)} {x : Int} {ro e : List Int} {s : Int} (h : toInv l x ro e s) (hs : s ≤ 3000) (hh : hasI e (wA l x ro ((s - 1).toNat + 1)) = false) : toInv l x ro e (s + 1) := by
  obtain ⟨h1, h2, h3⟩ := h
  have e1 : (3001 - s).toNat = (3000 - s).toNat + 1 := by omega
  refine ⟨by omega, by omega, ?_⟩
  rw [h3, e1, show (3001 - (s + 1)).toNat = (3000 - s).toNat by omega, show (s + 1 - 1).toNat = (s - 1).toNat + 1 by omega]
  generalize (3000 - s).toNat = f
  show (bif hitP l x ro e (s - 1).toNat then (s - 1).toNat + 1 else srch (hitP l x ro e) f ((s - 1).toNat + 1)) = _
  unfold hitP
  rw [hh]; rfl
theorem toN_end {l : List (List Int)} {x : Int} {ro e : List Int} {s : Int} (h : toInv l x ro e s) (hs : ¬ s ≤ 3000) : toN l x ro e = 0 := by
  obtain ⟨h1, h2, h3⟩ := h
  rw [h3, show (3001 - s).toNat = 0 by omega]
  rfl
theorem toN_q0 {l : List (List Int)} {x : Int} {ro : List Int} (h : okW l ro x) (h10 : ro.length ≤ 10) (e : List Int) : toN l x (q0 ro) e = toN l x ro e := by
  have : hitP l x (q0 ro) e = hitP l x ro e := funext fun k => by unfold hitP; rw [(q0_w h h10 (k + 1)).1]
  unfold toN
  rw [this]
theorem vc_spec_roTo (x : Int) (n m k : Nat) (l : List (List Int)) (ro e : List Int) (h : l.length = n ∧ ro.length = m ∧ e.length = k ∧ k ≤ 2000000 ∧ okW l ro x) :
    VC_spec_roTo x n m k l ro e (retG 3 (.tup [.int .i64 (toN l x ro e : Nat), .int .i64 (toA l x ro e)]) [⟨.mat .i64 3 l, 23, .mat⟩, ⟨.dead, 3, .row⟩, ⟨.ints .i64 e, 3, .row⟩]) := by
  obtain ⟨rfl, rfl, rfl, h4, hw⟩ := h
  unfold VC_spec_roTo
  refine ⟨⟨trivial, by simp [wA, wS], ⟨by simp, by simp [wR, wS], by simp, by simp, trivial⟩, trivial⟩, ⟨toN_first⟩, fun a ha => ⟨fun hc => ?_, fun hc => ?_⟩⟩
  · have hc := of_decide_eq_true hc
    have h1 := ha.1
    rw [(wS_succ l x ro (a - 1).toNat).1, (wS_succ l x ro (a - 1).toNat).2]
    refine ⟨⟨rfl, wR_len .., okW_at hw _⟩, ⟨rfl, h4⟩, fun hh => ?_, fun hh => ?_⟩
    · obtain ⟨t1, t2⟩ := toN_hit ha hc hh
      refine retG_ro t2.symm ?_
      unfold toA
      have hne : (toN l x ro e == 0) = false := by rw [beq_eq_false_iff_ne]; omega
      rw [hne, t1, show (a - 1).toNat + 1 = a.toNat by omega]; rfl
    · have e1 : IntKind.wrap .i64 (a + 1) = a + 1 := wrap64_in (by omega)
      rw [e1, show (a + 1 - 1).toNat = (a - 1).toNat + 1 by omega]
      exact ⟨⟨trivial, by simp, by simp, trivial⟩, ⟨toN_miss ha hc hh, by omega⟩⟩
  · have hc := of_decide_eq_false hc
    have t := toN_end ha hc
    refine retG_ro (by rw [t]; rfl) ?_
    unfold toA
    rw [t]; rfl
theorem vc_impl_walk_goTo (n k : Nat) (x : Int) (q e : List Int) (l : List (List Int)) (h : l.length = n ∧ q.length = 10 ∧ e.length = k ∧ k ≤ 2000000 ∧ okW l q x) :
    VC_impl_walk_goTo n k x q e l (retG 3 (.tup [.int .i64 (toN l x q e : Nat), .bool (decide (0 < toN l x q e))]) [⟨.dead, 58, .box⟩, ⟨.ints .i64 e, 3, .row⟩, ⟨.mat .i64 3 l, 23, .mat⟩]) := by
  obtain ⟨rfl, hq, rfl, h4, hw⟩ := h
  unfold VC_impl_walk_goTo
  refine ⟨⟨trivial, by simp, ⟨by simp [wA, wR, wS], by simp, by simp, trivial⟩, trivial⟩, ⟨toN_first⟩, fun a ha => ⟨fun hc => ?_, fun hc => ?_⟩⟩
  · have hc := of_decide_eq_true hc
    have h1 := ha.1
    rw [(wS_succ l x q (a - 1).toNat).1, (wS_succ l x q (a - 1).toNat).2]
    refine ⟨⟨rfl, by rw [wR_len, hq], okW_at hw _⟩, ⟨rfl, h4⟩, fun hh => ?_, fun hh => ?_⟩
    · obtain ⟨t1, t2⟩ := toN_hit ha hc hh
      exact retG_gt t2.symm (by rw [decide_eq_true (by omega)])
    · have e1 : IntKind.wrap .i64 (a + 1) = a + 1 := wrap64_in (by omega)
      rw [e1, show (a + 1 - 1).toNat = (a - 1).toNat + 1 by omega]
      exact ⟨⟨trivial, by simp, by simp, trivial⟩, ⟨toN_miss ha hc hh, by omega⟩⟩
  · have hc := of_decide_eq_false hc
    have t := toN_end ha hc
    exact retG_gt (by rw [t]; rfl) (by rw [t]; rfl)
theorem st_no {l : List (List Int)} {ro : List Int} {n : Nat} {x goal : Int} (h : stOk l ro n x goal = false) : (0 : Int) = (stN l ro n x goal : Nat) ∧ false = decide (0 < stN l ro n x goal) := by
  unfold stN
  rw [h]; exact ⟨rfl, rfl⟩
theorem vc_spec_StepsToNode (x goal : Int) (n m : Nat) (l : List (List Int)) (ro : List Int) (h : l.length = n ∧ ro.length = m ∧ smallM l ∧ m ≤ 2000000) : VC_spec_StepsToNode x goal n m l ro (retG 2 (.tup [.int .i64 (stN l ro n x goal : Nat), .bool (decide (0 < stN l ro n x goal))]) [⟨.mat .i64 3 l, 23, .mat⟩, ⟨.ints .i64 ro, 3, .row⟩]) := by
  unfold VC_spec_StepsToNode
  refine ⟨⟨h⟩, fun h1 => ?_, fun h1 => ⟨⟨h⟩, fun h2 => ?_, fun h2 => ?_⟩⟩
  · have : stOk l ro n x goal = false := by unfold stOk; rw [show rtOk l ro n x = false by simpa using h1]; rfl
    exact retG_sl (st_no this).1 (st_no this).2
  · simp only [Bool.not_eq_true'] at h2
    simp only [Bool.not_eq_false'] at h1
    have : stOk l ro n x goal = false := by
      unfold stOk
      unfold rtOk at h1 h2
      simp only [Bool.and_eq_true] at h1
      rw [h1.1, Bool.true_and] at h2
      rw [h2, Bool.and_false]
    exact retG_sl (st_no this).1 (st_no this).2
  · simp only [Bool.not_eq_false'] at h1 h2
    obtain ⟨hw, hm, hn1, hn2⟩ := okW_of h.1 h1
    have hok : stOk l ro n x goal = true := by
      unfold stOk
      rw [h1]
      unfold rtOk at h2
      simp only [Bool.and_eq_true] at h2
      rw [h2.2]; rfl
    have e : stN l ro n x goal = toN l x ro [goal] := by unfold stN; rw [hok]; rfl
    rw [e]
    refine ⟨⟨h.1, h.2.1, h.2.2.1, h.2.2.2, by omega, okW_rows hw⟩, ⟨h.1, h.2.1, rfl, by omega, hw⟩, retG_sb rfl ?_⟩
    by_cases hz : 0 < toN l x ro [goal]
    · rw [decide_eq_true hz]; exact decide_eq_true (by omega)
    · rw [decide_eq_false hz]; exact decide_eq_false (by omega)
theorem vc_impl_StepsToNode (x goal : Int) (n m : Nat) (l : List (List Int)) (ro : List Int) (h : l.length = n ∧ ro.length = m ∧ smallM l ∧ m ≤ 2000000) : VC_impl_StepsToNode x goal n m l ro (retG 2 (.tup [.int .i64 (stN l ro n x goal : Nat), .bool (decide (0 < stN l ro n x goal))]) [⟨.mat .i64 3 l, 23, .mat⟩, ⟨.ints .i64 ro, 3, .row⟩]) := by
  unfold VC_impl_StepsToNode
  refine ⟨⟨h⟩, fun h1 => ?_, fun h1 => ⟨⟨h⟩, fun h2 => ?_, fun h2 => ⟨trivial, ⟨h.2.1⟩, ⟨h⟩, fun h3 => ?_, fun h3 => ?_⟩⟩⟩
  · have : stOk l ro n x goal = false := by unfold stOk rtOk; rw [show routeB l ro = false by simpa using h1]; rfl
    exact retG_sl (st_no this).1 (st_no this).2
  · have : stOk l ro n x goal = false := by unfold stOk rtOk; rw [show inB x 0 ((n : Int) - 1) = false by simpa using h2, Bool.and_false]; rfl
    exact retG_sl (st_no this).1 (st_no this).2
  · have : stOk l ro n x goal = false := by unfold stOk; rw [show inB goal 0 ((n : Int) - 1) = false by simpa using h3, Bool.and_false]
    exact retG_sl (st_no this).1 (st_no this).2
  · have hrt := rt_of h1 h2
    obtain ⟨hw, hm, hn1, hn2⟩ := okW_of h.1 hrt
    have h10 : ro.length ≤ 10 := by omega
    obtain ⟨_, _, q3, q4⟩ := q0_w hw h10 0
    have hok : stOk l ro n x goal = true := by unfold stOk; rw [hrt, show inB goal 0 ((n : Int) - 1) = true by simpa using h3]; rfl
    have e : stN l ro n x goal = toN l x ro [goal] := by unfold stN; rw [hok]; rfl
    rw [e, ← toN_q0 hw h10]
    exact ⟨⟨h.1, q4, rfl, by omega, q3⟩, retG_sb rfl rfl⟩
/-! ### lines used -/
theorem usd_shape {l : List (List Int)} {x : Int} {ro : List Int} : ∀ k, (usd l x ro k).length = l.length ∧ ∀ i, ((usd l x ro k).getD i []).length = (l.getD i []).length ∧ ∀ j, 0 ≤ ((usd l x ro k).getD i []).getD j 0 ∧ ((usd l x ro k).getD i []).getD j 0 ≤ (k : Nat)
  | 0 => by
    refine ⟨by simp [usd, zer], fun i => ?_⟩
    have e : (usd l x ro 0).getD i [] = List.replicate (l.getD i []).length 0 := by
      simp only [usd, zer, List.getD_eq_getElem?_getD, List.getElem?_map]
      cases l[i]? <;> rfl
    rw [e]
    refine ⟨by simp, fun j => ?_⟩
    rw [List.getD_eq_getElem?_getD, List.getElem?_replicate]
    split <;> simp
  | k + 1 => by
    obtain ⟨h1, h2⟩ := usd_shape (l := l) (x := x) (ro := ro) k
    refine ⟨by simp only [usd, List.length_set]; exact h1, fun i => ?_⟩
    simp only [usd]
    generalize (wA l x ro k).toNat = a
    generalize ((wR l x ro k).getD a 0).toNat = b
    have e : ((usd l x ro k).set a (((usd l x ro k).getD a []).set b (((usd l x ro k).getD a []).getD b 0 + 1))).getD i [] = if a = i ∧ a < (usd l x ro k).length then ((usd l x ro k).getD a []).set b (((usd l x ro k).getD a []).getD b 0 + 1) else (usd l x ro k).getD i [] := by
      rw [List.getD_eq_getElem?_getD, List.getElem?_set]
      by_cases ha : a = i
      · subst ha
        by_cases hl : a < (usd l x ro k).length
        · simp [hl]
        · simp only [hl, and_false, if_true, if_false, Option.getD_none]
          rw [List.getD_eq_getElem?_getD, List.getElem?_eq_none (by omega)]; rfl
      · simp only [ha, false_and, if_false]
        rw [List.getD_eq_getElem?_getD]
    rw [e]
    have h3 := h2 i
    split
    · rename_i hc
      obtain ⟨rfl, _⟩ := hc
      refine ⟨by rw [List.length_set]; exact h3.1, fun j => ?_⟩
      have hb := h3.2 b
      have hj := h3.2 j
      rw [List.getD_eq_getElem?_getD (l := (((usd l x ro k).getD a []).set b _)), List.getElem?_set]
      split
      · split
        · simp only [Option.getD_some]; omega
        · simp only [Option.getD_none]; omega
      · rw [← List.getD_eq_getElem?_getD]; omega
    · refine ⟨h3.1, fun j => ?_⟩
      have hj := h3.2 j
      omega
theorem usd_q0 {l : List (List Int)} {ro : List Int} {x : Int} (h : okW l ro x) (h10 : ro.length ≤ 10) : ∀ k, usd l x (q0 ro) k = usd l x ro k
  | 0 => rfl
  | k + 1 => by
    obtain ⟨q1, q2, _, _⟩ := q0_w h h10 k
    have hk := okW_at h k
    have hlt : (wA l x ro k).toNat < ro.length := by
      have a1 := hk.1; have a2 := hk.2.1; have a3 := h.2.2.2.1; omega
    have e : (wR l x (q0 ro) k).getD (wA l x ro k).toNat 0 = (wR l x ro k).getD (wA l x ro k).toNat 0 := by
      rw [← q2]
      rw [List.getD_eq_getElem?_getD (l := List.take _ _), List.getElem?_take, if_pos hlt, List.getD_eq_getElem?_getD]
    simp only [usd]
    rw [usd_q0 h h10 k, q1, e]
theorem zer_snoc {l : List (List Int)} {i : Nat} (h : i < l.length) : zer (l.take i) ++ [List.replicate ((l.getD i []).length : Int).toNat 0] = zer (l.take (i + 1)) := by
  rw [take_snoc h []]
  unfold zer
  rw [List.map_append]
  rfl
theorem zer_len {l : List (List Int)} {i : Nat} (h : i ≤ l.length) : (zer (l.take i)).length = i := by simp [zer, h]
theorem vc_spec_LinesUsed (x steps : Int) (n m : Nat) (l : List (List Int)) (ro : List Int) (h : l.length = n ∧ ro.length = m ∧ smallM l ∧ m ≤ 2000000) : VC_spec_LinesUsed x steps n m l ro (retG 2 (.tup [.row 2 (numW l ro n x steps n), .bool (wkOk l ro n x steps)]) [⟨.mat .i64 3 l, 23, .mat⟩, ⟨.ints .i64 ro, 3, .row⟩, ⟨.mat .i64 3 (usedM l ro n x steps), 23, .mat⟩]) := by
  unfold VC_spec_LinesUsed
  refine ⟨⟨h⟩, fun hn => ?_, fun hy => ?_⟩
  · simp only [Bool.not_eq_true'] at hn
    obtain ⟨w1, _⟩ := walk_no hn n
    exact retG_un hn w1 (by unfold usedM; rw [hn]; rfl)
  · simp only [Bool.not_eq_false'] at hy
    obtain ⟨w1, _⟩ := walk_yes hy n
    have w2 : usedM l ro n x steps = usd l x ro steps.toNat := by unfold usedM; rw [hy]; rfl
    rw [w1, w2]
    obtain ⟨hr, hs1, hs2⟩ := wk_bd hy
    obtain ⟨hw, hm, hn1, hn2⟩ := okW_of h.1 hr
    have e0 : (steps - steps).toNat = 0 := by omega
    refine ⟨⟨h.1, h.2.1, h.2.2.1, h.2.2.2, by omega, okW_rows hw⟩, ⟨trivial, by simp [h.1], ⟨by simp, by simp, by simp [h.1, h.2.1], by simp, by simp, by simp [zer], trivial⟩, trivial⟩, ⟨⟨Int.le_refl _, by omega⟩⟩, fun i hi => ⟨fun hc => ?_, fun hc => ?_⟩⟩
    · have hc := of_decide_eq_true hc
      obtain ⟨g1, g2⟩ := hi
      have hil : i.toNat < l.length := by omega
      have hr' := h.2.2.1.2 _ (getD_mem hil [])
      have e1 : IntKind.wrap .i64 (i + 1) = i + 1 := wrap64_in (by omega)
      rw [e1, show (i + 1).toNat = i.toNat + 1 by omega, zer_snoc hil]
      exact ⟨⟨g1, hc⟩, ⟨hil⟩, ⟨by omega, by omega, by omega⟩, ⟨by simp, zer_len (by omega), by omega⟩, ⟨trivial, by simp, by simp, trivial⟩, ⟨⟨⟨by omega, by omega⟩, by omega⟩⟩⟩
    · have hc := of_decide_eq_false hc
      obtain ⟨g1, g2⟩ := hi
      have ei : i.toNat = l.length := by omega
      rw [ei, List.take_length, e0]
      refine ⟨⟨trivial, by simp [wA, wS], ⟨by simp, by simp, by simp, by simp, by simp [wR, wS], by simp [usd], trivial⟩, trivial⟩, ⟨hs1, Int.le_refl _⟩, fun a ha => ⟨fun hc => ?_, fun hc => ?_⟩⟩
      · have hc := of_decide_eq_true hc
        have e1 : IntKind.wrap .i64 (a - 1) = a - 1 := wrap64_in (by omega)
        have e2 : (steps - (a - 1)).toNat = (steps - a).toNat + 1 := by omega
        have hk := okW_at hw (steps - a).toNat
        obtain ⟨k1, k2, k3, k4, k5⟩ := hk
        obtain ⟨b1, b2, b3, b4, b5⟩ := k5 (wA l x ro (steps - a).toNat).toNat (by omega)
        obtain ⟨u1, u2⟩ := usd_shape (l := l) (x := x) (ro := ro) (steps - a).toNat
        obtain ⟨u3, u4⟩ := u2 (wA l x ro (steps - a).toNat).toNat
        have u5 := u4 ((wR l x ro (steps - a).toNat).getD (wA l x ro (steps - a).toNat).toNat 0).toNat
        rw [e1, e2, (wS_succ l x ro (steps - a).toNat).1, (wS_succ l x ro (steps - a).toNat).2, u3, u1, wrap64_in (x := ((usd l x ro (steps - a).toNat).getD (wA l x ro (steps - a).toNat).toNat []).getD ((wR l x ro (steps - a).toNat).getD (wA l x ro (steps - a).toNat).toNat 0).toNat 0 + 1) (by omega)]
        have hx1 : (wA l x ro (steps - a).toNat).toNat < l.length := by omega
        have hx2 : ((wR l x ro (steps - a).toNat).getD (wA l x ro (steps - a).toNat).toNat 0).toNat < (l.getD (wA l x ro (steps - a).toNat).toNat []).length := by omega
        have hx3 : (wA l x ro (steps - a).toNat).toNat < (wR l x ro (steps - a).toNat).length := by omega
        have hx4 : wA l x ro (steps - a).toNat < (ro.length : Nat) := by rw [hm, ← h.1]; exact k2
        exact ⟨trivial, ⟨k1, k2⟩, ⟨hx1⟩, ⟨k1, hx4⟩, ⟨hx3⟩, ⟨b3, b4⟩, ⟨hx1, hx2⟩, ⟨b3, b4⟩, ⟨hx1, hx2⟩, ⟨rfl, wR_len .., okW_at hw _⟩, ⟨trivial, by simp, by simp [usd], trivial⟩, ⟨⟨by omega, by omega⟩, by omega⟩⟩
      · have hc := of_decide_eq_false hc
        rw [show (steps - a).toNat = steps.toNat by omega]
        exact retG_uy5 hy h.1 rfl
theorem vc_impl_LinesUsed (x steps : Int) (n m : Nat) (l : List (List Int)) (ro : List Int) (h : l.length = n ∧ ro.length = m ∧ smallM l ∧ m ≤ 2000000) : VC_impl_LinesUsed x steps n m l ro (retG 2 (.tup [.row 2 (numW l ro n x steps n), .bool (wkOk l ro n x steps)]) [⟨.mat .i64 3 l, 23, .mat⟩, ⟨.ints .i64 ro, 3, .row⟩, ⟨.mat .i64 3 (usedM l ro n x steps), 23, .mat⟩]) := by
  unfold VC_impl_LinesUsed
  have no : wkOk l ro n x steps = false → ∀ J, retG 2 (.tup [.row 2 (numW l ro n x steps n), .bool (wkOk l ro n x steps)]) [⟨.mat .i64 3 l, 23, .mat⟩, ⟨.ints .i64 ro, 3, .row⟩, ⟨.mat .i64 3 (usedM l ro n x steps), 23, .mat⟩] (.tup [.raw (.slice none 0 0), .lit false]) (⟨.mat .i64 3 l, 23, .mat⟩ :: ⟨.ints .i64 ro, 3, .row⟩ :: J) := fun hn J => by
    obtain ⟨w1, _⟩ := walk_no hn n
    exact retG_un hn w1 (by unfold usedM; rw [hn]; rfl)
  refine ⟨⟨h⟩, fun h1 => no (wk_n1 h1) _, fun h1 => ⟨⟨h⟩, fun h2 => no (wk_n2 h2) _, fun h2 => ⟨trivial, ⟨h.2.1⟩, ⟨trivial⟩, fun h3 => no (wk_n3 h3) _, fun h3 => ?_⟩⟩⟩
  have hrt := rt_of h1 h2
  have hy := wk_y hrt h3
  obtain ⟨w1, _⟩ := walk_yes hy n
  have w2 : usedM l ro n x steps = usd l x ro steps.toNat := by unfold usedM; rw [hy]; rfl
  rw [w1, w2]
  obtain ⟨hr, hs1, hs2⟩ := wk_bd hy
  obtain ⟨hw, hm, hn1, hn2⟩ := okW_of h.1 hr
  have h10 : ro.length ≤ 10 := by omega
  have q := fun k => q0_w hw h10 k
  refine ⟨⟨by omega, by omega, by omega⟩, ⟨trivial, by simp [h.1], ⟨by simp, by simp, by simp [q0, h.1], by simp [zer], trivial⟩, trivial⟩, ⟨⟨Int.le_refl _, by omega⟩⟩, fun i hi => ⟨fun hc => ?_, fun hc => ?_⟩⟩
  · have hc := of_decide_eq_true hc
    obtain ⟨g1, g2⟩ := hi
    have hil : i.toNat < l.length := by omega
    have hr' := h.2.2.1.2 _ (getD_mem hil [])
    have e1 : IntKind.wrap .i64 (i + 1) = i + 1 := wrap64_in (by omega)
    rw [e1, show (i + 1).toNat = i.toNat + 1 by omega, zer_snoc hil]
    exact ⟨⟨g1, hc⟩, ⟨hil⟩, ⟨by omega, by omega, by omega⟩, ⟨by simp, zer_len (by omega), by omega⟩, ⟨trivial, by simp, by simp, trivial⟩, ⟨⟨⟨by omega, by omega⟩, by omega⟩⟩⟩
  · have hc := of_decide_eq_false hc
    obtain ⟨g1, g2⟩ := hi
    have ei : i.toNat = l.length := by omega
    rw [ei, List.take_length]
    refine ⟨⟨trivial, by simp, ⟨by simp, by simp, by simp [wA, wR, wS], by simp [usd], trivial⟩, trivial⟩, ⟨Int.le_refl _, hs1⟩, fun a ha => ⟨fun hc => ?_, fun hc => ?_⟩⟩
    · have hc := of_decide_eq_true hc
      have e1 : IntKind.wrap .i64 (a + 1) = a + 1 := wrap64_in (by omega)
      have e2 : (a + 1).toNat = a.toNat + 1 := by omega
      obtain ⟨q1, q2, q3, q4⟩ := q a.toNat
      have q3' := q3
      obtain ⟨k1, k2, k3, k4, k5⟩ := q3
      obtain ⟨b1, b2, b3, b4, b5⟩ := k5 (wA l x (q0 ro) a.toNat).toNat (by omega)
      obtain ⟨u1, u2⟩ := usd_shape (l := l) (x := x) (ro := q0 ro) a.toNat
      obtain ⟨u3, u4⟩ := u2 (wA l x (q0 ro) a.toNat).toNat
      have u5 := u4 ((wR l x (q0 ro) a.toNat).getD (wA l x (q0 ro) a.toNat).toNat 0).toNat
      have e3 := wrap64_in (x := ((usd l x (q0 ro) a.toNat).getD (wA l x (q0 ro) a.toNat).toNat []).getD ((wR l x (q0 ro) a.toNat).getD (wA l x (q0 ro) a.toNat).toNat 0).toNat 0 + 1) (by omega)
      have hx1 : (wA l x (q0 ro) a.toNat).toNat < l.length := by omega
      have hx2 : ((wR l x (q0 ro) a.toNat).getD (wA l x (q0 ro) a.toNat).toNat 0).toNat < (l.getD (wA l x (q0 ro) a.toNat).toNat []).length := by omega
      have s1 := (wS_succ l x (q0 ro) a.toNat).1
      have s2 := (wS_succ l x (q0 ro) a.toNat).2
      have s3 : (usd l x (q0 ro) a.toNat).set (wA l x (q0 ro) a.toNat).toNat (((usd l x (q0 ro) a.toNat).getD (wA l x (q0 ro) a.toNat).toNat []).set ((wR l x (q0 ro) a.toNat).getD (wA l x (q0 ro) a.toNat).toNat 0).toNat (((usd l x (q0 ro) a.toNat).getD (wA l x (q0 ro) a.toNat).toNat []).getD ((wR l x (q0 ro) a.toNat).getD (wA l x (q0 ro) a.toNat).toNat 0).toNat 0 + 1)) = usd l x (q0 ro) (a.toNat + 1) := rfl
      simp only [e1, e2, e3, s1, s2, s3, u1, u3, k1, k2, q4, q3', b3, b4, hx1, hx2, at_iff, true_and, and_self]
      exact ⟨⟨by omega, by omega⟩, by omega⟩
    · have hc := of_decide_eq_false hc
      rw [show a.toNat = steps.toNat by omega, usd_q0 hw h10]
      exact retG_uy3 hy h.1 rfl
/-! ### what the laws ask -/
theorem law_zero {l : List (List Int)} {ro : List Int} (hs : smallM l) : (zeroL l ro).length = numZ l ro l.length ∧ smallM (zeroL l ro) ∧ numZ l ro l.length ≤ 2000000 := by
  unfold zeroL numZ
  cases routeB l ro with
  | false => exact ⟨rfl, small_nil, by simp⟩
  | true => exact ⟨rfl, hs, hs.1⟩
theorem law_used {l : List (List Int)} {ro : List Int} {x steps : Int} (hs : smallM l) : (usedM l ro l.length x steps).length = numW l ro l.length x steps l.length ∧ smallM (usedM l ro l.length x steps) := by
  unfold usedM numW
  cases h : wkOk l ro l.length x steps with
  | false => exact ⟨rfl, small_nil⟩
  | true =>
    obtain ⟨u1, u2⟩ := usd_shape (l := l) (x := x) (ro := ro) steps.toNat
    refine ⟨u1, by rw [cond_true, u1]; exact hs.1, fun r hr => ?_⟩
    obtain ⟨i, hi⟩ := List.mem_iff_getElem?.1 hr
    have h1 := (u2 i).1
    rw [List.getD_eq_getElem?_getD, show (usd l x ro steps.toNat)[i]? = some r from hi] at h1
    simp only [Option.getD_some] at h1
    rw [h1]
    by_cases hil : i < l.length
    · exact hs.2 _ (getD_mem hil [])
    · rw [List.getD_eq_getElem?_getD, List.getElem?_eq_none (by omega)]; simp
end Go.Vi
