/- The conditions of what boxes go through; BoxOfPlain's. -/
import Derived.Test.YtllocclgllappabJ2Vc
import Derived.Test.YtllocclgllappabJ2Spec
namespace Go.Vi
set_option linter.unusedSimpArgs false
/-! ### boxes -/
theorem vc_spec_l1Least (a b : Int) (_ : True) : VC_spec_l1Least a b (retP (.int .i64 (if a < b then a else b))) := by
  unfold VC_spec_l1Least
  refine ⟨fun h => ?_, fun h => ?_⟩
  · rw [if_pos (of_decide_eq_true h)]; exact (retP_int _ _ _).2 rfl
  · rw [if_neg (of_decide_eq_false h)]; exact (retP_int _ _ _).2 rfl
theorem vc_spec_l1Most (a b : Int) (_ : True) : VC_spec_l1Most a b (retP (.int .i64 (if b < a then a else b))) := by
  unfold VC_spec_l1Most
  refine ⟨fun h => ?_, fun h => ?_⟩
  · rw [if_pos (of_decide_eq_true h)]; exact (retP_int _ _ _).2 rfl
  · rw [if_neg (of_decide_eq_false h)]; exact (retP_int _ _ _).2 rfl
theorem four {l : List Int} (h : l.length = 4) : ∃ p q r s, l = [p, q, r, s] := by
  match l, h with
  | [p, q, r, s], _ => exact ⟨p, q, r, s, rfl⟩
theorem boxF_len (a : List Int) (x y : Int) : ∀ i, (boxF a x y i).length = 4
  | 0 => rfl
  | _ + 1 => rfl
theorem up0_len (l : List Int) (x y : Int) : (up0 l x y).length = l.length := by simp [up0]
theorem up1_len (l : List Int) (x y : Int) : (up1 l x y).length = l.length := by simp [up1]
theorem up2_len (l : List Int) (x y : Int) : (up2 l x y).length = l.length := by simp [up2]
theorem up01_len (l : List Int) (x y : Int) : (up01 l x y).length = l.length := by simp [up01]
theorem up_box (a : List Int) (x y : Int) (i : Nat) : up3 (up2 (up1 (up0 (boxF a x y i) (spX a i) (spY a i)) (spX a i) (spY a i)) (spX a i) (spY a i)) (spX a i) (spY a i) = boxF a x y (i + 1) := by
  obtain ⟨p, q, r, s, h⟩ := four (boxF_len a x y i)
  simp only [boxF, h]
  rfl
theorem least_comm (p x : Int) : (if x < p then x else p) = leastI p x := by
  unfold leastI
  by_cases h1 : x < p
  · rw [if_pos h1, if_neg (by omega)]
  · rw [if_neg h1]; by_cases h2 : p < x
    · rw [if_pos h2]
    · rw [if_neg h2]; omega
theorem most_comm (p x : Int) : (if p < x then x else p) = mostI p x := by
  unfold mostI
  by_cases h1 : p < x
  · rw [if_pos h1, if_neg (by omega)]
  · rw [if_neg h1]; by_cases h2 : x < p
    · rw [if_pos h2]
    · rw [if_neg h2]; omega
theorem up_both (a : List Int) (x y : Int) (i : Nat) : up23 (up01 (boxF a x y i) (spX a i) (spY a i)) (spX a i) (spY a i) = boxF a x y (i + 1) := by
  obtain ⟨p, q, r, s, h⟩ := four (boxF_len a x y i)
  simp only [boxF, h]
  simp [up23, up01, least_comm, most_comm]
theorem retG_row4 {a b c : List Int} {e e2 : TypeId} {b0 : Blk} (h : b = c) : retG 1 (.row 1 4) [⟨.ints .i64 a, e, .rows 3⟩, ⟨.ints .i64 c, e2, .row⟩] (.row 2 4) [⟨.ints .i64 a, e, .rows 3⟩, b0, ⟨.ints .i64 b, e2, .row⟩] := by
  subst h
  unfold retG leSel leSelBy autoSel
  simp [pairsL, pairsV, idPairs, pairsIn, selOf, lookN, selMem, chkB, nodupSel, hasSel, prefSel, leSt, leL, leV, nilToL, V.nilTo, isNilS, findSel, selL, V.sel, Cells.selN, leMem, leCells, memUnder, underL, V.under]
  exact trivial
theorem retG_box {a b c : List Int} {e e2 : TypeId} {b0 : Blk} (h : b = c) : retG 1 (.tup [.row 1 4, .bool true]) [⟨.ints .i64 a, e, .rows 3⟩, ⟨.ints .i64 c, e2, .row⟩] (.tup [.row 2 4, .lit true]) [⟨.ints .i64 a, e, .rows 3⟩, b0, ⟨.ints .i64 b, e2, .row⟩] := by
  subst h
  unfold retG leSel leSelBy autoSel
  simp [pairsL, pairsV, idPairs, pairsIn, selOf, lookN, selMem, chkB, nodupSel, hasSel, prefSel, leSt, leL, leV, nilToL, V.nilTo, isNilS, findSel, selL, V.sel, Cells.selN, leMem, leCells, memUnder, underL, V.under]
  exact trivial
theorem retG_nobox {a : List Int} {e e2 : TypeId} {b0 : Blk} : retG 1 (.tup [.row 1 0, .bool false]) [⟨.ints .i64 a, e, .rows 3⟩, ⟨.ints .i64 [], e2, .row⟩] (.tup [.raw (.slice none 0 0), .lit false]) [⟨.ints .i64 a, e, .rows 3⟩, b0] := by
  unfold retG leSel leSelBy autoSel
  simp [pairsL, pairsV, idPairs, pairsIn, selOf, lookN, selMem, chkB, nodupSel, hasSel, prefSel, leSt, leL, leV, nilToL, V.nilTo, isNilS, isGhost, findSel, selL, V.sel, Cells.selN, Cells.none0, leMem, leCells, memUnder, underL, V.under, Kind.isRow]
  exact trivial
theorem iv_next {n : Nat} {i : Int} (hi : ivInv n (fun _ => True) i) (hc : i < n) : ivInv n (fun _ => True) (i + 1) ∧ ((n : Int) - (i + 1)).toNat < ((n : Int) - i).toNat := by
  obtain ⟨g1, g2, g3, _⟩ := hi
  exact ⟨⟨by omega, by omega, g3, trivial⟩, by omega⟩
theorem vc_spec_enBox (pr : List UInt8) (n : Nat) (px py pd : Int) (a : List Int) (h : a.length = n * 3 ∧ n ≤ 2000000) : VC_spec_enBox pr n px py pd a (retG 1 (.row 1 4) [⟨.ints .i64 a, 52, .rows 3⟩, ⟨.ints .i64 (boxF a px py n), 3, .row⟩]) := by
  obtain ⟨ha, hn⟩ := h
  unfold VC_spec_enBox
  refine ⟨?_, ⟨Int.le_refl _, by omega, hn, trivial⟩, fun i hi => ⟨fun hc => ?_, fun hc => ?_⟩⟩
  · repeat' (first | apply And.intro | exact trivial | rfl)
  · have hc := of_decide_eq_true hc
    have hst := iv_next hi hc
    obtain ⟨g1, g2, _, _⟩ := hi
    rw [wrap64_in (x := i + 1) (by omega), show (i + 1).toNat = i.toNat + 1 by omega]
    have hb := up_box a px py i.toNat
    unfold spX spY at hb
    rw [hb]
    simp only [boxF_len, up0_len, up1_len, up2_len]
    repeat' (first | apply And.intro | apply At.mk | exact trivial | rfl | exact hb | exact hst.1 | exact hst.2 | omega | decide)
  · have hc := of_decide_eq_false hc
    obtain ⟨g1, g2, _, _⟩ := hi
    exact retG_row4 (by rw [show i.toNat = n by omega])
theorem boxP_yes {ok : Bool} {n : Nat} {a : List Int} {x y : Int} (h : ok = true) : (boxP ok n a x y) = boxF a x y n := by rw [h]; rfl
theorem boxP_no {ok : Bool} {n : Nat} {a : List Int} {x y : Int} (h : ok = false) : (boxP ok n a x y) = [] := by rw [h]; rfl
theorem boxP_le (ok : Bool) (n : Nat) (a : List Int) (x y : Int) : (boxP ok n a x y).length ≤ 1000 := by
  cases ok
  · exact Nat.zero_le _
  · show (boxF a x y n).length ≤ 1000
    rw [boxF_len]; decide
theorem vc_spec_BoxOfPlain (pr : List UInt8) (n : Nat) (px py pd : Int) (a : List Int) (h : a.length = n * 3 ∧ n ≤ 2000000) : VC_spec_BoxOfPlain pr n px py pd a
    (retG 1 (.tup [.row 1 (boxP (goodP pr n a px py pd) n a px py).length, .bool (goodP pr n a px py pd)]) [⟨.ints .i64 a, 52, .rows 3⟩, ⟨.ints .i64 (boxP (goodP pr n a px py pd) n a px py), 3, .row⟩]) := by
  unfold VC_spec_BoxOfPlain
  refine ⟨⟨h⟩, fun hg => ?_, fun hg => ⟨⟨h⟩, ?_⟩⟩
  · have hg : goodP pr n a px py pd = false := by simpa using hg
    rw [boxP_no hg, hg]
    exact retG_nobox
  · have hg : goodP pr n a px py pd = true := by simpa using hg
    rw [boxP_yes hg, hg, boxF_len]
    exact retG_box rfl
theorem retG_box4 {a b c : List Int} {e e2 : TypeId} {b0 b1 : Blk} (h : b = c) : retG 1 (.tup [.row 1 4, .bool true]) [⟨.ints .i64 a, e, .rows 3⟩, ⟨.ints .i64 c, e2, .row⟩] (.tup [.row 3 4, .lit true]) [⟨.ints .i64 a, e, .rows 3⟩, b0, b1, ⟨.ints .i64 b, e2, .row⟩] := by
  subst h
  unfold retG leSel leSelBy autoSel
  simp [pairsL, pairsV, idPairs, pairsIn, selOf, lookN, selMem, chkB, nodupSel, hasSel, prefSel, leSt, leL, leV, nilToL, V.nilTo, isNilS, findSel, selL, V.sel, Cells.selN, leMem, leCells, memUnder, underL, V.under]
  exact trivial
theorem retG_fb {l : List Int} {e f : TypeId} {d d' : List Int} {J : List Blk} (hd : d' = d) :
    retG 1 (.row 1 4) [⟨.ints .i64 l, e, .rows 2⟩, ⟨.ints .i64 d, f, .row⟩] (.row 1 4) (⟨.ints .i64 l, e, .rows 2⟩ :: ⟨.ints .i64 d', f, .row⟩ :: J) := by
  subst hd
  unfold retG leSel leSelBy autoSel
  simp [pairsL, pairsV, idPairs, pairsIn, selOf, lookN, findSel, selMem, chkB, nodupSel, hasSel, prefSel, leSt, leL, leV, nilToL, V.nilTo, isNilS, isGhost, selL, V.sel, Cells.selN, leMem, leCells, memUnder, underL, V.under]
  try trivial
theorem ix_ev' {n : Nat} {a : Int} (h : ixN n a) (hlt : a < n) (hn : n ≤ 2000001) : ∃ i : Nat, a = i ∧ i < n ∧ a.toNat = i ∧ IntKind.wrap .i64 (a + 1) = ((i + 1 : Nat) : Int) ∧ ixN n ((i + 1 : Nat) : Int) ∧ ((n : Int) - ((i + 1 : Nat) : Int)).toNat < ((n : Int) - a).toNat := by
  obtain ⟨h0, h1⟩ := h
  refine ⟨a.toNat, by omega, by omega, rfl, ?_, ⟨by omega, by omega⟩, by omega⟩
  rw [wrap64_in (by omega)]; omega
theorem vc_impl_boxOf (n : Nat) (f : List Int) (h : f.length = n * 2 ∧ 1 ≤ n ∧ n ≤ 2000001) :
    VC_impl_boxOf n f (retG 1 (.row 1 4) [⟨.ints .i64 f, 49, .rows 2⟩, ⟨.ints .i64 (bx4 (bxF f n)), 3, .row⟩]) := by
  unfold VC_impl_boxOf
  obtain ⟨hn, h1, h9⟩ := h
  have t0 : Int.toNat 0 = 0 := rfl
  have t1 : Int.toNat 1 = 1 := rfl
  have t2 : Int.toNat 2 = 2 := rfl
  have t3 : Int.toNat 3 = 3 := rfl
  have hb : ∀ q, (bx4 q).length = 4 := fun _ => rfl
  have g0 : ∀ q, (bx4 q).getD 0 0 = q.a := fun _ => rfl
  have g1 : ∀ q, (bx4 q).getD 1 0 = q.b := fun _ => rfl
  have g2 : ∀ q, (bx4 q).getD 2 0 = q.c := fun _ => rfl
  have g3 : ∀ q, (bx4 q).getD 3 0 = q.d := fun _ => rfl
  have k0 : ∀ a b c d : Int, [a, b, c, d].getD 0 0 = a := fun _ _ _ _ => rfl
  have k1 : ∀ a b c d : Int, [a, b, c, d].getD 1 0 = b := fun _ _ _ _ => rfl
  have k2 : ∀ a b c d : Int, [a, b, c, d].getD 2 0 = c := fun _ _ _ _ => rfl
  have k3 : ∀ a b c d : Int, [a, b, c, d].getD 3 0 = d := fun _ _ _ _ => rfl
  have kl : ∀ a b c d : Int, [a, b, c, d].length = 4 := fun _ _ _ _ => rfl
  have s01 : ∀ (q : Bx) (u v : Int), ((bx4 q).set 0 u).set 1 v = [u, v, q.c, q.d] := fun _ _ _ => rfl
  have s23 : ∀ (a b c d u v : Int), ([a, b, c, d].set 2 u).set 3 v = [a, b, u, v] := fun _ _ _ _ _ _ => rfl
  have s10 : ∀ (q : Bx) (u v : Int), ((bx4 q).set 1 u).set 0 v = [v, u, q.c, q.d] := fun _ _ _ => rfl
  have s32 : ∀ (a b c d u v : Int), ([a, b, c, d].set 3 u).set 2 v = [a, b, v, u] := fun _ _ _ _ _ _ => rfl
  have le : ∀ a b : Int, (if b < a then b else a) = leI a b := fun _ _ => rfl
  have mo : ∀ a b : Int, (if a < b then b else a) = moI a b := fun _ _ => rfl
  simp only [at_iff, true_and, and_true, and_self, t0, t1, t2, t3, hb, g0, g1, g2, g3, k0, k1, k2, k3, kl, s01, s23, s10, s32, le, mo, List.length_set]
  refine ⟨by omega, by omega, rfl, ⟨Int.le_refl _, by omega⟩, fun a ha => ⟨fun hc => ?_, fun hc => ?_⟩⟩
  · have hc := of_decide_eq_true hc
    obtain ⟨i, hi, hil, hin, e1, e2, e3⟩ := ix_ev' ha hc h9
    rw [e1, hin]
    simp only [Int.toNat_natCast]
    exact ⟨⟨by omega, hc⟩, by omega, by omega, by omega, rfl, e2, e3⟩
  · have hc := of_decide_eq_false hc
    obtain ⟨q0, q1⟩ := ha
    rw [show a.toNat = n by omega]
    exact retG_fb rfl
theorem plF_len (a : List Int) (x y : Int) : ∀ i, (plF a x y i).length = (i + 1) * 2
  | 0 => rfl
  | i + 1 => by simp only [plF, List.length_append, plF_len a x y i, List.length_cons, List.length_nil]; omega
theorem plF_head (a : List Int) (x y : Int) : ∀ i, (plF a x y i).getD 0 0 = x ∧ (plF a x y i).getD 1 0 = y
  | 0 => ⟨rfl, rfl⟩
  | i + 1 => by
    have ih := plF_head a x y i
    have hl := plF_len a x y i
    simp only [plF, List.getD_eq_getElem?_getD] at ih ⊢
    rw [List.getElem?_append_left (by omega), List.getElem?_append_left (by omega)]
    exact ih
theorem plF_last (a : List Int) (x y : Int) (i : Nat) : (plF a x y (i + 1)).getD ((i + 1) * 2) 0 = spX a i ∧ (plF a x y (i + 1)).getD ((i + 1) * 2 + 1) 0 = spY a i := by
  have hl := plF_len a x y i
  simp only [plF, List.getD_eq_getElem?_getD]
  rw [List.getElem?_append_right (by omega), List.getElem?_append_right (by omega), hl, Nat.sub_self, show (i + 1) * 2 + 1 - (i + 1) * 2 = 1 by omega]
  exact ⟨rfl, rfl⟩
theorem leI_eq (a b : Int) : leI a b = leastI a b := by
  unfold leI leastI
  by_cases h1 : b < a
  · rw [if_pos h1, if_neg (by omega)]
  · rw [if_neg h1]; by_cases h2 : a < b
    · rw [if_pos h2]
    · rw [if_neg h2]; omega
theorem moI_eq (a b : Int) : moI a b = mostI a b := by
  unfold moI mostI
  by_cases h1 : a < b
  · rw [if_pos h1, if_neg (by omega)]
  · rw [if_neg h1]; by_cases h2 : b < a
    · rw [if_pos h2]
    · rw [if_neg h2]; omega
theorem bxF_app {f : List Int} (r : List Int) : ∀ m, 1 ≤ f.length / 2 → m * 2 ≤ f.length → bxF (f ++ r) m = bxF f m
  | 0, h, _ => by
    simp only [bxF, List.getD_eq_getElem?_getD]
    rw [List.getElem?_append_left (by omega), List.getElem?_append_left (by omega)]
  | m + 1, h, hm => by
    simp only [bxF]
    rw [bxF_app r m h (by omega)]
    simp only [List.getD_eq_getElem?_getD]
    rw [List.getElem?_append_left (by omega), List.getElem?_append_left (by omega)]
theorem bx_plain (a : List Int) (x y : Int) : ∀ i, bx4 (bxF (plF a x y i) (i + 1)) = boxF a x y i
  | 0 => by
    show [leI x x, moI x x, leI y y, moI y y] = [x, x, y, y]
    simp [leI, moI]
  | i + 1 => by
    have ih := bx_plain a x y i
    have hl := plF_len a x y i
    have e : bxF (plF a x y (i + 1)) (i + 1) = bxF (plF a x y i) (i + 1) := bxF_app _ _ (by omega) (by omega)
    obtain ⟨l1, l2⟩ := plF_last a x y i
    rw [show bxF (plF a x y (i + 1)) (i + 1 + 1) = bxS ((plF a x y (i + 1)).getD ((i + 1) * 2) 0) ((plF a x y (i + 1)).getD ((i + 1) * 2 + 1) 0) (bxF (plF a x y (i + 1)) (i + 1)) from rfl, l1, l2, e]
    simp only [boxF, ← ih, bx4, bxS, leI_eq, moI_eq]
    rfl
theorem vc_impl_BoxOfPlain (pr : List UInt8) (n : Nat) (px py pd : Int) (a : List Int) (h : a.length = n * 3 ∧ n ≤ 2000000) : VC_impl_BoxOfPlain pr n px py pd a
    (retG 1 (.tup [.row 1 (boxP (goodP pr n a px py pd) n a px py).length, .bool (goodP pr n a px py pd)]) [⟨.ints .i64 a, 52, .rows 3⟩, ⟨.ints .i64 (boxP (goodP pr n a px py pd) n a px py), 3, .row⟩]) := by
  unfold VC_impl_BoxOfPlain
  simp only [at_iff, true_and, and_true, and_self]
  refine ⟨h, fun hg => ?_, fun hg => ⟨rfl, ⟨Int.le_refl _, by omega, h.2, trivial⟩, fun i hi => ⟨fun hc => ?_, fun hc => ?_⟩⟩⟩
  · have hg : goodP pr n a px py pd = false := by simpa using hg
    rw [boxP_no hg, hg]
    exact retG_nobox
  · have hc := of_decide_eq_true hc
    have hst := iv_next hi hc
    obtain ⟨g1, g2, g3, _⟩ := hi
    obtain ⟨ha, _⟩ := h
    have hl := plF_len a px py i.toNat
    rw [wrap64_in (x := i + 1) (by omega), show (i + 1).toNat = i.toNat + 1 by omega]
    refine ⟨⟨g1, hc⟩, by omega, ⟨⟨hl, by simp⟩, by omega, by omega⟩, ⟨rfl, rfl⟩, hst.1, hst.2⟩
  · have hc := of_decide_eq_false hc
    have hg : goodP pr n a px py pd = true := by simpa using hg
    obtain ⟨g1, g2, _, _⟩ := hi
    rw [show i.toNat = n by omega, boxP_yes hg, hg, boxF_len]
    refine ⟨⟨plF_len _ _ _ _, by omega, by omega⟩, retG_box4 (bx_plain a px py n)⟩
/-! ### rows of numbers in a law -/
theorem retG_int1 {q r : Int} {a b : List Int} {e : TypeId} (h : q = r) (hb : b = a) : retG 1 (.int .i64 r) [⟨.ints .i64 a, e, .row⟩] (.int .i64 q) [⟨.ints .i64 b, e, .row⟩] := by
  subst h; subst hb
  unfold retG leSel leSelBy autoSel
  simp [pairsL, pairsV, idPairs, pairsIn, selOf, lookN, selMem, chkB, nodupSel, hasSel, prefSel, leSt, leL, leV, nilToL, V.nilTo, selL, V.sel, Cells.selN, leMem, leCells, memUnder, underL, V.under]
theorem retG_lit2 {q : Bool} {r : Bool} {a b : List Int} {e : TypeId} (h : q = r) : retG 2 (.bool r) [⟨.ints .i64 a, e, .row⟩, ⟨.ints .i64 b, e, .row⟩] (.lit q) [⟨.ints .i64 a, e, .row⟩, ⟨.ints .i64 b, e, .row⟩] := by
  subst h
  unfold retG leSel leSelBy autoSel
  simp [pairsL, pairsV, idPairs, pairsIn, selOf, lookN, selMem, chkB, nodupSel, hasSel, prefSel, leSt, leL, leV, nilToL, V.nilTo, selL, V.sel, Cells.selN, leMem, leCells, memUnder, underL, V.under]
theorem ne_of_take {a b : List Int} {i : Nat} (h : (a.getD i 0 != b.getD i 0) = true) : (a == b) = false := by
  rw [beq_eq_false_iff_ne]
  rintro rfl
  simp at h
theorem vc_laws_eqIntS (n m : Nat) (a b : List Int) (h : n = a.length ∧ m = b.length ∧ n ≤ 1000 ∧ m ≤ 1000) : VC_laws_eqIntS n m a b (retG 2 (.bool (a == b)) [⟨.ints .i64 a, 3, .row⟩, ⟨.ints .i64 b, 3, .row⟩]) := by
  obtain ⟨rfl, rfl, h1, h2⟩ := h
  unfold VC_laws_eqIntS
  refine ⟨fun hne => ?_, fun heq => ⟨by simp, ?_, fun i hi => ⟨fun hc => ?_, fun hc => ?_⟩⟩⟩
  · refine retG_lit2 ?_
    symm
    rw [beq_eq_false_iff_ne]
    rintro rfl
    simp at hne
  · simp only [bne_eq_false_iff_eq] at heq
    exact ⟨by omega, by omega, by omega, h1, rfl⟩
  · have hc := of_decide_eq_true hc
    obtain ⟨g1, g2, g3, g4, g5⟩ := hi
    have hla : i.toNat < a.length := by omega
    have hlb : i.toNat < b.length := by omega
    rw [wrap64_in (x := i + 1) (by omega)]
    refine ⟨trivial, ⟨g1, hc⟩, ⟨hla⟩, ⟨by omega, by omega⟩, ⟨hlb⟩, fun hn => retG_lit2 (ne_of_take hn).symm, fun he => ⟨by simp, ⟨⟨by omega, by omega, g3, g4, ?_⟩, by omega⟩⟩⟩
    simp only [bne_eq_false_iff_eq] at he
    rw [show (i + 1).toNat = i.toNat + 1 by omega, take_succ_int hla, take_succ_int hlb, g5, he]
  · have hc := of_decide_eq_false hc
    obtain ⟨g1, g2, g3, g4, g5⟩ := hi
    refine retG_lit2 ?_
    rw [List.take_of_length_le (by omega), List.take_of_length_le (by omega)] at g5
    simp [g5]
theorem mrkRow_len {a : List Int} {k i : Int} (h : mrkInv a k i) : (mrkRow a k i).length = a.length := by
  obtain ⟨h1, h2, _⟩ := h
  simp only [mrkRow, List.length_append, ramp_len, List.length_drop]
  omega
theorem mrkRow_set {a : List Int} {k i : Int} (h : mrkInv a k i) (hi : i < a.length) : (mrkRow a k i).set i.toNat (k + i) = mrkRow a k (i + 1) := by
  obtain ⟨h1, h2, _⟩ := h
  have hl : i.toNat < a.length := by omega
  unfold mrkRow
  rw [List.set_append_right _ _ (by rw [ramp_len]; exact Nat.le_refl _), ramp_len, Nat.sub_self, List.drop_eq_getElem_cons hl, List.set_cons_zero, show (i + 1).toNat = i.toNat + 1 by omega, ramp_succ, List.append_assoc]
  simp only [List.singleton_append]
  rw [show ((i.toNat : Nat) : Int) = i by omega]
theorem mrkInv_step {a : List Int} {k i : Int} (h : mrkInv a k i) (hi : i < a.length) : mrkInv a k (i + 1) ∧ ((a.length : Int) - (i + 1)).toNat < ((a.length : Int) - i).toNat := by
  obtain ⟨h1, h2, h3, h4, h5⟩ := h
  exact ⟨⟨by omega, by omega, h3, h4, h5⟩, by omega⟩
theorem vc_laws_markIntS (k : Int) (n : Nat) (a : List Int) (h : n = a.length ∧ n ≤ 1000 ∧ 0 ≤ k ∧ k ≤ 1000) : VC_laws_markIntS k n a (retG 1 (.int .i64 (k + n)) [⟨.ints .i64 (ramp k n), 3, .row⟩]) := by
  obtain ⟨rfl, h1, h2, h3⟩ := h
  unfold VC_laws_markIntS
  refine ⟨by simp [mrkRow, ramp], ⟨by omega, by omega, h1, h2, h3⟩, fun i hi => ⟨fun hc => ?_, fun hc => ?_⟩⟩
  · have hc := of_decide_eq_true hc
    have hb := hi
    obtain ⟨g1, g2, g3, g4, g5⟩ := hb
    have hst := mrkInv_step hi hc
    rw [wrap64_in (x := i + 1) (by omega), wrap64_in (x := k + i + 1) (by omega), mrkRow_len hi, mrkRow_set hi hc]
    refine ⟨⟨g1, hc⟩, ⟨by omega⟩, by simp [Int.add_assoc], ⟨hst⟩⟩
  · have hc := of_decide_eq_false hc
    obtain ⟨g1, g2, _⟩ := hi
    have e : i = (a.length : Int) := by omega
    subst e
    refine retG_int1 rfl ?_
    unfold mrkRow
    rw [show ((a.length : Int)).toNat = a.length by omega, List.drop_length, List.append_nil]
theorem vc_laws_heldIntS (k : Int) (n : Nat) (a : List Int) (h : n = a.length ∧ n ≤ 1000 ∧ 0 ≤ k ∧ k ≤ 1000) : VC_laws_heldIntS k n a (retG 1 (.int .i64 (bif a == ramp k n then k + n else -1)) [⟨.ints .i64 a, 3, .row⟩]) := by
  obtain ⟨rfl, h1, h2, h3⟩ := h
  unfold VC_laws_heldIntS
  refine ⟨by simp, ⟨⟨by omega, by omega, h1, h2, h3⟩, by simp [ramp]⟩, fun i hi => ⟨fun hc => ?_, fun hc => ?_⟩⟩
  · have hc := of_decide_eq_true hc
    obtain ⟨hm, ht⟩ := hi
    have hb := hm
    obtain ⟨g1, g2, g3, g4, g5⟩ := hb
    have hst := mrkInv_step hm hc
    have hl : i.toNat < a.length := by omega
    rw [wrap64_in (x := i + 1) (by omega), wrap64_in (x := k + i + 1) (by omega)]
    refine ⟨⟨g1, hc⟩, ⟨hl⟩, fun hn => retG_int1 ?_ rfl, fun he => ⟨by simp [Int.add_assoc], ⟨⟨hst.1, ?_⟩, hst.2⟩⟩⟩
    · have : (a == ramp k a.length) = false := by
        rw [beq_eq_false_iff_ne]
        intro e
        have e2 : a.getD i.toNat 0 = (ramp k a.length).getD i.toNat 0 := by rw [← e]
        rw [e2] at hn
        simp [ramp, List.getD_eq_getElem?_getD, hl] at hn
        omega
      rw [this]; rfl
    · simp only [bne_eq_false_iff_eq] at he
      rw [show (i + 1).toNat = i.toNat + 1 by omega, take_succ_int hl, ramp_succ, ht, he, show ((i.toNat : Nat) : Int) = i by omega]
  · have hc := of_decide_eq_false hc
    obtain ⟨⟨g1, g2, _⟩, ht⟩ := hi
    have e : i = (a.length : Int) := by omega
    subst e
    rw [show ((a.length : Int)).toNat = a.length by omega, List.take_length] at ht
    refine retG_int1 ?_ rfl
    rw [← ht]
    simp
end Go.Vi
