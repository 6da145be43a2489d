/- The conditions of steps hold. -/
import Derived.Test.YtbdhilflnfllaaaDoorSWVc
import Derived.Test.YtbdhilflnfllaaaDoorSWSpec
namespace Go.Vi
theorem tmod_emod {a b : Int} (ha : 0 ≤ a) : Int.tmod a b = a % b := Int.tmod_eq_emod_of_nonneg ha
theorem tmod_emod_self (n m : Int) : Int.tmod n m % m = n % m := by
  rw [Int.tmod_def, Int.sub_mul_emod_self_left]
theorem tmod_bd {n m : Int} (hm : 1 ≤ m) : -m < Int.tmod n m ∧ Int.tmod n m < m := by
  rcases Int.le_total 0 n with h | h
  · rw [tmod_emod h]
    have := Int.emod_nonneg n (b := m) (by omega)
    have := Int.emod_lt_of_pos n (b := m) (by omega)
    omega
  · have e : Int.tmod n m = - Int.tmod (-n) m := by rw [Int.neg_tmod, Int.neg_neg]
    rw [e, tmod_emod (by omega)]
    have := Int.emod_nonneg (-n) (b := m) (by omega)
    have := Int.emod_lt_of_pos (-n) (b := m) (by omega)
    omega
theorem emod_bd (n : Int) {m : Int} (hm : 1 ≤ m) : 0 ≤ n % m ∧ n % m ≤ m - 1 := by
  have := Int.emod_nonneg n (b := m) (by omega)
  have := Int.emod_lt_of_pos n (b := m) (by omega)
  omega
theorem vc_spec_l1Mod (n m : Int) (h : 1 ≤ m ∧ m ≤ 1000 ∧ -1000000 ≤ n ∧ n ≤ 1000000) : VC_spec_l1Mod n m (retP (.int .i64 (n % m))) := by
  unfold VC_spec_l1Mod
  have hb := tmod_bd (n := n) h.1
  refine ⟨⟨by omega⟩, ⟨by omega⟩, ?_⟩
  rw [retP_int, wrap64_in (by omega), tmod_emod (by omega), Int.add_emod_right, tmod_emod_self]
theorem vc_spec_woTurn (b : Int) (_ : True) : VC_spec_woTurn b (retP (.int .i64 (turnI b))) := by
  unfold VC_spec_woTurn turnI
  refine ⟨fun h => ?_, fun h => ⟨fun h1 => ?_, fun h1 => ⟨fun h2 => ?_, fun h2 => ?_⟩⟩⟩ <;> simp only [*, cond_true, cond_false, retP_int]
theorem vc_impl_quarters (b : Int) (_ : True) : VC_impl_quarters b (retP (.int .i64 (turnI b))) := by
  unfold VC_impl_quarters turnI
  refine ⟨fun h => ?_, fun h => ⟨fun h1 => ?_, fun h1 => ⟨fun h2 => ?_, fun h2 => ?_⟩⟩⟩ <;> simp only [*, cond_true, cond_false, retP_int]
theorem vc_impl_direction (d : Int) (_ : True) : VC_impl_direction d (retP (.tup [.int .i64 (dirX d), .int .i64 (dirY d)])) := by
  unfold VC_impl_direction dirX dirY
  refine ⟨fun h => ?_, fun h => ⟨fun h1 => ?_, fun h1 => ⟨fun h2 => ?_, fun h2 => ?_⟩⟩⟩ <;> (simp only [*, cond_true, cond_false]; simp [retP, leV, leL, chkB, V.under, underL])
theorem good_has {w : Wd} (h : goodB w = true) : hasB w w.x w.y = true := by
  obtain ⟨_, _, h3, h4, _⟩ := good_bd h
  unfold hasB
  rw [inB_eq.2 h3, inB_eq.2 h4]; rfl
theorem good_box {w : Wd} (h : goodB w = true) : boxB w = true := by
  obtain ⟨h1, h2, h3, h4, _⟩ := good_bd h
  unfold boxB
  rw [inB_eq.2 h1, inB_eq.2 h2, inB_eq.2 h3, inB_eq.2 h4]; rfl
theorem colAt_bd {w : Wd} (h : goodB w = true) {x y : Int} (hc : hasB w x y = true) : 0 ≤ colAt w x y ∧ colAt w x y < (w.r.length : Int) ∧ colAt w x y ≤ 5 ∧ (1 : Int) ≤ w.r.length ∧ (w.r.length : Int) ≤ 6 := by
  have h1 := cell_bd h hc
  have h2 := col_bd h (i := cellIx w x y) (by unfold cellIx; omega)
  have h3 := good_bd h
  unfold colAt
  omega
theorem vc_impl_board_sign (wr : List UInt8) (ww wh : Int) (wc : List UInt8) (wx wy wd : Int) (h : goodB ⟨wr, ww, wh, wc, wx, wy, wd⟩ = true) : VC_impl_board_sign wr ww wh wc wx wy wd
    (retP (.int .u8 (signAt ⟨wr, ww, wh, wc, wx, wy, wd⟩ (colAt ⟨wr, ww, wh, wc, wx, wy, wd⟩ wx wy)))) := by
  unfold VC_impl_board_sign
  have hh := good_has h
  have hc := colAt_bd h hh
  simp only at hh hc
  refine ⟨trivial, ⟨h, hh⟩, ⟨hc.1, hc.2.1⟩, ?_⟩
  rw [retP_int]; rfl
theorem paint_facts2 {w : Wd} {x y : Int} (hg : goodB w = true) (hh : hasB w x y = true) :
    IntKind.wrap .i64 (y * w.w) = y * w.w ∧ IntKind.wrap .i64 (y * w.w + x) = y * w.w + x ∧ IntKind.wrap .i64 (y * w.w + x + 1) = y * w.w + x + 1 ∧ 0 ≤ y * w.w + x ∧ y * w.w + x + 1 ≤ (w.c.length : Int) ∧ w.c.length ≤ 81 ∧ (y * w.w + x + 1).toNat = (y * w.w + x).toNat + 1 := by
  have hc := cell_bd hg hh
  have hb := good_nine hg
  refine ⟨wrap64_in (by omega), wrap64_in (by omega), wrap64_in (by omega), by omega, by omega, by omega, by omega⟩
theorem vc_impl_board_painted (wr : List UInt8) (ww wh : Int) (wc : List UInt8) (wx wy wd x y k : Int) (h : goodB ⟨wr, ww, wh, wc, wx, wy, wd⟩ = true ∧ hasB ⟨wr, ww, wh, wc, wx, wy, wd⟩ x y = true ∧ 0 ≤ k ∧ k ≤ 9) : VC_impl_board_painted wr ww wh wc wx wy wd x y k
    (retP (wdV (pntW ⟨wr, ww, wh, wc, wx, wy, wd⟩ x y k))) := by
  obtain ⟨hg, hh, hk⟩ := h
  obtain ⟨e1, e2, e3, f1, f2, f5, f6⟩ := paint_facts2 hg hh
  simp only at e1 e2 e3 f1 f2 f5 f6
  unfold VC_impl_board_painted
  rw [e1, e2, e3, f6]
  simp only [at_iff, List.length_append, num1_len, List.length_take, List.length_drop, true_and]
  refine ⟨⟨by omega, by omega⟩, ⟨by omega, by omega⟩, by omega, ⟨by omega, by omega⟩, by omega, ?_⟩
  simp [wdV, pntW, paintC, cellIx, retP, leV, leL, chkB, V.under, underL]
theorem vc_impl_board_turned (wr : List UInt8) (ww wh : Int) (wc : List UInt8) (wx wy wd q : Int) (h : 0 ≤ wd ∧ wd ≤ 3 ∧ 0 ≤ q ∧ q ≤ 4) : VC_impl_board_turned wr ww wh wc wx wy wd q
    (retP (wdV (trnW ⟨wr, ww, wh, wc, wx, wy, wd⟩ q))) := by
  unfold VC_impl_board_turned
  rw [wrap64_in (by omega), tmod_emod (by omega)]
  simp [wdV, trnW, retP, leV, leL, chkB, V.under, underL, at_iff]
theorem box_bd {w : Wd} (h : boxB w = true) : (1 ≤ w.w ∧ w.w ≤ 9) ∧ (1 ≤ w.h ∧ w.h ≤ 9) ∧ (0 ≤ w.x ∧ w.x ≤ w.w - 1) ∧ (0 ≤ w.y ∧ w.y ≤ w.h - 1) := by
  unfold boxB at h
  simp only [Bool.and_eq_true, inB_eq] at h
  omega
theorem dir_bd (d : Int) : (-1 ≤ dirX d ∧ dirX d ≤ 1) ∧ (-1 ≤ dirY d ∧ dirY d ≤ 1) := by
  unfold dirX dirY
  cases d == 0 <;> cases d == 1 <;> cases d == 2 <;> simp
theorem kdir {k e : Int} (hk : k = 1 ∨ k = -1) (he : -1 ≤ e ∧ e ≤ 1) : -1 ≤ k * e ∧ k * e ≤ 1 := by
  rcases hk with rfl | rfl <;> omega
theorem go_one {x m t : Int} (h : 0 ≤ x ∧ x ≤ m - 1) (ht : -1 ≤ t ∧ t ≤ 1) (hm : 1 ≤ m ∧ m ≤ 9) : Int.tmod (IntKind.wrap .i64 (IntKind.wrap .i64 (x + IntKind.wrap .i64 t) + m)) m = (x + t) % m := by
  rw [wrap64_in (x := t) (by omega), wrap64_in (x := x + t) (by omega), wrap64_in (by omega), tmod_emod (by omega), Int.add_emod_right]
theorem vc_impl_board_moved (wr : List UInt8) (ww wh : Int) (wc : List UInt8) (wx wy wd k : Int) (h : boxB ⟨wr, ww, wh, wc, wx, wy, wd⟩ = true ∧ (k = 1 ∨ k = -1)) : VC_impl_board_moved wr ww wh wc wx wy wd k
    (retP (wdV (movW ⟨wr, ww, wh, wc, wx, wy, wd⟩ k))) := by
  obtain ⟨h, hk⟩ := h
  obtain ⟨h1, h2, h3, h4⟩ := box_bd h
  simp only at h1 h2 h3 h4
  obtain ⟨d1, d2⟩ := dir_bd wd
  unfold VC_impl_board_moved
  rw [go_one h3 (kdir hk d1) h1, go_one h4 (kdir hk d2) h2]
  refine ⟨⟨trivial⟩, ⟨by omega⟩, ⟨by omega⟩, ?_⟩
  simp [wdV, movW, retP, leV, leL, chkB, V.under, underL]
theorem retG_one {us vs : List V} {e : TypeId} (h : leL (selL (fun n => findSel n [some 0] 0) us) vs) (hu : underL 1 vs = true) (hn : nilToL (isGhost [some 0]) (selL (fun n => findSel n [some 0] 0) us) vs = selL (fun n => findSel n [some 0] 0) us) : retG 1 (.tup []) [⟨.vals vs, e, .box⟩] (.tup []) [⟨.vals us, e, .box⟩] := by
  unfold retG leSel leSelBy autoSel
  simp [pairsL, pairsV, idPairs, pairsIn, selOf, lookN, selMem, chkB, nodupSel, hasSel, prefSel, leSt, leL, leV, nilToL, V.nilTo, selL, V.sel, Cells.selN, leMem, leCells, memUnder, underL, V.under, hu, hn, h]
theorem retG_wd {u w : Wd} {e : TypeId} (h : u = w) : retG 1 (.tup []) [⟨.vals (wdL w), e, .box⟩] (.tup []) [⟨.vals (wdL u), e, .box⟩] := by
  subst h
  exact retG_one (by simp [wdL, selL, V.sel, leL, leV, chkB]) rfl rfl
theorem vc_spec_woPaint (x y k : Int) (wr : List UInt8) (ww wh : Int) (wc : List UInt8) (wx wy wd : Int) (e : TypeId) (h : goodB ⟨wr, ww, wh, wc, wx, wy, wd⟩ = true ∧ hasB ⟨wr, ww, wh, wc, wx, wy, wd⟩ x y = true ∧ 0 ≤ k ∧ k ≤ 9) : VC_spec_woPaint x y k wr ww wh wc wx wy wd e
    (retG 1 (.tup []) [⟨.vals (wdL (pntW ⟨wr, ww, wh, wc, wx, wy, wd⟩ x y k)), e, .box⟩]) := by
  obtain ⟨hg, hh, hk⟩ := h
  obtain ⟨e1, e2, e3, f1, f2, f5, f6⟩ := paint_facts2 hg hh
  simp only at e1 e2 e3 f1 f2 f5 f6
  unfold VC_spec_woPaint
  rw [e1, e2, e3, f6]
  simp only [at_iff, List.length_append, num1_len, List.length_take, List.length_drop, true_and]
  refine ⟨⟨by omega, by omega⟩, ⟨by omega, by omega⟩, by omega, ⟨by omega, by omega⟩, by omega, ?_⟩
  exact retG_wd (u := ⟨wr, ww, wh, wc.take (y * ww + x).toNat ++ num1 k ++ wc.drop ((y * ww + x).toNat + 1), wx, wy, wd⟩) rfl
theorem vc_spec_woGo (k : Int) (wr : List UInt8) (ww wh : Int) (wc : List UInt8) (wx wy wd : Int) (e : TypeId) (h : boxB ⟨wr, ww, wh, wc, wx, wy, wd⟩ = true ∧ (k = 1 ∨ k = -1)) : VC_spec_woGo k wr ww wh wc wx wy wd e
    (retG 1 (.tup []) [⟨.vals (wdL (movW ⟨wr, ww, wh, wc, wx, wy, wd⟩ k)), e, .box⟩]) := by
  obtain ⟨h, hk⟩ := h
  obtain ⟨h1, h2, h3, h4⟩ := box_bd h
  simp only at h1 h2 h3 h4
  have hkb : -1 ≤ k ∧ k ≤ 1 := by omega
  have ex : wx % ww = wx := Int.emod_eq_of_lt h3.1 (by omega)
  have ey : wy % wh = wy := Int.emod_eq_of_lt h4.1 (by omega)
  unfold VC_spec_woGo
  rw [wrap64_in (x := wy - k) (by omega), wrap64_in (x := wx + k) (by omega), wrap64_in (x := wy + k) (by omega), wrap64_in (x := wx - k) (by omega)]
  refine ⟨fun c0 => ⟨trivial, ⟨by omega⟩, ?_⟩, fun c0 => ⟨fun c1 => ⟨trivial, ⟨by omega⟩, ?_⟩, fun c1 => ⟨fun c2 => ⟨trivial, ⟨by omega⟩, ?_⟩, fun c2 => ⟨trivial, ⟨by omega⟩, ?_⟩⟩⟩⟩
  · refine retG_wd (u := ⟨wr, ww, wh, wc, wx, (wy - k) % wh, wd⟩) ?_
    simp [movW, dirX, dirY, c0, ex, Int.sub_eq_add_neg]
  · refine retG_wd (u := ⟨wr, ww, wh, wc, (wx + k) % ww, wy, wd⟩) ?_
    simp [movW, dirX, dirY, c0, c1, ey]
  · refine retG_wd (u := ⟨wr, ww, wh, wc, wx, (wy + k) % wh, wd⟩) ?_
    simp [movW, dirX, dirY, c0, c1, c2, ex]
  · refine retG_wd (u := ⟨wr, ww, wh, wc, (wx - k) % ww, wy, wd⟩) ?_
    simp [movW, dirX, dirY, c0, c1, c2, ey, Int.sub_eq_add_neg]
theorem retP_wd {u w : Wd} (h : u = w) : retP (wdV w) (wdV u) := by
  subst h
  simp [wdV, retP, leV, leL, chkB, V.under, underL]
theorem retP_okb {u w : Wd} {b ok : Bool} (h : b = ok) (hu : u = bif ok then w else zeroWd) : retP (okV ok w) (.tup [wdV u, .bool b]) := by
  subst h; subst hu
  simp [okV, wdV, retP, leV, leL, chkB, V.under, underL]
theorem retP_okl {u w : Wd} {b ok : Bool} (h : b = ok) (hu : u = bif ok then w else zeroWd) : retP (okV ok w) (.tup [wdV u, .lit b]) := by
  subst h; subst hu
  simp [okV, wdV, retP, leV, leL, chkB, V.under, underL]
theorem good_iff {w : Wd} : goodB w = true ↔ (ruleB w.r = true ∧ inB w.w 1 9 = true ∧ inB w.h 1 9 = true ∧ (w.c.length : Int) = w.w * w.h ∧ colsB w.c w.r.length = true ∧ inB w.x 0 (w.w - 1) = true ∧ inB w.y 0 (w.h - 1) = true ∧ inB w.d 0 3 = true) := by
  unfold goodB
  simp only [Bool.and_eq_true, beq_iff_eq, and_assoc]
theorem turn_bd (b : Int) : 0 ≤ turnI b ∧ turnI b ≤ 3 := by
  unfold turnI
  cases b == 82 <;> cases b == 85 <;> cases b == 76 <;> simp
theorem good_trn {w : Wd} (h : goodB w = true) (q : Int) : goodB (trnW w q) = true := by
  rw [good_iff] at h ⊢
  obtain ⟨h1, h2, h3, h4, h5, h6, h7, _⟩ := h
  have := emod_bd (w.d + q) (m := 4) (by omega)
  exact ⟨h1, h2, h3, h4, h5, h6, h7, inB_eq.2 (by simp only [trnW]; omega)⟩
theorem good_mov {w : Wd} (h : goodB w = true) (k : Int) : goodB (movW w k) = true := by
  have hb := good_bd h
  rw [good_iff] at h ⊢
  obtain ⟨h1, h2, h3, h4, h5, _, _, h8⟩ := h
  exact ⟨h1, h2, h3, h4, h5, inB_eq.2 (emod_bd _ hb.1.1), inB_eq.2 (emod_bd _ hb.2.1.1), h8⟩
theorem colsB_pnt {c : List UInt8} {n k : Int} {i : Nat} (h : colsB c n = true) (hk : 0 ≤ k ∧ k ≤ n - 1) (h9 : k ≤ 9) : colsB (c.take i ++ num1 k ++ c.drop (i + 1)) n = true := by
  unfold colsB at h ⊢
  rw [List.all_eq_true] at h
  simp only [List.all_append, Bool.and_eq_true, List.all_eq_true]
  refine ⟨⟨fun d hd => h d (List.mem_of_mem_take hd), fun d hd => ?_⟩, fun d hd => h d (List.mem_of_mem_drop hd)⟩
  simp only [num1, List.mem_singleton] at hd
  subst hd
  rw [inB_eq, UInt8.toNat_ofNat']
  omega
theorem pnt_len {w : Wd} (hg : goodB w = true) {x y : Int} (hh : hasB w x y = true) (k : Int) : (paintC w x y k).length = w.c.length := by
  have := cell_bd hg hh
  simp only [paintC, List.length_append, List.length_take, List.length_drop, num1_len, cellIx]
  omega
theorem good_pnt {w : Wd} (hg : goodB w = true) {x y k : Int} (hh : hasB w x y = true) (hk : 0 ≤ k ∧ k ≤ (w.r.length : Int) - 1) : goodB (pntW w x y k) = true := by
  have hb := good_bd hg
  have hl := pnt_len hg hh k
  have hg' := good_iff.1 hg
  rw [good_iff]
  obtain ⟨h1, h2, h3, h4, h5, h6, h7, h8⟩ := hg'
  exact ⟨h1, h2, h3, by simp only [pntW, hl]; exact h4, colsB_pnt h5 hk (by omega), h6, h7, h8⟩
theorem colAt_pnt {w : Wd} (hg : goodB w = true) {x y k : Int} (hh : hasB w x y = true) (hk : 0 ≤ k ∧ k ≤ 9) : colAt (pntW w x y k) x y = k := by
  have hc := cell_bd hg hh
  have e : (pntW w x y k).c.getD (cellIx (pntW w x y k) x y) 0 = UInt8.ofNat (48 + k).toNat := by
    have hi : (w.c.take (cellIx w x y)).length = cellIx w x y := by simp only [List.length_take, cellIx]; omega
    simp only [pntW, paintC, cellIx] at hi ⊢
    rw [List.getD_eq_getElem?_getD, List.append_assoc, List.getElem?_append_right (by omega), hi, Nat.sub_self]
    rfl
  unfold colAt
  rw [e, UInt8.toNat_ofNat']
  omega
theorem good_step {w : Wd} (h : goodB w = true) : goodB (stepW w) = true := by
  have hc := colAt_bd h (good_has h)
  have hb := emod_bd (colAt w w.x w.y + 1) (m := w.r.length) (by omega)
  exact good_mov (good_pnt (good_trn h _) (good_has (good_trn h _)) hb) _
theorem bkC_bd {w : Wd} (h : goodB w = true) : 0 ≤ bkC w ∧ bkC w ≤ (w.r.length : Int) - 1 := by
  have hc := colAt_bd h (good_has h)
  exact emod_bd _ (by omega)
theorem good_back {w : Wd} (h : goodB w = true) : goodB (backW w) = true := by
  have hg := good_mov h (-1)
  have hk := bkC_bd h
  exact good_trn (good_pnt (k := bkC w) hg (good_has hg) hk) _
theorem wrap_next {c l : Int} (hc : 0 ≤ c ∧ c ≤ 5) : Int.tmod (IntKind.wrap .i64 (c + 1)) l = (c + 1) % l := by
  rw [wrap64_in (by omega), tmod_emod (by omega)]
theorem vc_impl_board_forth (wr : List UInt8) (ww wh : Int) (wc : List UInt8) (wx wy wd : Int) (h : goodB ⟨wr, ww, wh, wc, wx, wy, wd⟩ = true) : VC_impl_board_forth wr ww wh wc wx wy wd (retP (wdV (stepW ⟨wr, ww, wh, wc, wx, wy, wd⟩))) := by
  unfold VC_impl_board_forth
  have hh := good_has h
  have hc := colAt_bd h hh
  have hb := good_bd h
  simp only at hh hc hb
  have hT := turn_bd (signAt ⟨wr, ww, wh, wc, wx, wy, wd⟩ (colAt ⟨wr, ww, wh, wc, wx, wy, wd⟩ wx wy))
  rw [wrap_next (by omega)]
  have hn := emod_bd (colAt ⟨wr, ww, wh, wc, wx, wy, wd⟩ wx wy + 1) (m := wr.length) (by omega)
  have ht := good_trn h (turnI (signAt ⟨wr, ww, wh, wc, wx, wy, wd⟩ (colAt ⟨wr, ww, wh, wc, wx, wy, wd⟩ wx wy)))
  have hth := good_has ht
  refine ⟨⟨h, hh⟩, ⟨by omega⟩, trivial, ⟨h⟩, ⟨trivial⟩, ⟨by omega⟩, ⟨ht, hth, by omega⟩, ⟨good_box (good_pnt ht hth hn), .inl rfl⟩, ?_⟩
  exact retP_wd rfl
theorem vc_spec_woStep (wr : List UInt8) (ww wh : Int) (wc : List UInt8) (wx wy wd : Int) (h : goodB ⟨wr, ww, wh, wc, wx, wy, wd⟩ = true) : VC_spec_woStep wr ww wh wc wx wy wd (retP (wdV (stepW ⟨wr, ww, wh, wc, wx, wy, wd⟩))) := by
  unfold VC_spec_woStep
  have hh := good_has h
  have hc := colAt_bd h hh
  have hb := good_bd h
  simp only at hh hc hb
  have hT := turn_bd (signAt ⟨wr, ww, wh, wc, wx, wy, wd⟩ (colAt ⟨wr, ww, wh, wc, wx, wy, wd⟩ wx wy))
  have eT : Int.tmod (IntKind.wrap .i64 (wd + turnI ((wr.getD (colAt ⟨wr, ww, wh, wc, wx, wy, wd⟩ wx wy).toNat 0).toNat : Int))) 4 = (wd + turnI (signAt ⟨wr, ww, wh, wc, wx, wy, wd⟩ (colAt ⟨wr, ww, wh, wc, wx, wy, wd⟩ wx wy))) % 4 := by
    unfold signAt at hT ⊢
    simp only at hT ⊢
    rw [wrap64_in (by omega), tmod_emod (by omega)]
  rw [wrap_next (by omega), eT]
  have hn := emod_bd (colAt ⟨wr, ww, wh, wc, wx, wy, wd⟩ wx wy + 1) (m := wr.length) (by omega)
  have ht := good_trn h (turnI (signAt ⟨wr, ww, wh, wc, wx, wy, wd⟩ (colAt ⟨wr, ww, wh, wc, wx, wy, wd⟩ wx wy)))
  have hth := good_has ht
  refine ⟨⟨h, hh⟩, trivial, ⟨by omega⟩, ⟨trivial⟩, ⟨by omega⟩, trivial, ⟨by omega⟩, ⟨ht, hth, by omega⟩, ⟨good_box (good_pnt ht hth hn), .inl rfl⟩, ?_⟩
  exact retP_wd rfl
theorem iterW_out (f : Wd → Wd) : ∀ (n : Nat) (w : Wd), iterW f (n + 1) w = f (iterW f n w)
  | 0, _ => rfl
  | n + 1, w => iterW_out f n (f w)
theorem iterW_add (f : Wd → Wd) : ∀ (a b : Nat) (w : Wd), iterW f (a + b) w = iterW f b (iterW f a w)
  | 0, b, w => by rw [Nat.zero_add]; rfl
  | a + 1, b, w => by rw [Nat.add_right_comm]; exact iterW_add f a b (f w)
theorem iterW_turns (f : Wd → Wd) {m : Nat} {w : Wd} (h : iterW f m w = w) : ∀ q : Nat, iterW f (m * q) w = w
  | 0 => rfl
  | q + 1 => by rw [Nat.mul_add, Nat.mul_one, iterW_add, iterW_turns f h q, h]
theorem iterW_mod (f : Wd → Wd) {m : Nat} {w : Wd} (h : iterW f m w = w) (n : Nat) : iterW f (n % m) w = iterW f n w := by
  conv => rhs; rw [← Nat.div_add_mod n m, iterW_add, iterW_turns f h]
end Go.Vi
