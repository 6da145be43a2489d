/- Worms: the conditions of steps hold. -/
import Derived.Test.YtioppaofihbmpabDoorWBVc
import Derived.Test.YtioppaofihbmpabDoorWBSpec
namespace Go.Vi
set_option linter.unusedSimpArgs false
theorem tmod_emod {a b : Int} (ha : 0 ≤ a) : Int.tmod a b = a % b := Int.tmod_eq_emod_of_nonneg ha
theorem tmod_emod_self (n m : Int) : Int.tmod n m % m = n % m := by
  rw [Int.tmod_def, Int.sub_mul_emod_self_left]
theorem tmod_bd {n m : Int} (hm : 1 ≤ m) : -m < Int.tmod n m ∧ Int.tmod n m < m := by
  rcases Int.le_total 0 n with h | h
  · rw [tmod_emod h]
    have := Int.emod_nonneg n (b := m) (by omega)
    have := Int.emod_lt_of_pos n (b := m) (by omega)
    omega
  · have e : Int.tmod n m = - Int.tmod (-n) m := by rw [Int.neg_tmod, Int.neg_neg]
    rw [e, tmod_emod (by omega)]
    have := Int.emod_nonneg (-n) (b := m) (by omega)
    have := Int.emod_lt_of_pos (-n) (b := m) (by omega)
    omega
theorem emod_bd (n : Int) {m : Int} (hm : 1 ≤ m) : 0 ≤ n % m ∧ n % m ≤ m - 1 := by
  have := Int.emod_nonneg n (b := m) (by omega)
  have := Int.emod_lt_of_pos n (b := m) (by omega)
  omega
theorem vc_spec_l1Mod (n m : Int) (h : 1 ≤ m ∧ m ≤ 1000 ∧ -1000000 ≤ n ∧ n ≤ 1000000) : VC_spec_l1Mod n m (retP (.int .i64 (n % m))) := by
  unfold VC_spec_l1Mod
  have hb := tmod_bd (n := n) h.1
  refine ⟨⟨by omega⟩, ⟨by omega⟩, ?_⟩
  rw [retP_int, wrap64_in (by omega), tmod_emod (by omega), Int.add_emod_right, tmod_emod_self]
theorem vc_spec_woTurn (b : Int) (_ : True) : VC_spec_woTurn b (retP (.int .i64 (turnI b))) := by
  unfold VC_spec_woTurn turnI
  refine ⟨fun h => ?_, fun h => ⟨fun h1 => ?_, fun h1 => ⟨fun h2 => ?_, fun h2 => ?_⟩⟩⟩ <;> simp only [*, cond_true, cond_false, retP_int]
theorem vc_impl_quarters (b : Int) (_ : True) : VC_impl_quarters b (retP (.int .i64 (turnI b))) := by
  unfold VC_impl_quarters turnI
  refine ⟨fun h => ?_, fun h => ⟨fun h1 => ?_, fun h1 => ⟨fun h2 => ?_, fun h2 => ?_⟩⟩⟩ <;> simp only [*, cond_true, cond_false, retP_int]
theorem vc_impl_direction (d : Int) (_ : True) : VC_impl_direction d (retP (.tup [.int .i64 (dirX d), .int .i64 (dirY d)])) := by
  unfold VC_impl_direction dirX dirY
  refine ⟨fun h => ?_, fun h => ⟨fun h1 => ?_, fun h1 => ⟨fun h2 => ?_, fun h2 => ?_⟩⟩⟩ <;> (simp only [*, cond_true, cond_false]; simp [retP, leV, leL, chkB, V.under, underL])
theorem retP_bd {u m : Cr} (h : u = m) : retP (bdV m) (bdV u) := by
  subst h
  simp [bdV, retP, leV, leL, chkB, V.under, underL]
theorem retP_cr {u m : Cr} (h : u = m) : retP (crV m) (crV u) := by
  subst h
  simp [crV, crL, retP, leV, leL, chkB, V.under, underL]
theorem vc_impl_board_turned (br : List UInt8) (bw bh : Int) (bc : List UInt8) (bx by_ bd q : Int) (h : 0 ≤ bd ∧ bd ≤ 3 ∧ 0 ≤ q ∧ q ≤ 4) : VC_impl_board_turned br bw bh bc bx by_ bd q (retP (bdV (trnC ⟨br, bw, bh, bc, bx, by_, bd, []⟩ q))) := by
  unfold VC_impl_board_turned
  rw [wrap64_in (by omega), tmod_emod (by omega)]
  refine ⟨⟨by omega⟩, ?_⟩
  exact retP_bd (u := ⟨br, bw, bh, bc, bx, by_, (bd + q) % 4, []⟩) rfl
theorem box_iff {c : Cr} : boxC c = true ↔ (3 ≤ c.w ∧ c.w ≤ 6) ∧ (3 ≤ c.h ∧ c.h ≤ 6) ∧ (0 ≤ c.x ∧ c.x ≤ c.w - 1) ∧ (0 ≤ c.y ∧ c.y ≤ c.h - 1) := by
  unfold boxC
  simp only [Bool.and_eq_true, inB_eq, and_assoc]
theorem crB_iff {c : Cr} : crB c = true ↔ boxC c = true ∧ (0 ≤ c.d ∧ c.d ≤ 3) ∧ (c.l.length : Int) = 2 * (c.w * c.h) := by
  unfold crB
  simp only [Bool.and_eq_true, inB_eq, beq_iff_eq, and_assoc]
theorem dir_bd (d : Int) : (-1 ≤ dirX d ∧ dirX d ≤ 1) ∧ (-1 ≤ dirY d ∧ dirY d ≤ 1) := by
  unfold dirX dirY
  cases d == 0 <;> cases d == 1 <;> cases d == 2 <;> simp
theorem go_one {x m t : Int} (h : 0 ≤ x ∧ x ≤ m - 1) (ht : -1 ≤ t ∧ t ≤ 1) (hm : 3 ≤ m ∧ m ≤ 6) : Int.tmod (IntKind.wrap .i64 (IntKind.wrap .i64 (x + IntKind.wrap .i64 t) + m)) m = (x + t) % m := by
  rw [wrap64_in (x := t) (by omega), wrap64_in (x := x + t) (by omega), wrap64_in (by omega), tmod_emod (by omega), Int.add_emod_right]
theorem vc_impl_board_moved (br : List UInt8) (bw bh : Int) (bc : List UInt8) (bx by_ bd k : Int) (h : boxC ⟨br, bw, bh, bc, bx, by_, bd, []⟩ = true ∧ k = 1) : VC_impl_board_moved br bw bh bc bx by_ bd k (retP (bdV (movC ⟨br, bw, bh, bc, bx, by_, bd, []⟩))) := by
  obtain ⟨h, rfl⟩ := h
  obtain ⟨h1, h2, h3, h4⟩ := box_iff.1 h
  simp only at h1 h2 h3 h4
  obtain ⟨d1, d2⟩ := dir_bd bd
  unfold VC_impl_board_moved
  rw [Int.one_mul, Int.one_mul, go_one h3 d1 h1, go_one h4 d2 h2]
  refine ⟨⟨trivial⟩, ⟨by omega⟩, ⟨by omega⟩, ?_⟩
  exact retP_bd (u := ⟨br, bw, bh, bc, (bx + dirX bd) % bw, (by_ + dirY bd) % bh, bd, []⟩) rfl
theorem cell_ix {w h u x : Int} (hw : 1 ≤ w) (hx : 0 ≤ x ∧ x ≤ w - 1) (hu : 0 ≤ u ∧ u ≤ h - 1) : 0 ≤ u * w + x ∧ u * w + x < w * h ∧ 0 ≤ u * w := by
  have h1 : u * w ≤ (h - 1) * w := Int.mul_le_mul_of_nonneg_right hu.2 (by omega)
  have h2 : 0 ≤ u * w := Int.mul_nonneg hu.1 (by omega)
  rw [Int.sub_mul, Int.one_mul, Int.mul_comm h w] at h1
  omega
theorem vc_impl_crawler_nodes (cr : List UInt8) (cw ch : Int) (cc : List UInt8) (cx cy cd : Int) (cl : List UInt8) (h : boxC ⟨cr, cw, ch, cc, cx, cy, cd, cl⟩ = true) : VC_impl_crawler_nodes cr cw ch cc cx cy cd cl (retP (.int .i64 (cw * ch))) := by
  obtain ⟨h1, h2, h3, h4⟩ := box_iff.1 h
  simp only at h1 h2
  have hm := mul_bd6 h1 h2
  unfold VC_impl_crawler_nodes
  rw [retP_int, wrap64_in (by omega)]
theorem vc_impl_crawler_node (cr : List UInt8) (cw ch : Int) (cc : List UInt8) (cx cy cd : Int) (cl : List UInt8) (h : boxC ⟨cr, cw, ch, cc, cx, cy, cd, cl⟩ = true) : VC_impl_crawler_node cr cw ch cc cx cy cd cl (retP (.int .i64 (cy * cw + cx))) := by
  obtain ⟨h1, h2, h3, h4⟩ := box_iff.1 h
  simp only at h1 h2 h3 h4
  have hm := mul_bd6 h1 h2
  have hc := cell_ix (by omega) h3 h4
  unfold VC_impl_crawler_node
  rw [retP_int, wrap64_in (x := cy * cw) (by omega), wrap64_in (by omega)]
theorem tdiv_ediv {a b : Int} (ha : 0 ≤ a) : Int.tdiv a b = a / b := Int.tdiv_eq_ediv_of_nonneg ha
theorem ediv_bd {k w : Int} (hk : 0 ≤ k ∧ k ≤ 1000) (hw : 1 ≤ w) : 0 ≤ k / w ∧ k / w ≤ 1000 := by
  have h1 : 0 ≤ k / w := Int.ediv_nonneg hk.1 (by omega)
  have h2 : k / w ≤ k := Int.ediv_le_self w hk.1
  omega
theorem vc_impl_crawler_seenFrom (cr : List UInt8) (cw ch : Int) (cc : List UInt8) (cx cy cd : Int) (cl : List UInt8) (k q : Int) (h : inB cw 3 6 = true ∧ 0 ≤ k ∧ k ≤ 1000) : VC_impl_crawler_seenFrom cr cw ch cc cx cy cd cl k q (retP (crV (seeC ⟨cr, cw, ch, cc, cx, cy, cd, cl⟩ k q))) := by
  obtain ⟨hw, hk⟩ := h
  have hw := inB_eq.1 hw
  have hd := ediv_bd (w := cw) hk (by omega)
  unfold VC_impl_crawler_seenFrom
  rw [tdiv_ediv hk.1, tmod_emod hk.1, wrap64_in (x := k / cw) (by omega)]
  have hr : retP (crV (seeC ⟨cr, cw, ch, cc, cx, cy, cd, cl⟩ k q)) (.agg [.str cr, .int .i64 cw, .int .i64 ch, .str cc, .int .i64 (k % cw), .int .i64 (k / cw), .int .i64 q, .str cl]) := retP_cr (u := ⟨cr, cw, ch, cc, k % cw, k / cw, q, cl⟩) rfl
  have h0 : cw ≠ 0 := by omega
  simp only [at_iff, hr, h0, ne_eq, not_false_eq_true, and_self]
theorem vc_impl_crawler_heading (cr : List UInt8) (cw ch : Int) (cc : List UInt8) (cx cy cd : Int) (cl : List UInt8) (q : Int) (h : 0 ≤ cd ∧ cd ≤ 3 ∧ 0 ≤ q ∧ q ≤ 4) : VC_impl_crawler_heading cr cw ch cc cx cy cd cl q (retP (crV (trnC ⟨cr, cw, ch, cc, cx, cy, cd, cl⟩ q))) := by
  unfold VC_impl_crawler_heading
  exact ⟨⟨h⟩, retP_cr (u := trnC ⟨cr, cw, ch, cc, cx, cy, cd, cl⟩ q) rfl⟩
theorem vc_impl_crawler_crawled (cr : List UInt8) (cw ch : Int) (cc : List UInt8) (cx cy cd : Int) (cl : List UInt8) (h : boxC ⟨cr, cw, ch, cc, cx, cy, cd, cl⟩ = true) : VC_impl_crawler_crawled cr cw ch cc cx cy cd cl (retP (crV (movC ⟨cr, cw, ch, cc, cx, cy, cd, cl⟩))) := by
  unfold VC_impl_crawler_crawled
  exact ⟨⟨h, rfl⟩, retP_cr (u := movC ⟨cr, cw, ch, cc, cx, cy, cd, cl⟩) rfl⟩
theorem mov_box {c : Cr} (h : boxC c = true) : boxC (movC c) = true := by
  obtain ⟨h1, h2, h3, h4⟩ := box_iff.1 h
  refine box_iff.2 ⟨h1, h2, emod_bd _ (by omega), emod_bd _ (by omega)⟩
theorem trn_box {c : Cr} (h : boxC c = true) (q : Int) : boxC (trnC c q) = true := by
  refine box_iff.2 (box_iff.1 h)
theorem four_cases {d : Int} (h : 0 ≤ d ∧ d ≤ 3) : d = 0 ∨ d = 1 ∨ d = 2 ∨ d = 3 := by omega
theorem at_bd {w h x y q : Int} (hw : 3 ≤ w ∧ w ≤ 6) (hh : 3 ≤ h ∧ h ≤ 6) (hx : 0 ≤ x ∧ x ≤ w - 1) (hy : 0 ≤ y ∧ y ≤ h - 1) : 0 ≤ atI w h x y q ∧ atI w h x y q < w * h := by
  have c1 := cell_ix (h := h) (by omega) hx hy
  have c2 := cell_ix (h := h) (u := (y - 1) % h) (by omega) hx (emod_bd _ (by omega))
  have c3 := cell_ix (h := h) (u := y) (x := (x - 1) % w) (w := w) (by omega) (emod_bd _ (by omega)) hy
  unfold atI
  cases q == 0 <;> cases q == 1 <;> cases q == 2 <;> simp only [cond_true, cond_false] <;> omega
theorem ln_bd {w h x y q : Int} (hw : 3 ≤ w ∧ w ≤ 6) (hh : 3 ≤ h ∧ h ≤ 6) (hx : 0 ≤ x ∧ x ≤ w - 1) (hy : 0 ≤ y ∧ y ≤ h - 1) : 0 ≤ lnI w h x y q ∧ lnI w h x y q < 2 * (w * h) := by
  have h1 := at_bd (q := q) hw hh hx hy
  have hm := mul_bd6 hw hh
  unfold lnI
  cases dnB q <;> simp only [cond_true, cond_false] <;> omega
theorem vc_impl_crawler_lineAhead (cr : List UInt8) (cw ch : Int) (cc : List UInt8) (cx cy cd : Int) (cl : List UInt8) (h : boxC ⟨cr, cw, ch, cc, cx, cy, cd, cl⟩ = true ∧ 0 ≤ cd ∧ cd ≤ 3) : VC_impl_crawler_lineAhead cr cw ch cc cx cy cd cl (retP (.int .i64 (lnI cw ch cx cy cd))) := by
  obtain ⟨h, hd⟩ := h
  have hb := mov_box h
  have ht := trn_box hb 2
  obtain ⟨h1, h2, h3, h4⟩ := box_iff.1 h
  simp only at h1 h2 h3 h4
  have hm := mul_bd6 h1 h2
  have c1 := cell_ix (h := ch) (by omega) h3 h4
  have c2 := cell_ix (h := ch) (u := (cy - 1) % ch) (by omega) h3 (emod_bd _ (by omega))
  have ex : cx % cw = cx := Int.emod_eq_of_lt h3.1 (by omega)
  have ey : cy % ch = cy := Int.emod_eq_of_lt h4.1 (by omega)
  unfold VC_impl_crawler_lineAhead
  simp only [at_iff, retP_int, h, ht, true_and]
  rcases four_cases hd with rfl | rfl | rfl | rfl
  · simp only [movC, trnC, lnI, atI, dnB, dirX, dirY]
    simp [ex, ← Int.sub_eq_add_neg]
    rw [wrap64_in (by omega)]
  · simp [lnI, atI, dnB]
  · simp only [lnI, atI, dnB]
    simp
    rw [wrap64_in (by omega)]
  · simp only [movC, trnC, lnI, atI, dnB, dirX, dirY]
    simp [ey, ← Int.sub_eq_add_neg]
theorem u8_49 (c : UInt8) : (((c.toNat : Nat) : Int) == 49) = (c == 49) := by
  rw [Bool.eq_iff_iff, beq_iff_eq, beq_iff_eq]
  exact u8_int (n := 49) (by omega)
theorem cr_ln {c : Cr} (h : crB c = true) : (0 ≤ lnI c.w c.h c.x c.y c.d ∧ lnI c.w c.h c.x c.y c.d < (c.l.length : Int)) ∧ c.l.length ≤ 72 ∧ boxC c = true ∧ 0 ≤ c.d ∧ c.d ≤ 3 := by
  obtain ⟨hb, hd, hl⟩ := crB_iff.1 h
  obtain ⟨h1, h2, h3, h4⟩ := box_iff.1 hb
  have hm := mul_bd6 h1 h2
  have := ln_bd (q := c.d) h1 h2 h3 h4
  refine ⟨by omega, by omega, hb, hd⟩
theorem vc_impl_crawler_hasLineAhead (cr : List UInt8) (cw ch : Int) (cc : List UInt8) (cx cy cd : Int) (cl : List UInt8) (h : crB ⟨cr, cw, ch, cc, cx, cy, cd, cl⟩ = true) : VC_impl_crawler_hasLineAhead cr cw ch cc cx cy cd cl (retP (.bool (hasA ⟨cr, cw, ch, cc, cx, cy, cd, cl⟩))) := by
  obtain ⟨hl, _, hb, hd⟩ := cr_ln h
  unfold VC_impl_crawler_hasLineAhead
  simp only [at_iff, retP_bool, true_and, hb]
  exact ⟨hd, hl, u8_49 _⟩
theorem vc_impl_crawler_withLineAhead (cr : List UInt8) (cw ch : Int) (cc : List UInt8) (cx cy cd : Int) (cl s : List UInt8) (h : crB ⟨cr, cw, ch, cc, cx, cy, cd, cl⟩ = true ∧ s.length = 1) : VC_impl_crawler_withLineAhead cr cw ch cc cx cy cd cl s (retP (crV (setA ⟨cr, cw, ch, cc, cx, cy, cd, cl⟩ s))) := by
  obtain ⟨h, hs⟩ := h
  obtain ⟨hl, h72, hb, hd⟩ := cr_ln h
  simp only at hl h72 hd
  have hn : (lnI cw ch cx cy cd + 1).toNat = (lnI cw ch cx cy cd).toNat + 1 := by omega
  unfold VC_impl_crawler_withLineAhead
  rw [wrap64_in (x := lnI cw ch cx cy cd + 1) (by omega), hn]
  simp only [at_iff, true_and, hb, List.length_append, List.length_take, List.length_drop]
  refine ⟨hd, by omega, by omega, by omega, by omega, ?_⟩
  exact retP_cr (u := setA ⟨cr, cw, ch, cc, cx, cy, cd, cl⟩ s) rfl
theorem vc_impl_crawler_worm (cr : List UInt8) (cw ch : Int) (cc : List UInt8) (cx cy cd : Int) (cl : List UInt8) (h : crB ⟨cr, cw, ch, cc, cx, cy, cd, cl⟩ = true) : VC_impl_crawler_worm cr cw ch cc cx cy cd cl (retP (woV (wormC ⟨cr, cw, ch, cc, cx, cy, cd, cl⟩))) := by
  obtain ⟨hb, hd, hl⟩ := crB_iff.1 h
  obtain ⟨h1, h2, _⟩ := box_iff.1 hb
  simp only at hl h1 h2
  have hm := mul_bd6 h1 h2
  unfold VC_impl_crawler_worm
  simp only [at_iff, true_and, hb]
  refine ⟨by omega, by omega, ?_⟩
  exact retP_wo (u := wormC ⟨cr, cw, ch, cc, cx, cy, cd, cl⟩) rfl
theorem wom_len {m : Wo} (h : womB m = true) : (m.r.length : Int) = m.w * m.h ∧ (m.n.length : Int) = m.w * m.h ∧ 9 ≤ m.w * m.h ∧ m.w * m.h ≤ 36 := by
  obtain ⟨h1, h2, h3, h4, _⟩ := wom_iff.1 h
  exact ⟨h3, h4, mul_bd6 h1 h2⟩
theorem vc_impl_crawlerOf (mw mh : Int) (mr mn : List UInt8) (mx my md : Int) (h : womB ⟨mw, mh, mr, mn, mx, my, md⟩ = true) : VC_impl_crawlerOf mw mh mr mn mx my md (retP (crV (crOf ⟨mw, mh, mr, mn, mx, my, md⟩))) := by
  have hl := wom_len h
  simp only at hl
  unfold VC_impl_crawlerOf
  exact ⟨⟨by omega⟩, retP_cr (u := crOf ⟨mw, mh, mr, mn, mx, my, md⟩) rfl⟩
/-! ### worms and what goes for them -/
theorem wom_facts {m : Wo} (h : womB m = true) : (3 ≤ m.w ∧ m.w ≤ 6) ∧ (3 ≤ m.h ∧ m.h ≤ 6) ∧ (0 ≤ m.x ∧ m.x ≤ m.w - 1) ∧ (0 ≤ m.y ∧ m.y ≤ m.h - 1) ∧ (0 ≤ m.d ∧ m.d ≤ 3) := by
  obtain ⟨h1, h2, _, _, _, _, h7, h8, h9⟩ := wom_iff.1 h
  exact ⟨h1, h2, h7, h8, h9⟩
theorem ixW_bd {m : Wo} (h : womB m = true) {x y : Int} (hx : 0 ≤ x ∧ x ≤ m.w - 1) (hy : 0 ≤ y ∧ y ≤ m.h - 1) (q : Int) : (0 ≤ atI m.w m.h x y q ∧ atI m.w m.h x y q < m.r.length ∧ atI m.w m.h x y q < m.n.length) ∧ ixW m x y q < m.r.length ∧ ixW m x y q < m.n.length ∧ m.r.length ≤ 36 ∧ m.n.length ≤ 36 := by
  obtain ⟨h1, h2, _⟩ := wom_facts h
  have hl := wom_len h
  have := at_bd (q := q) h1 h2 hx hy
  unfold ixW
  omega
theorem crB_of {m : Wo} (h : womB m = true) : crB (crOf m) = true := by
  obtain ⟨h1, h2, h3, h4, h5⟩ := wom_facts h
  have hl := wom_len h
  refine crB_iff.2 ⟨box_iff.2 ⟨h1, h2, h3, h4⟩, h5, ?_⟩
  simp only [crOf, List.length_append]
  omega
theorem ixA_of {m : Wo} (h : womB m = true) {x y : Int} (hx : 0 ≤ x ∧ x ≤ m.w - 1) (hy : 0 ≤ y ∧ y ≤ m.h - 1) (q : Int) : (lnI m.w m.h x y q).toNat = (bif dnB q then m.r.length + ixW m x y q else ixW m x y q) := by
  have hb := (ixW_bd h hx hy q).1
  have hl := wom_len h
  unfold lnI ixW
  cases dnB q <;> simp only [cond_true, cond_false] <;> omega
theorem getD_left {a b : List UInt8} {i : Nat} (h : i < a.length) : (a ++ b).getD i 0 = a.getD i 0 := by
  simp only [List.getD_eq_getElem?_getD, List.getElem?_append_left h]
theorem getD_right {a b : List UInt8} {i : Nat} : (a ++ b).getD (a.length + i) 0 = b.getD i 0 := by
  simp only [List.getD_eq_getElem?_getD, List.getElem?_append_right (Nat.le_add_right a.length i), Nat.add_sub_cancel_left]
theorem hasA_of {m : Wo} (h : womB m = true) {c : Cr} (hw : c.w = m.w) (hh : c.h = m.h) (hl : c.l = m.r ++ m.n) (hx : 0 ≤ c.x ∧ c.x ≤ m.w - 1) (hy : 0 ≤ c.y ∧ c.y ≤ m.h - 1) : hasA c = hasW m c.x c.y c.d := by
  have hi := ixA_of h hx hy c.d
  have hb := (ixW_bd h hx hy c.d).2
  unfold hasA ixA hasW
  rw [hw, hh, hi, hl]
  cases dnB c.d
  · simp only [cond_false]
    rw [getD_left hb.1]
  · simp only [cond_true]
    rw [getD_right]
theorem take_mid {a b : List UInt8} {i : Nat} (s : List UInt8) (h : i < a.length) : (a ++ b).take i ++ s ++ (a ++ b).drop (i + 1) = (a.take i ++ s ++ a.drop (i + 1)) ++ b := by
  rw [List.take_append_of_le_length (by omega), List.drop_append_of_le_length (by omega), ← List.append_assoc]
theorem take_mid2 {a b : List UInt8} {i : Nat} (s : List UInt8) : (a ++ b).take (a.length + i) ++ s ++ (a ++ b).drop (a.length + i + 1) = a ++ (b.take i ++ s ++ b.drop (i + 1)) := by
  rw [List.take_length_add_append, Nat.add_assoc, List.drop_length_add_append]
  simp only [List.append_assoc]
theorem setA_of {m : Wo} (h : womB m = true) {c : Cr} (hw : c.w = m.w) (hh : c.h = m.h) (hl : c.l = m.r ++ m.n) (hx : 0 ≤ c.x ∧ c.x ≤ m.w - 1) (hy : 0 ≤ c.y ∧ c.y ≤ m.h - 1) (s : List UInt8) : (setA c s).l = (setW m c.x c.y c.d s).r ++ (setW m c.x c.y c.d s).n := by
  have hi := ixA_of h hx hy c.d
  have hb := (ixW_bd h hx hy c.d).2
  unfold setA ixA setW
  rw [hw, hh, hi, hl]
  cases dnB c.d
  · simp only [cond_false]
    exact take_mid s hb.1
  · simp only [cond_true]
    exact take_mid2 s
theorem trnS_bd (s : UInt8) : 0 ≤ trnS s ∧ trnS s ≤ 3 := by
  unfold trnS turnI
  cases ((s.toNat : Int) == 82) <;> cases ((s.toNat : Int) == 85) <;> cases ((s.toNat : Int) == 76) <;> simp
theorem hasA_way {m : Wo} (h : womB m = true) (s : UInt8) : hasA (trnC (crOf m) (trnS s)) = hasW m m.x m.y (wayW m s) := by
  obtain ⟨h1, h2, h3, h4, h5⟩ := wom_facts h
  exact hasA_of h (c := trnC (crOf m) (trnS s)) rfl rfl rfl h3 h4
theorem find_of {m : Wo} (h : womB m = true) (t : List UInt8) : findA (crOf m) t = findW m t := by
  unfold findA findW
  congr 1
  funext s
  exact hasA_way h s
theorem stp_of {m : Wo} (h : womB m = true) (s : UInt8) : stpC (crOf m) s = crOf (stpW m s) := by
  obtain ⟨h1, h2, h3, h4, h5⟩ := wom_facts h
  have hs := setA_of h (c := trnC (crOf m) (trnS s)) rfl rfl rfl h3 h4 [48]
  unfold stpC stpW goW
  simp only [Int.one_mul]
  have e : movC (setA (trnC (crOf m) (trnS s)) [48]) = { movC (setA (trnC (crOf m) (trnS s)) [48]) with l := (setA (trnC (crOf m) (trnS s)) [48]).l } := rfl
  rw [e, hs]
  rfl
theorem goB_of {m : Wo} (h : womB m = true) (t : List UInt8) : goB (crOf m) t = liveW t m := by unfold goB liveW; rw [find_of h]
theorem goR_of {m : Wo} (h : womB m = true) {t : List UInt8} (hl : liveW t m = true) : goR (crOf m) t = crOf (nxtW t m) := by
  unfold goR nxtW
  rw [find_of h]
  unfold liveW at hl
  cases hf : findW m t with
  | none => rw [hf] at hl; cases hl
  | some s => exact stp_of h s
theorem wormC_of {m : Wo} (h : womB m = true) : wormC (crOf m) = m := by
  have hl := wom_len h
  have e : (m.w * m.h).toNat = m.r.length := by omega
  unfold wormC crOf
  simp only [e]
  rw [List.take_left' rfl, List.drop_left' rfl]
theorem bin_mid {l s : List UInt8} (h : binB l = true) (hs : binB s = true) (i : Nat) : binB (l.take i ++ s ++ l.drop (i + 1)) = true := by
  unfold binB at *
  rw [List.all_append, List.all_append, hs]
  have h1 : (l.take i).all bitB = true := List.all_eq_true.2 fun x hx => List.all_eq_true.1 h x (List.mem_of_mem_take hx)
  have h2 : (l.drop (i + 1)).all bitB = true := List.all_eq_true.2 fun x hx => List.all_eq_true.1 h x (List.mem_of_mem_drop hx)
  rw [h1, h2]; rfl
theorem len_mid {l s : List UInt8} {i : Nat} (h : i < l.length) (hs : s.length = 1) : (l.take i ++ s ++ l.drop (i + 1)).length = l.length := by
  simp only [List.length_append, List.length_take, List.length_drop, hs]; omega
theorem wom_set {m : Wo} (h : womB m = true) {x y : Int} (hx : 0 ≤ x ∧ x ≤ m.w - 1) (hy : 0 ≤ y ∧ y ≤ m.h - 1) (q : Int) {s : List UInt8} (hs : s.length = 1) (hb : binB s = true) : womB (setW m x y q s) = true := by
  have hi := (ixW_bd h hx hy q).2
  obtain ⟨h1, h2, h3, h4, h5, h6, h7, h8, h9⟩ := wom_iff.1 h
  unfold setW
  refine wom_iff.2 ⟨h1, h2, ?_, ?_, ?_, ?_, h7, h8, h9⟩
  · cases dnB q <;> simp only [cond_true, cond_false]
    · rw [len_mid hi.1 hs]; exact h3
    · exact h3
  · cases dnB q <;> simp only [cond_true, cond_false]
    · exact h4
    · rw [len_mid hi.2.1 hs]; exact h4
  · cases dnB q <;> simp only [cond_true, cond_false]
    · exact bin_mid h5 hb _
    · exact h5
  · cases dnB q <;> simp only [cond_true, cond_false]
    · exact h6
    · exact bin_mid h6 hb _
theorem wom_way {m : Wo} (h : womB m = true) {d : Int} (hd : 0 ≤ d ∧ d ≤ 3) : womB { m with d := d } = true := by
  obtain ⟨h1, h2, h3, h4, h5, h6, h7, h8, h9⟩ := wom_iff.1 h
  exact wom_iff.2 ⟨h1, h2, h3, h4, h5, h6, h7, h8, hd⟩
theorem wom_go {m : Wo} (h : womB m = true) (q k : Int) : womB (goW m q k) = true := by
  obtain ⟨h1, h2, h3, h4, h5, h6, h7, h8, h9⟩ := wom_iff.1 h
  exact wom_iff.2 ⟨h1, h2, h3, h4, h5, h6, emod_bd _ (by omega), emod_bd _ (by omega), h9⟩
theorem way_bd (m : Wo) (s : UInt8) : 0 ≤ wayW m s ∧ wayW m s ≤ 3 := emod_bd _ (by omega)
theorem wom_stp {m : Wo} (h : womB m = true) (s : UInt8) : womB (stpW m s) = true := by
  obtain ⟨h1, h2, h3, h4, h5⟩ := wom_facts h
  exact wom_go (wom_way (wom_set h h3 h4 _ rfl rfl) (way_bd m s)) _ _
theorem wom_nxt {m : Wo} (h : womB m = true) (t : List UInt8) : womB (nxtW t m) = true := by
  unfold nxtW
  cases findW m t with
  | none => exact h
  | some s => exact wom_stp h s
theorem wom_iter {m : Wo} (h : womB m = true) (t : List UInt8) : ∀ k, womB (iterW t k m) = true
  | 0 => h
  | k + 1 => wom_nxt (wom_iter h t k) t
theorem eat_nil (m : Wo) (t : List UInt8) : (eatS m t == []) = !liveW t m := by
  unfold eatS liveW
  cases findW m t <;> rfl
theorem allL_le {t : List UInt8} {m : Wo} : ∀ {k j : Nat}, j ≤ k → allL t k m = true → allL t j m = true
  | 0, j, h, _ => by rw [show j = 0 by omega]; rfl
  | k + 1, j, h, ha => by
    rcases Nat.lt_or_ge k j with hk | hk
    · rw [show j = k + 1 by omega]; exact ha
    · refine allL_le hk ?_
      simp only [allL, Bool.and_eq_true] at ha
      exact ha.1
theorem allL_dead {t : List UInt8} {m : Wo} {k j : Nat} (h : j < k) (hd : liveW t (iterW t j m) = false) : allL t k m = false := by
  cases ha : allL t k m with
  | false => rfl
  | true =>
    have := allL_le (j := j + 1) h ha
    simp only [allL, Bool.and_eq_true] at this
    rw [hd] at this
    cases this.2
theorem tas_ascii {t : List UInt8} (h : tasB t = true) : (∀ x ∈ t, x.toNat < 128) ∧ t.length = 3 := by
  unfold tasB tastes at h
  simp only [List.any_cons, List.any_nil, Bool.or_false, Bool.or_eq_true, beq_iff_eq] at h
  rcases h with rfl | rfl | rfl | rfl | rfl | rfl <;> exact ⟨by decide, rfl⟩
theorem getD_memB {t : List UInt8} {i : Nat} (h : i < t.length) : t.getD i 0 ∈ t := by
  rw [List.getD_eq_getElem?_getD, List.getElem?_eq_getElem h]
  exact List.getElem_mem h
theorem find_take {p : UInt8 → Bool} {t : List UInt8} {i : Nat} (h : i < t.length) (h0 : (t.take i).find? p = none) : (t.take (i + 1)).find? p = (if p (t.getD i 0) then some (t.getD i 0) else none) := by
  rw [List.take_succ_eq_append_getElem h, List.find?_append, h0, List.getD_eq_getElem?_getD, List.getElem?_eq_getElem h]
  simp [List.find?_cons]
  cases p t[i] <;> simp
theorem find_pre {p : UInt8 → Bool} {t : List UInt8} {i : Nat} (h : i < t.length) (h0 : (t.take i).find? p = none) (hp : p (t.getD i 0) = true) : t.find? p = some (t.getD i 0) := by
  have := find_take h h0
  rw [if_pos hp] at this
  have e : t = t.take (i + 1) ++ t.drop (i + 1) := (List.take_append_drop _ _).symm
  rw [e, List.find?_append, this]; simp
/-! ### the conditions -/
theorem four_step {i : Int} (h : fourInv i) (hi : i < 4) : fourInv (IntKind.wrap .i64 (i + 1)) ∧ ((4 : Int) - IntKind.wrap .i64 (i + 1)).toNat < ((4 : Int) - i).toNat ∧ IntKind.wrap .i64 (i + 1) = i + 1 ∧ (i + 1).toNat = i.toNat + 1 ∧ ((i.toNat : Nat) : Int) = i ∧ i.toNat < 4 := by
  obtain ⟨h0, h1⟩ := h
  rw [wrap64_in (by omega)]
  exact ⟨⟨by omega, by omega⟩, by omega, rfl, by omega, by omega, by omega⟩
theorem cntA_bd (c : Cr) (k : Int) : ∀ n : Nat, 0 ≤ cntA c k n ∧ cntA c k n ≤ n
  | 0 => by simp [cntA]
  | n + 1 => by
    have := cntA_bd c k n
    simp only [cntA]
    cases hasA (seeC c k (n : Nat)) <;> simp only [cond_true, cond_false] <;> omega
theorem cntW_bd (m : Wo) (x y : Int) : ∀ n : Nat, 0 ≤ cntW m x y n ∧ cntW m x y n ≤ n
  | 0 => by simp [cntW]
  | n + 1 => by
    have := cntW_bd m x y n
    simp only [cntW]
    cases hasW m x y (n : Nat) <;> simp only [cond_true, cond_false] <;> omega
theorem see_box {c : Cr} (h : crB c = true) {k q : Int} (hk : 0 ≤ k ∧ k < c.w * c.h) (hq : 0 ≤ q ∧ q ≤ 3) : crB (seeC c k q) = true := by
  obtain ⟨hb, hd, hl⟩ := crB_iff.1 h
  obtain ⟨h1, h2, h3, h4⟩ := box_iff.1 hb
  have hx := emod_bd k (m := c.w) (by omega)
  have hy : 0 ≤ k / c.w := Int.ediv_nonneg hk.1 (by omega)
  have hy2 : k / c.w < c.h := Int.ediv_lt_of_lt_mul (by omega) (by rw [Int.mul_comm]; exact hk.2)
  exact crB_iff.2 ⟨box_iff.2 ⟨h1, h2, hx, by simp only [seeC]; omega⟩, hq, hl⟩
theorem vc_impl_crawler_linesAt (cr : List UInt8) (cw ch : Int) (cc : List UInt8) (cx cy cd : Int) (cl : List UInt8) (k : Int) (h : crB ⟨cr, cw, ch, cc, cx, cy, cd, cl⟩ = true ∧ 0 ≤ k ∧ k < cw * ch) : VC_impl_crawler_linesAt cr cw ch cc cx cy cd cl k (retP (.int .i64 (cntA ⟨cr, cw, ch, cc, cx, cy, cd, cl⟩ k 4))) := by
  obtain ⟨hg, hk⟩ := h
  obtain ⟨hb, _⟩ := crB_iff.1 hg
  obtain ⟨h1, h2, _⟩ := box_iff.1 hb
  simp only at h1 h2
  have hm := mul_bd6 h1 h2
  unfold VC_impl_crawler_linesAt
  simp only [at_iff, retP_int, true_and, and_true]
  refine ⟨rfl, ⟨by omega, by omega⟩, fun i hi => ⟨fun hlt => ?_, fun hge => ?_⟩⟩
  · have hlt := of_decide_eq_true hlt
    obtain ⟨s1, s2, s3, s4, s5, s6⟩ := four_step hi hlt
    have hc := cntA_bd ⟨cr, cw, ch, cc, cx, cy, cd, cl⟩ k i.toNat
    have hs := see_box hg (k := k) (q := i) hk ⟨hi.1, by omega⟩
    have e : cntA ⟨cr, cw, ch, cc, cx, cy, cd, cl⟩ k (i.toNat + 1) = cntA ⟨cr, cw, ch, cc, cx, cy, cd, cl⟩ k i.toNat + (bif hasA (seeC ⟨cr, cw, ch, cc, cx, cy, cd, cl⟩ k i) then 1 else 0) := by
      simp only [cntA, s5]
    refine ⟨⟨inB_eq.2 h1, by omega, by omega⟩, hs, fun hh => ⟨?_, s1, s2⟩, fun hh => ⟨?_, s1, s2⟩⟩
    · rw [s3, s4, e, hh, cond_true, wrap64_in (by omega)]
    · rw [s3, s4, e, hh, cond_false, Int.add_zero]
  · have := of_decide_eq_false hge
    obtain ⟨h0, h4⟩ := hi
    rw [show i.toNat = 4 by omega]
theorem vc_spec_wmLine (mw mh : Int) (mr mn : List UInt8) (mx my md x y q : Int) (h : womB ⟨mw, mh, mr, mn, mx, my, md⟩ = true ∧ inB x 0 (mw - 1) = true ∧ inB y 0 (mh - 1) = true ∧ inB q 0 3 = true) : VC_spec_wmLine mw mh mr mn mx my md x y q (retP (.tup [.bool (dnB q), .int .i64 (atI mw mh x y q)])) := by
  obtain ⟨hm, hx, hy, hq⟩ := h
  obtain ⟨h1, h2, _⟩ := wom_facts hm
  have hx := inB_eq.1 hx
  have hy := inB_eq.1 hy
  have hq := inB_eq.1 hq
  simp only at h1 h2
  have hb := mul_bd6 h1 h2
  have c1 := cell_ix (h := mh) (by omega) hx hy
  have c2 := cell_ix (h := mh) (u := (y - 1) % mh) (by omega) hx (emod_bd _ (by omega))
  have c3 := cell_ix (h := mh) (u := y) (x := (x - 1) % mw) (w := mw) (by omega) (emod_bd _ (by omega)) hy
  unfold VC_spec_wmLine
  rw [wrap64_in (x := y - 1) (by omega), wrap64_in (x := x - 1) (by omega), wrap64_in (x := (y - 1) % mh * mw) (by omega), wrap64_in (x := y * mw) (by omega), wrap64_in (x := (y - 1) % mh * mw + x) (by omega), wrap64_in (x := y * mw + x) (by omega), wrap64_in (x := y * mw + (x - 1) % mw) (by omega)]
  simp only [at_iff, true_and]
  refine ⟨fun e0 => ⟨by omega, ?_⟩, fun e0 => ⟨fun e1 => ?_, fun e1 => ⟨fun e2 => ?_, fun e2 => ⟨by omega, ?_⟩⟩⟩⟩ <;> simp [retP, leV, leL, chkB, V.under, underL, dnB, atI, *]
  simp only [beq_iff_eq] at e1
  omega
theorem vc_spec_wmHas (mw mh : Int) (mr mn : List UInt8) (mx my md x y q : Int) (h : womB ⟨mw, mh, mr, mn, mx, my, md⟩ = true ∧ inB x 0 (mw - 1) = true ∧ inB y 0 (mh - 1) = true ∧ inB q 0 3 = true) : VC_spec_wmHas mw mh mr mn mx my md x y q (retP (.bool (hasW ⟨mw, mh, mr, mn, mx, my, md⟩ x y q))) := by
  have hb := (ixW_bd h.1 (inB_eq.1 h.2.1) (inB_eq.1 h.2.2.1) q).1
  unfold VC_spec_wmHas hasW ixW
  simp only [at_iff, retP_bool]
  refine ⟨h, fun hd => ⟨⟨hb.1, hb.2.2⟩, ?_⟩, fun hd => ⟨⟨hb.1, hb.2.1⟩, ?_⟩⟩
  · rw [hd, cond_true, u8_49]
  · rw [hd, cond_false, u8_49]
theorem vc_spec_wmAt (mw mh : Int) (mr mn : List UInt8) (mx my md x y : Int) (h : womB ⟨mw, mh, mr, mn, mx, my, md⟩ = true ∧ inB x 0 (mw - 1) = true ∧ inB y 0 (mh - 1) = true) : VC_spec_wmAt mw mh mr mn mx my md x y (retP (.int .i64 (cntW ⟨mw, mh, mr, mn, mx, my, md⟩ x y 4))) := by
  unfold VC_spec_wmAt
  simp only [at_iff, retP_int, true_and, and_true]
  refine ⟨rfl, ⟨by omega, by omega⟩, fun i hi => ⟨fun hlt => ?_, fun hge => ?_⟩⟩
  · have hlt := of_decide_eq_true hlt
    obtain ⟨s1, s2, s3, s4, s5, s6⟩ := four_step hi hlt
    have hc := cntW_bd ⟨mw, mh, mr, mn, mx, my, md⟩ x y i.toNat
    have e : cntW ⟨mw, mh, mr, mn, mx, my, md⟩ x y (i.toNat + 1) = cntW ⟨mw, mh, mr, mn, mx, my, md⟩ x y i.toNat + (bif hasW ⟨mw, mh, mr, mn, mx, my, md⟩ x y i then 1 else 0) := by
      simp only [cntW, s5]
    refine ⟨⟨h.1, h.2.1, h.2.2, inB_eq.2 ⟨hi.1, by omega⟩⟩, fun hh => ⟨?_, s1, s2⟩, fun hh => ⟨?_, s1, s2⟩⟩
    · rw [s3, s4, e, hh, cond_true, wrap64_in (by omega)]
    · rw [s3, s4, e, hh, cond_false, Int.add_zero]
  · have := of_decide_eq_false hge
    obtain ⟨h0, h4⟩ := hi
    rw [show i.toNat = 4 by omega]
theorem retG_one {us vs : List V} {e : TypeId} {R : V} {J : List Blk} (hR : R = .tup [] ∨ ∃ q, R = .str q) (h : leL (selL (fun n => findSel n [some 0] 0) us) vs) (hu : underL 1 vs = true) (hn : nilToL (isGhost [some 0]) (selL (fun n => findSel n [some 0] 0) us) vs = selL (fun n => findSel n [some 0] 0) us) : retG 1 R [⟨.vals vs, e, .box⟩] R (⟨.vals us, e, .box⟩ :: J) := by
  unfold retG leSel leSelBy autoSel
  rcases hR with rfl | ⟨q, rfl⟩ <;> simp [pairsL, pairsV, idPairs, pairsIn, selOf, lookN, selMem, chkB, nodupSel, hasSel, prefSel, leSt, leL, leV, nilToL, V.nilTo, selL, V.sel, Cells.selN, leMem, leCells, memUnder, underL, V.under, hu, hn, h]
theorem retG_wo {u m : Wo} {e : TypeId} {R R' : V} {J : List Blk} (hR : R = .tup [] ∨ ∃ q, R = .str q) (h : u = m) (hr : R' = R) : retG 1 R [⟨.vals (woL m), e, .box⟩] R' (⟨.vals (woL u), e, .box⟩ :: J) := by
  subst h; subst hr
  exact retG_one hR (by simp [woL, selL, V.sel, leL, leV, chkB]) rfl rfl
theorem vc_spec_wmSet (x y q : Int) (s : List UInt8) (mw mh : Int) (mr mn : List UInt8) (mx my md : Int) (e : TypeId) (h : womB ⟨mw, mh, mr, mn, mx, my, md⟩ = true ∧ inB x 0 (mw - 1) = true ∧ inB y 0 (mh - 1) = true ∧ inB q 0 3 = true ∧ s.length = 1) : VC_spec_wmSet x y q s mw mh mr mn mx my md e
    (retG 1 (.tup []) [⟨.vals (woL (setW ⟨mw, mh, mr, mn, mx, my, md⟩ x y q s)), e, .box⟩]) := by
  obtain ⟨hm, hx, hy, hq, hs⟩ := h
  obtain ⟨hb, _, _, k1, k2⟩ := ixW_bd hm (inB_eq.1 hx) (inB_eq.1 hy) q
  simp only at hb k1 k2
  have hn : (atI mw mh x y q + 1).toNat = (atI mw mh x y q).toNat + 1 := by omega
  unfold VC_spec_wmSet
  rw [wrap64_in (x := atI mw mh x y q + 1) (by omega), hn]
  simp only [at_iff, true_and, List.length_append, List.length_take, List.length_drop]
  refine ⟨⟨hm, hx, hy, hq⟩, fun hd => ⟨by omega, by omega, by omega, by omega, ?_⟩, fun hd => ⟨by omega, by omega, by omega, by omega, ?_⟩⟩
  · refine retG_wo (.inl rfl) (u := ⟨mw, mh, mr, mn.take (atI mw mh x y q).toNat ++ s ++ mn.drop ((atI mw mh x y q).toNat + 1), mx, my, md⟩) ?_ rfl
    unfold setW ixW
    rw [hd]; rfl
  · refine retG_wo (.inl rfl) (u := ⟨mw, mh, mr.take (atI mw mh x y q).toNat ++ s ++ mr.drop ((atI mw mh x y q).toNat + 1), mn, mx, my, md⟩) ?_ rfl
    unfold setW ixW
    rw [hd]; rfl
theorem vc_spec_wmGo (q k : Int) (mw mh : Int) (mr mn : List UInt8) (mx my md : Int) (e : TypeId) (h : inB mw 3 6 = true ∧ inB mh 3 6 = true ∧ inB mx 0 (mw - 1) = true ∧ inB my 0 (mh - 1) = true ∧ (k = 1 ∨ k = -1)) : VC_spec_wmGo q k mw mh mr mn mx my md e (retG 1 (.tup []) [⟨.vals (woL (goW ⟨mw, mh, mr, mn, mx, my, md⟩ q k)), e, .box⟩]) := by
  obtain ⟨h1, h2, h3, h4, hk⟩ := h
  have h1 := inB_eq.1 h1
  have h2 := inB_eq.1 h2
  have h3 := inB_eq.1 h3
  have h4 := inB_eq.1 h4
  have hkb : -1 ≤ k ∧ k ≤ 1 := by omega
  have ex : mx % mw = mx := Int.emod_eq_of_lt h3.1 (by omega)
  have ey : my % mh = my := Int.emod_eq_of_lt h4.1 (by omega)
  unfold VC_spec_wmGo
  rw [wrap64_in (x := my - k) (by omega), wrap64_in (x := mx + k) (by omega), wrap64_in (x := my + k) (by omega), wrap64_in (x := mx - k) (by omega)]
  refine ⟨fun c0 => ⟨trivial, ⟨by omega⟩, ?_⟩, fun c0 => ⟨fun c1 => ⟨trivial, ⟨by omega⟩, ?_⟩, fun c1 => ⟨fun c2 => ⟨trivial, ⟨by omega⟩, ?_⟩, fun c2 => ⟨trivial, ⟨by omega⟩, ?_⟩⟩⟩⟩
  · refine retG_wo (.inl rfl) (u := ⟨mw, mh, mr, mn, mx, (my - k) % mh, md⟩) ?_ rfl
    simp [goW, dirX, dirY, c0, ex, Int.sub_eq_add_neg]
  · refine retG_wo (.inl rfl) (u := ⟨mw, mh, mr, mn, (mx + k) % mw, my, md⟩) ?_ rfl
    simp [goW, dirX, dirY, c0, c1, ey]
  · refine retG_wo (.inl rfl) (u := ⟨mw, mh, mr, mn, mx, (my + k) % mh, md⟩) ?_ rfl
    simp [goW, dirX, dirY, c0, c1, c2, ex]
  · refine retG_wo (.inl rfl) (u := ⟨mw, mh, mr, mn, (mx - k) % mw, my, md⟩) ?_ rfl
    simp [goW, dirX, dirY, c0, c1, c2, ey, Int.sub_eq_add_neg]
theorem vc_spec_wmAsked (mw mh : Int) (mr mn : List UInt8) (mx my md : Int) (t : List UInt8) (_ : True) : VC_spec_wmAsked mw mh mr mn mx my md t (retP (.bool (womB ⟨mw, mh, mr, mn, mx, my, md⟩ && tasB t))) := by
  unfold VC_spec_wmAsked
  simp only [at_iff, retP_lit, retP_bool, true_and]
  refine ⟨fun h => by simp [h], fun h => by simp [h]⟩
theorem wrap8_in {x : Int} (h : 0 ≤ x ∧ x < 256) : IntKind.wrap .u8 x = x := by
  have := IntWalk.u8_in x (by omega)
  exact this
theorem retP_go {u m : Cr} {a b : Int} {x y : Bool} (h : u = m) (ha : a = b) (hx : x = y) : retP (.tup [crV m, .int .i32 b, .bool y]) (.tup [crV u, .int .i32 a, .lit x]) := by
  subst h; subst ha; subst hx
  simp [crV, crL, retP, leV, leL, chkB, V.under, underL]
theorem trn_crB {c : Cr} (h : crB c = true) (q : Int) : crB (trnC c q) = true := by
  obtain ⟨hb, hd, hl⟩ := crB_iff.1 h
  exact crB_iff.2 ⟨trn_box hb q, emod_bd _ (by omega), hl⟩
theorem vc_impl_crawler_goOn (cr : List UInt8) (cw ch : Int) (cc : List UInt8) (cx cy cd : Int) (cl t : List UInt8) (h : crB ⟨cr, cw, ch, cc, cx, cy, cd, cl⟩ = true ∧ tasB t = true) : VC_impl_crawler_goOn cr cw ch cc cx cy cd cl t
    (retP (.tup [crV (goR ⟨cr, cw, ch, cc, cx, cy, cd, cl⟩ t), .int .i32 (goS ⟨cr, cw, ch, cc, cx, cy, cd, cl⟩ t), .bool (goB ⟨cr, cw, ch, cc, cx, cy, cd, cl⟩ t)])) := by
  obtain ⟨hg, ht⟩ := h
  obtain ⟨ha, h3⟩ := tas_ascii ht
  have hcd := (crB_iff.1 hg).2.1
  simp only at hcd
  unfold VC_impl_crawler_goOn
  simp only [at_iff, true_and, and_true, and_self]
  refine ⟨⟨by omega, rfl⟩, fun n hn => ⟨fun hlt => ?_, fun hge => ?_⟩⟩
  · have hs := ha _ (getD_memB hlt)
    rw [wrap8_in (x := ((t.getD n 0).toNat : Int)) (by omega)]
    have hT : turnI ((t.getD n 0).toNat : Int) = trnS (t.getD n 0) := rfl
    rw [hT]
    have hb := trnS_bd (t.getD n 0)
    have hc := trn_crB hg (trnS (t.getD n 0))
    have hbx : boxC (setA (trnC ⟨cr, cw, ch, cc, cx, cy, cd, cl⟩ (trnS (t.getD n 0))) (Array.toList #[48])) = true := (crB_iff.1 hc).1
    refine ⟨hs, ⟨by omega, by omega, by omega, by omega⟩, hc, fun hh => ⟨⟨hc, rfl⟩, hbx, ?_⟩, fun hh => ⟨⟨by omega, ?_⟩, by omega⟩⟩
    · have hf : findA ⟨cr, cw, ch, cc, cx, cy, cd, cl⟩ t = some (t.getD n 0) := find_pre hlt hn.2 hh
      exact retP_go (u := stpC ⟨cr, cw, ch, cc, cx, cy, cd, cl⟩ (t.getD n 0)) (by unfold goR; rw [hf]) (by unfold goS; rw [hf]) (by unfold goB; rw [hf]; rfl)
    · show findA _ _ = none
      unfold findA
      rw [find_take hlt hn.2, if_neg (by rw [hh]; simp)]
  · have hf : findA ⟨cr, cw, ch, cc, cx, cy, cd, cl⟩ t = none := by
      have := hn.2
      rw [List.take_of_length_le (by omega)] at this
      exact this
    exact retP_go (u := ⟨[], 0, 0, [], 0, 0, 0, []⟩) (by unfold goR; rw [hf]) (by unfold goS; rw [hf]) (by unfold goB; rw [hf]; rfl)
theorem notT {b : Bool} (h : (!b) = true) : b = false := by simpa using h
theorem notF {b : Bool} (h : (!b) = false) : b = true := by simpa using h
theorem recTw {b : Bool} (h : b = true) : (Bool.rec False True b : Prop) := by subst h; trivial
theorem take_drop1 {t : List UInt8} {n : Nat} (h : n < t.length) : (t.take (n + 1)).drop n = [t.getD n 0] := by
  rw [List.take_succ_eq_append_getElem h, List.drop_append_of_le_length (by rw [List.length_take]; omega), List.drop_of_length_le (by rw [List.length_take]; omega), List.getD_eq_getElem?_getD, List.getElem?_eq_getElem h]
  rfl
theorem vc_spec_wmEat (t : List UInt8) (mw mh : Int) (mr mn : List UInt8) (mx my md : Int) (e : TypeId) (h : womB ⟨mw, mh, mr, mn, mx, my, md⟩ = true ∧ tasB t = true) : VC_spec_wmEat t mw mh mr mn mx my md e
    (retG 1 (.str (eatS ⟨mw, mh, mr, mn, mx, my, md⟩ t)) [⟨.vals (woL (nxtW t ⟨mw, mh, mr, mn, mx, my, md⟩)), e, .box⟩]) := by
  obtain ⟨hm, ht⟩ := h
  obtain ⟨ha, h3⟩ := tas_ascii ht
  obtain ⟨h1, h2, hx, hy, hd⟩ := wom_facts hm
  simp only at h1 h2 hx hy hd
  have hek : (Bool.rec False True (Nat.beq e e && decide True) : Prop) := recTw (by simp)
  have hxb := inB_eq.2 hx
  have hyb := inB_eq.2 hy
  unfold VC_spec_wmEat
  simp only [at_iff, true_and, and_true, hek, hm, hxb, hyb]
  refine ⟨⟨by omega, rfl⟩, fun n hn => ⟨fun hlt => ?_, fun hge => ?_⟩⟩
  · have hs := ha _ (getD_memB hlt)
    have hb := trnS_bd (t.getD n 0)
    have hw : Int.tmod (IntKind.wrap .i64 (md + turnI ((t.getD n 0).toNat : Int))) 4 = wayW ⟨mw, mh, mr, mn, mx, my, md⟩ (t.getD n 0) := by
      rw [show turnI ((t.getD n 0).toNat : Int) = trnS (t.getD n 0) from rfl, wrap64_in (by omega), tmod_emod (by omega)]; rfl
    have hwb := way_bd ⟨mw, mh, mr, mn, mx, my, md⟩ (t.getD n 0)
    have hset := wom_set hm hx hy (wayW ⟨mw, mh, mr, mn, mx, my, md⟩ (t.getD n 0)) (s := [48]) rfl rfl
    obtain ⟨f1, f2, f3, f4, _⟩ := wom_facts hset
    rw [Int.toNat_natCast, hw, wrap64_in (x := (n : Int) + 1) (by omega), show ((n : Int) + 1).toNat = n + 1 by omega]
    refine ⟨hs, ⟨by omega, by omega⟩, by decide, inB_eq.2 hwb, fun hh => ⟨⟨inB_eq.2 hwb, rfl⟩, ⟨inB_eq.2 f1, inB_eq.2 f2, inB_eq.2 f3, inB_eq.2 f4, .inl trivial⟩, ⟨by omega, by omega, by omega⟩, ?_⟩, fun hh => ⟨⟨by omega, ?_⟩, by omega⟩⟩
    · have hf : findW ⟨mw, mh, mr, mn, mx, my, md⟩ t = some (t.getD n 0) := find_pre hlt hn.2 hh
      refine retG_wo (.inr ⟨_, rfl⟩) (u := stpW ⟨mw, mh, mr, mn, mx, my, md⟩ (t.getD n 0)) ?_ ?_
      · unfold nxtW; rw [hf]
      · unfold eatS; rw [hf, take_drop1 hlt]
    · show findW _ _ = none
      unfold findW
      rw [find_take hlt hn.2, if_neg (by rw [hh]; simp)]
  · have hf : findW ⟨mw, mh, mr, mn, mx, my, md⟩ t = none := by
      have := hn.2
      rw [List.take_of_length_le (by omega)] at this
      exact this
    refine retG_wo (.inr ⟨_, rfl⟩) (u := ⟨mw, mh, mr, mn, mx, my, md⟩) ?_ ?_
    · unfold nxtW; rw [hf]
    · unfold eatS; rw [hf]
/-! ### the functions -/
theorem node_of {w x y : Int} (hw : 3 ≤ w) (hx : 0 ≤ x ∧ x ≤ w - 1) : (y * w + x) % w = x ∧ (y * w + x) / w = y := by
  rw [Int.add_comm]
  refine ⟨?_, ?_⟩
  · rw [Int.add_mul_emod_self_right]; exact Int.emod_eq_of_lt hx.1 (by omega)
  · rw [Int.add_mul_ediv_right _ _ (by omega), Int.ediv_eq_zero_of_lt hx.1 (by omega), Int.zero_add]
theorem cnt_of {m : Wo} (h : womB m = true) {x y : Int} (hx : 0 ≤ x ∧ x ≤ m.w - 1) (hy : 0 ≤ y ∧ y ≤ m.h - 1) : ∀ n : Nat, cntA (crOf m) (y * m.w + x) n = cntW m x y n
  | 0 => rfl
  | n + 1 => by
    obtain ⟨h1, _⟩ := wom_facts h
    have hn := node_of (y := y) h1.1 hx
    have e : seeC (crOf m) (y * m.w + x) (n : Nat) = ⟨[], m.w, m.h, [], x, y, (n : Nat), m.r ++ m.n⟩ := by
      unfold seeC crOf
      simp only [hn.1, hn.2]
    have := hasA_of h (c := ⟨[], m.w, m.h, [], x, y, (n : Nat), m.r ++ m.n⟩) rfl rfl rfl hx hy
    simp only [cntA, cntW, cnt_of h hx hy n, e, this]
theorem retP_la {a b : Int} {x y : Bool} (h : a = bif y then b else 0) (hx : x = y) : retP (.tup [.int .i64 (bif y then b else 0), .bool y]) (.tup [.int .i64 a, .lit x]) := by
  subst h; subst hx
  simp [retP, leV, leL, chkB, V.under, underL]
theorem vc_spec_LinesAt (mw mh : Int) (mr mn : List UInt8) (mx my md x y : Int) (_ : True) : VC_spec_LinesAt mw mh mr mn mx my md x y (retP (laV ⟨mw, mh, mr, mn, mx, my, md⟩ x y)) := by
  unfold VC_spec_LinesAt laV
  simp only [at_iff, true_and, Bool.not_eq_true', Bool.not_eq_false']
  refine ⟨fun h => retP_la (by simp [ndB, h]) (by simp [ndB, h]), fun h => ?_⟩
  obtain ⟨h1, h2, _⟩ := wom_facts h
  simp only at h1 h2
  rw [wrap64_in (x := mw - 1) (by omega), wrap64_in (x := mh - 1) (by omega)]
  refine ⟨fun hx => retP_la (by simp [ndB, hx]) (by simp [ndB, hx]), fun hx => ⟨fun hy => retP_la (by simp [ndB, hy]) (by simp [ndB, hy]), fun hy => ⟨⟨h, hx, hy⟩, retP_la (by simp [ndB, h, hx, hy]) (by simp [ndB, h, hx, hy])⟩⟩⟩
theorem vc_impl_LinesAt (mw mh : Int) (mr mn : List UInt8) (mx my md x y : Int) (_ : True) : VC_impl_LinesAt mw mh mr mn mx my md x y (retP (laV ⟨mw, mh, mr, mn, mx, my, md⟩ x y)) := by
  unfold VC_impl_LinesAt laV
  simp only [at_iff, true_and, Bool.not_eq_true', Bool.not_eq_false']
  refine ⟨fun h => retP_la (by simp [ndB, h]) (by simp [ndB, h]), fun h => ?_⟩
  obtain ⟨h1, h2, _⟩ := wom_facts h
  simp only at h1 h2
  refine ⟨⟨inB_eq.2 h1, inB_eq.2 h2⟩, fun hxy => ?_, fun hxy => ?_⟩
  · have e : ndB ⟨mw, mh, mr, mn, mx, my, md⟩ x y = false := by
      unfold ndB; rw [Bool.and_assoc]; simp only [hxy, Bool.and_false]
    rw [e]
    exact retP_la rfl rfl
  · have hx := inB_eq.1 (Bool.and_eq_true_iff.1 hxy).1
    have hy := inB_eq.1 (Bool.and_eq_true_iff.1 hxy).2
    have e : ndB ⟨mw, mh, mr, mn, mx, my, md⟩ x y = true := by
      unfold ndB; rw [Bool.and_assoc]; simp only [hxy, h, Bool.and_true]
    have hm := mul_bd6 h1 h2
    have c1 := cell_ix (h := mh) (by omega) hx hy
    rw [wrap64_in (x := y * mw) (by omega), wrap64_in (x := y * mw + x) (by omega), e, cnt_of h hx hy 4]
    exact ⟨h, ⟨crB_of h, c1.1, c1.2.1⟩, retP_la rfl rfl⟩
theorem vc_spec_EatLine (mw mh : Int) (mr mn : List UInt8) (mx my md : Int) (t : List UInt8) (_ : True) : VC_spec_EatLine mw mh mr mn mx my md t (retP (okWo (eatB ⟨mw, mh, mr, mn, mx, my, md⟩ t) (nxtW t ⟨mw, mh, mr, mn, mx, my, md⟩))) := by
  unfold VC_spec_EatLine
  simp only [at_iff, true_and, Bool.not_eq_true', Bool.not_eq_false']
  refine ⟨fun h => ?_, fun h => ⟨⟨(Bool.and_eq_true_iff.1 h).1, (Bool.and_eq_true_iff.1 h).2⟩, fun he => ?_, fun he => ?_⟩⟩
  · have e : eatB ⟨mw, mh, mr, mn, mx, my, md⟩ t = false := by unfold eatB; rw [h]; rfl
    rw [e]; exact retP_okwl (u := zeroWo) rfl rfl
  · have he' := (eat_nil _ _).symm.trans he
    have e : eatB ⟨mw, mh, mr, mn, mx, my, md⟩ t = false := by
      unfold eatB; rw [h, notT he']; rfl
    rw [e]; exact retP_okwl (u := zeroWo) rfl rfl
  · have he' := (eat_nil _ _).symm.trans he
    have e : eatB ⟨mw, mh, mr, mn, mx, my, md⟩ t = true := by
      unfold eatB; rw [h, notF he']; rfl
    rw [e]; exact retP_okwl (u := nxtW t ⟨mw, mh, mr, mn, mx, my, md⟩) rfl rfl
theorem wo_sub {k : Int} : (k - k).toNat = 0 := by omega
theorem vc_spec_WormAfter (mw mh : Int) (mr mn : List UInt8) (mx my md : Int) (t : List UInt8) (k : Int) (_ : True) : VC_spec_WormAfter mw mh mr mn mx my md t k (retP (okWo (aftB ⟨mw, mh, mr, mn, mx, my, md⟩ t k) (iterW t k.toNat ⟨mw, mh, mr, mn, mx, my, md⟩))) := by
  unfold VC_spec_WormAfter
  simp only [at_iff, true_and, and_true, Bool.not_eq_true', Bool.not_eq_false']
  refine ⟨fun h => ?_, fun h => ⟨fun hk => ?_, fun hk => ?_⟩⟩
  · have e : aftB ⟨mw, mh, mr, mn, mx, my, md⟩ t k = false := by unfold aftB; rw [h]; rfl
    rw [e]; exact retP_okwl (u := zeroWo) rfl rfl
  · have e : aftB ⟨mw, mh, mr, mn, mx, my, md⟩ t k = false := by unfold aftB; rw [hk]; simp
    rw [e]; exact retP_okwl (u := zeroWo) rfl rfl
  · have hg := (Bool.and_eq_true_iff.1 h).1
    have ht := (Bool.and_eq_true_iff.1 h).2
    have hkb := inB_eq.1 hk
    rw [Int.sub_self]
    refine ⟨by simp [iterW], ⟨hkb.1, by omega, hkb.2, hg, ht, by rw [Int.sub_self]; rfl⟩, fun s hs => ⟨fun hlt => ?_, fun hge => ?_⟩⟩
    · have hlt := of_decide_eq_true hlt
      obtain ⟨k0, k1, k2, k3, k4, k5⟩ := hs
      rw [wrap64_in (x := s - 1) (by omega), show (k - (s - 1)).toNat = (k - s).toNat + 1 by omega]
      refine ⟨⟨wom_iter hg t _, ht⟩, fun he => ?_, fun he => ⟨by simp [iterW], ⟨by omega, by omega, k2, hg, ht, ?_⟩, by omega⟩⟩
      · have he' := notT ((eat_nil _ _).symm.trans he)
        have e : aftB ⟨mw, mh, mr, mn, mx, my, md⟩ t k = false := by
          unfold aftB; rw [allL_dead (j := (k - s).toNat) (by omega) he', Bool.and_false]
        rw [e]; exact retP_okwl (u := zeroWo) rfl rfl
      · have he' := notF ((eat_nil _ _).symm.trans he)
        rw [show (k - (s - 1)).toNat = (k - s).toNat + 1 by omega]
        simp only [allL, k5, he', Bool.and_self]
    · have hge := of_decide_eq_false hge
      obtain ⟨k0, k1, k2, k3, k4, k5⟩ := hs
      have e0 : (k - s).toNat = k.toNat := by omega
      rw [e0] at k5 ⊢
      have e : aftB ⟨mw, mh, mr, mn, mx, my, md⟩ t k = true := by
        unfold aftB; rw [hg, ht, hk, k5]; rfl
      rw [e]; exact retP_okwl (u := iterW t k.toNat ⟨mw, mh, mr, mn, mx, my, md⟩) rfl rfl
theorem retG_tw {u m : Wo} {b ok : Bool} {f : TypeId} {g : Kind} {g0 g1 g2 g3 g4 g5 : List UInt8} {J : List Blk} (h : b = ok) (hu : u = bif ok then m else zeroWo) : retG 1 (okWo ok m) [⟨.vals [.str g0, .str g1, .str g2, .str g3, .str g4, .str g5], f, g⟩] (.tup [woV u, .lit b]) (⟨.vals [.str g0, .str g1, .str g2, .str g3, .str g4, .str g5], f, g⟩ :: J) := by
  subst h; subst hu
  unfold retG leSel leSelBy autoSel
  simp [okWo, woV, pairsL, pairsV, idPairs, pairsIn, selOf, lookN, selMem, chkB, nodupSel, hasSel, prefSel, leSt, leL, leV, nilToL, V.nilTo, selL, V.sel, Cells.selN, leMem, leCells, memUnder, underL, V.under]
theorem retG_twb {u m : Wo} {b ok : Bool} {f : TypeId} {g : Kind} {g0 g1 g2 g3 g4 g5 : List UInt8} {J : List Blk} (h : b = ok) (hu : u = bif ok then m else zeroWo) : retG 1 (okWo ok m) [⟨.vals [.str g0, .str g1, .str g2, .str g3, .str g4, .str g5], f, g⟩] (.tup [woV u, .bool b]) (⟨.vals [.str g0, .str g1, .str g2, .str g3, .str g4, .str g5], f, g⟩ :: J) := by
  subst h; subst hu
  unfold retG leSel leSelBy autoSel
  simp [okWo, woV, pairsL, pairsV, idPairs, pairsIn, selOf, lookN, selMem, chkB, nodupSel, hasSel, prefSel, leSt, leL, leV, nilToL, V.nilTo, selL, V.sel, Cells.selN, leMem, leCells, memUnder, underL, V.under]
theorem vc_impl_WormAfter (mw mh : Int) (mr mn : List UInt8) (mx my md : Int) (t : List UInt8) (k : Int) (g0 g1 g2 g3 g4 g5 : List UInt8) (h : isTs g0 g1 g2 g3 g4 g5) : VC_impl_WormAfter mw mh mr mn mx my md t k g0 g1 g2 g3 g4 g5
    (retG 1 (okWo (aftB ⟨mw, mh, mr, mn, mx, my, md⟩ t k) (iterW t k.toNat ⟨mw, mh, mr, mn, mx, my, md⟩)) [⟨.vals [.str g0, .str g1, .str g2, .str g3, .str g4, .str g5], 9, .gl 0⟩]) := by
  unfold VC_impl_WormAfter
  simp only [at_iff, true_and, and_true, h, Bool.not_eq_true', Bool.not_eq_false']
  refine ⟨fun hg => ?_, fun hg => ⟨fun ht => ?_, fun ht => ⟨fun hk => ?_, fun hk => ⟨hg, ?_, ?_, fun i hi => ⟨fun hlt => ?_, fun hge => ?_⟩⟩⟩⟩⟩
  · have e : aftB ⟨mw, mh, mr, mn, mx, my, md⟩ t k = false := by unfold aftB; rw [hg]; rfl
    rw [e]; exact retG_tw (u := zeroWo) rfl rfl
  · have e : aftB ⟨mw, mh, mr, mn, mx, my, md⟩ t k = false := by unfold aftB; rw [ht]; simp
    rw [e]; exact retG_tw (u := zeroWo) rfl rfl
  · have e : aftB ⟨mw, mh, mr, mn, mx, my, md⟩ t k = false := by unfold aftB; rw [hk]; simp
    rw [e]; exact retG_tw (u := zeroWo) rfl rfl
  · simp [iterW]
  · exact ⟨by omega, (inB_eq.1 hk).1, (inB_eq.1 hk).2, hg, ht, rfl⟩
  · have hlt := of_decide_eq_true hlt
    obtain ⟨k0, k1, k2, k3, k4, k5⟩ := hi
    have hw := wom_iter hg t i.toNat
    rw [wrap64_in (x := i + 1) (by omega), show (i + 1).toNat = i.toNat + 1 by omega, goB_of hw]
    refine ⟨⟨crB_of hw, ht⟩, fun he => ?_, fun he => ⟨?_, ⟨by omega, by omega, k2, hg, ht, ?_⟩, by omega⟩⟩
    · have e : aftB ⟨mw, mh, mr, mn, mx, my, md⟩ t k = false := by
        unfold aftB; rw [allL_dead (j := i.toNat) (by omega) he, Bool.and_false]
      rw [e]; exact retG_tw (u := zeroWo) rfl rfl
    · rw [goR_of hw he]; simp [iterW]
    · rw [show (i + 1).toNat = i.toNat + 1 by omega]
      simp only [allL, k5, he, Bool.and_self]
  · have hge := of_decide_eq_false hge
    obtain ⟨k0, k1, k2, k3, k4, k5⟩ := hi
    have e0 : i = k := by omega
    subst e0
    have hw := wom_iter hg t i.toNat
    have e : aftB ⟨mw, mh, mr, mn, mx, my, md⟩ t i = true := by
      unfold aftB; rw [hg, ht, hk, k5]; rfl
    rw [e, wormC_of hw]
    exact ⟨crB_of hw, retG_tw (u := iterW t i.toNat ⟨mw, mh, mr, mn, mx, my, md⟩) rfl rfl⟩
theorem aft_one (m : Wo) (t : List UInt8) : aftB m t 1 = eatB m t := by
  unfold aftB eatB
  simp [allL, iterW, inB]
theorem vc_impl_EatLine (mw mh : Int) (mr mn : List UInt8) (mx my md : Int) (t : List UInt8) (g0 g1 g2 g3 g4 g5 : List UInt8) (h : isTs g0 g1 g2 g3 g4 g5) : VC_impl_EatLine mw mh mr mn mx my md t g0 g1 g2 g3 g4 g5
    (retG 1 (okWo (eatB ⟨mw, mh, mr, mn, mx, my, md⟩ t) (nxtW t ⟨mw, mh, mr, mn, mx, my, md⟩)) [⟨.vals [.str g0, .str g1, .str g2, .str g3, .str g4, .str g5], 9, .gl 0⟩]) := by
  unfold VC_impl_EatLine
  rw [aft_one]
  exact ⟨⟨h⟩, retG_twb (u := bif eatB ⟨mw, mh, mr, mn, mx, my, md⟩ t then iterW t 1 ⟨mw, mh, mr, mn, mx, my, md⟩ else zeroWo) rfl rfl⟩
theorem vc_spec_GiveBack (mw mh : Int) (mr mn : List UInt8) (mx my md q : Int) (_ : True) : VC_spec_GiveBack mw mh mr mn mx my md q (retP (okWo (bakB ⟨mw, mh, mr, mn, mx, my, md⟩ q) (bakW ⟨mw, mh, mr, mn, mx, my, md⟩ q))) := by
  unfold VC_spec_GiveBack
  simp only [at_iff, true_and, and_true, Bool.not_eq_true', Bool.not_eq_false']
  have no : bakB ⟨mw, mh, mr, mn, mx, my, md⟩ q = false → retP (okWo (bakB ⟨mw, mh, mr, mn, mx, my, md⟩ q) (bakW ⟨mw, mh, mr, mn, mx, my, md⟩ q)) (.tup [woV zeroWo, .lit false]) := fun e => by
    rw [e]; exact retP_okwl (u := zeroWo) rfl rfl
  refine ⟨fun h => no (by unfold bakB; rw [h]; rfl), fun h => ?_⟩
  obtain ⟨h1, h2, h3, h4, h5⟩ := wom_facts h
  simp only at h1 h2 h3 h4 h5
  have hd : 0 ≤ (md + 2) % 4 ∧ (md + 2) % 4 ≤ 3 := emod_bd _ (by omega)
  have hset := wom_set h h3 h4 ((md + 2) % 4) (s := [49]) rfl rfl
  obtain ⟨f1, f2, f3, f4, _⟩ := wom_facts hset
  rw [wrap64_in (x := md + 2) (by omega), tmod_emod (by omega)]
  refine ⟨fun hq => no (by unfold bakB; rw [hq]; simp), fun hq => ⟨by decide, fun he => no (by unfold bakB; rw [he]; simp), fun he => ⟨by decide, ⟨h, inB_eq.2 h3, inB_eq.2 h4, inB_eq.2 hd⟩, fun hh => no (by unfold bakB; rw [hh]; simp), fun hh => ⟨by decide, ⟨h, inB_eq.2 h3, inB_eq.2 h4, inB_eq.2 hd, rfl⟩, ⟨inB_eq.2 f1, inB_eq.2 f2, inB_eq.2 f3, inB_eq.2 f4, .inr trivial⟩, ?_⟩⟩⟩⟩
  have e : bakB ⟨mw, mh, mr, mn, mx, my, md⟩ q = true := by
    unfold bakB; rw [h, hq, he, hh]; rfl
  rw [e]; exact retP_okwl (u := bakW ⟨mw, mh, mr, mn, mx, my, md⟩ q) rfl rfl
theorem bak_of {m : Wo} (h : womB m = true) (q : Int) : { movC (setA (trnC (crOf m) 2) [49]) with d := q } = crOf (bakW m q) := by
  obtain ⟨h1, h2, h3, h4, h5⟩ := wom_facts h
  have hs := setA_of h (c := trnC (crOf m) 2) rfl rfl rfl h3 h4 [49]
  have ex : (m.x + dirX ((m.d + 2) % 4)) % m.w = (m.x + -1 * dirX m.d) % m.w := by
    rcases four_cases h5 with e | e | e | e <;> rw [e] <;> simp [dirX]
  have ey : (m.y + dirY ((m.d + 2) % 4)) % m.h = (m.y + -1 * dirY m.d) % m.h := by
    rcases four_cases h5 with e | e | e | e <;> rw [e] <;> simp [dirY]
  have e : { movC (setA (trnC (crOf m) 2) [49]) with d := q } = (⟨[], m.w, m.h, [], (m.x + dirX ((m.d + 2) % 4)) % m.w, (m.y + dirY ((m.d + 2) % 4)) % m.h, q, (setA (trnC (crOf m) 2) [49]).l⟩ : Cr) := rfl
  rw [e, hs, ex, ey]
  rfl
theorem wom_bak {m : Wo} (h : womB m = true) {q : Int} (hq : 0 ≤ q ∧ q ≤ 3) : womB (bakW m q) = true := by
  obtain ⟨h1, h2, h3, h4, h5⟩ := wom_facts h
  exact wom_way (wom_go (wom_set h h3 h4 _ rfl rfl) _ _) hq
theorem vc_impl_GiveBack (mw mh : Int) (mr mn : List UInt8) (mx my md q : Int) (_ : True) : VC_impl_GiveBack mw mh mr mn mx my md q (retP (okWo (bakB ⟨mw, mh, mr, mn, mx, my, md⟩ q) (bakW ⟨mw, mh, mr, mn, mx, my, md⟩ q))) := by
  unfold VC_impl_GiveBack
  simp only [at_iff, true_and, and_true, Bool.not_eq_true', Bool.not_eq_false']
  have no : bakB ⟨mw, mh, mr, mn, mx, my, md⟩ q = false → retP (okWo (bakB ⟨mw, mh, mr, mn, mx, my, md⟩ q) (bakW ⟨mw, mh, mr, mn, mx, my, md⟩ q)) (.tup [woV zeroWo, .lit false]) := fun e => by
    rw [e]; exact retP_okwl (u := zeroWo) rfl rfl
  refine ⟨fun h => no (by unfold bakB; rw [h]; rfl), fun h => ?_⟩
  obtain ⟨h1, h2, h3, h4, h5⟩ := wom_facts h
  simp only at h1 h2 h3 h4 h5
  have hT := trn_crB (crB_of h) 2
  have hA : hasA (trnC (crOf ⟨mw, mh, mr, mn, mx, my, md⟩) 2) = hasW ⟨mw, mh, mr, mn, mx, my, md⟩ mx my ((md + 2) % 4) := hasA_of h (c := trnC (crOf ⟨mw, mh, mr, mn, mx, my, md⟩) 2) rfl rfl rfl h3 h4
  have hD : (trnC (crOf ⟨mw, mh, mr, mn, mx, my, md⟩) 2).d = (md + 2) % 4 := rfl
  have hq2 : ((md + 2) % 4 == q) = (q == (md + 2) % 4) := by rw [Bool.eq_iff_iff, beq_iff_eq, beq_iff_eq]; exact eq_comm
  rw [hA, hD, hq2]
  refine ⟨fun hq => no (by unfold bakB; rw [hq]; simp), fun hq => ⟨h, ⟨h5.1, h5.2, by omega, by omega⟩, hT, fun hh => no (by unfold bakB; rw [hh]; simp), fun hh => ⟨fun he => no (by unfold bakB; rw [he]; simp), fun he => ⟨⟨hT, rfl⟩, (crB_iff.1 hT).1, ?_⟩⟩⟩⟩
  have hb := bak_of h q
  have hwb := wom_bak h (inB_eq.1 hq)
  have e : bakB ⟨mw, mh, mr, mn, mx, my, md⟩ q = true := by
    unfold bakB; rw [h, hq, he, hh]; rfl
  rw [e]
  have hb2 : (⟨(movC (setA (trnC (crOf ⟨mw, mh, mr, mn, mx, my, md⟩) 2) (Array.toList #[49]))).r, (movC (setA (trnC (crOf ⟨mw, mh, mr, mn, mx, my, md⟩) 2) (Array.toList #[49]))).w, (movC (setA (trnC (crOf ⟨mw, mh, mr, mn, mx, my, md⟩) 2) (Array.toList #[49]))).h, (movC (setA (trnC (crOf ⟨mw, mh, mr, mn, mx, my, md⟩) 2) (Array.toList #[49]))).c, (movC (setA (trnC (crOf ⟨mw, mh, mr, mn, mx, my, md⟩) 2) (Array.toList #[49]))).x, (movC (setA (trnC (crOf ⟨mw, mh, mr, mn, mx, my, md⟩) 2) (Array.toList #[49]))).y, q, (movC (setA (trnC (crOf ⟨mw, mh, mr, mn, mx, my, md⟩) 2) (Array.toList #[49]))).l⟩ : Cr) = crOf (bakW ⟨mw, mh, mr, mn, mx, my, md⟩ q) := hb
  rw [hb2, wormC_of hwb]
  exact ⟨crB_of hwb, retP_okwl (u := bakW ⟨mw, mh, mr, mn, mx, my, md⟩ q) rfl rfl⟩
end Go.Vi
