/- Worms shifted: the conditions hold. -/
import Derived.Test.YtioppaofihbmpabDoorWGVc
import Derived.Test.YtioppaofihbmpabDoorWGSpec
namespace Go.Vi
set_option linter.unusedSimpArgs false
theorem cut_xy {w h i : Int} (hw : 3 ≤ w ∧ w ≤ 6) (hi : 0 ≤ i ∧ i < w * h) : (0 ≤ i % w ∧ i % w ≤ w - 1) ∧ (0 ≤ i / w ∧ i / w ≤ h - 1) ∧ i / w * w + i % w = i := by
  have hx := emod_bd i (m := w) (by omega)
  have hy : 0 ≤ i / w := Int.ediv_nonneg hi.1 (by omega)
  have hy2 : i / w < h := Int.ediv_lt_of_lt_mul (by omega) (by rw [Int.mul_comm]; exact hi.2)
  have he := Int.mul_ediv_add_emod i w
  rw [Int.mul_comm] at he
  exact ⟨hx, by omega, he⟩
theorem src_bd {w h right down j : Int} (hw : 3 ≤ w ∧ w ≤ 6) (hh : 3 ≤ h ∧ h ≤ 6) : 0 ≤ srcZ w h right down j ∧ srcZ w h right down j < w * h ∧ 0 ≤ (j / w - down) % h * w := by
  unfold srcZ
  exact cell_ix (by omega) (emod_bd _ (by omega)) (emod_bd _ (by omega))
theorem dst_bd {w h right down j : Int} (hw : 3 ≤ w ∧ w ≤ 6) (hh : 3 ≤ h ∧ h ≤ 6) : 0 ≤ dstZ w h right down j ∧ dstZ w h right down j < w * h ∧ 0 ≤ (j / w + down) % h * w := by
  unfold dstZ
  exact cell_ix (by omega) (emod_bd _ (by omega)) (emod_bd _ (by omega))
theorem mod_there {a d h : Int} (ha : 0 ≤ a ∧ a ≤ h - 1) : ((a - d) % h + d) % h = a := by
  rw [Int.emod_add_emod, Int.sub_add_cancel]
  exact Int.emod_eq_of_lt ha.1 (by omega)
theorem mod_back {a d h : Int} (ha : 0 ≤ a ∧ a ≤ h - 1) : ((a + d) % h - d) % h = a := by
  rw [Int.emod_sub_emod, Int.add_sub_cancel]
  exact Int.emod_eq_of_lt ha.1 (by omega)
theorem dst_src {w h right down j : Int} (hw : 3 ≤ w ∧ w ≤ 6) (hj : 0 ≤ j ∧ j < w * h) : dstZ w h right down (srcZ w h right down j) = j := by
  obtain ⟨hx, hy, he⟩ := cut_xy hw hj
  have hv := emod_bd (j % w - right) (m := w) (by omega)
  have hn := node_of (w := w) (x := (j % w - right) % w) (y := (j / w - down) % h) hw.1 hv
  unfold dstZ
  rw [show srcZ w h right down j = (j / w - down) % h * w + (j % w - right) % w from rfl, hn.1, hn.2, mod_there hx, mod_there hy, he]
theorem src_dst {w h right down i : Int} (hw : 3 ≤ w ∧ w ≤ 6) (hi : 0 ≤ i ∧ i < w * h) : srcZ w h right down (dstZ w h right down i) = i := by
  obtain ⟨hx, hy, he⟩ := cut_xy hw hi
  have hv := emod_bd (i % w + right) (m := w) (by omega)
  have hn := node_of (w := w) (x := (i % w + right) % w) (y := (i / w + down) % h) hw.1 hv
  unfold srcZ
  rw [show dstZ w h right down i = (i / w + down) % h * w + (i % w + right) % w from rfl, hn.1, hn.2, mod_back hx, mod_back hy, he]
theorem rel_len (w h right down : Int) (c : List UInt8) (i : Nat) : (relW w h right down c i).length = c.length := by simp [relW]
theorem rel_zero (w h right down : Int) (c : List UInt8) : relW w h right down c 0 = List.replicate c.length 0 := by
  unfold relW
  rw [List.eq_replicate_iff]
  refine ⟨by simp, fun x hx => ?_⟩
  obtain ⟨j, _, rfl⟩ := List.mem_map.1 hx
  rw [if_neg (by omega)]
theorem rel_get {w h right down : Int} {c : List UInt8} {i j : Nat} (hj : j < c.length) : (relW w h right down c i)[j]? = some (if srcI w h right down j < i then c.getD (srcI w h right down j) 0 else 0) := by
  unfold relW
  rw [List.getElem?_map, List.getElem?_range hj]; rfl
theorem rel_step {w h right down : Int} {c : List UInt8} (hw : 3 ≤ w ∧ w ≤ 6) (hh : 3 ≤ h ∧ h ≤ 6) (hc : (c.length : Int) = w * h) {i : Nat} (hi : i < c.length) :
    (relW w h right down c i).set (dstZ w h right down i).toNat (c.getD i 0) = relW w h right down c (i + 1) := by
  have hd := dst_bd (right := right) (down := down) (j := (i : Nat)) hw hh
  have hsd := src_dst (h := h) (right := right) (down := down) (i := (i : Nat)) hw (by omega)
  have hs : srcI w h right down (dstZ w h right down i).toNat = i := by
    unfold srcI
    rw [show (((dstZ w h right down i).toNat : Nat) : Int) = dstZ w h right down i by omega, hsd]
    omega
  apply List.ext_getElem?
  intro j
  by_cases hj : j < c.length
  · rw [List.getElem?_set, rel_len, rel_get hj, rel_get hj]
    by_cases he : (dstZ w h right down i).toNat = j
    · rw [if_pos he, if_pos (by omega), ← he, hs, if_pos (by omega)]
    · rw [if_neg he]
      have hne : srcI w h right down j ≠ i := fun e => by
        have h1 := dst_src (h := h) (right := right) (down := down) (j := (j : Nat)) hw (by omega)
        have h2 := src_bd (right := right) (down := down) (j := (j : Nat)) hw hh
        unfold srcI at e
        have e2 : srcZ w h right down (j : Nat) = (i : Nat) := by omega
        rw [e2] at h1
        omega
      by_cases hl : srcI w h right down j < i
      · rw [if_pos hl, if_pos (by omega)]
      · rw [if_neg hl, if_neg (by omega)]
  · rw [List.getElem?_eq_none (by rw [List.length_set, rel_len]; omega), List.getElem?_eq_none (by rw [rel_len]; omega)]
theorem rel_end {w h right down : Int} {c : List UInt8} (hw : 3 ≤ w ∧ w ≤ 6) (hh : 3 ≤ h ∧ h ≤ 6) (hc : (c.length : Int) = w * h) : relW w h right down c c.length = shTxt w h right down c c.length := by
  unfold relW shTxt
  refine List.map_congr_left fun j _ => ?_
  have h2 := src_bd (right := right) (down := down) (j := (j : Nat)) hw hh
  rw [if_pos (by unfold srcI; omega)]
theorem sh_succ (w h right down : Int) (c : List UInt8) (k : Nat) : shTxt w h right down c (k + 1) = shTxt w h right down c k ++ [c.getD (srcI w h right down k) 0] := by
  unfold shTxt; rw [List.range_succ, List.map_append]; rfl
theorem sh_len (w h right down : Int) (c : List UInt8) (k : Nat) : (shTxt w h right down c k).length = k := by simp [shTxt]
theorem sh_step {w h right down : Int} {c : List UInt8} (hw : 3 ≤ w ∧ w ≤ 6) (hh : 3 ≤ h ∧ h ≤ 6) (hc : (c.length : Int) = w * h) {i : Int} (h0 : 0 ≤ i) :
    (c.take ((srcZ w h right down i).toNat + 1)).drop (srcZ w h right down i).toNat = [c.getD (srcI w h right down i.toNat) 0] ∧ ((i.toNat : Nat) : Int) = i := by
  have hb := src_bd (right := right) (down := down) (j := i) hw hh
  have hi : ((i.toNat : Nat) : Int) = i := by omega
  refine ⟨?_, hi⟩
  rw [take_drop1 (by omega)]
  unfold srcI
  rw [hi]
theorem nd_iff {m : Wo} {x y : Int} : ndB m x y = true ↔ womB m = true ∧ (0 ≤ x ∧ x ≤ m.w - 1) ∧ (0 ≤ y ∧ y ≤ m.h - 1) := by
  unfold ndB
  simp only [Bool.and_eq_true, inB_eq, and_assoc]
theorem vc_spec_ShiftWorm (mw mh : Int) (mr mn : List UInt8) (mx my md right down : Int) (_ : True) : VC_spec_ShiftWorm mw mh mr mn mx my md right down
    (retP (okWo (ndB ⟨mw, mh, mr, mn, mx, my, md⟩ right down) (shW ⟨mw, mh, mr, mn, mx, my, md⟩ right down))) := by
  unfold VC_spec_ShiftWorm
  simp only [at_iff, true_and, and_true, Bool.not_eq_true', Bool.not_eq_false']
  have no : ndB ⟨mw, mh, mr, mn, mx, my, md⟩ right down = false → retP (okWo (ndB ⟨mw, mh, mr, mn, mx, my, md⟩ right down) (shW ⟨mw, mh, mr, mn, mx, my, md⟩ right down)) (.tup [woV zeroWo, .lit false]) := fun e => by
    rw [e]; exact retP_okwl (u := zeroWo) rfl rfl
  refine ⟨fun h => no (by unfold ndB; rw [h]; rfl), fun hm => ?_⟩
  obtain ⟨hw, hh, hx, hy, hd⟩ := wom_facts hm
  have hl := wom_len hm
  simp only at hw hh hx hy hd hl
  rw [wrap64_in (x := mw - 1) (by omega), wrap64_in (x := mh - 1) (by omega)]
  refine ⟨fun h => no (by unfold ndB; rw [h]; simp), fun h1 => ⟨fun h => no (by unfold ndB; rw [h]; simp), fun h2 => ?_⟩⟩
  have hnd : ndB ⟨mw, mh, mr, mn, mx, my, md⟩ right down = true := by unfold ndB; rw [hm, h1, h2]; rfl
  have hr := inB_eq.1 h1
  have hdn := inB_eq.1 h2
  refine ⟨by simp [shTxt], ⟨hnd, by omega, by omega⟩, fun i hi => ⟨fun hlt => ?_, fun hge => ?_⟩⟩
  · have hlt := of_decide_eq_true hlt
    have h0 := hi.2.1
    obtain ⟨cx, cy, _⟩ := cut_xy (w := mw) (h := mh) hw ⟨h0, by omega⟩
    have e1 := emod_bd (i / mw - down) (m := mh) (by omega)
    have e2 := emod_bd (i % mw - right) (m := mw) (by omega)
    have hs := src_bd (right := right) (down := down) (j := i) hw hh
    have hz : (i / mw - down) % mh * mw + (i % mw - right) % mw = srcZ mw mh right down i := rfl
    have t1 := sh_step (right := right) (down := down) (c := mr) hw hh (by omega) h0
    have t2 := sh_step (right := right) (down := down) (c := mn) hw hh (by omega) h0
    rw [tdiv_ediv h0, tmod_emod h0, wrap64_in (x := i / mw) (by omega), wrap64_in (x := i / mw - down) (by omega), wrap64_in (x := i % mw - right) (by omega), wrap64_in (x := (i / mw - down) % mh * mw) (by omega), hz, wrap64_in (x := srcZ mw mh right down i) (by omega), wrap64_in (x := srcZ mw mh right down i + 1) (by omega), wrap64_in (x := i + 1) (by omega),
      show (srcZ mw mh right down i + 1).toNat = (srcZ mw mh right down i).toNat + 1 by omega, t1.1, t2.1, show (i + 1).toNat = i.toNat + 1 by omega, sh_succ, sh_succ, sh_len, sh_len]
    have hne : mw ≠ 0 := by omega
    simp only [List.length_singleton]
    refine ⟨hne, ⟨by omega, by omega, by omega, by omega⟩, hne, ⟨by omega, by omega, by omega, by omega⟩, ⟨by omega, by omega, by omega⟩, by omega, ⟨by omega, by omega, by omega⟩, by omega, ⟨trivial, trivial⟩, ⟨hnd, by omega, by show (i + 1 : Int) ≤ (mr.length : Nat); omega⟩, by omega⟩
  · have hge := of_decide_eq_false hge
    obtain ⟨_, k0, k1⟩ := hi
    simp only at k1
    have hn : i.toNat = mr.length := by omega
    have hwz : mw ≠ 0 := by omega
    have hhz : mh ≠ 0 := by omega
    rw [hn, wrap64_in (x := mx + right) (by omega), wrap64_in (x := my + down) (by omega), tmod_emod (by omega), tmod_emod (by omega), hnd]
    refine ⟨hwz, hhz, retP_okwl (u := shW ⟨mw, mh, mr, mn, mx, my, md⟩ right down) rfl rfl⟩
theorem vc_impl_ShiftWorm_1 (x y right down mw mh : Int) (mr mn : List UInt8) (mx my md : Int) (h : womB ⟨mw, mh, mr, mn, mx, my, md⟩ = true ∧ 0 ≤ x ∧ x ≤ 9 ∧ 0 ≤ y ∧ y ≤ 9 ∧ 0 ≤ right ∧ right ≤ 9 ∧ 0 ≤ down ∧ down ≤ 9) : VC_impl_ShiftWorm_1 x y right down mw mh mr mn mx my md
    (retG 3 (.tup [.int .i64 ((x + right) % mw), .int .i64 ((y + down) % mh)]) [⟨.vals [.int .i64 right], 3, .box⟩, ⟨.vals [.int .i64 mw, .int .i64 mh, .str mr, .str mn, .int .i64 mx, .int .i64 my, .int .i64 md], 28, .box⟩, ⟨.vals [.int .i64 down], 3, .box⟩]) := by
  obtain ⟨hg, h1⟩ := h
  obtain ⟨hw, hh, _⟩ := wom_facts hg
  simp only at hw hh
  unfold VC_impl_ShiftWorm_1
  rw [wrap64_in (x := x + right) (by omega), wrap64_in (x := y + down) (by omega), tmod_emod (by omega), tmod_emod (by omega)]
  refine ⟨trivial, ⟨by omega⟩, ⟨by omega⟩, ?_⟩
  unfold retG leSel leSelBy autoSel
  simp [pairsL, pairsV, idPairs, pairsIn, selOf, lookN, selMem, chkB, nodupSel, hasSel, prefSel, leSt, leL, leV, nilToL, V.nilTo, selL, V.sel, Cells.selN, leMem, leCells, memUnder, underL, V.under]
theorem vc_impl_ShiftWorm (mw mh : Int) (mr mn : List UInt8) (mx my md right down : Int) (_ : True) : VC_impl_ShiftWorm mw mh mr mn mx my md right down
    (retP (okWo (ndB ⟨mw, mh, mr, mn, mx, my, md⟩ right down) (shW ⟨mw, mh, mr, mn, mx, my, md⟩ right down))) := by
  unfold VC_impl_ShiftWorm
  simp only [at_iff, true_and, and_true, Bool.not_eq_true', Bool.not_eq_false', Int.toNat_natCast]
  have no : ndB ⟨mw, mh, mr, mn, mx, my, md⟩ right down = false → retP (okWo (ndB ⟨mw, mh, mr, mn, mx, my, md⟩ right down) (shW ⟨mw, mh, mr, mn, mx, my, md⟩ right down)) (.tup [woV zeroWo, .lit false]) := fun e => by
    rw [e]; exact retP_okwl (u := zeroWo) rfl rfl
  refine ⟨fun h => no (by unfold ndB; rw [h]; rfl), fun hm => ?_⟩
  obtain ⟨hw, hh, hx, hy, hd⟩ := wom_facts hm
  have hl := wom_len hm
  simp only at hw hh hx hy hd hl
  refine ⟨⟨inB_eq.2 hw, inB_eq.2 hh⟩, fun h => no (by unfold ndB; rw [Bool.and_assoc, h]; simp), fun h1 => ?_⟩
  have hnd : ndB ⟨mw, mh, mr, mn, mx, my, md⟩ right down = true := by unfold ndB; rw [Bool.and_assoc, hm]; exact h1
  obtain ⟨_, hr, hdn⟩ := nd_iff.1 hnd
  simp only at hr hdn
  have hne : mw ≠ 0 := by omega
  have body : ∀ c : List UInt8, (c.length : Int) = mw * mh → ∀ i : Int, 0 ≤ i → i < c.length → ((0 ≤ i % mw ∧ i % mw ≤ mw - 1) ∧ (0 ≤ i / mw ∧ i / mw ≤ mh - 1)) ∧
      IntKind.wrap .i64 (IntKind.wrap .i64 ((i / mw + down) % mh * mw) + (i % mw + right) % mw) = dstZ mw mh right down i ∧ (0 ≤ dstZ mw mh right down i ∧ dstZ mw mh right down i < c.length) ∧
      (relW mw mh right down c i.toNat).set (dstZ mw mh right down i).toNat (c.getD i.toNat 0) = relW mw mh right down c (i.toNat + 1) := fun c hc i h0 hi => by
    obtain ⟨cx, cy, _⟩ := cut_xy (w := mw) (h := mh) hw ⟨h0, by omega⟩
    have hdb := dst_bd (right := right) (down := down) (j := i) hw hh
    have e2 := emod_bd (i % mw + right) (m := mw) (by omega)
    have hz : (i / mw + down) % mh * mw + (i % mw + right) % mw = dstZ mw mh right down i := rfl
    have hst := rel_step (right := right) (down := down) hw hh hc (i := i.toNat) (by omega)
    rw [show ((i.toNat : Nat) : Int) = i by omega] at hst
    refine ⟨⟨cx, cy⟩, ?_, by omega, hst⟩
    rw [wrap64_in (x := (i / mw + down) % mh * mw) (by omega), hz, wrap64_in (by omega)]
  refine ⟨by omega, by rw [Int.toNat_zero, rel_zero], ⟨by omega, by omega⟩, fun i hi => ⟨fun hlt => ?_, fun hge => ?_⟩⟩
  · have hlt := of_decide_eq_true hlt
    have h0 := hi.1
    obtain ⟨⟨b1, b2⟩, b3, b4, b5⟩ := body mr (by omega) i h0 hlt
    have hu := byte_lt (mr.getD i.toNat 0)
    rw [tdiv_ediv h0, tmod_emod h0, wrap64_in (x := i / mw) (by omega), b3, UInt8.ofNat_toNat, b5, wrap64_in (x := i + 1) (by omega), show (i + 1).toNat = i.toNat + 1 by omega, rel_len]
    refine ⟨hne, hne, ⟨hm, by omega, by omega, by omega, by omega, by omega, by omega, by omega, by omega⟩, by omega, ⟨b4.1, b4.2⟩, ⟨by omega, by omega, by omega⟩, rfl, ⟨by omega, by omega⟩, by omega⟩
  · have hge := of_decide_eq_false hge
    obtain ⟨k0, k1⟩ := hi
    have hni : i.toNat = mr.length := by omega
    rw [hni, rel_end hw hh (by omega)]
    refine ⟨by rw [sh_len]; omega, by omega, by rw [Int.toNat_zero, rel_zero], ⟨by omega, by omega⟩, fun j hj => ⟨fun hlt => ?_, fun hge2 => ?_⟩⟩
    · have hlt := of_decide_eq_true hlt
      have h0 := hj.1
      obtain ⟨⟨b1, b2⟩, b3, b4, b5⟩ := body mn (by omega) j h0 hlt
      have hu := byte_lt (mn.getD j.toNat 0)
      rw [tdiv_ediv h0, tmod_emod h0, wrap64_in (x := j / mw) (by omega), b3, UInt8.ofNat_toNat, b5, wrap64_in (x := j + 1) (by omega), show (j + 1).toNat = j.toNat + 1 by omega, rel_len]
      refine ⟨hne, hne, ⟨hm, by omega, by omega, by omega, by omega, by omega, by omega, by omega, by omega⟩, by omega, ⟨b4.1, b4.2⟩, ⟨by omega, by omega, by omega⟩, rfl, ⟨by omega, by omega⟩, by omega⟩
    · have hge2 := of_decide_eq_false hge2
      obtain ⟨j0, j1⟩ := hj
      have hnj : j.toNat = mn.length := by omega
      rw [hnj, rel_end hw hh (by omega), List.take_of_length_le (by rw [sh_len]; omega), List.take_of_length_le (by rw [sh_len]; omega), hnd]
      refine ⟨by rw [sh_len]; omega, ⟨hm, by omega, by omega, by omega, by omega, by omega, by omega, by omega, by omega⟩, ?_⟩
      have h : retP (okWo true (shW ⟨mw, mh, mr, mn, mx, my, md⟩ right down)) (.tup [woV (shW ⟨mw, mh, mr, mn, mx, my, md⟩ right down), .lit true]) := retP_okwl rfl rfl
      have hnn : mn.length = mr.length := by omega
      rw [hnn]
      exact h
end Go.Vi
