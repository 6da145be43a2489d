/- PlainOfWorld's conditions hold. -/
import Derived.Test.YtbchncdchanomaaG1Vc
import Derived.Test.YtbchncdchanomaaG1Spec
namespace Go.Vi
theorem tmod_emod {a b : Int} (ha : 0 ≤ a) : Int.tmod a b = a % b := Int.tmod_eq_emod_of_nonneg ha
theorem flat_mod {x y w : Int} (hx : 0 ≤ x ∧ x < w) : (y * w + x) % w = x := by
  rw [Int.add_comm, Int.add_mul_emod_self_right, Int.emod_eq_of_lt hx.1 hx.2]
theorem flat_div {x y w : Int} (hx : 0 ≤ x ∧ x < w) : (y * w + x) / w = y := by
  rw [Int.add_comm, Int.add_mul_ediv_right _ _ (by omega), Int.ediv_eq_zero_of_lt hx.1 hx.2, Int.zero_add]
theorem flat_bd {x y w h : Int} (hx : 0 ≤ x ∧ x < w) (hy : 0 ≤ y ∧ y < h) : 0 ≤ y * w + x ∧ y * w + x < w * h := by
  have h1 : 0 ≤ y * w := Int.mul_nonneg hy.1 (by omega)
  have h2 : (y + 1) * w ≤ h * w := Int.mul_le_mul_of_nonneg_right (by omega) (by omega)
  rw [Int.add_mul, Int.one_mul, Int.mul_comm h w] at h2
  omega
theorem cut_bd {i w h : Int} (hi : 0 ≤ i ∧ i < w * h) (hw : 1 ≤ w) : (0 ≤ i % w ∧ i % w < w) ∧ (0 ≤ i / w ∧ i / w < h) := by
  refine ⟨⟨Int.emod_nonneg _ (by omega), Int.emod_lt_of_pos _ (by omega)⟩, Int.ediv_nonneg hi.1 (by omega), ?_⟩
  exact Int.ediv_lt_of_lt_mul (by omega) (by rw [Int.mul_comm]; exact hi.2)
theorem spF_len (w : Wd) : ∀ k, (spF w k).length = 3 * cntS w k
  | 0 => rfl
  | k + 1 => by
    simp only [spF, cntS, List.length_append, spF_len w k]
    cases ((w.c.getD k 0).toNat : Int) - 48 == 0
    · simp; omega
    · simp
theorem cntS_le (w : Wd) : ∀ k, cntS w k ≤ k
  | 0 => Nat.le_refl _
  | k + 1 => by
    have := cntS_le w k
    simp only [cntS]
    cases ((w.c.getD k 0).toNat : Int) - 48 == 0
    · simp; omega
    · simp; omega
theorem sp_step {w : Wd} {i : Int} (h0 : 0 ≤ i) (hc : (((w.c.getD i.toNat 0).toNat : Int) - 48 == 0) = false) :
    spF w i.toNat ++ List.take (1 * 3) [i % w.w, i / w.w, ((w.c.getD i.toNat 0).toNat : Int) - 48] = spF w (i + 1).toNat ∧ cntS w i.toNat + 1 = cntS w (i + 1).toNat := by
  rw [show (i + 1).toNat = i.toNat + 1 by omega]
  simp only [spF, cntS, hc, cond_false, Int.toNat_of_nonneg h0]
  exact ⟨rfl, trivial⟩
theorem sp_stay {w : Wd} {i : Int} (h0 : 0 ≤ i) (hc : (((w.c.getD i.toNat 0).toNat : Int) - 48 == 0) = true) :
    spF w i.toNat = spF w (i + 1).toNat ∧ cntS w i.toNat = cntS w (i + 1).toNat := by
  rw [show (i + 1).toNat = i.toNat + 1 by omega]
  simp only [spF, cntS, hc, cond_true, List.append_nil, Nat.add_zero]
  exact ⟨trivial, trivial⟩
theorem retG_pw {s : List UInt8} {n : Nat} {x y d : Int} {l : List Int} {b0 b1 b2 : Blk} {e : TypeId} : retG 0 (.tup [.agg [.str s, .row 0 n, .int .i64 x, .int .i64 y, .int .i64 d], .bool true]) [⟨.ints .i64 l, e, .rows 3⟩]
    (.tup [.agg [.str s, .row 3 n, .int .i64 x, .int .i64 y, .int .i64 d], .lit true]) [b0, b1, b2, ⟨.ints .i64 l, e, .rows 3⟩] := by
  unfold retG leSel leSelBy autoSel
  simp [pairsL, pairsV, idPairs, pairsIn, selOf, lookN, selMem, chkB, nodupSel, hasSel, prefSel, leSt, leL, leV, nilToL, V.nilTo, isNilS, findSel, selL, V.sel, Cells.selN, leMem, leCells, memUnder, underL, V.under]
  exact trivial
theorem retG_pw0 {b0 b1 : Blk} {e : TypeId} : retG 0 (.tup [.agg [.str [], .row 0 0, .int .i64 0, .int .i64 0, .int .i64 0], .bool false]) [⟨.ints .i64 [], e, .rows 3⟩] (.tup [.agg [.str [], .raw (.slice none 0 0), .int .i64 0, .int .i64 0, .int .i64 0], .lit false]) [b0, b1] := by
  unfold retG leSel leSelBy autoSel
  simp [pairsL, pairsV, idPairs, pairsIn, selOf, lookN, selMem, chkB, nodupSel, prefSel, leSt, leL, leV, nilToL, V.nilTo, isNilS, isGhost, selL, V.sel, Cells.none0, leMem, leCells, memUnder, underL, V.under, Kind.isRow]
  exact trivial
theorem pw_facts {w : Wd} (hg : goodB w = true) {i : Int} (hi : 0 ≤ i ∧ i < w.c.length) : 48 ≤ ((w.c.getD i.toNat 0).toNat : Int) ∧ w.c.length ≤ 81 := by
  have h1 := col_bd hg (i := i.toNat) (by omega)
  have h2 := good_bd hg
  have := mul_bd h2.1 h2.2.1
  omega
theorem vc_impl_PlainOfWorld (wr : List UInt8) (ww wh : Int) (wc : List UInt8) (wx wy wd : Int) (_ : True) : VC_impl_PlainOfWorld wr ww wh wc wx wy wd
    (retG 0 (.tup [.agg [.str (bif goodB ⟨wr, ww, wh, wc, wx, wy, wd⟩ then wr else []), .row 0 (bif goodB ⟨wr, ww, wh, wc, wx, wy, wd⟩ then cntS ⟨wr, ww, wh, wc, wx, wy, wd⟩ (ww * wh).toNat else 0), .int .i64 (bif goodB ⟨wr, ww, wh, wc, wx, wy, wd⟩ then wx else 0), .int .i64 (bif goodB ⟨wr, ww, wh, wc, wx, wy, wd⟩ then wy else 0), .int .i64 (bif goodB ⟨wr, ww, wh, wc, wx, wy, wd⟩ then wd else 0)], .bool (goodB ⟨wr, ww, wh, wc, wx, wy, wd⟩)]) [⟨.ints .i64 (bif goodB ⟨wr, ww, wh, wc, wx, wy, wd⟩ then spF ⟨wr, ww, wh, wc, wx, wy, wd⟩ (ww * wh).toNat else nilI), 61, .rows 3⟩]) := by
  unfold VC_impl_PlainOfWorld
  refine ⟨⟨trivial⟩, fun hg => ?_, fun hg => ?_⟩
  · simp only [Bool.not_eq_true'] at hg
    rw [hg]
    exact retG_pw0
  · simp only [Bool.not_eq_false'] at hg
    have hb := good_bd hg
    simp only at hb
    rw [hg]
    simp only [cond_true]
    refine ⟨by simp [spF], ⟨by omega, by omega⟩, fun i hi => ⟨fun hc => ?_, fun hc => ?_⟩⟩
    · have hc := of_decide_eq_true hc
      have ha := hi.1
      have hf := pw_facts hg ⟨ha, hc⟩
      simp only at hf
      obtain ⟨hqx, hqy⟩ := cut_bd (w := ww) (h := wh) (i := i) ⟨ha, by omega⟩ (by omega)
      have hu8 := byte_lt (wc.getD i.toNat 0)
      have hle := cntS_le ⟨wr, ww, wh, wc, wx, wy, wd⟩ i.toNat
      have hlen := spF_len ⟨wr, ww, wh, wc, wx, wy, wd⟩ i.toNat
      have hinv : pwInv ⟨wr, ww, wh, wc, wx, wy, wd⟩ (i + 1) := ⟨by omega, by simp only; omega⟩
      have hms : ((wc.length : Int) - (i + 1)).toNat < ((wc.length : Int) - i).toNat := by omega
      rw [wrap64_in (x := i + 1) (by omega), wrap64_in (x := Int.tdiv i ww) (by rw [Int.tdiv_eq_ediv_of_nonneg ha]; omega), tmod_emod ha, Int.tdiv_eq_ediv_of_nonneg ha]
      refine ⟨⟨ha, hc⟩, ⟨by omega, by omega⟩, fun hn => ?_, fun he => ?_⟩
      · have hz : (((wc.getD i.toNat 0).toNat : Int) - 48 == 0) = false := by simpa [bne] using hn
        obtain ⟨s1, s2⟩ := sp_step (w := ⟨wr, ww, wh, wc, wx, wy, wd⟩) ha hz
        simp only at s1
        have hA : At (((spF ⟨wr, ww, wh, wc, wx, wy, wd⟩ i.toNat).length = cntS ⟨wr, ww, wh, wc, wx, wy, wd⟩ i.toNat * 3 ∧ 1 * 3 ≤ [i % ww, i / ww, ((wc.getD i.toNat 0).toNat : Int) - 48].length) ∧ 0 < 1 ∧ cntS ⟨wr, ww, wh, wc, wx, wy, wd⟩ (i + 1).toNat ≤ 1000000000) := ⟨⟨by omega, by simp⟩, by omega, by omega⟩
        have hW : At (ww ≠ 0) := ⟨by omega⟩
        have hI : At (pwInv ⟨wr, ww, wh, wc, wx, wy, wd⟩ (i + 1) ∧ ((wc.length : Int) - (i + 1)).toNat < ((wc.length : Int) - i).toNat) := ⟨hinv, hms⟩
        simp only [s1, s2, hA, hW, hI, and_self]
      · have hz : (((wc.getD i.toNat 0).toNat : Int) - 48 == 0) = true := by simpa [bne] using he
        obtain ⟨s1, s2⟩ := sp_stay (w := ⟨wr, ww, wh, wc, wx, wy, wd⟩) ha hz
        rw [← s1, ← s2]
        exact ⟨by simp, ⟨hinv, hms⟩⟩
    · have hc := of_decide_eq_false hc
      have e : i.toNat = (ww * wh).toNat := by
        have := hi.2
        simp only at this
        omega
      rw [e]
      exact retG_pw
theorem vc_spec_PlainOfWorld (wr : List UInt8) (ww wh : Int) (wc : List UInt8) (wx wy wd : Int) (_ : True) : VC_spec_PlainOfWorld wr ww wh wc wx wy wd
    (retG 0 (.tup [.agg [.str (bif goodB ⟨wr, ww, wh, wc, wx, wy, wd⟩ then wr else []), .row 0 (bif goodB ⟨wr, ww, wh, wc, wx, wy, wd⟩ then cntS ⟨wr, ww, wh, wc, wx, wy, wd⟩ (ww * wh).toNat else 0), .int .i64 (bif goodB ⟨wr, ww, wh, wc, wx, wy, wd⟩ then wx else 0), .int .i64 (bif goodB ⟨wr, ww, wh, wc, wx, wy, wd⟩ then wy else 0), .int .i64 (bif goodB ⟨wr, ww, wh, wc, wx, wy, wd⟩ then wd else 0)], .bool (goodB ⟨wr, ww, wh, wc, wx, wy, wd⟩)]) [⟨.ints .i64 (bif goodB ⟨wr, ww, wh, wc, wx, wy, wd⟩ then spF ⟨wr, ww, wh, wc, wx, wy, wd⟩ (ww * wh).toNat else nilI), 61, .rows 3⟩]) := by
  unfold VC_spec_PlainOfWorld
  refine ⟨⟨trivial⟩, fun hg => ?_, fun hg => ?_⟩
  · simp only [Bool.not_eq_true'] at hg
    rw [hg]
    exact retG_pw0
  · simp only [Bool.not_eq_false'] at hg
    have hb := good_bd hg
    simp only at hb
    rw [hg]
    simp only [cond_true]
    refine ⟨by simp [spF, cntS], ⟨by omega, by simp only; omega⟩, fun y hy => ⟨fun hc => ⟨by simp, ⟨?_⟩, fun x hx => ⟨fun hcx => ?_, fun hcx => ?_⟩⟩, fun hc => ?_⟩⟩
    · have hc := of_decide_eq_true hc
      exact ⟨hy.1, hc, by omega, by simp only; omega⟩
    · have hc := of_decide_eq_true hc
      have hcx := of_decide_eq_true hcx
      obtain ⟨_, _, hx0, _⟩ := hx
      have hy0 := hy.1
      have hfl := flat_bd (x := x) (y := y) (w := ww) (h := wh) ⟨hx0, hcx⟩ ⟨hy0, hc⟩
      have hh : hasB ⟨wr, ww, wh, wc, wx, wy, wd⟩ x y = true := by unfold hasB; rw [inB_eq.2 (by simp only; omega), inB_eq.2 (by simp only; omega)]; rfl
      have hf := pw_facts hg (i := y * ww + x) (by simp only; omega)
      simp only at hf
      have hle := cntS_le ⟨wr, ww, wh, wc, wx, wy, wd⟩ (y * ww + x).toNat
      have hlen := spF_len ⟨wr, ww, wh, wc, wx, wy, wd⟩ (y * ww + x).toNat
      have hinv : iwInv ⟨wr, ww, wh, wc, wx, wy, wd⟩ y (x + 1) := ⟨hy0, hc, by omega, by simp only; omega⟩
      have hms : (ww - (x + 1)).toNat < (ww - x).toNat := by omega
      have ecol : colAt ⟨wr, ww, wh, wc, wx, wy, wd⟩ x y = ((wc.getD (y * ww + x).toNat 0).toNat : Int) - 48 := rfl
      rw [wrap64_in (x := x + 1) (by omega), ecol]
      refine ⟨⟨trivial, hh⟩, fun hn => ?_, fun he => ?_⟩
      · have hn := of_decide_eq_true hn
        have hz : (((wc.getD (y * ww + x).toNat 0).toNat : Int) - 48 == 0) = false := by rw [beq_eq_false_iff_ne]; omega
        obtain ⟨s1, s2⟩ := sp_step (w := ⟨wr, ww, wh, wc, wx, wy, wd⟩) hfl.1 hz
        simp only [flat_mod (y := y) (show 0 ≤ x ∧ x < ww from ⟨hx0, hcx⟩), flat_div (y := y) (show 0 ≤ x ∧ x < ww from ⟨hx0, hcx⟩)] at s1
        rw [s1, s2, show y * ww + (x + 1) = y * ww + x + 1 by omega]
        exact ⟨⟨⟨by omega, by simp⟩, by omega, by omega⟩, by simp, ⟨hinv, hms⟩⟩
      · have he := of_decide_eq_false he
        have hz : (((wc.getD (y * ww + x).toNat 0).toNat : Int) - 48 == 0) = true := by rw [beq_iff_eq]; omega
        obtain ⟨s1, s2⟩ := sp_stay (w := ⟨wr, ww, wh, wc, wx, wy, wd⟩) hfl.1 hz
        rw [show y * ww + (x + 1) = y * ww + x + 1 by omega, ← s1, ← s2]
        exact ⟨by simp, ⟨hinv, hms⟩⟩
    · have hcx := of_decide_eq_false hcx
      obtain ⟨g1, g2, g3, g4⟩ := hx
      simp only at g2 g4
      have e : x = ww := by omega
      subst e
      rw [wrap64_in (x := y + 1) (by omega), show y * x + x = (y + 1) * x by rw [Int.add_mul, Int.one_mul]]
      refine ⟨by simp, ⟨⟨by omega, by simp only; omega⟩, by omega⟩⟩
    · have hc := of_decide_eq_false hc
      obtain ⟨g1, g2⟩ := hy
      simp only at g2
      have e : y = wh := by omega
      subst e
      rw [Int.mul_comm y ww]
      exact retG_pw
end Go.Vi
