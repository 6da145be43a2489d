/- Boards laid anew: the conditions hold. -/
import Derived.Test.YteleacldecambaaM2Vc
import Derived.Test.YteleacldecambaaM2Spec
namespace Go.Vi
theorem vc_spec_woZeros (n : Int) (h : 0 ≤ n ∧ n ≤ 1000) : VC_spec_woZeros n (retP (.str (List.replicate n.toNat 48))) := by
  unfold VC_spec_woZeros
  refine ⟨by simp, ⟨by omega, by omega, by omega⟩, fun m hm => ⟨fun hc => ?_, fun hc => ?_⟩⟩
  · have hc := of_decide_eq_true hc
    obtain ⟨h1, h2, h3⟩ := hm
    rw [wrap64_in (x := m - 1) (by omega)]
    refine ⟨⟨by simp only [List.length_replicate, List.length_cons, List.length_nil]; omega⟩, ?_, ⟨⟨by omega, by omega, by omega⟩, by omega⟩⟩
    have e : (n - (m - 1)).toNat = (n - m).toNat + 1 := by omega
    rw [e, List.replicate_succ']
    simp
  · have hc := of_decide_eq_false hc
    obtain ⟨h1, h2, h3⟩ := hm
    rw [retP_str, show n - m = n by omega]
/-! ### rows and columns -/
theorem flat_mod {x y w : Int} (hx : 0 ≤ x ∧ x < w) : (y * w + x) % w = x := by
  rw [Int.add_comm, Int.add_mul_emod_self_right, Int.emod_eq_of_lt hx.1 hx.2]
theorem flat_div {x y w : Int} (hx : 0 ≤ x ∧ x < w) : (y * w + x) / w = y := by
  rw [Int.add_comm, Int.add_mul_ediv_right _ _ (by omega), Int.ediv_eq_zero_of_lt hx.1 hx.2, Int.zero_add]
theorem flat_bd {x y w h : Int} (hx : 0 ≤ x ∧ x < w) (hy : 0 ≤ y ∧ y < h) : 0 ≤ y * w + x ∧ y * w + x < w * h := by
  have h1 : 0 ≤ y * w := Int.mul_nonneg hy.1 (by omega)
  have h2 : (y + 1) * w ≤ h * w := Int.mul_le_mul_of_nonneg_right (by omega) (by omega)
  rw [Int.add_mul, Int.one_mul, Int.mul_comm h w] at h2
  omega
theorem cut_bd {i w h : Int} (hi : 0 ≤ i ∧ i < w * h) (hw : 1 ≤ w) : (0 ≤ i % w ∧ i % w < w) ∧ (0 ≤ i / w ∧ i / w < h) := by
  refine ⟨⟨Int.emod_nonneg _ (by omega), Int.emod_lt_of_pos _ (by omega)⟩, Int.ediv_nonneg hi.1 (by omega), ?_⟩
  exact Int.ediv_lt_of_lt_mul (by omega) (by rw [Int.mul_comm]; exact hi.2)
theorem rlF_len (pl : Int → Int → Int × Int) (ww width : Int) (c init : List UInt8) : ∀ k, (rlF pl ww width c init k).length = init.length
  | 0 => rfl
  | k + 1 => by simp [rlF, rlF_len pl ww width c init k]
theorem ixP_at {pl : Int → Int → Int × Int} {ww width x y : Int} (hx : 0 ≤ x ∧ x < ww) (h0 : 0 ≤ y * ww + x) : ixP pl ww width (y * ww + x).toNat = ((pl x y).2 * width + (pl x y).1).toNat := by
  unfold ixP
  rw [Int.toNat_of_nonneg h0, flat_mod hx, flat_div hx]
theorem all_set {p : UInt8 → Bool} {l : List UInt8} {i : Nat} {v : UInt8} (h : l.all p = true) (hv : p v = true) : (l.set i v).all p = true := by
  rw [List.all_eq_true] at h ⊢
  intro x hx
  rcases List.mem_or_eq_of_mem_set hx with h' | rfl
  · exact h x h'
  · exact hv
theorem rlF_cols {pl : Int → Int → Int × Int} {ww width n : Int} {c init : List UInt8} (hc : colsB c n = true) (hi : colsB init n = true) : ∀ k, k ≤ c.length → colsB (rlF pl ww width c init k) n = true
  | 0, _ => hi
  | k + 1, hk => by
    unfold colsB at hc hi ⊢
    refine all_set (rlF_cols (by unfold colsB; exact hc) (by unfold colsB; exact hi) k (by omega)) ?_
    rw [List.all_eq_true] at hc
    refine hc _ ?_
    rw [List.getD_eq_getElem?_getD, List.getElem?_eq_getElem (show k < c.length by omega)]
    exact List.getElem_mem _
/-- Where each cell comes from somewhere, what lay there before is forgotten. -/
theorem rlF_forget {pl : Int → Int → Int × Int} {ww width : Int} {c a b : List UInt8} (hl : a.length = b.length) : ∀ k, ∀ j, (∃ i, i < k ∧ ixP pl ww width i = j) → (rlF pl ww width c a k)[j]? = (rlF pl ww width c b k)[j]?
  | 0, j, ⟨i, hi, _⟩ => by omega
  | k + 1, j, ⟨i, hi, he⟩ => by
    unfold rlF
    rw [List.getElem?_set, List.getElem?_set, rlF_len, rlF_len, hl]
    by_cases hj : ixP pl ww width k = j
    · simp [hj]
    · simp only [hj, if_false]
      refine rlF_forget hl k j ⟨i, ?_, he⟩
      rcases Nat.lt_or_eq_of_le (Nat.le_of_lt_succ hi) with h | h
      · exact h
      · subst h; exact absurd he hj
def Onto (pl : Int → Int → Int × Int) (w h width height : Int) : Prop := ∀ X Y, 0 ≤ X → X < width → 0 ≤ Y → Y < height → ∃ x y, (0 ≤ x ∧ x < w) ∧ (0 ≤ y ∧ y < h) ∧ pl x y = (X, Y)
theorem rlF_same {pl : Int → Int → Int × Int} {w h width height : Int} {c a b : List UInt8} (ho : Onto pl w h width height) (hw : 1 ≤ width) (hn : width * height = w * h) (ha : (a.length : Int) = w * h) (hb : (b.length : Int) = w * h) :
    rlF pl w width c a (w * h).toNat = rlF pl w width c b (w * h).toNat := by
  apply List.ext_getElem?
  intro j
  by_cases hj : j < a.length
  · have hjb : 0 ≤ (j : Int) ∧ (j : Int) < width * height := by omega
    obtain ⟨⟨q1, q2⟩, q3, q4⟩ := cut_bd hjb hw
    obtain ⟨x, y, hx, hy, hp⟩ := ho _ _ q1 q2 q3 q4
    have hf := flat_bd hx hy
    refine rlF_forget (by omega) _ j ⟨(y * w + x).toNat, by omega, ?_⟩
    rw [ixP_at hx hf.1, hp]
    have := Int.emod_add_mul_ediv (j : Int) width
    simp only
    rw [Int.mul_comm] at this
    omega
  · rw [List.getElem?_eq_none (by rw [rlF_len]; omega), List.getElem?_eq_none (by rw [rlF_len]; omega)]
/-! ### the model's way -/
theorem one3_mul {b x : Int} (hb : one3 b) (hx : 0 ≤ x ∧ x ≤ 9) : -9 ≤ b * x ∧ b * x ≤ 9 := by
  rcases hb with rfl | rfl | rfl <;> omega
theorem good_mapAt {w : Wd} {width height b0 b1 b2 b3 b4 b5 : Int} (h : mapPre w width height b0 b1 b2 b3 b4 b5) {k : Nat} (hk : k ≤ w.c.length) : goodB (mapAt (plA b0 b1 b2 b3 b4 b5 width height) w width height k) = true := by
  obtain ⟨hg, hw, hh, hn, _⟩ := h
  have hb := good_bd hg
  have hm := mul_bd hw hh
  have hg' := good_iff.1 hg
  obtain ⟨h1, h2, h3, h4, h5, h6, h7, h8⟩ := hg'
  have e1 : 0 ≤ (plA b0 b1 b2 b3 b4 b5 width height w.x w.y).1 ∧ (plA b0 b1 b2 b3 b4 b5 width height w.x w.y).1 ≤ width - 1 := emod_bd _ hw.1
  have e2 : 0 ≤ (plA b0 b1 b2 b3 b4 b5 width height w.x w.y).2 ∧ (plA b0 b1 b2 b3 b4 b5 width height w.x w.y).2 ≤ height - 1 := emod_bd _ hh.1
  rw [good_iff]
  refine ⟨h1, inB_eq.2 hw, inB_eq.2 hh, ?_, ?_, ?_, ?_, h8⟩
  · simp only [mapAt, rlF_len, List.length_replicate]; omega
  · simp only [mapAt]
    refine rlF_cols h5 ?_ k hk
    unfold colsB
    rw [List.all_eq_true]
    intro x hx
    rw [List.eq_of_mem_replicate hx, inB_eq]
    simp
    omega
  · rw [inB_eq]; simp only [mapAt]; cases decide (w.y * w.w + w.x < (k : Int)) <;> simp only [cond_true, cond_false] <;> omega
  · rw [inB_eq]; simp only [mapAt]; cases decide (w.y * w.w + w.x < (k : Int)) <;> simp only [cond_true, cond_false] <;> omega
theorem pnt_mapAt {w : Wd} {width height b0 b1 b2 b3 b4 b5 : Int} (h : mapPre w width height b0 b1 b2 b3 b4 b5) {x y : Int} (hx : 0 ≤ x ∧ x < w.w) (hy : 0 ≤ y ∧ y < w.h) :
    (pntW (mapAt (plA b0 b1 b2 b3 b4 b5 width height) w width height (y * w.w + x).toNat) (plA b0 b1 b2 b3 b4 b5 width height x y).1 (plA b0 b1 b2 b3 b4 b5 width height x y).2 (colAt w x y)).c
      = (mapAt (plA b0 b1 b2 b3 b4 b5 width height) w width height (y * w.w + (x + 1)).toNat).c := by
  obtain ⟨hg, hw, hh, hn, _⟩ := h
  have hf := flat_bd hx hy
  have hb := good_bd hg
  have e0 : (y * w.w + (x + 1)).toNat = (y * w.w + x).toNat + 1 := by omega
  have hc : w.c.getD (y * w.w + x).toNat 0 = UInt8.ofNat (48 + colAt w x y).toNat := by
    have := col_bd hg (i := cellIx w x y) (by unfold cellIx; omega)
    unfold colAt cellIx at *
    apply UInt8.toNat_inj.1
    rw [UInt8.toNat_ofNat']
    omega
  have e1 : 0 ≤ (plA b0 b1 b2 b3 b4 b5 width height x y).1 ∧ (plA b0 b1 b2 b3 b4 b5 width height x y).1 ≤ width - 1 := emod_bd _ hw.1
  have e2 : 0 ≤ (plA b0 b1 b2 b3 b4 b5 width height x y).2 ∧ (plA b0 b1 b2 b3 b4 b5 width height x y).2 ≤ height - 1 := emod_bd _ hh.1
  have hfl := flat_bd (x := (plA b0 b1 b2 b3 b4 b5 width height x y).1) (y := (plA b0 b1 b2 b3 b4 b5 width height x y).2) (w := width) (h := height) (by omega) (by omega)
  rw [e0]
  simp only [mapAt, pntW, paintC, cellIx, rlF, num1]
  rw [ixP_at hx hf.1, hc, List.set_eq_take_append_cons_drop, if_pos (by rw [rlF_len, List.length_replicate]; omega)]
  simp
theorem flat_inj {x y x' y' w : Int} (hx : 0 ≤ x ∧ x < w) (hx' : 0 ≤ x' ∧ x' < w) (h : y * w + x = y' * w + x') : x = x' ∧ y = y' := by
  have h1 := flat_mod (y := y) hx
  have h2 := flat_mod (y := y') hx'
  have h3 := flat_div (y := y) hx
  have h4 := flat_div (y := y') hx'
  rw [h] at h1 h3
  exact ⟨h1.symm.trans h2, h3.symm.trans h4⟩
theorem ant_on {w : Wd} {pl : Int → Int → Int × Int} {width height : Int} {x y : Int} (hx : 0 ≤ x ∧ x < w.w) (hy : 0 ≤ y ∧ y < w.h) (h : x = w.x ∧ y = w.y) :
    (mapAt pl w width height (y * w.w + (x + 1)).toNat).x = (pl x y).1 ∧ (mapAt pl w width height (y * w.w + (x + 1)).toNat).y = (pl x y).2 := by
  obtain ⟨rfl, rfl⟩ := h
  have hf := flat_bd hx hy
  have : decide (w.y * w.w + w.x < ((w.y * w.w + (w.x + 1)).toNat : Int)) = true := decide_eq_true (by omega)
  simp only [mapAt, this, cond_true]
  exact ⟨trivial, trivial⟩
theorem ant_off {w : Wd} {pl : Int → Int → Int × Int} {width height : Int} (hg : goodB w = true) {x y : Int} (hx : 0 ≤ x ∧ x < w.w) (hy : 0 ≤ y ∧ y < w.h) (h : ¬ (x = w.x ∧ y = w.y)) :
    (mapAt pl w width height (y * w.w + (x + 1)).toNat).x = (mapAt pl w width height (y * w.w + x).toNat).x ∧ (mapAt pl w width height (y * w.w + (x + 1)).toNat).y = (mapAt pl w width height (y * w.w + x).toNat).y := by
  have hf := flat_bd hx hy
  have hb := good_bd hg
  have hne : w.y * w.w + w.x ≠ y * w.w + x := fun e => h (by
    obtain ⟨h1, h2⟩ := flat_inj (by omega) hx e
    exact ⟨h1.symm, h2.symm⟩)
  have : decide (w.y * w.w + w.x < ((y * w.w + (x + 1)).toNat : Int)) = decide (w.y * w.w + w.x < ((y * w.w + x).toNat : Int)) := by
    rw [decide_eq_decide]; omega
  simp only [mapAt, this]
  exact ⟨trivial, trivial⟩
theorem vc_spec_woMap (wr : List UInt8) (ww wh : Int) (wc : List UInt8) (wx wy wd width height b0 b1 b2 b3 b4 b5 : Int) (h : mapPre ⟨wr, ww, wh, wc, wx, wy, wd⟩ width height b0 b1 b2 b3 b4 b5) : VC_spec_woMap wr ww wh wc wx wy wd width height b0 b1 b2 b3 b4 b5
    (retP (wdV (mapW (plA b0 b1 b2 b3 b4 b5 width height) ⟨wr, ww, wh, wc, wx, wy, wd⟩ width height))) := by
  have hpre := h
  obtain ⟨hg, hw, hh, hn, ⟨o0, o1, o3, o4⟩, hb2, hb5⟩ := h
  have hb := good_bd hg
  simp only at hb hn
  have hm := mul_bd hw hh
  have e0 : IntKind.wrap .i64 (width * height) = width * height := wrap64_in (by omega)
  unfold VC_spec_woMap
  rw [e0]
  refine ⟨?_, by simp, ⟨by omega, by simp only; omega⟩, fun y hy => ⟨fun hc => ⟨?_, ⟨?_⟩, fun x hx => ⟨fun hcx => ?_, fun hcx => ?_⟩⟩, fun hc => ?_⟩⟩
  · have hf0 : decide (wy * ww + wx < (0 : Int)) = false := by
      have := flat_bd (x := wx) (y := wy) (w := ww) (h := wh) (by omega) (by omega)
      rw [decide_eq_false_iff_not]; omega
    simp [at_iff, mapAt, rlF, hf0, show 0 ≤ width * height ∧ width * height ≤ 1000 by omega]
  · simp
  · have hc := of_decide_eq_true hc
    exact ⟨hy.1, hc, by omega, by simp only; omega⟩
  · have hc := of_decide_eq_true hc
    have hcx := of_decide_eq_true hcx
    obtain ⟨_, _, hx0, _⟩ := hx
    have hy0 := hy.1
    have m0 := one3_mul o0 (x := x) (by omega)
    have m1 := one3_mul o1 (x := y) (by omega)
    have m3 := one3_mul o3 (x := x) (by omega)
    have m4 := one3_mul o4 (x := y) (by omega)
    have hfl := flat_bd (x := x) (y := y) (w := ww) (h := wh) (by omega) (by omega)
    have hgm := good_mapAt hpre (k := (y * ww + x).toNat) (by simp only; omega)
    have hp := pnt_mapAt hpre (x := x) (y := y) ⟨hx0, hcx⟩ ⟨hy0, hc⟩
    have hcol := colAt_bd hg (x := x) (y := y) (by unfold hasB; rw [inB_eq.2 (by simp only; omega), inB_eq.2 (by simp only; omega)]; rfl)
    rw [wrap64_in (x := b0 * x) (by omega), wrap64_in (x := b1 * y) (by omega), wrap64_in (x := b0 * x + b1 * y) (by omega), wrap64_in (x := b0 * x + b1 * y + b2) (by omega),
      wrap64_in (x := b3 * x) (by omega), wrap64_in (x := b4 * y) (by omega), wrap64_in (x := b3 * x + b4 * y) (by omega), wrap64_in (x := b3 * x + b4 * y + b5) (by omega), wrap64_in (x := x + 1) (by omega)]
    have f1 := emod_bd (b0 * x + b1 * y + b2) hw.1
    have f2 := emod_bd (b3 * x + b4 * y + b5) hh.1
    have hst : inInv ⟨wr, ww, wh, wc, wx, wy, wd⟩ y (x + 1) ∧ (ww - (x + 1)).toNat < (ww - x).toNat := ⟨⟨hy0, hc, by omega, by simp only; omega⟩, by omega⟩
    have hgw : hasB ⟨wr, ww, wh, wc, wx, wy, wd⟩ x y = true := by unfold hasB; rw [inB_eq.2 (by simp only; omega), inB_eq.2 (by simp only; omega)]; rfl
    simp only [plA] at hp
    refine ⟨trivial, ⟨by omega⟩, ⟨by omega⟩, ⟨by omega⟩, ⟨by omega⟩, ⟨by omega⟩, ⟨by omega⟩, ⟨by omega⟩, ⟨by omega⟩, ⟨hg, hgw⟩, ⟨hgm, ?_, by omega, by omega⟩, fun ex => ⟨fun ey => ?_, fun ey => ?_⟩, fun ex => ?_⟩
    · unfold hasB
      simp only [mapAt]
      rw [inB_eq.2 f1, inB_eq.2 f2]; rfl
    · have ha := ant_on (pl := plA b0 b1 b2 b3 b4 b5 width height) (width := width) (height := height) (w := ⟨wr, ww, wh, wc, wx, wy, wd⟩) (x := x) (y := y) ⟨hx0, hcx⟩ ⟨hy0, hc⟩ ⟨by simpa using ex, by simpa using ey⟩
      simp only [plA] at ha
      refine ⟨?_, ⟨hst⟩⟩
      simp only [true_and, and_true]
      exact ⟨rfl, rfl, rfl, hp, ha.1.symm, ha.2.symm, rfl⟩
    · have ha := ant_off (pl := plA b0 b1 b2 b3 b4 b5 width height) (width := width) (height := height) hg (x := x) (y := y) ⟨hx0, hcx⟩ ⟨hy0, hc⟩ (fun hh => by simp [hh.2] at ey)
      refine ⟨?_, ⟨hst⟩⟩
      simp only [true_and, and_true]
      exact ⟨rfl, rfl, rfl, hp, ha.1.symm, ha.2.symm, rfl⟩
    · have ha := ant_off (pl := plA b0 b1 b2 b3 b4 b5 width height) (width := width) (height := height) hg (x := x) (y := y) ⟨hx0, hcx⟩ ⟨hy0, hc⟩ (fun hh => by simp [hh.1] at ex)
      refine ⟨?_, ⟨hst⟩⟩
      simp only [true_and, and_true]
      exact ⟨rfl, rfl, rfl, hp, ha.1.symm, ha.2.symm, rfl⟩
  · have hcx := of_decide_eq_false hcx
    obtain ⟨g1, g2, g3, g4⟩ := hx
    simp only at g2 g4
    have e : x = ww := by omega
    subst e
    rw [wrap64_in (x := y + 1) (by omega), show y * x + x = (y + 1) * x by rw [Int.add_mul, Int.one_mul]]
    refine ⟨by simp, ⟨⟨by omega, by simp only; omega⟩, by omega⟩⟩
  · have hc := of_decide_eq_false hc
    obtain ⟨g1, g2⟩ := hy
    simp only at g2
    have e : y = wh := by omega
    subst e
    refine retP_wd ?_
    unfold mapW
    rw [Int.mul_comm]
/-! ### the three -/
theorem mapW_eq {w : Wd} (hg : goodB w = true) (pl : Int → Int → Int × Int) (width height : Int) : mapW pl w width height =
    { r := w.r, w := width, h := height, c := rlF pl w.w width w.c (List.replicate (width * height).toNat 48) (w.w * w.h).toNat, x := (pl w.x w.y).1, y := (pl w.x w.y).2, d := w.d } := by
  have hb := good_bd hg
  have hf := flat_bd (x := w.x) (y := w.y) (w := w.w) (h := w.h) (by omega) (by omega)
  have : decide (w.y * w.w + w.x < ((w.w * w.h).toNat : Int)) = true := decide_eq_true (by omega)
  simp only [mapW, mapAt, this, cond_true]
theorem lay_step {pl : Int → Int → Int × Int} {ww width a px py : Int} {c init : List UInt8} (ha : 0 ≤ a) (hp : pl (a % ww) (a / ww) = (px, py)) :
    (rlF pl ww width c init a.toNat).set (py * width + px).toNat (UInt8.ofNat (((c.getD a.toNat 0).toNat : Nat) : Int).toNat) = rlF pl ww width c init (a + 1).toNat := by
  have e : ixP pl ww width a.toNat = (py * width + px).toNat := by
    unfold ixP
    rw [Int.toNat_of_nonneg ha, hp]
  rw [show (a + 1).toNat = a.toNat + 1 by omega]
  simp only [rlF, e]
  congr 1
  rw [Int.toNat_natCast]
  exact UInt8.ofNat_toNat
theorem lay_end {pl : Int → Int → Int × Int} {w h width height a : Int} {c : List UInt8} (ho : Onto pl w h width height) (hw : 1 ≤ width) (hn : width * height = w * h) (hc : (c.length : Int) = w * h) (ha : a = c.length) :
    (rlF pl w width c (List.replicate c.length 0) a.toNat).take ((c.length : Int)).toNat = rlF pl w width c (List.replicate (width * height).toNat 48) (w * h).toNat := by
  subst ha
  rw [List.take_of_length_le (by rw [rlF_len, List.length_replicate]; omega), hc]
  exact rlF_same ho hw hn (by rw [List.length_replicate]; omega) (by rw [List.length_replicate]; omega)
theorem pl_shift {right down w h x y : Int} : plA 1 0 right 0 1 down w h x y = ((x + right) % w, (y + down) % h) := by simp [plA]
theorem pl_turn {w h x y : Int} (hx : 0 ≤ x ∧ x < w) (hy : 0 ≤ y ∧ y < h) : plA 0 (-1) (h - 1) 1 0 0 h w x y = (h - 1 - y, x) := by
  have e1 : (0 * x + -1 * y + (h - 1)) % h = h - 1 - y := by
    rw [show 0 * x + -1 * y + (h - 1) = h - 1 - y by omega]
    exact Int.emod_eq_of_lt (by omega) (by omega)
  have e2 : (1 * x + 0 * y + 0) % w = x := by
    rw [show 1 * x + 0 * y + 0 = x by omega]
    exact Int.emod_eq_of_lt hx.1 hx.2
  simp only [plA, e1, e2]
theorem pl_mirr {w h x y : Int} (hx : 0 ≤ x ∧ x < w) (hy : 0 ≤ y ∧ y < h) : plA (-1) 0 (w - 1) 0 1 0 w h x y = (w - 1 - x, y) := by
  have e1 : (-1 * x + 0 * y + (w - 1)) % w = w - 1 - x := by
    rw [show -1 * x + 0 * y + (w - 1) = w - 1 - x by omega]
    exact Int.emod_eq_of_lt (by omega) (by omega)
  have e2 : (0 * x + 1 * y + 0) % h = y := by
    rw [show 0 * x + 1 * y + 0 = y by omega]
    exact Int.emod_eq_of_lt hy.1 hy.2
  simp only [plA, e1, e2]
theorem back_mod {X r w : Int} (h0 : 0 ≤ X) (h1 : X < w) : ((X - r) % w + r) % w = X := by
  rw [Int.emod_add_emod, Int.sub_add_cancel, Int.emod_eq_of_lt h0 h1]
theorem onto_shift {right down w h : Int} : Onto (plA 1 0 right 0 1 down w h) w h w h := by
  intro X Y h1 h2 h3 h4
  refine ⟨(X - right) % w, (Y - down) % h, ⟨Int.emod_nonneg _ (by omega), Int.emod_lt_of_pos _ (by omega)⟩, ⟨Int.emod_nonneg _ (by omega), Int.emod_lt_of_pos _ (by omega)⟩, ?_⟩
  rw [pl_shift, back_mod h1 h2, back_mod h3 h4]
theorem onto_turn {w h : Int} : Onto (plA 0 (-1) (h - 1) 1 0 0 h w) w h h w := by
  intro X Y h1 h2 h3 h4
  refine ⟨Y, h - 1 - X, ⟨h3, h4⟩, ⟨by omega, by omega⟩, ?_⟩
  rw [pl_turn ⟨h3, h4⟩ ⟨by omega, by omega⟩]
  congr 1
  omega
theorem onto_mirr {w h : Int} : Onto (plA (-1) 0 (w - 1) 0 1 0 w h) w h w h := by
  intro X Y h1 h2 h3 h4
  refine ⟨w - 1 - X, Y, ⟨by omega, by omega⟩, ⟨h3, h4⟩, ?_⟩
  rw [pl_mirr ⟨by omega, by omega⟩ ⟨h3, h4⟩]
  congr 1
  omega
theorem retG_clo1 {a b x y : Int} {vs : List V} {e : TypeId} (h1 : a = x) (h2 : b = y) (hu : underL 1 vs = true) (hs : selL (fun n => findSel n [some 0] 0) vs = vs) (hn : nilToL (isGhost [some 0]) vs vs = vs) (hl : leL vs vs) :
    retG 1 (.tup [.int .i64 x, .int .i64 y]) [⟨.vals vs, e, .box⟩] (.tup [.int .i64 a, .int .i64 b]) [⟨.vals vs, e, .box⟩] := by
  subst h1; subst h2
  unfold retG leSel leSelBy autoSel
  simp [pairsL, pairsV, idPairs, pairsIn, selOf, lookN, selMem, chkB, nodupSel, hasSel, prefSel, leSt, leL, leV, nilToL, V.nilTo, selL, V.sel, Cells.selN, leMem, leCells, memUnder, underL, V.under, hu, hs, hn, hl]
theorem vc_impl_TurnWorld_1 (x y : Int) (wr : List UInt8) (ww wh : Int) (wc : List UInt8) (wx wy wd : Int) (h : goodB ⟨wr, ww, wh, wc, wx, wy, wd⟩ = true ∧ 0 ≤ x ∧ x ≤ 9 ∧ 0 ≤ y ∧ y ≤ 9) : VC_impl_TurnWorld_1 x y wr ww wh wc wx wy wd
    (retG 1 (.tup [.int .i64 (wh - 1 - y), .int .i64 x]) [⟨.vals [.str wr, .int .i64 ww, .int .i64 wh, .str wc, .int .i64 wx, .int .i64 wy, .int .i64 wd], 25, .box⟩]) := by
  obtain ⟨hg, h1⟩ := h
  have hb := good_bd hg
  simp only at hb
  unfold VC_impl_TurnWorld_1
  rw [wrap64_in (x := wh - 1) (by omega), wrap64_in (by omega)]
  exact retG_clo1 rfl rfl rfl rfl rfl (by simp [leL, leV, chkB])
theorem vc_impl_MirrorWorld_1 (x y : Int) (wr : List UInt8) (ww wh : Int) (wc : List UInt8) (wx wy wd : Int) (h : goodB ⟨wr, ww, wh, wc, wx, wy, wd⟩ = true ∧ 0 ≤ x ∧ x ≤ 9 ∧ 0 ≤ y ∧ y ≤ 9) : VC_impl_MirrorWorld_1 x y wr ww wh wc wx wy wd
    (retG 1 (.tup [.int .i64 (ww - 1 - x), .int .i64 y]) [⟨.vals [.str wr, .int .i64 ww, .int .i64 wh, .str wc, .int .i64 wx, .int .i64 wy, .int .i64 wd], 25, .box⟩]) := by
  obtain ⟨hg, h1⟩ := h
  have hb := good_bd hg
  simp only at hb
  unfold VC_impl_MirrorWorld_1
  rw [wrap64_in (x := ww - 1) (by omega), wrap64_in (by omega)]
  exact retG_clo1 rfl rfl rfl rfl rfl (by simp [leL, leV, chkB])
theorem vc_spec_TurnWorld (wr : List UInt8) (ww wh : Int) (wc : List UInt8) (wx wy wd : Int) (_ : True) : VC_spec_TurnWorld wr ww wh wc wx wy wd (retP (okV (goodB ⟨wr, ww, wh, wc, wx, wy, wd⟩) (turnW ⟨wr, ww, wh, wc, wx, wy, wd⟩))) := by
  unfold VC_spec_TurnWorld
  refine ⟨⟨trivial⟩, fun hg => ?_, fun hg => ?_⟩
  · simp only [Bool.not_eq_true'] at hg
    rw [hg]
    exact retP_okl (u := zeroWd) rfl rfl
  · simp only [Bool.not_eq_false'] at hg
    have hb := good_bd hg
    simp only at hb
    rw [wrap64_in (x := wh - 1) (by omega), wrap64_in (x := wd + 1) (by omega), tmod_emod (by omega), hg]
    refine ⟨⟨hg, by omega, by omega, Int.mul_comm _ _, ⟨.inr (.inl rfl), .inl rfl, .inr (.inr rfl), .inr (.inl rfl)⟩, by omega, by omega⟩, ⟨by omega⟩, ?_⟩
    exact retP_okl (u := turnW ⟨wr, ww, wh, wc, wx, wy, wd⟩) rfl rfl
theorem vc_spec_MirrorWorld (wr : List UInt8) (ww wh : Int) (wc : List UInt8) (wx wy wd : Int) (_ : True) : VC_spec_MirrorWorld wr ww wh wc wx wy wd (retP (okV (goodB ⟨wr, ww, wh, wc, wx, wy, wd⟩) (mirrW ⟨wr, ww, wh, wc, wx, wy, wd⟩))) := by
  unfold VC_spec_MirrorWorld
  refine ⟨⟨trivial⟩, fun hg => ?_, fun hg => ?_⟩
  · simp only [Bool.not_eq_true'] at hg
    rw [hg]
    exact retP_okl (u := zeroWd) rfl rfl
  · simp only [Bool.not_eq_false'] at hg
    have hb := good_bd hg
    simp only at hb
    rw [wrap64_in (x := ww - 1) (by omega), wrap64_in (x := 4 - wd) (by omega), tmod_emod (by omega), hg]
    refine ⟨⟨hg, by omega, by omega, rfl, ⟨.inl rfl, .inr (.inl rfl), .inr (.inl rfl), .inr (.inr rfl)⟩, by omega, by omega⟩, ⟨by omega⟩, ⟨by omega⟩, ?_⟩
    exact retP_okl (u := mirrW ⟨wr, ww, wh, wc, wx, wy, wd⟩) rfl rfl
theorem vc_impl_TurnWorld (wr : List UInt8) (ww wh : Int) (wc : List UInt8) (wx wy wd : Int) (_ : True) : VC_impl_TurnWorld wr ww wh wc wx wy wd (retP (okV (goodB ⟨wr, ww, wh, wc, wx, wy, wd⟩) (turnW ⟨wr, ww, wh, wc, wx, wy, wd⟩))) := by
  unfold VC_impl_TurnWorld
  refine ⟨⟨trivial⟩, fun hg => ?_, fun hg => ?_⟩
  · simp only [Bool.not_eq_true'] at hg
    rw [hg]
    exact retP_okl (u := zeroWd) rfl rfl
  · simp only [Bool.not_eq_false'] at hg
    have hb := good_bd hg
    have h9 := good_nine hg
    simp only at hb h9
    refine ⟨⟨by omega⟩, by simp [rlF], ⟨by omega, by omega⟩, fun i hi => ⟨fun hc => ?_, fun hc => ?_⟩⟩
    · have hc := of_decide_eq_true hc
      have ha := hi.1
      obtain ⟨hqx, hqy⟩ := cut_bd (w := ww) (h := wh) (i := i) ⟨ha, by omega⟩ (by omega)
      have hu8 := byte_lt (wc.getD i.toNat 0)
      have hcm : wh * ww = ww * wh := Int.mul_comm _ _
      have hst := lay_step (pl := plA 0 (-1) (wh - 1) 1 0 0 wh ww) (ww := ww) (width := wh) (c := wc) (init := List.replicate wc.length 0) ha (pl_turn hqx hqy)
      have hfl := flat_bd (x := wh - 1 - i / ww) (y := i % ww) (w := wh) (h := ww) (by omega) (by omega)
      have hmb := mul_bd hb.2.1 hb.1
      have hyb : 0 ≤ (i % ww) * wh ∧ (i % ww) * wh ≤ 1000 := by
        have := Int.mul_nonneg (a := i % ww) (b := wh) (by omega) (by omega)
        omega
      rw [tmod_emod ha, Int.tdiv_eq_ediv_of_nonneg ha, wrap64_in (x := i / ww) (by omega), wrap64_in (x := (i % ww) * wh) (by omega), wrap64_in (x := (i % ww) * wh + (wh - 1 - i / ww)) (by omega), wrap64_in (x := i + 1) (by omega), hst]
      refine ⟨trivial, ⟨by omega⟩, ⟨by omega⟩, ⟨hg, by omega⟩, ⟨ha, hc⟩, ⟨by omega⟩, ⟨by rw [rlF_len, List.length_replicate]; omega, by omega, by omega⟩, by simp, ⟨⟨by omega, by omega⟩, by omega⟩⟩
    · have hc := of_decide_eq_false hc
      have hie : i = wc.length := by have := hi.2; omega
      have hE := lay_end (pl := plA 0 (-1) (wh - 1) 1 0 0 wh ww) (c := wc) onto_turn (by omega) (Int.mul_comm _ _) hb.2.2.2.2.2.1 hie
      have hA : At (((wc.length : Int)).toNat ≤ (rlF (plA 0 (-1) (wh - 1) 1 0 0 wh ww) ww wh wc (List.replicate wc.length 0) i.toNat).length) := ⟨by rw [rlF_len, List.length_replicate]; omega⟩
      rw [hE]
      have hu : retP (okV (goodB ⟨wr, ww, wh, wc, wx, wy, wd⟩) (turnW ⟨wr, ww, wh, wc, wx, wy, wd⟩)) (.tup [wdV (trnW ⟨wr, wh, ww, rlF (plA 0 (-1) (wh - 1) 1 0 0 wh ww) ww wh wc (List.replicate (wh * ww).toNat 48) (ww * wh).toNat, wh - 1 - wy, wx, wd⟩ 1), .lit true]) := by
        rw [hg]
        refine retP_okl rfl ?_
        have e := mapW_eq hg (plA 0 (-1) (wh - 1) 1 0 0 wh ww) wh ww
        simp only [pl_turn (show 0 ≤ wx ∧ wx < ww by omega) (show 0 ≤ wy ∧ wy < wh by omega)] at e
        simp only [cond_true, turnW, e]
      exact ⟨hA, ⟨hg, by omega⟩, ⟨by omega⟩, hu⟩
theorem vc_impl_MirrorWorld (wr : List UInt8) (ww wh : Int) (wc : List UInt8) (wx wy wd : Int) (_ : True) : VC_impl_MirrorWorld wr ww wh wc wx wy wd (retP (okV (goodB ⟨wr, ww, wh, wc, wx, wy, wd⟩) (mirrW ⟨wr, ww, wh, wc, wx, wy, wd⟩))) := by
  unfold VC_impl_MirrorWorld
  refine ⟨⟨trivial⟩, fun hg => ?_, fun hg => ?_⟩
  · simp only [Bool.not_eq_true'] at hg
    rw [hg]
    exact retP_okl (u := zeroWd) rfl rfl
  · simp only [Bool.not_eq_false'] at hg
    have hb := good_bd hg
    have h9 := good_nine hg
    simp only at hb h9
    refine ⟨⟨by omega⟩, by simp [rlF], ⟨by omega, by omega⟩, fun i hi => ⟨fun hc => ?_, fun hc => ?_⟩⟩
    · have hc := of_decide_eq_true hc
      have ha := hi.1
      obtain ⟨hqx, hqy⟩ := cut_bd (w := ww) (h := wh) (i := i) ⟨ha, by omega⟩ (by omega)
      have hu8 := byte_lt (wc.getD i.toNat 0)
      have hst := lay_step (pl := plA (-1) 0 (ww - 1) 0 1 0 ww wh) (ww := ww) (width := ww) (c := wc) (init := List.replicate wc.length 0) ha (pl_mirr hqx hqy)
      have hfl := flat_bd (x := ww - 1 - i % ww) (y := i / ww) (w := ww) (h := wh) (by omega) (by omega)
      have hmb := mul_bd hb.1 hb.2.1
      have hyb : 0 ≤ (i / ww) * ww ∧ (i / ww) * ww ≤ 1000 := by
        have := Int.mul_nonneg (a := i / ww) (b := ww) (by omega) (by omega)
        omega
      rw [tmod_emod ha, Int.tdiv_eq_ediv_of_nonneg ha, wrap64_in (x := i / ww) (by omega), wrap64_in (x := (i / ww) * ww) (by omega), wrap64_in (x := (i / ww) * ww + (ww - 1 - i % ww)) (by omega), wrap64_in (x := i + 1) (by omega), hst]
      refine ⟨trivial, ⟨by omega⟩, ⟨by omega⟩, ⟨hg, by omega⟩, ⟨ha, hc⟩, ⟨by omega⟩, ⟨by rw [rlF_len, List.length_replicate]; omega, by omega, by omega⟩, by simp, ⟨⟨by omega, by omega⟩, by omega⟩⟩
    · have hc := of_decide_eq_false hc
      have hie : i = wc.length := by have := hi.2; omega
      have hE := lay_end (pl := plA (-1) 0 (ww - 1) 0 1 0 ww wh) (c := wc) onto_mirr (by omega) rfl hb.2.2.2.2.2.1 hie
      have hA : At (((wc.length : Int)).toNat ≤ (rlF (plA (-1) 0 (ww - 1) 0 1 0 ww wh) ww ww wc (List.replicate wc.length 0) i.toNat).length) := ⟨by rw [rlF_len, List.length_replicate]; omega⟩
      rw [hE]
      have hu : retP (okV (goodB ⟨wr, ww, wh, wc, wx, wy, wd⟩) (mirrW ⟨wr, ww, wh, wc, wx, wy, wd⟩)) (.tup [wdV ⟨othR wr, ww, wh, rlF (plA (-1) 0 (ww - 1) 0 1 0 ww wh) ww ww wc (List.replicate (ww * wh).toNat 48) (ww * wh).toNat, ww - 1 - wx, wy, (4 - wd) % 4⟩, .lit true]) := by
        rw [hg]
        refine retP_okl rfl ?_
        have e := mapW_eq hg (plA (-1) 0 (ww - 1) 0 1 0 ww wh) ww wh
        simp only [pl_mirr (show 0 ≤ wx ∧ wx < ww by omega) (show 0 ≤ wy ∧ wy < wh by omega)] at e
        simp only [cond_true, mirrW, e]
      rw [wrap64_in (x := 4 - wd) (by omega), tmod_emod (by omega)]
      exact ⟨hA, ⟨hg, by omega⟩, ⟨by omega⟩, ⟨by omega⟩, hu⟩
end Go.Vi
