/- Mazes turned and mirrored: the conditions hold. -/
import Derived.Test.YtkkpkfphfhcgoabDoorU1Vc
import Derived.Test.YtkkpkfphfhcgoabDoorU1Spec
namespace Go.Vi
theorem flat_mod {x y w : Int} (hx : 0 ≤ x ∧ x < w) : (y * w + x) % w = x := by
  rw [Int.add_comm, Int.add_mul_emod_self_right, Int.emod_eq_of_lt hx.1 hx.2]
theorem flat_div {x y w : Int} (hx : 0 ≤ x ∧ x < w) : (y * w + x) / w = y := by
  rw [Int.add_comm, Int.add_mul_ediv_right _ _ (by omega), Int.ediv_eq_zero_of_lt hx.1 hx.2, Int.zero_add]
theorem flat_bd {x y w h : Int} (hx : 0 ≤ x ∧ x < w) (hy : 0 ≤ y ∧ y < h) : 0 ≤ y * w + x ∧ y * w + x < w * h := by
  have h1 : 0 ≤ y * w := Int.mul_nonneg hy.1 (by omega)
  have h2 : (y + 1) * w ≤ h * w := Int.mul_le_mul_of_nonneg_right (by omega) (by omega)
  rw [Int.add_mul, Int.one_mul, Int.mul_comm h w] at h2
  omega
theorem cut_bd {i w h : Int} (hi : 0 ≤ i ∧ i < w * h) (hw : 1 ≤ w) : (0 ≤ i % w ∧ i % w < w) ∧ (0 ≤ i / w ∧ i / w < h) := by
  refine ⟨⟨Int.emod_nonneg _ (by omega), Int.emod_lt_of_pos _ (by omega)⟩, Int.ediv_nonneg hi.1 (by omega), ?_⟩
  exact Int.ediv_lt_of_lt_mul (by omega) (by rw [Int.mul_comm]; exact hi.2)
theorem cut_sum (k w : Int) : k / w * w + k % w = k := by
  have h := Int.emod_def k w
  rw [Int.mul_comm w] at h
  omega
theorem rlF_len (pl : Int → Int → Int × Int) (ww width : Int) (c init : List UInt8) : ∀ k, (rlF pl ww width c init k).length = init.length
  | 0 => rfl
  | k + 1 => by simp [rlF, rlF_len pl ww width c init k]
def invT (w h : Int) (j : Nat) : Nat := ((h - 1 - (j : Int) % h) * w + (j : Int) / h).toNat
def invM (w : Int) (j : Nat) : Nat := ((j : Int) / w * w + (w - 1 - (j : Int) % w)).toNat
theorem turn_inv {w h : Int} (hw : 1 ≤ w) (hh : 1 ≤ h) {j k : Nat} (hj : (j : Int) < w * h) (hk : (k : Int) < w * h) : ixP (plTurn h) w h k = j ↔ invT w h j = k := by
  obtain ⟨hx, hy⟩ := cut_bd (i := k) (w := w) (h := h) ⟨by omega, hk⟩ hw
  obtain ⟨hx', hy'⟩ := cut_bd (i := j) (w := h) (h := w) ⟨by omega, by rw [Int.mul_comm]; exact hj⟩ hh
  have b1 := flat_bd (x := h - 1 - (k : Int) / w) (y := (k : Int) % w) (w := h) (h := w) (by omega) hx
  have b2 := flat_bd (x := (j : Int) / h) (y := h - 1 - (j : Int) % h) (w := w) (h := h) hy' (by omega)
  have e1 := cut_sum j h
  have e2 := cut_sum k w
  unfold ixP invT plTurn
  simp only
  constructor
  · intro e
    have e : ((k : Int) % w) * h + (h - 1 - (k : Int) / w) = (j : Int) := by omega
    have m1 : (j : Int) % h = h - 1 - (k : Int) / w := by rw [← e]; exact flat_mod (by omega)
    have d1 : (j : Int) / h = (k : Int) % w := by rw [← e]; exact flat_div (by omega)
    rw [m1, d1, show h - 1 - (h - 1 - (k : Int) / w) = (k : Int) / w by omega, e2, Int.toNat_natCast]
  · intro e
    have e : (h - 1 - (j : Int) % h) * w + (j : Int) / h = (k : Int) := by omega
    have m1 : (k : Int) % w = (j : Int) / h := by rw [← e]; exact flat_mod hy'
    have d1 : (k : Int) / w = h - 1 - (j : Int) % h := by rw [← e]; exact flat_div hy'
    rw [m1, d1, show h - 1 - (h - 1 - (j : Int) % h) = (j : Int) % h by omega, e1, Int.toNat_natCast]
theorem mirr_inv {w h : Int} (hw : 1 ≤ w) {j k : Nat} (hj : (j : Int) < w * h) (hk : (k : Int) < w * h) : ixP (plMirr w) w w k = j ↔ invM w j = k := by
  obtain ⟨hx, hy⟩ := cut_bd (i := k) (w := w) (h := h) ⟨by omega, hk⟩ hw
  obtain ⟨hx', hy'⟩ := cut_bd (i := j) (w := w) (h := h) ⟨by omega, hj⟩ hw
  have b1 := flat_bd (x := w - 1 - (k : Int) % w) (y := (k : Int) / w) (w := w) (h := h) (by omega) hy
  have b2 := flat_bd (x := w - 1 - (j : Int) % w) (y := (j : Int) / w) (w := w) (h := h) (by omega) hy'
  have e1 := cut_sum j w
  have e2 := cut_sum k w
  unfold ixP invM plMirr
  simp only
  constructor
  · intro e
    have e : ((k : Int) / w) * w + (w - 1 - (k : Int) % w) = (j : Int) := by omega
    have m1 : (j : Int) % w = w - 1 - (k : Int) % w := by rw [← e]; exact flat_mod (by omega)
    have d1 : (j : Int) / w = (k : Int) / w := by rw [← e]; exact flat_div (by omega)
    rw [m1, d1, show w - 1 - (w - 1 - (k : Int) % w) = (k : Int) % w by omega, e2, Int.toNat_natCast]
  · intro e
    have e : (j : Int) / w * w + (w - 1 - (j : Int) % w) = (k : Int) := by omega
    have m1 : (k : Int) % w = w - 1 - (j : Int) % w := by rw [← e]; exact flat_mod (by omega)
    have d1 : (k : Int) / w = (j : Int) / w := by rw [← e]; exact flat_div (by omega)
    rw [m1, d1, show w - 1 - (w - 1 - (j : Int) % w) = (j : Int) % w by omega, e1, Int.toNat_natCast]
theorem rl_at {pl : Int → Int → Int × Int} {ww width : Int} {c init : List UInt8} {n : Nat} {f : Nat → Nat} (hinv : ∀ j, j < n → ∀ k, k < n → (ixP pl ww width k = j ↔ f j = k)) (hi : init.length = n) :
    ∀ k, k ≤ n → ∀ j, j < n → (rlF pl ww width c init k)[j]? = some (if f j < k then c.getD (f j) 0 else init.getD j 0)
  | 0, _, j, hj => by
    rw [if_neg (by omega)]
    simp [rlF, List.getD_eq_getElem?_getD, hi, hj]
  | k + 1, hk, j, hj => by
    have ih := rl_at (c := c) hinv hi k (by omega) j hj
    have h1 := hinv j hj k (by omega)
    simp only [rlF]
    rw [List.getElem?_set]
    by_cases e : ixP pl ww width k = j
    · have h2 := h1.1 e
      rw [if_pos e, if_pos (by rw [rlF_len, hi]; omega), if_pos (by omega), h2]
    · have h2 : f j ≠ k := fun h => e (h1.2 h)
      rw [if_neg e, ih]
      congr 1
      by_cases h3 : f j < k
      · rw [if_pos h3, if_pos (by omega)]
      · rw [if_neg h3, if_neg (by omega)]
theorem rl_map {pl : Int → Int → Int × Int} {ww width : Int} {c : List UInt8} {n : Nat} {f : Nat → Nat} (hinv : ∀ j, j < n → ∀ k, k < n → (ixP pl ww width k = j ↔ f j = k)) (hf : ∀ j, j < n → f j < n) :
    rlF pl ww width c (List.replicate n 0) n = (List.range n).map fun j => c.getD (f j) 0 := by
  apply List.ext_getElem?
  intro j
  by_cases hj : j < n
  · rw [rl_at hinv (by simp) n (Nat.le_refl n) j hj, if_pos (hf j hj)]
    simp [hj]
  · rw [List.getElem?_eq_none (by rw [rlF_len]; simp; omega), List.getElem?_eq_none (by simp; omega)]
theorem turn_lay {w h : Int} {c : List UInt8} (hw : 1 ≤ w) (hh : 1 ≤ h) (hc : (c.length : Int) = w * h) : (rlF (plTurn h) w h c (List.replicate c.length 0) c.length).map mirO = turnC w h c := by
  rw [rl_map (f := invT w h) (fun j hj k hk => turn_inv hw hh (by omega) (by omega)) (fun j hj => ?_), List.map_map]
  · unfold turnC
    rw [← hc, Int.toNat_natCast]
    rfl
  · obtain ⟨hx', hy'⟩ := cut_bd (i := j) (w := h) (h := w) ⟨by omega, by rw [Int.mul_comm]; omega⟩ hh
    have b2 := flat_bd (x := (j : Int) / h) (y := h - 1 - (j : Int) % h) (w := w) (h := h) hy' (by omega)
    unfold invT
    omega
theorem mirr_lay {w h : Int} {c : List UInt8} (hw : 1 ≤ w) (hc : (c.length : Int) = w * h) : (rlF (plMirr w) w w c (List.replicate c.length 0) c.length).map mirO = mirrC w h c := by
  rw [rl_map (f := invM w) (fun j hj k hk => mirr_inv (h := h) hw (by omega) (by omega)) (fun j hj => ?_), List.map_map]
  · unfold mirrC
    rw [← hc, Int.toNat_natCast]
    rfl
  · obtain ⟨hx', hy'⟩ := cut_bd (i := j) (w := w) (h := h) ⟨by omega, by omega⟩ hw
    have b2 := flat_bd (x := w - 1 - (j : Int) % w) (y := (j : Int) / w) (w := w) (h := h) (by omega) hy'
    unfold invM
    omega
/-! ### mirrors turned -/
theorem mir_at {c : List UInt8} (h : c.all mirB = true) {i : Nat} (hi : i < c.length) : mirB (c.getD i 0) = true := by
  cases hb : mirB (c.getD i 0) with
  | true => rfl
  | false => exact absurd (all_getD hi hb) (by rw [h]; decide)
theorem mirT_eq {b : UInt8} (h : mirB b = true) : mirT b.toNat = [mirO b] := by
  rcases mirB_iff.1 h with rfl | rfl | rfl <;> rfl
theorem oth_len {l : List UInt8} {i : Nat} (h : i ≤ l.length) : (othAt l i).length = l.length := by
  simp [othAt]; omega
theorem oth_get {l : List UInt8} {i : Nat} (h : i < l.length) : (othAt l i).getD i 0 = l.getD i 0 := by
  have e : ((l.take i).map mirO).length = i := by simp; omega
  unfold othAt
  rw [List.getD_eq_getElem?_getD, List.getElem?_append_right (by omega), e, Nat.sub_self, List.getElem?_drop, Nat.add_zero, List.getD_eq_getElem?_getD]
theorem oth_step {l : List UInt8} {i : Nat} (h : i < l.length) : (othAt l i).set i (mirO (l.getD i 0)) = othAt l (i + 1) := by
  have e : ((l.take i).map mirO).length = i := by simp; omega
  unfold othAt
  rw [List.set_append, if_neg (by omega), e, Nat.sub_self, List.drop_eq_getElem_cons h, List.set_cons_zero, List.take_succ_eq_append_getElem h, List.map_append, List.append_assoc]
  simp [List.getD_eq_getElem?_getD, h]
theorem oth_end {l : List UInt8} {i : Nat} (h : i = l.length) : othAt l i = l.map mirO := by
  subst h
  simp [othAt]
theorem map_step {α : Type} (f : Nat → α) {n k : Nat} (h : k < n) : ((List.range n).map f).take k ++ [f k] = ((List.range n).map f).take (k + 1) := by
  rw [List.take_succ_eq_append_getElem (by simpa using h)]
  simp
theorem turn_step {w h : Int} {c : List UInt8} {x y : Int} (hx : 0 ≤ x ∧ x < h) (hy : 0 ≤ y ∧ y < w) :
    (turnC w h c).take (y * h + x).toNat ++ [mirO (c.getD ((h - 1 - x) * w + y).toNat 0)] = (turnC w h c).take (y * h + (x + 1)).toNat := by
  have b := flat_bd (x := x) (y := y) (w := h) (h := w) hx hy
  rw [Int.mul_comm h w] at b
  rw [show (y * h + (x + 1)).toNat = (y * h + x).toNat + 1 by omega]
  unfold turnC
  rw [← map_step _ (show (y * h + x).toNat < (w * h).toNat by omega), Int.toNat_of_nonneg b.1, flat_mod hx, flat_div hx]
theorem mirr_step {w h : Int} {c : List UInt8} {x y : Int} (hx : 0 ≤ x ∧ x < w) (hy : 0 ≤ y ∧ y < h) :
    (mirrC w h c).take (y * w + (w - 1 - x)).toNat ++ [mirO (c.getD (y * w + x).toNat 0)] = (mirrC w h c).take (y * w + (w - 1 - (x - 1))).toNat := by
  have b := flat_bd (x := w - 1 - x) (y := y) (w := w) (h := h) (by omega) hy
  rw [show (y * w + (w - 1 - (x - 1))).toNat = (y * w + (w - 1 - x)).toNat + 1 by omega]
  unfold mirrC
  rw [← map_step _ (show (y * w + (w - 1 - x)).toNat < (w * h).toNat by omega), Int.toNat_of_nonneg b.1, flat_mod (by omega), flat_div (by omega), show w - 1 - (w - 1 - x) = x by omega]
/-! ### conditions -/
theorem vc_spec_miOther (b : Int) (_ : True) : VC_spec_miOther b (retP (.str (mirT b))) := by
  unfold VC_spec_miOther mirT
  refine ⟨fun h => ?_, fun h => ⟨fun h' => ?_, fun h' => ?_⟩⟩ <;> simp_all [retP_str]
theorem retG_cloM {a b x y : Int} {w h : Int} {c : List UInt8} {u : Bool} {e : TypeId} (h1 : a = x) (h2 : b = y) :
    retG 1 (.tup [.int .i64 x, .int .i64 y]) [⟨.vals [.int .i64 w, .int .i64 h, .str c, .bool u], e, .box⟩] (.tup [.int .i64 a, .int .i64 b]) [⟨.vals [.int .i64 w, .int .i64 h, .str c, .bool u], e, .box⟩] := by
  subst h1; subst h2
  unfold retG leSel leSelBy autoSel
  simp [pairsL, pairsV, idPairs, pairsIn, selOf, lookN, selMem, chkB, nodupSel, hasSel, prefSel, leSt, leL, leV, nilToL, V.nilTo, selL, V.sel, Cells.selN, leMem, leCells, memUnder, underL, V.under]
theorem vc_impl_TurnMaze_1 (x y mw mh : Int) (mc : List UInt8) (mu : Bool) (h : (1 ≤ mw ∧ mw ≤ 9) ∧ (1 ≤ mh ∧ mh ≤ 9) ∧ (0 ≤ x ∧ x ≤ 9) ∧ (0 ≤ y ∧ y ≤ 9)) : VC_impl_TurnMaze_1 x y mw mh mc mu
    (retG 1 (.tup [.int .i64 (mh - 1 - y), .int .i64 x]) [⟨.vals [.int .i64 mw, .int .i64 mh, .str mc, .bool mu], 28, .box⟩]) := by
  unfold VC_impl_TurnMaze_1
  rw [wrap64_in (x := mh - 1) (by omega), wrap64_in (by omega)]
  exact retG_cloM rfl rfl
theorem vc_impl_MirrorMaze_1 (x y mw mh : Int) (mc : List UInt8) (mu : Bool) (h : (1 ≤ mw ∧ mw ≤ 9) ∧ (1 ≤ mh ∧ mh ≤ 9) ∧ (0 ≤ x ∧ x ≤ 9) ∧ (0 ≤ y ∧ y ≤ 9)) : VC_impl_MirrorMaze_1 x y mw mh mc mu
    (retG 1 (.tup [.int .i64 (mw - 1 - x), .int .i64 y]) [⟨.vals [.int .i64 mw, .int .i64 mh, .str mc, .bool mu], 28, .box⟩]) := by
  unfold VC_impl_MirrorMaze_1
  rw [wrap64_in (x := mw - 1) (by omega), wrap64_in (by omega)]
  exact retG_cloM rfl rfl
theorem turn_len {w h : Int} {c : List UInt8} : (turnC w h c).length = (w * h).toNat := by simp [turnC]
theorem mirr_len {w h : Int} {c : List UInt8} : (mirrC w h c).length = (w * h).toNat := by simp [mirrC]
theorem vc_spec_TurnMaze (mw mh : Int) (mc : List UInt8) (mu : Bool) (_ : True) : VC_spec_TurnMaze mw mh mc mu (retP (.tup [.agg [.int .i64 (tnW mw mh mc mu), .int .i64 (tnH mw mh mc mu), .str (tnC mw mh mc mu), .bool (tnU mw mh mc mu)], .bool (mzB ⟨mw, mh, mc, mu⟩)])) := by
  unfold VC_spec_TurnMaze
  simp only [at_iff, eq_self, true_and, and_true]
  refine ⟨fun hg => ?_, fun hg => ?_⟩
  · have hg : mzB ⟨mw, mh, mc, mu⟩ = false := by simpa using hg
    simp [hg, tnW, tnH, tnC, tnU, retP, leV, leL, V.under, underL, chkB]
  · have hg : mzB ⟨mw, mh, mc, mu⟩ = true := by simpa using hg
    obtain ⟨hw, hh, hl, ha⟩ := mz_iff.1 hg
    simp only at hw hh hl ha
    have hm := mul_bd hw hh
    refine ⟨by simp [nilB], ⟨hw, hh, by omega, by omega⟩, fun y hy => ⟨fun hlt => ?_, fun hge => ?_⟩⟩
    · have hlt : y < mw := by simpa using hlt
      have hy0 := hy.2.2.1
      refine ⟨by rw [Int.add_zero], ⟨hw, hh, ⟨hy0, hlt⟩, by omega, by omega⟩, fun x hx => ⟨fun hxl => ?_, fun hxg => ?_⟩⟩
      · have hxl : x < mh := by simpa using hxl
        have hx0 := hx.2.2.2.1
        have hb := flat_bd (x := y) (y := mh - 1 - x) (w := mw) (h := mh) ⟨hy0, hlt⟩ (by omega)
        have hn : 0 ≤ (mh - 1 - x) * mw := Int.mul_nonneg (by omega) (by omega)
        rw [wrap64_in (x := mh - 1) (by omega), wrap64_in (x := mh - 1 - x) (by omega), wrap64_in (x := (mh - 1 - x) * mw) (by omega), wrap64_in (x := (mh - 1 - x) * mw + y) (by omega), wrap64_in (x := x + 1) (by omega),
          mirT_eq (mir_at ha (i := ((mh - 1 - x) * mw + y).toNat) (by omega))]
        refine ⟨by omega, ?_, turn_step ⟨hx0, hxl⟩ ⟨hy0, hlt⟩, ⟨hw, hh, ⟨hy0, hlt⟩, by omega, by omega⟩, by omega⟩
        have := turn_len (w := mw) (h := mh) (c := mc)
        have h3 := List.length_take_le' (y * mh + x).toNat (turnC mw mh mc)
        simp only [List.length_cons, List.length_nil]
        omega
      · have hxg : ¬ x < mh := by simpa using hxg
        have hxe : x = mh := by have := hx.2.2.2; omega
        subst hxe
        rw [wrap64_in (x := y + 1) (by omega)]
        refine ⟨by rw [Int.add_mul, Int.one_mul], ⟨hw, hh, by omega, by omega⟩, by omega⟩
    · have hge : ¬ y < mw := by simpa using hge
      have hye : y = mw := by have := hy.2.2; omega
      subst hye
      rw [List.take_of_length_le (by rw [turn_len]; omega)]
      simp [hg, tnW, tnH, tnC, tnU, retP, leV, leL, V.under, underL, chkB]
theorem vc_spec_MirrorMaze (mw mh : Int) (mc : List UInt8) (mu : Bool) (_ : True) : VC_spec_MirrorMaze mw mh mc mu (retP (.tup [.agg [.int .i64 (mrW mw mh mc mu), .int .i64 (mrH mw mh mc mu), .str (mrC mw mh mc mu), .bool (tnU mw mh mc mu)], .bool (mzB ⟨mw, mh, mc, mu⟩)])) := by
  unfold VC_spec_MirrorMaze
  simp only [at_iff, eq_self, true_and, and_true]
  refine ⟨fun hg => ?_, fun hg => ?_⟩
  · have hg : mzB ⟨mw, mh, mc, mu⟩ = false := by simpa using hg
    simp [hg, mrW, mrH, mrC, tnU, retP, leV, leL, V.under, underL, chkB]
  · have hg : mzB ⟨mw, mh, mc, mu⟩ = true := by simpa using hg
    obtain ⟨hw, hh, hl, ha⟩ := mz_iff.1 hg
    simp only at hw hh hl ha
    have hm := mul_bd hw hh
    refine ⟨by simp [nilB], ⟨hh, hw, by omega, by omega⟩, fun y hy => ⟨fun hlt => ?_, fun hge => ?_⟩⟩
    · have hlt : y < mh := by simpa using hlt
      have hy0 := hy.2.2.1
      rw [wrap64_in (x := mw - 1) (by omega)]
      refine ⟨by congr 2; omega, ⟨hh, hw, ⟨hy0, hlt⟩, by omega, by omega⟩, fun x hx => ⟨fun hxl => ?_, fun hxg => ?_⟩⟩
      · have hxl : 0 ≤ x := by simpa using hxl
        have hx0 := hx.2.2.2.1
        have hb := flat_bd (x := x) (y := y) (w := mw) (h := mh) (by omega) ⟨hy0, hlt⟩
        have hn : 0 ≤ y * mw := Int.mul_nonneg (by omega) (by omega)
        rw [wrap64_in (x := y * mw) (by omega), wrap64_in (x := y * mw + x) (by omega), wrap64_in (x := x - 1) (by omega),
          mirT_eq (mir_at ha (i := (y * mw + x).toNat) (by omega))]
        refine ⟨by omega, ?_, mirr_step (by omega) ⟨hy0, hlt⟩, ⟨hh, hw, ⟨hy0, hlt⟩, by omega, by omega⟩, by omega⟩
        have := mirr_len (w := mw) (h := mh) (c := mc)
        have h3 := List.length_take_le' (y * mw + (mw - 1 - x)).toNat (mirrC mw mh mc)
        simp only [List.length_cons, List.length_nil]
        omega
      · have hxg : ¬ 0 ≤ x := by simpa using hxg
        have hxe : x = -1 := by have := hx.2.2.2; omega
        subst hxe
        rw [wrap64_in (x := y + 1) (by omega)]
        refine ⟨by rw [Int.add_mul, Int.one_mul]; congr 2; omega, ⟨hh, hw, by omega, by omega⟩, by omega⟩
    · have hge : ¬ y < mh := by simpa using hge
      have hye : y = mh := by have := hy.2.2; omega
      subst hye
      rw [List.take_of_length_le (by rw [mirr_len, Int.mul_comm]; omega)]
      simp [hg, mrW, mrH, mrC, tnU, retP, leV, leL, V.under, underL, chkB]
theorem vc_impl_TurnMaze (mw mh : Int) (mc : List UInt8) (mu : Bool) (_ : True) : VC_impl_TurnMaze mw mh mc mu (retP (.tup [.agg [.int .i64 (tnW mw mh mc mu), .int .i64 (tnH mw mh mc mu), .str (tnC mw mh mc mu), .bool (tnU mw mh mc mu)], .bool (mzB ⟨mw, mh, mc, mu⟩)])) := by
  unfold VC_impl_TurnMaze
  simp only [at_iff, eq_self, true_and, and_true, Int.toNat_natCast, UInt8.ofNat_toNat, decide_eq_true_eq, decide_eq_false_iff_not]
  refine ⟨fun hg => ?_, fun hg => ?_⟩
  · have hg : mzB ⟨mw, mh, mc, mu⟩ = false := by simpa using hg
    simp [hg, tnW, tnH, tnC, tnU, retP, leV, leL, V.under, underL, chkB]
  · have hg : mzB ⟨mw, mh, mc, mu⟩ = true := by simpa using hg
    obtain ⟨hw, hh, hl, ha⟩ := mz_iff.1 hg
    simp only at hw hh hl ha
    have hm := mul_bd hw hh
    refine ⟨⟨by omega, by omega, by omega⟩, by simp [rlF], ⟨by omega, by omega⟩, fun a hi => ⟨fun hlt => ?_, fun hge => ?_⟩⟩
    · have hlt : a < mc.length := by simpa using hlt
      have h0 := hi.1
      obtain ⟨hx, hy⟩ := cut_bd (i := a) (w := mw) (h := mh) ⟨h0, by omega⟩ (by omega)
      have hb := flat_bd (x := mh - 1 - a / mw) (y := a % mw) (w := mh) (h := mw) (by omega) (by omega)
      have hn : 0 ≤ a % mw * mh := Int.mul_nonneg (by omega) (by omega)
      have hmc : mh * mw = mw * mh := Int.mul_comm _ _
      have hu8 := byte_lt (mc.getD a.toNat 0)
      have hst : (rlF (plTurn mh) mw mh mc (List.replicate mc.length 0) a.toNat).set (a % mw * mh + (mh - 1 - a / mw)).toNat (mc.getD a.toNat 0) = rlF (plTurn mh) mw mh mc (List.replicate mc.length 0) (a + 1).toNat := by
        rw [show (a + 1).toNat = a.toNat + 1 by omega]
        simp only [rlF, ixP, Int.toNat_of_nonneg h0, plTurn]
      rw [Int.tmod_eq_emod_of_nonneg h0, Int.tdiv_eq_ediv_of_nonneg h0, wrap64_in (x := a / mw) (by omega), wrap64_in (x := a % mw * mh) (by omega), wrap64_in (x := a % mw * mh + (mh - 1 - a / mw)) (by omega), wrap64_in (x := a + 1) (by omega), hst, rlF_len, List.length_replicate]
      refine ⟨by omega, by omega, ⟨hw, hh, by omega, by omega, by omega⟩, ⟨h0, hlt⟩, ⟨by omega, by omega⟩, ⟨by omega, by omega, by omega⟩, rfl, ⟨by omega, by omega⟩, by omega⟩
    · have hae : a = mc.length := by have := hi.2; have : ¬ a < mc.length := by simpa using hge
                                     omega
      subst hae
      have hrl : (rlF (plTurn mh) mw mh mc (List.replicate mc.length 0) mc.length).length = mc.length := by rw [rlF_len, List.length_replicate]
      have hlay := turn_lay (c := mc) (by omega) (by omega) hl
      simp only [Int.toNat_natCast]
      rw [List.take_of_length_le (by omega)]
      generalize rlF (plTurn mh) mw mh mc (List.replicate mc.length 0) mc.length = R at hrl hlay
      refine ⟨by omega, by omega, by simp [othAt], ⟨by omega, by omega⟩, fun i hj => ⟨fun hlt => ?_, fun hge => ?_⟩⟩
      · have hlt : i < R.length := by simpa using hlt
        have h0 := hj.1
        have hu8 := byte_lt (mirO (R.getD i.toNat 0))
        rw [oth_get (by omega), oth_len (by omega), mirI_eq, Int.toNat_natCast, UInt8.ofNat_toNat, wrap64_in (x := i + 1) (by omega), show (i + 1).toNat = i.toNat + 1 by omega, oth_step (by omega)]
        refine ⟨⟨h0, hlt⟩, by omega, ⟨h0, hlt⟩, ⟨by omega, by omega, by omega⟩, rfl, ⟨by omega, by omega⟩, by omega⟩
      · have hge : ¬ i < R.length := by simpa using hge
        have hie : i = R.length := by have := hj.2; omega
        subst hie
        rw [Int.toNat_natCast, oth_end rfl, hlay]
        refine ⟨by rw [← hlay]; simp, ?_⟩
        rw [List.take_of_length_le (by rw [← hlay]; simp)]
        simp [hg, tnW, tnH, tnC, tnU, retP, leV, leL, V.under, underL, chkB]
theorem vc_impl_MirrorMaze (mw mh : Int) (mc : List UInt8) (mu : Bool) (_ : True) : VC_impl_MirrorMaze mw mh mc mu (retP (.tup [.agg [.int .i64 (mrW mw mh mc mu), .int .i64 (mrH mw mh mc mu), .str (mrC mw mh mc mu), .bool (tnU mw mh mc mu)], .bool (mzB ⟨mw, mh, mc, mu⟩)])) := by
  unfold VC_impl_MirrorMaze
  simp only [at_iff, eq_self, true_and, and_true, Int.toNat_natCast, UInt8.ofNat_toNat, decide_eq_true_eq, decide_eq_false_iff_not]
  refine ⟨fun hg => ?_, fun hg => ?_⟩
  · have hg : mzB ⟨mw, mh, mc, mu⟩ = false := by simpa using hg
    simp [hg, mrW, mrH, mrC, tnU, retP, leV, leL, V.under, underL, chkB]
  · have hg : mzB ⟨mw, mh, mc, mu⟩ = true := by simpa using hg
    obtain ⟨hw, hh, hl, ha⟩ := mz_iff.1 hg
    simp only at hw hh hl ha
    have hm := mul_bd hw hh
    refine ⟨⟨by omega, by omega, by omega⟩, by simp [rlF], ⟨by omega, by omega⟩, fun a hi => ⟨fun hlt => ?_, fun hge => ?_⟩⟩
    · have hlt : a < mc.length := by simpa using hlt
      have h0 := hi.1
      obtain ⟨hx, hy⟩ := cut_bd (i := a) (w := mw) (h := mh) ⟨h0, by omega⟩ (by omega)
      have hb := flat_bd (x := mw - 1 - a % mw) (y := a / mw) (w := mw) (h := mh) (by omega) (by omega)
      have hn : 0 ≤ a / mw * mw := Int.mul_nonneg (by omega) (by omega)
      have hmc : mh * mw = mw * mh := Int.mul_comm _ _
      have hu8 := byte_lt (mc.getD a.toNat 0)
      have hst : (rlF (plMirr mw) mw mw mc (List.replicate mc.length 0) a.toNat).set (a / mw * mw + (mw - 1 - a % mw)).toNat (mc.getD a.toNat 0) = rlF (plMirr mw) mw mw mc (List.replicate mc.length 0) (a + 1).toNat := by
        rw [show (a + 1).toNat = a.toNat + 1 by omega]
        simp only [rlF, ixP, Int.toNat_of_nonneg h0, plMirr]
      rw [Int.tmod_eq_emod_of_nonneg h0, Int.tdiv_eq_ediv_of_nonneg h0, wrap64_in (x := a / mw) (by omega), wrap64_in (x := a / mw * mw) (by omega), wrap64_in (x := a / mw * mw + (mw - 1 - a % mw)) (by omega), wrap64_in (x := a + 1) (by omega), hst, rlF_len, List.length_replicate]
      refine ⟨by omega, by omega, ⟨hw, hh, by omega, by omega, by omega⟩, ⟨h0, hlt⟩, ⟨by omega, by omega⟩, ⟨by omega, by omega, by omega⟩, rfl, ⟨by omega, by omega⟩, by omega⟩
    · have hae : a = mc.length := by have := hi.2; have : ¬ a < mc.length := by simpa using hge
                                     omega
      subst hae
      have hrl : (rlF (plMirr mw) mw mw mc (List.replicate mc.length 0) mc.length).length = mc.length := by rw [rlF_len, List.length_replicate]
      have hlay := mirr_lay (c := mc) (by omega) hl
      simp only [Int.toNat_natCast]
      rw [List.take_of_length_le (by omega)]
      generalize rlF (plMirr mw) mw mw mc (List.replicate mc.length 0) mc.length = R at hrl hlay
      refine ⟨by omega, by omega, by simp [othAt], ⟨by omega, by omega⟩, fun i hj => ⟨fun hlt => ?_, fun hge => ?_⟩⟩
      · have hlt : i < R.length := by simpa using hlt
        have h0 := hj.1
        have hu8 := byte_lt (mirO (R.getD i.toNat 0))
        rw [oth_get (by omega), oth_len (by omega), mirI_eq, Int.toNat_natCast, UInt8.ofNat_toNat, wrap64_in (x := i + 1) (by omega), show (i + 1).toNat = i.toNat + 1 by omega, oth_step (by omega)]
        refine ⟨⟨h0, hlt⟩, by omega, ⟨h0, hlt⟩, ⟨by omega, by omega, by omega⟩, rfl, ⟨by omega, by omega⟩, by omega⟩
      · have hge : ¬ i < R.length := by simpa using hge
        have hie : i = R.length := by have := hj.2; omega
        subst hie
        rw [Int.toNat_natCast, oth_end rfl, hlay]
        refine ⟨by rw [← hlay]; simp, ?_⟩
        rw [List.take_of_length_le (by rw [← hlay]; simp)]
        simp [hg, mrW, mrH, mrC, tnU, retP, leV, leL, V.under, underL, chkB]
end Go.Vi
