/- Mazes: the conditions hold. -/
import Derived.Test.YteleacldecambaaDoorA1Vc
import Derived.Test.YteleacldecambaaDoorA1Spec
import Derived.Test.YteleacldecambaaDoorA1Math
namespace Go.Vi
theorem mz_iff {m : Mz} : mzB m = true ↔ (1 ≤ m.w ∧ m.w ≤ 9) ∧ (1 ≤ m.h ∧ m.h ≤ 9) ∧ (m.c.length : Int) = m.w * m.h ∧ m.c.all mirB = true := by
  unfold mzB
  simp only [Bool.and_eq_true, inB_eq, beq_iff_eq, and_assoc]
theorem bl_iff {m : Mz} {x y d : Int} : blB m x y d = true ↔ mzB m = true ∧ (0 ≤ x ∧ x < m.w) ∧ (0 ≤ y ∧ y < m.h) ∧ (0 ≤ d ∧ d ≤ 3) := by
  unfold blB
  simp only [Bool.and_eq_true, inB_eq, and_assoc]
  refine ⟨fun ⟨h0, h1, h2, h3, h4, h5, h6⟩ => ⟨h0, h1, by omega, h3, by omega, h5, h6⟩, fun ⟨h0, h1, h2, h3, h4, h5, h6⟩ => ⟨h0, h1, by omega, h3, by omega, h5, h6⟩⟩
theorem bl_good {w h : Int} {c : List UInt8} {t : Bool} {x y d : Int} (hb : blB ⟨w, h, c, t⟩ x y d = true) : goodR w h ⟨c, x, y, d⟩ := by
  obtain ⟨hm, hx, hy, hd⟩ := bl_iff.1 hb
  obtain ⟨hw, hh, hl, ha⟩ := mz_iff.1 hm
  exact ⟨⟨hw, hh⟩, hl, ha, inR_iff.2 ⟨hx, hy⟩, hd⟩
theorem good_bl {w h : Int} {t : Bool} {r : Rl} (g : goodR w h r) : blB ⟨w, h, r.c, t⟩ r.x r.y r.d = true := by
  obtain ⟨⟨hw, hh⟩, hl, ha, hi, hd⟩ := g
  obtain ⟨hx, hy⟩ := inR_iff.1 hi
  exact bl_iff.2 ⟨mz_iff.2 ⟨hw, hh, hl, ha⟩, hx, hy, hd⟩
theorem u8i {b : UInt8} {n : Nat} (h : n < 256) : (((b.toNat : Nat) : Int) = (n : Int)) ↔ b = UInt8.ofNat n := by
  rw [← UInt8.toNat_inj, UInt8.toNat_ofNat']
  omega
theorem u8z {b : UInt8} : ((b.toNat : Nat) : Int) = 90 ↔ b = 90 := u8i (n := 90) (by omega)
theorem u8s {b : UInt8} : ((b.toNat : Nat) : Int) = 83 ↔ b = 83 := u8i (n := 83) (by omega)
theorem u8d {b : UInt8} : ((b.toNat : Nat) : Int) = 46 ↔ b = 46 := u8i (n := 46) (by omega)
theorem u8zb (b : UInt8) : (((b.toNat : Nat) : Int) == 90) = decide (b = 90) := by rw [Bool.eq_iff_iff, beq_iff_eq, decide_eq_true_eq]; exact u8z
theorem u8sb (b : UInt8) : (((b.toNat : Nat) : Int) == 83) = decide (b = 83) := by rw [Bool.eq_iff_iff, beq_iff_eq, decide_eq_true_eq]; exact u8s
theorem u8db (b : UInt8) : (((b.toNat : Nat) : Int) == 46) = decide (b = 46) := by rw [Bool.eq_iff_iff, beq_iff_eq, decide_eq_true_eq]; exact u8d
theorem mir_cases {b : UInt8} : mirB b = true ↔ ((b.toNat : Int) = 46 ∨ (b.toNat : Int) = 90 ∨ (b.toNat : Int) = 83) := by
  rw [mirB_iff, ← UInt8.toNat_inj, ← UInt8.toNat_inj, ← UInt8.toNat_inj]
  have h1 : (46 : UInt8).toNat = 46 := rfl
  have h2 : (90 : UInt8).toNat = 90 := rfl
  have h3 : (83 : UInt8).toNat = 83 := rfl
  omega
theorem cm_step {c : List UInt8} {i : Int} (h : cmInv c i) (hi : i < c.length) : cmInv c (IntKind.wrap .i64 (i + 1)) ∧ ((c.length : Int) - IntKind.wrap .i64 (i + 1)).toNat < ((c.length : Int) - i).toNat ∧ IntKind.wrap .i64 (i + 1) = i + 1 ∧ (i + 1).toNat = i.toNat + 1 ∧ i.toNat < c.length := by
  obtain ⟨h1, h2, h3⟩ := h
  rw [wrap64_in (by omega)]
  exact ⟨⟨h1, by omega, by omega⟩, by omega, rfl, by omega, by omega⟩
theorem vc_spec_miGood (mw mh : Int) (mc : List UInt8) (mu : Bool) (_ : True) : VC_spec_miGood mw mh mc mu (retP (.bool (mzB ⟨mw, mh, mc, mu⟩))) := by
  unfold VC_spec_miGood mzB
  simp only [at_iff, retP_lit, true_and, and_true, Bool.not_eq_true', Bool.not_eq_false']
  refine ⟨fun h => by simp [h], fun hw => ⟨fun h => by simp [h], fun hh => ?_⟩⟩
  have hm := mul_bd (inB_eq.1 hw) (inB_eq.1 hh)
  rw [wrap64_in (x := mw * mh) (by omega)]
  refine ⟨fun h => ?_, fun h => ?_⟩
  · have : ((mc.length : Int) == mw * mh) = false := by simpa using h
    simp [this]
  · have hc : ((mc.length : Int) == mw * mh) = true := by simpa using h
    have hcl : (mc.length : Int) = mw * mh := by simpa using hc
    simp only [hw, hh, hc, Bool.true_and]
    refine ⟨⟨⟨by omega, by omega, by omega⟩, by simp⟩, fun i hi => ⟨fun hlt => ?_, fun hge => ?_⟩⟩
    · have hlt' : i < mc.length := by simpa using hlt
      obtain ⟨s1, s2, s3, s4, s5⟩ := cm_step hi.1 hlt'
      have h0 := hi.1.2.1
      have bad : mirB (mc.getD i.toNat 0) = false → mc.all mirB = false := fun hb => all_getD s5 hb
      have ok : mirB (mc.getD i.toNat 0) = true → (cmInv mc (IntKind.wrap .i64 (i + 1)) ∧ (mc.take (IntKind.wrap .i64 (i + 1)).toNat).all mirB = true) ∧ ((mc.length : Int) - IntKind.wrap .i64 (i + 1)).toNat < ((mc.length : Int) - i).toNat := fun hb => by
        refine ⟨⟨s1, ?_⟩, s2⟩
        rw [s3, s4, all_take_succ s5, hi.2, hb]; rfl
      have hcs := @mir_cases (mc.getD i.toNat 0)
      cases hmb : mirB (mc.getD i.toNat 0) with
      | true =>
        have hc3 := hcs.1 hmb
        have ok' := ok hmb
        refine ⟨⟨h0, hlt'⟩, fun h1 => ⟨⟨h0, hlt'⟩, fun h2 => ⟨⟨h0, hlt'⟩, fun h3 => ?_, fun _ => ok'⟩, fun _ => ok'⟩, fun _ => ok'⟩
        simp only [bne_iff_ne, ne_eq] at h1 h2 h3
        omega
      | false =>
        have hn : ¬ (((mc.getD i.toNat 0).toNat : Int) = 46 ∨ ((mc.getD i.toNat 0).toNat : Int) = 90 ∨ ((mc.getD i.toNat 0).toNat : Int) = 83) := fun hh => by
          have := hcs.2 hh
          rw [hmb] at this; cases this
        have hb := bad hmb
        refine ⟨⟨h0, hlt'⟩, fun h1 => ⟨⟨h0, hlt'⟩, fun h2 => ⟨⟨h0, hlt'⟩, fun h3 => hb.symm, fun h3 => ?_⟩, fun h2 => ?_⟩, fun h1 => ?_⟩
        · simp only [bne_eq_false_iff_eq] at h3; omega
        · simp only [bne_eq_false_iff_eq] at h2; omega
        · simp only [bne_eq_false_iff_eq] at h1; omega
    · have hge' := of_decide_eq_false hge
      have := hi.2
      rw [List.take_of_length_le (by obtain ⟨⟨_, _, _⟩, _⟩ := hi; omega)] at this
      exact this.symm
theorem dropWhile_nil {p : UInt8 → Bool} : ∀ {l : List UInt8}, l.dropWhile p = [] ↔ l.all p = true
  | [] => by simp
  | a :: l => by
    rw [List.dropWhile_cons]
    cases h : p a
    · simp [h]
    · simp [h, dropWhile_nil (l := l)]
theorem trim_mir (c : List UInt8) : (Go.Lib.trimS c [46, 90, 83] == []) = c.all mirB := by
  have hp : (fun x : UInt8 => ([46, 90, 83] : List UInt8).contains x) = mirB := by
    funext x
    simp only [mirB, Bool.or_assoc, List.contains_cons, List.contains_nil, Bool.or_false]
  rw [Bool.eq_iff_iff, beq_iff_eq]
  unfold Go.Lib.trimS Go.Lib.trimLeftS Go.Lib.trimRightS
  rw [hp, dropWhile_nil, List.all_reverse]
  constructor
  · intro h
    cases hd : c.reverse.dropWhile mirB with
    | nil =>
      have := dropWhile_nil.1 hd
      rwa [List.all_reverse] at this
    | cons a r =>
      rw [hd] at h
      have ha : mirB a = true := by
        simp only [List.all_cons, Bool.and_eq_true] at h
        exact h.1
      have := List.head?_dropWhile_not mirB c.reverse
      rw [hd] at this
      simp [ha] at this
  · intro h
    have : c.reverse.dropWhile mirB = [] := dropWhile_nil.2 (by rwa [List.all_reverse])
    rw [this]; rfl
theorem vc_impl_IsMaze (mw mh : Int) (mc : List UInt8) (mu : Bool) (_ : True) : VC_impl_IsMaze mw mh mc mu (retP (.bool (mzB ⟨mw, mh, mc, mu⟩))) := by
  unfold VC_impl_IsMaze mzB
  simp only [at_iff, retP_lit, retP_bool, true_and, Bool.not_eq_true', Bool.not_eq_false']
  refine ⟨fun hw => ⟨fun h => by simp [h], fun hh => ?_⟩, fun h => by simp [h]⟩
  have hm := mul_bd (inB_eq.1 hw) (inB_eq.1 hh)
  rw [wrap64_in (x := mw * mh) (by omega)]
  refine ⟨fun h => ?_, fun h => ?_⟩
  · have : ((mc.length : Int) == mw * mh) = false := by simpa using h
    simp [this]
  · have hc : ((mc.length : Int) == mw * mh) = true := by simpa using h
    have hcl : (mc.length : Int) = mw * mh := by simpa using hc
    simp only [hw, hh, hc, Bool.true_and]
    exact ⟨by omega, trim_mir mc⟩
theorem vc_laws_szMaze (mw mh : Int) (mc : List UInt8) (mu : Bool) (left : Int) (h : 0 ≤ left ∧ left ≤ 1000000000 ∧ (mc.length : Int) ≤ 9223372036854775807) : VC_laws_szMaze mw mh mc mu left (retP (.int .i64 (szM mc left))) := by
  unfold VC_laws_szMaze szM
  rw [wrap64_in (x := left - mc.length) (by omega)]
  refine ⟨fun h1 => ?_, fun h1 => ?_⟩ <;> simp [retP_int, h1]
theorem vc_laws_toMaze (mw mh : Int) (mc : List UInt8) (mu : Bool) (_ : True) : VC_laws_toMaze mw mh mc mu (retP (mzV ⟨mw, mh, mc, mu⟩)) := by
  unfold VC_laws_toMaze
  simp [retP, leV, leL, mzV, V.under, underL, chkB]
theorem vc_laws_toBall (bx by_ bd : Int) (_ : True) : VC_laws_toBall bx by_ bd (retP (blV bx by_ bd)) := by
  unfold VC_laws_toBall
  simp [retP, leV, leL, blV, V.under, underL, chkB]
theorem vc_laws_eqMaze (aw ah : Int) (ac : List UInt8) (au : Bool) (bw bh : Int) (bc : List UInt8) (bu : Bool) (_ : True) : VC_laws_eqMaze aw ah ac au bw bh bc bu (retP (.bool (eqM ⟨aw, ah, ac, au⟩ ⟨bw, bh, bc, bu⟩))) := by
  unfold VC_laws_eqMaze eqM
  simp only [retP_lit, bne_iff_ne, ne_eq, bne_eq_false_iff_eq]
  refine ⟨fun h => by simp [h], fun h => ⟨fun h2 => ?_, fun h2 => ⟨fun h3 => ?_, fun h3 => ⟨fun h4 => ?_, fun h4 => ?_⟩⟩⟩⟩ <;> simp_all
theorem vc_laws_eqBall (ax ay ad bx by_ bd : Int) (_ : True) : VC_laws_eqBall ax ay ad bx by_ bd (retP (.bool (ax == bx && ay == by_ && ad == bd))) := by
  unfold VC_laws_eqBall
  simp only [retP_lit, bne_iff_ne, ne_eq, bne_eq_false_iff_eq]
  refine ⟨fun h => by simp [h], fun h => ⟨fun h2 => ?_, fun h2 => ⟨fun h3 => ?_, fun h3 => ?_⟩⟩⟩ <;> simp_all
theorem retP_blV {x y d x' y' d' : Int} (h1 : x' = x) (h2 : y' = y) (h3 : d' = d) : retP (blV x y d) (.agg [.int .i64 x', .int .i64 y', .int .i64 d']) := by
  subst h1; subst h2; subst h3
  simp [retP, leV, leL, blV, V.under, underL, chkB]
theorem vc_spec_miEntry (mw mh : Int) (mc : List UInt8) (mu : Bool) (k : Int) (h : (1 ≤ mw ∧ mw ≤ 9) ∧ (1 ≤ mh ∧ mh ≤ 9) ∧ 0 ≤ k ∧ k < 2 * (mw + mh)) : VC_spec_miEntry mw mh mc mu k (retP (blV (entX mw mh k) (entY mw mh k) (entD mw mh k))) := by
  unfold VC_spec_miEntry entX entY entD
  have e1 : IntKind.wrap .i64 (mw + mh) = mw + mh := wrap64_in (by omega)
  have e2 : IntKind.wrap .i64 (2 * mw) = 2 * mw := wrap64_in (by omega)
  have e3 : IntKind.wrap .i64 (2 * mw + mh) = 2 * mw + mh := wrap64_in (by omega)
  have e4 : IntKind.wrap .i64 (2 * (mw + mh)) = 2 * (mw + mh) := wrap64_in (by omega)
  simp only [e1, e2, e3, e4, decide_eq_true_eq, decide_eq_false_iff_not]
  refine ⟨fun h1 => ?_, fun h1 => ⟨fun h2 => ?_, fun h2 => ⟨fun h3 => ?_, fun h3 => ?_⟩⟩⟩
  · simp only [h1, if_true]; exact retP_blV rfl rfl rfl
  · simp only [h1, h2, if_true, if_false]; exact retP_blV (wrap64_in (by omega)) (wrap64_in (by omega)) rfl
  · simp only [h1, h2, h3, if_true, if_false]
    exact retP_blV (by rw [wrap64_in (x := 2 * mw + mh - 1) (by omega), wrap64_in (by omega)]) (wrap64_in (by omega)) rfl
  · simp only [h1, h2, h3, if_false]
    exact retP_blV rfl (by rw [wrap64_in (x := 2 * (mw + mh) - 1) (by omega), wrap64_in (by omega)]) rfl
theorem vc_impl_entry (mw mh : Int) (mc : List UInt8) (mu : Bool) (k : Int) (h : (1 ≤ mw ∧ mw ≤ 9) ∧ (1 ≤ mh ∧ mh ≤ 9) ∧ 0 ≤ k ∧ k < 2 * (mw + mh)) : VC_impl_entry mw mh mc mu k (retP (blV (entX mw mh k) (entY mw mh k) (entD mw mh k))) := by
  unfold VC_impl_entry entX entY entD
  have e1 : IntKind.wrap .i64 (mw + mh) = mw + mh := wrap64_in (by omega)
  have e3 : IntKind.wrap .i64 (mw + mh + mw) = 2 * mw + mh := by rw [wrap64_in (by omega)]; omega
  have e4 : IntKind.wrap .i64 (2 * (mw + mh)) = 2 * (mw + mh) := wrap64_in (by omega)
  simp only [e1, e3, e4, decide_eq_true_eq, decide_eq_false_iff_not]
  refine ⟨fun h1 => ?_, fun h1 => ⟨fun h2 => ?_, fun h2 => ⟨fun h3 => ?_, fun h3 => ?_⟩⟩⟩
  · simp only [h1, if_true]; exact retP_blV rfl rfl rfl
  · simp only [h1, h2, if_true, if_false]; exact retP_blV (wrap64_in (by omega)) (wrap64_in (by omega)) rfl
  · simp only [h1, h2, h3, if_true, if_false]
    exact retP_blV (by rw [wrap64_in (x := 2 * mw + mh - 1) (by omega), wrap64_in (by omega)]) (wrap64_in (by omega)) rfl
  · simp only [h1, h2, h3, if_false]
    exact retP_blV rfl (by rw [wrap64_in (x := 2 * (mw + mh) - 1) (by omega), wrap64_in (by omega)]) rfl
theorem vc_ball {mw mh : Int} {mc : List UInt8} {mu : Bool} {bx by_ bd : Int} : At True ∧ (mzB { w := mw, h := mh, c := mc, t := mu } = true → At True ∧ (inB bx (0 : Int) (IntKind.wrap IntKind.i64 (mw - (1 : Int))) = true → At True ∧ (inB by_ (0 : Int) (IntKind.wrap IntKind.i64 (mh - (1 : Int))) = true → At True ∧ retP (.bool (blB ⟨mw, mh, mc, mu⟩ bx by_ bd)) (V.bool (inB bd (0 : Int) (3 : Int)))) ∧ (inB by_ (0 : Int) (IntKind.wrap IntKind.i64 (mh - (1 : Int))) = false → retP (.bool (blB ⟨mw, mh, mc, mu⟩ bx by_ bd)) (V.lit false))) ∧ (inB bx (0 : Int) (IntKind.wrap IntKind.i64 (mw - (1 : Int))) = false → retP (.bool (blB ⟨mw, mh, mc, mu⟩ bx by_ bd)) (V.lit false))) ∧ (mzB { w := mw, h := mh, c := mc, t := mu } = false → retP (.bool (blB ⟨mw, mh, mc, mu⟩ bx by_ bd)) (V.lit false)) := by
  simp only [at_iff, retP_lit, retP_bool, true_and]
  refine ⟨fun hm => ?_, fun hm => by simp [blB, hm]⟩
  obtain ⟨hw, hh, _⟩ := mz_iff.1 hm
  simp only at hw hh
  rw [wrap64_in (x := mw - 1) (by omega), wrap64_in (x := mh - 1) (by omega)]
  refine ⟨fun h1 => ⟨fun h2 => ?_, fun h2 => ?_⟩, fun h1 => ?_⟩ <;> simp [blB, *]
theorem vc_spec_miBall (mw mh : Int) (mc : List UInt8) (mu : Bool) (bx by_ bd : Int) (_ : True) : VC_spec_miBall mw mh mc mu bx by_ bd (retP (.bool (blB ⟨mw, mh, mc, mu⟩ bx by_ bd))) := vc_ball
theorem vc_impl_IsBall (mw mh : Int) (mc : List UInt8) (mu : Bool) (bx by_ bd : Int) (_ : True) : VC_impl_IsBall mw mh mc mu bx by_ bd (retP (.bool (blB ⟨mw, mh, mc, mu⟩ bx by_ bd))) := vc_ball
theorem wrap_ends {w h : Int} (hw : 1 ≤ w ∧ w ≤ 9) (hh : 1 ≤ h ∧ h ≤ 9) : IntKind.wrap .i64 (w + h) = w + h ∧ IntKind.wrap .i64 (2 * (w + h)) = 2 * (w + h) ∧ IntKind.wrap .i64 (2 * (w + h) - 1) = 2 * (w + h) - 1 :=
  ⟨wrap64_in (by omega), wrap64_in (by omega), wrap64_in (by omega)⟩
theorem vc_spec_miEnd (mw mh : Int) (mc : List UInt8) (mu : Bool) (k : Int) (_ : True) : VC_spec_miEnd mw mh mc mu k (retP (.bool (enB ⟨mw, mh, mc, mu⟩ k))) := by
  unfold VC_spec_miEnd enB
  simp only [at_iff, retP_lit, retP_bool, true_and]
  refine ⟨fun hm => ?_, fun hm => by simp [hm]⟩
  obtain ⟨hw, hh, _⟩ := mz_iff.1 hm
  simp only at hw hh
  obtain ⟨e1, e2, e3⟩ := wrap_ends hw hh
  rw [e1, e2, e3, hm]; rfl
/-! ### mirrors counted -/
theorem cnt_le (b : UInt8) (c : List UInt8) (k : Nat) : 0 ≤ cntB b (c.take k) ∧ cntB b (c.take k) ≤ c.length := by
  unfold cntB
  have := List.countP_le_length (p := (· == b)) (l := c.take k)
  rw [List.length_take] at this
  omega
theorem cnt_step {b : UInt8} {c : List UInt8} {i : Nat} (h : i < c.length) : cntB b (c.take (i + 1)) = cntB b (c.take i) + (if c.getD i 0 = b then 1 else 0) := by
  unfold cntB
  rw [List.take_succ_eq_append_getElem h, List.countP_append, List.getD_eq_getElem?_getD, List.getElem?_eq_getElem h]
  simp only [List.countP_cons, List.countP_nil, Option.getD_some, beq_iff_eq]
  split <;> simp
theorem vc_spec_CountMirrors (mw mh : Int) (mc : List UInt8) (mu : Bool) (_ : True) :
    VC_spec_CountMirrors mw mh mc mu (retP (.tup [.int .i64 (bif mzB ⟨mw, mh, mc, mu⟩ then cntB 90 mc else 0), .int .i64 (bif mzB ⟨mw, mh, mc, mu⟩ then cntB 83 mc else 0), .bool (mzB ⟨mw, mh, mc, mu⟩)])) := by
  unfold VC_spec_CountMirrors
  refine ⟨⟨trivial⟩, fun hm => ?_, fun hm => ?_⟩
  · have hm : mzB ⟨mw, mh, mc, mu⟩ = false := by simpa using hm
    simp [hm, retP, leV, leL, V.under, underL, chkB]
  · have hm : mzB ⟨mw, mh, mc, mu⟩ = true := by simpa using hm
    obtain ⟨hw, hh, hl, _⟩ := mz_iff.1 hm
    simp only at hw hh hl
    have hb := mul_bd hw hh
    refine ⟨by simp [cntB], ⟨by omega, by omega, by omega⟩, fun i hi => ⟨fun hlt => ?_, fun hge => ?_⟩⟩
    · have hlt' : i < mc.length := by simpa using hlt
      obtain ⟨s1, s2, s3, s4, s5⟩ := cm_step hi hlt'
      have h0 := hi.2.1
      have z := cnt_step (b := 90) s5
      have s := cnt_step (b := 83) s5
      have zl := cnt_le 90 mc i.toNat
      have sl := cnt_le 83 mc i.toNat
      have w1 : IntKind.wrap .i64 (cntB 90 (mc.take i.toNat) + 1) = cntB 90 (mc.take i.toNat) + 1 := wrap64_in (by omega)
      have w2 : IntKind.wrap .i64 (cntB 83 (mc.take i.toNat) + 1) = cntB 83 (mc.take i.toNat) + 1 := wrap64_in (by omega)
      have u1 := u8zb (mc.getD i.toNat 0)
      have u2 := u8sb (mc.getD i.toNat 0)
      have st := And.intro s1 s2
      have ix : ((0 : Int) ≤ i ∧ i < (mc.length : Int)) := ⟨h0, hlt'⟩
      simp only [s3] at st ⊢
      rw [s4, z, s, w1, w2]
      simp only [u1, u2, at_iff]
      generalize mc.getD i.toNat 0 = b at *
      refine ⟨ix, fun h1 => ⟨ix, fun h2 => ?_, fun h2 => ?_⟩, fun h1 => ⟨ix, fun h2 => ?_, fun h2 => ?_⟩⟩
      all_goals simp only [decide_eq_true_eq, decide_eq_false_iff_not] at h1 h2
      all_goals simp [h1, h2, st]
      all_goals first | (subst h1; exact absurd h2 (by decide)) | skip
    · have hge' := of_decide_eq_false hge
      rw [List.take_of_length_le (by obtain ⟨_, _, _⟩ := hi; omega)]
      simp [hm, retP, leV, leL, V.under, underL, chkB]
theorem vc_impl_CountMirrors (mw mh : Int) (mc : List UInt8) (mu : Bool) (_ : True) :
    VC_impl_CountMirrors mw mh mc mu (retP (.tup [.int .i64 (bif mzB ⟨mw, mh, mc, mu⟩ then cntB 90 mc else 0), .int .i64 (bif mzB ⟨mw, mh, mc, mu⟩ then cntB 83 mc else 0), .bool (mzB ⟨mw, mh, mc, mu⟩)])) := by
  unfold VC_impl_CountMirrors
  refine ⟨⟨trivial⟩, fun hm => ?_, fun hm => ?_⟩
  · have hm : mzB ⟨mw, mh, mc, mu⟩ = false := by simpa using hm
    simp [hm, retP, leV, leL, V.under, underL, chkB]
  · have hm : mzB ⟨mw, mh, mc, mu⟩ = true := by simpa using hm
    simp [hm, retP, leV, leL, V.under, underL, chkB]
theorem vc_spec_EntryOf (mw mh : Int) (mc : List UInt8) (mu : Bool) (k : Int) (_ : True) : VC_spec_EntryOf mw mh mc mu k (retP (entV (enB ⟨mw, mh, mc, mu⟩ k) mw mh k)) := by
  unfold VC_spec_EntryOf
  refine ⟨⟨trivial⟩, fun hm => ?_, fun hm => ?_⟩
  · have hm : enB ⟨mw, mh, mc, mu⟩ k = false := by simpa using hm
    simp [hm, entV, blV, retP, leV, leL, V.under, underL, chkB]
  · have hm : enB ⟨mw, mh, mc, mu⟩ k = true := by simpa using hm
    have h2 := hm
    unfold enB at h2
    simp only [Bool.and_eq_true, inB_eq] at h2
    obtain ⟨hw, hh, _⟩ := mz_iff.1 h2.1
    simp only at hw hh
    refine ⟨⟨hw, hh, by omega⟩, ?_⟩
    simp [hm, entV, blV, retP, leV, leL, V.under, underL, chkB]
theorem vc_impl_EntryOf (mw mh : Int) (mc : List UInt8) (mu : Bool) (k : Int) (_ : True) : VC_impl_EntryOf mw mh mc mu k (retP (entV (enB ⟨mw, mh, mc, mu⟩ k) mw mh k)) := by
  unfold VC_impl_EntryOf
  refine ⟨⟨trivial⟩, fun hm => ?_, fun hm => ?_⟩
  · have hm : mzB ⟨mw, mh, mc, mu⟩ = false := by simpa using hm
    simp [enB, hm, entV, blV, retP, leV, leL, V.under, underL, chkB]
  · have hm : mzB ⟨mw, mh, mc, mu⟩ = true := by simpa using hm
    obtain ⟨hw, hh, _⟩ := mz_iff.1 hm
    simp only at hw hh
    obtain ⟨e1, e2, e3⟩ := wrap_ends hw hh
    rw [e1, e2, e3]
    refine ⟨⟨trivial⟩, fun hk => ?_, fun hk => ?_⟩
    · have hk : inB k 0 (2 * (mw + mh) - 1) = false := by simpa using hk
      simp [enB, hm, hk, entV, blV, retP, leV, leL, V.under, underL, chkB]
    · have hk : inB k 0 (2 * (mw + mh) - 1) = true := by simpa using hk
      have hk' := inB_eq.1 hk
      refine ⟨⟨hw, hh, by omega⟩, ?_⟩
      simp [enB, hm, hk, entV, blV, retP, leV, leL, V.under, underL, chkB]
/-! ### mirrors, ways, directions -/
theorem vc_impl_otherMirror (b : Int) (_ : True) : VC_impl_otherMirror b (retP (.int .u8 (mirI b))) := by
  unfold VC_impl_otherMirror mirI
  refine ⟨fun h => ?_, fun h => ⟨fun h' => ?_, fun h' => ?_⟩⟩ <;> simp_all [retP_int]
theorem vc_impl_wayBehind (b d : Int) (h : 0 ≤ d ∧ d ≤ 3) : VC_impl_wayBehind b d (retP (.int .i64 (wayI b d))) := by
  unfold VC_impl_wayBehind wayI
  refine ⟨fun h1 => ⟨⟨by omega, by omega, by omega, by omega⟩, ?_⟩, fun h1 => ⟨fun h2 => ?_, fun h2 => ?_⟩⟩
  · simp_all [retP_int]
  · rw [wrap64_in (x := 3 - d) (by omega)]; simp_all [retP_int]
  · simp_all [retP_int]
theorem vc_impl_direction (d : Int) (h : 0 ≤ d ∧ d ≤ 3) : VC_impl_direction d (retP (.tup [.int .i64 (dxW d), .int .i64 (dyW d)])) := by
  rcases four h with rfl | rfl | rfl | rfl <;> simp [VC_impl_direction, dxW, dyW, retP, leV, leL, V.under, underL, chkB]
theorem mirI_eq (b : UInt8) : mirI b.toNat = (mirO b).toNat := by
  unfold mirI mirO
  have h1 := u8z (b := b)
  have h2 := u8s (b := b)
  by_cases e1 : b = 90
  · subst e1; rfl
  · by_cases e2 : b = 83
    · subst e2; rfl
    · rw [if_neg (fun h => e1 (h1.1 h)), if_neg (fun h => e2 (h2.1 h)), if_neg (by simpa using e1), if_neg (by simpa using e2)]
theorem wayI_eq (b : UInt8) (d : Int) : wayI b.toNat d = wayN b d := by
  unfold wayI wayN
  have h1 := u8z (b := b)
  have h2 := u8s (b := b)
  by_cases e1 : b = 90
  · subst e1; rfl
  · by_cases e2 : b = 83
    · subst e2; rfl
    · rw [if_neg (fun h => e1 (h1.1 h)), if_neg (fun h => e2 (h2.1 h)), if_neg (by simpa using e1), if_neg (by simpa using e2)]
theorem set_parts {l : List UInt8} {i : Nat} {v : UInt8} (h : i < l.length) : l.take i ++ [v] ++ l.drop (i + 1) = l.set i v := by
  rw [List.set_eq_take_append_cons_drop, if_pos h]
  simp
theorem set_self {l : List UInt8} {i : Nat} {v : UInt8} (h : i < l.length) (hv : l.getD i 0 = v) : l.set i v = l := by
  rw [← hv, List.getD_eq_getElem?_getD, List.getElem?_eq_getElem h]
  simp
theorem retP_hit {w h : Int} {c c' : List UInt8} {t : Bool} {x y d x' y' d' : Int} (h1 : c' = c) (h2 : x' = x) (h3 : y' = y) (h4 : d' = d) :
    retP (.tup [mzV ⟨w, h, c, t⟩, blV x y d]) (.tup [.agg [.int .i64 w, .int .i64 h, .str c', .bool t], .agg [.int .i64 x', .int .i64 y', .int .i64 d']]) := by
  subst h1; subst h2; subst h3; subst h4
  simp [retP, leV, leL, mzV, blV, V.under, underL, chkB]
theorem vc_spec_miHit (mw mh : Int) (mc : List UInt8) (mu : Bool) (bx by_ bd : Int) (h : blB ⟨mw, mh, mc, mu⟩ bx by_ bd = true) :
    VC_spec_miHit mw mh mc mu bx by_ bd (retP (.tup [mzV ⟨mw, mh, (hitR mu mw ⟨mc, bx, by_, bd⟩).c, mu⟩, blV (hitR mu mw ⟨mc, bx, by_, bd⟩).x (hitR mu mw ⟨mc, bx, by_, bd⟩).y (hitR mu mw ⟨mc, bx, by_, bd⟩).d])) := by
  have g := bl_good h
  obtain ⟨i0, i1, i2, i3⟩ := g.ix
  obtain ⟨⟨hw, hh⟩, hl, _, hi, hd⟩ := g
  obtain ⟨hx, hy⟩ := inR_iff.1 hi
  simp only at hx hy hd hl i0 i1
  have hm := mul_bd hw hh
  have hyw : 0 ≤ by_ * mw := Int.mul_nonneg hy.1 (by omega)
  have e0 : IntKind.wrap .i64 (by_ * mw) = by_ * mw := wrap64_in (by omega)
  have e1 : IntKind.wrap .i64 (by_ * mw + bx) = by_ * mw + bx := wrap64_in (by omega)
  have e2 : IntKind.wrap .i64 (by_ * mw + bx + 1) = by_ * mw + bx + 1 := wrap64_in (by omega)
  have e3 : IntKind.wrap .i64 (bx + 1) = bx + 1 := wrap64_in (by omega)
  have e4 : IntKind.wrap .i64 (bx - 1) = bx - 1 := wrap64_in (by omega)
  have e5 : IntKind.wrap .i64 (by_ + 1) = by_ + 1 := wrap64_in (by omega)
  have e6 : IntKind.wrap .i64 (by_ - 1) = by_ - 1 := wrap64_in (by omega)
  have e7 : IntKind.wrap .i64 (3 - bd) = 3 - bd := wrap64_in (by omega)
  have e8 : (by_ * mw + bx + 1).toNat = (by_ * mw + bx).toNat + 1 := by omega
  have i2' : (by_ * mw + bx).toNat < mc.length := i2
  have hset := fun v => set_parts (v := v) i2'
  have n1 : (mc.take (by_ * mw + bx).toNat).length ≤ 81 := by rw [List.length_take]; omega
  have n2 : (mc.drop ((by_ * mw + bx).toNat + 1)).length ≤ 81 := by rw [List.length_drop]; omega
  have hcell : cellR mw ⟨mc, bx, by_, bd⟩ = mc.getD (by_ * mw + bx).toNat 0 := rfl
  rw [hcell] at i3
  unfold VC_spec_miHit
  simp only [e0, e1, e2, e3, e4, e5, e6, e7, e8, at_iff]
  have fin : ∀ b : UInt8, mc.getD (by_ * mw + bx).toNat 0 = b → hitR mu mw ⟨mc, bx, by_, bd⟩ = ⟨bif mu then mc.set (by_ * mw + bx).toNat (mirO b) else mc, bx + dxW (wayN b bd), by_ + dyW (wayN b bd), wayN b bd⟩ := fun b hb => by
    unfold hitR; rw [hcell, hb]; rfl
  have rng : (0 : Int) ≤ by_ * mw + bx ∧ by_ * mw + bx < (mc.length : Int) := ⟨i0, by omega⟩
  have rng' : (0 : Int) ≤ by_ * mw + bx ∧ by_ * mw + bx ≤ (mc.length : Int) := ⟨i0, by omega⟩
  have rng1 : (0 : Int) ≤ by_ * mw + bx + 1 ∧ by_ * mw + bx + 1 ≤ (mc.length : Int) := ⟨by omega, by omega⟩
  generalize hb : mc.getD (by_ * mw + bx).toNat 0 = b at *
  rw [fin b rfl]
  clear fin hcell
  refine ⟨rng, ?_⟩
  rcases mirB_iff.1 i3 with rfl | rfl | rfl
  all_goals simp only [UInt8.reduceToNat, Int.cast_ofNat_Int, Int.reduceBEq, Int.reduceBNe, reduceCtorEq, false_implies, forall_const, true_and, and_true]
  all_goals cases mu
  all_goals rcases four hd with rfl | rfl | rfl | rfl
  all_goals simp only [Int.reduceToNat, Nat.reduceXor, Int.cast_ofNat_Int, Int.reduceBEq, Int.reduceSub, reduceCtorEq, false_implies, forall_const, true_and, and_true, rng, rng', rng1]
  all_goals repeat' first | apply retP_hit | apply And.intro
  all_goals first
    | rfl
    | (simp only [List.length_append, List.length_cons, List.length_nil]; omega)
    | (simp [dxW, wayN, Int.sub_eq_add_neg]; done)
    | (simp [dyW, wayN, Int.sub_eq_add_neg]; done)
    | exact (set_self i2' hb).symm
    | exact hset _
theorem retG_roll {w h : Int} {c : List UInt8} {t : Bool} {s s' : Rn} {ty : TypeId} {b b' : Bool} {l : List UInt8} (hb : b' = b) (hl : l = padB 81 s.r.c) (hs : s'.r.x = s.r.x ∧ s'.r.y = s.r.y ∧ s'.r.d = s.r.d ∧ s'.e = s.e ∧ s'.k = s.k) :
    retG 1 (.bool b) [rollB w h c t s ty] (.bool b') [⟨.mix [.int .i64 w, .int .i64 h, .str c, .bool t] 81 l [.int .i64 s'.r.x, .int .i64 s'.r.y, .int .i64 s'.r.d, .int .i64 s'.e, .int .i64 s'.k], ty, .box⟩] := by
  subst hb; subst hl
  obtain ⟨h1, h2, h3, h4, h5⟩ := hs
  rw [h1, h2, h3, h4, h5]
  unfold retG leSel leSelBy autoSel
  simp [rollB, pairsL, pairsV, pairsIn, idPairs, selOf, lookN, selMem, findSel, Cells.selN, selL, V.sel, nilToL, V.nilTo, nodupSel, hasSel, prefSel, chkB, leSt, leL, leV, leMem, leCells, underL, V.under, memUnder]
theorem retG_rollL {w h : Int} {c : List UInt8} {t : Bool} {s s' : Rn} {ty : TypeId} {b : Bool} {b' : Bool} {l : List UInt8} (hb : b' = b) (hl : l = padB 81 s.r.c) (hs : s'.r.x = s.r.x ∧ s'.r.y = s.r.y ∧ s'.r.d = s.r.d ∧ s'.e = s.e ∧ s'.k = s.k) :
    retG 1 (.bool b) [rollB w h c t s ty] (.lit b') [⟨.mix [.int .i64 w, .int .i64 h, .str c, .bool t] 81 l [.int .i64 s'.r.x, .int .i64 s'.r.y, .int .i64 s'.r.d, .int .i64 s'.e, .int .i64 s'.k], ty, .box⟩] := by
  subst hb; subst hl
  obtain ⟨h1, h2, h3, h4, h5⟩ := hs
  rw [h1, h2, h3, h4, h5]
  unfold retG leSel leSelBy autoSel
  simp [rollB, pairsL, pairsV, pairsIn, idPairs, selOf, lookN, selMem, findSel, Cells.selN, selL, V.sel, nilToL, V.nilTo, nodupSel, hasSel, prefSel, chkB, leSt, leL, leV, leMem, leCells, underL, V.under, memUnder]
theorem padB_set {n i : Nat} {c : List UInt8} {v : UInt8} (h : i < c.length) (hc : c.length ≤ n) : (padB n c).set i v = padB n (c.set i v) := by
  unfold padB
  rw [List.take_of_length_le hc, List.take_of_length_le (by rw [List.length_set]; exact hc), List.length_set, List.set_append_left _ _ h]
theorem way_bd {b : UInt8} {d x : Int} (hb : mirB b = true) (hd : 0 ≤ d ∧ d ≤ 3) (hx : -1000 ≤ x ∧ x ≤ 1000) : IntKind.wrap .i64 (x + dxW (wayN b d)) = x + dxW (wayN b d) ∧ IntKind.wrap .i64 (x + dyW (wayN b d)) = x + dyW (wayN b d) := by
  have := wayN_bd hb hd
  have h1 : -1 ≤ dxW (wayN b d) ∧ dxW (wayN b d) ≤ 1 := by unfold dxW; split <;> (try split) <;> omega
  have h2 : -1 ≤ dyW (wayN b d) ∧ dyW (wayN b d) ≤ 1 := by unfold dyW; split <;> (try split) <;> omega
  exact ⟨wrap64_in (by omega), wrap64_in (by omega)⟩
theorem vc_impl_roll_goOn (mw mh : Int) (mc : List UInt8) (mu : Bool) (l : List UInt8) (bx by_ bd en hn : Int) (h : rlP mw mh l bx by_ bd) :
    VC_impl_roll_goOn mw mh mc mu l bx by_ bd en hn (retG 1 (.bool (inR mw mh (hitR mu mw (rlO mw mh l bx by_ bd)))) [rollB mw mh mc mu (stepN mu mw ⟨rlO mw mh l bx by_ bd, en, hn⟩) 57]) := by
  obtain ⟨hl, g⟩ := h
  unfold rlO at g ⊢
  generalize l.take (mw * mh).toNat = c at *
  subst hl
  obtain ⟨i0, i1, i2, i3⟩ := g.ix
  obtain ⟨⟨hw, hh⟩, hcl, _, hi, hd⟩ := g
  obtain ⟨hx, hy⟩ := inR_iff.1 hi
  simp only at hx hy hd hcl i0 i1 i2
  have hm := mul_bd hw hh
  have hyw : 0 ≤ by_ * mw := Int.mul_nonneg hy.1 (by omega)
  have e0 : IntKind.wrap .i64 (by_ * mw) = by_ * mw := wrap64_in (by omega)
  have e1 : IntKind.wrap .i64 (by_ * mw + bx) = by_ * mw + bx := wrap64_in (by omega)
  have e2 : IntKind.wrap .i64 (mw - 1) = mw - 1 := wrap64_in (by omega)
  have e3 : IntKind.wrap .i64 (mh - 1) = mh - 1 := wrap64_in (by omega)
  have hix : ixR mw ⟨c, bx, by_, bd⟩ = (by_ * mw + bx).toNat := rfl
  rw [hix] at i2
  have hc81 : c.length ≤ 81 := by omega
  have hg : (padB 81 c).getD (by_ * mw + bx).toNat 0 = cellR mw ⟨c, bx, by_, bd⟩ := padB_getD 81 c _ (by omega)
  have hset : ∀ v, (padB 81 (padB 81 c)).set (by_ * mw + bx).toNat v = padB 81 (c.set (by_ * mw + bx).toNat v) := fun v => by
    rw [padB_self (padB_length 81 c), padB_set i2 hc81]
  have hhit : hitR mu mw ⟨c, bx, by_, bd⟩ = ⟨bif mu then c.set (by_ * mw + bx).toNat (mirO (cellR mw ⟨c, bx, by_, bd⟩)) else c, bx + dxW (wayN (cellR mw ⟨c, bx, by_, bd⟩) bd), by_ + dyW (wayN (cellR mw ⟨c, bx, by_, bd⟩) bd), wayN (cellR mw ⟨c, bx, by_, bd⟩) bd⟩ := rfl
  have hhits : ∀ k, hitsN mw ⟨c, bx, by_, bd⟩ k = bif cellR mw ⟨c, bx, by_, bd⟩ == 46 then k else inc k := fun _ => rfl
  unfold VC_impl_roll_goOn stepN
  simp only [e0, e1, e2, e3, hg, hset, hhit, hhits]
  generalize cellR mw ⟨c, bx, by_, bd⟩ = b at *
  have hwd := wayN_bd i3 hd
  have hmo : UInt8.ofNat ((mirO b).toNat : Int).toNat = mirO b := by rw [Int.toNat_natCast]; exact UInt8.ofNat_toNat
  have w1 := (way_bd i3 hd (x := bx) (by omega)).1
  have w2 := (way_bd i3 hd (x := by_) (by omega)).2
  have ub : (0 : Int) ≤ ((mirO b).toNat : Int) ∧ ((mirO b).toNat : Int) < 256 := ⟨by omega, by have := byte_lt (mirO b); omega⟩
  have rng : (0 : Int) ≤ by_ * mw + bx ∧ by_ * mw + bx < ((81 : Nat) : Int) := ⟨i0, by omega⟩
  simp only [mirI_eq, wayI_eq, hmo, w1, w2, at_iff, true_and]
  have db := u8db b
  have yes : inB (bx + dxW (wayN b bd)) 0 (mw - 1) = true → ∀ r : Rl, r.x = bx + dxW (wayN b bd) → r.y = by_ + dyW (wayN b bd) → inB (by_ + dyW (wayN b bd)) 0 (mh - 1) = inR mw mh r := fun hb r h1 h2 => by
    unfold inR; rw [h1, h2, hb]; rfl
  have no : inB (bx + dxW (wayN b bd)) 0 (mw - 1) = false → ∀ r : Rl, r.x = bx + dxW (wayN b bd) → false = inR mw mh r := fun hb r h1 => by
    unfold inR; rw [h1, hb]; rfl
  have h46 : (((b.toNat : Int) != 46) = true → (b == 46) = false) ∧ (((b.toNat : Int) != 46) = false → (b == 46) = true) := by
    rw [show ((b.toNat : Int) != 46) = !((b.toNat : Int) == 46) from rfl, db]
    constructor <;> intro hh <;> simpa using hh
  refine ⟨rng, fun hne => ⟨fun ht => ⟨rng, ub, hd, hwd, fun hin => ?_, fun hin => ?_⟩, fun ht => ⟨hd, hwd, fun hin => ?_, fun hin => ?_⟩⟩, fun hne => ⟨fun ht => ⟨rng, ub, hd, hwd, fun hin => ?_, fun hin => ?_⟩, fun ht => ⟨hd, hwd, fun hin => ?_, fun hin => ?_⟩⟩⟩
  all_goals subst ht
  · rw [h46.1 hne]; exact retG_roll (s' := ⟨⟨[], _, _, _⟩, _, _⟩) (yes hin _ rfl rfl) rfl ⟨rfl, rfl, rfl, rfl, rfl⟩
  · rw [h46.1 hne]; exact retG_rollL (s' := ⟨⟨[], _, _, _⟩, _, _⟩) (no hin _ rfl) rfl ⟨rfl, rfl, rfl, rfl, rfl⟩
  · rw [h46.1 hne]; exact retG_roll (s' := ⟨⟨[], _, _, _⟩, _, _⟩) (yes hin _ rfl rfl) rfl ⟨rfl, rfl, rfl, rfl, rfl⟩
  · rw [h46.1 hne]; exact retG_rollL (s' := ⟨⟨[], _, _, _⟩, _, _⟩) (no hin _ rfl) rfl ⟨rfl, rfl, rfl, rfl, rfl⟩
  · rw [h46.2 hne]; exact retG_roll (s' := ⟨⟨[], _, _, _⟩, _, _⟩) (yes hin _ rfl rfl) rfl ⟨rfl, rfl, rfl, rfl, rfl⟩
  · rw [h46.2 hne]; exact retG_rollL (s' := ⟨⟨[], _, _, _⟩, _, _⟩) (no hin _ rfl) rfl ⟨rfl, rfl, rfl, rfl, rfl⟩
  · rw [h46.2 hne]; exact retG_roll (s' := ⟨⟨[], _, _, _⟩, _, _⟩) (yes hin _ rfl rfl) rfl ⟨rfl, rfl, rfl, rfl, rfl⟩
  · rw [h46.2 hne]; exact retG_rollL (s' := ⟨⟨[], _, _, _⟩, _, _⟩) (no hin _ rfl) rfl ⟨rfl, rfl, rfl, rfl, rfl⟩
theorem cp_full {c : List UInt8} (h : c.length ≤ 81) : cpB 81 [] 81 c = padB 81 c := by
  unfold cpB padB
  rw [List.take_of_length_le h, List.take_nil, List.nil_append, List.length_nil, List.drop_replicate]
theorem take_full {w h : Int} {c : List UInt8} (hl : (c.length : Int) = w * h) (h81 : c.length ≤ 81) : (padB 81 c).take (w * h).toNat = c := by
  unfold padB
  rw [List.take_of_length_le h81, ← hl, Int.toNat_natCast, List.take_left']
  rfl
/-- A ball's box at first. -/
theorem rl_first {w h : Int} {r : Rl} (g : goodR w h r) : rlP w h (cpB 81 [] 81 r.c) r.x r.y r.d ∧ rlO w h (cpB 81 [] 81 r.c) r.x r.y r.d = r := by
  have hm := mul_bd g.1.1 g.1.2
  have h81 : r.c.length ≤ 81 := by have := g.2.1; omega
  have e : rlO w h (cpB 81 [] 81 r.c) r.x r.y r.d = r := by
    unfold rlO
    rw [cp_full h81, take_full g.2.1 h81]
  refine ⟨⟨?_, by rw [e]; exact g⟩, e⟩
  rw [cp_full h81, take_full g.2.1 h81]
theorem text_full {c : List UInt8} {n : Nat} (h : c.length = n) (h81 : n ≤ 81) : (padB 81 (padB 81 c)).take n = c := by
  rw [padB_self (padB_length 81 c)]
  unfold padB
  rw [show c.take 81 = c from List.take_of_length_le (by omega), List.take_left' h]
theorem hitAt_no {w h : Int} {c : List UInt8} {t : Bool} {x y d : Int} (hb : hcB w h c t x y d = false) :
    retP (hitAt w h c t x y d) (.tup [.agg [.int .i64 0, .int .i64 0, .str [], .lit false], .agg [.int .i64 0, .int .i64 0, .int .i64 0], .lit false]) := by
  simp [hitAt, hcW, hcH, hcC, hcU, hcX, hcY, hcD, hb, retP, leV, leL, blV, V.under, underL, chkB]
theorem hitAt_yes {w h : Int} {c c' : List UInt8} {t : Bool} {x y d x' y' d' : Int} (hb : hcB w h c t x y d = true) (h1 : c' = (hitR t w ⟨c, x, y, d⟩).c) (h2 : x' = (hitR t w ⟨c, x, y, d⟩).x) (h3 : y' = (hitR t w ⟨c, x, y, d⟩).y) (h4 : d' = (hitR t w ⟨c, x, y, d⟩).d) :
    retP (hitAt w h c t x y d) (.tup [.agg [.int .i64 w, .int .i64 h, .str c', .bool t], .agg [.int .i64 x', .int .i64 y', .int .i64 d'], .lit true]) := by
  subst h1; subst h2; subst h3; subst h4
  simp [hitAt, hcW, hcH, hcC, hcU, hcX, hcY, hcD, hb, retP, leV, leL, blV, V.under, underL, chkB]
theorem vc_spec_HitCell (mw mh : Int) (mc : List UInt8) (mu : Bool) (bx by_ bd : Int) (_ : True) : VC_spec_HitCell mw mh mc mu bx by_ bd (retP (hitAt mw mh mc mu bx by_ bd)) := by
  unfold VC_spec_HitCell
  refine ⟨⟨trivial⟩, fun h => ?_, fun h => ?_⟩
  · exact hitAt_no (by unfold hcB; rw [show blB ⟨mw, mh, mc, mu⟩ bx by_ bd = false by simpa using h]; rfl)
  · have hb : blB ⟨mw, mh, mc, mu⟩ bx by_ bd = true := by simpa using h
    have g := bl_good hb
    refine ⟨⟨hb⟩, ⟨trivial⟩, fun h2 => ?_, fun h2 => ?_⟩
    · refine hitAt_no ?_
      unfold hcB
      rw [hb, Bool.true_and]
      cases hi : inR mw mh (hitR mu mw ⟨mc, bx, by_, bd⟩) with
      | false => rfl
      | true =>
        have := good_bl (t := mu) (hit_good g hi)
        rw [this] at h2; cases h2
    · have hi : inR mw mh (hitR mu mw ⟨mc, bx, by_, bd⟩) = true := by
        have h3 : blB ⟨mw, mh, (hitR mu mw ⟨mc, bx, by_, bd⟩).c, mu⟩ (hitR mu mw ⟨mc, bx, by_, bd⟩).x (hitR mu mw ⟨mc, bx, by_, bd⟩).y (hitR mu mw ⟨mc, bx, by_, bd⟩).d = true := by simpa using h2
        exact (bl_good h3).2.2.2.1
      have hy := hitAt_yes (w := mw) (h := mh) (c := mc) (t := mu) (x := bx) (y := by_) (d := bd) (by unfold hcB; rw [hb, hi]; rfl) rfl rfl rfl rfl
      exact ⟨⟨⟨hy, trivial⟩, trivial⟩, ⟨hy, trivial⟩, trivial⟩
theorem vc_impl_HitCell (mw mh : Int) (mc : List UInt8) (mu : Bool) (bx by_ bd : Int) (_ : True) : VC_impl_HitCell mw mh mc mu bx by_ bd (retP (hitAt mw mh mc mu bx by_ bd)) := by
  unfold VC_impl_HitCell
  refine ⟨⟨trivial⟩, fun h => ?_, fun h => ?_⟩
  · exact hitAt_no (by unfold hcB; rw [show blB ⟨mw, mh, mc, mu⟩ bx by_ bd = false by simpa using h]; rfl)
  · have hb : blB ⟨mw, mh, mc, mu⟩ bx by_ bd = true := by simpa using h
    have g := bl_good hb
    have hf := rl_first g
    simp only at hf
    simp only [hf.2]
    have hm := mul_bd g.1.1 g.1.2
    have hlen := g.2.1
    simp only at hlen
    have hl2 := (hit_cells (t := mu) g).1
    refine ⟨trivial, ⟨hf.1⟩, fun h2 => ?_, fun h2 => ?_⟩
    · refine hitAt_no ?_
      unfold hcB
      rw [hb, Bool.true_and]
      simpa using h2
    · have hi : inR mw mh (hitR mu mw ⟨mc, bx, by_, bd⟩) = true := by simpa using h2
      have ht : ((padB 81 (padB 81 (hitR mu mw ⟨mc, bx, by_, bd⟩).c)).take ((mc.length : Int)).toNat) = (hitR mu mw ⟨mc, bx, by_, bd⟩).c := text_full (by omega) (by omega)
      have hy := hitAt_yes (w := mw) (h := mh) (c := mc) (t := mu) (x := bx) (y := by_) (d := bd) (by unfold hcB; rw [hb, hi]; rfl) ht rfl rfl rfl
      have rng : (0 : Int) ≤ (mc.length : Int) ∧ (mc.length : Int) ≤ ((81 : Nat) : Int) := ⟨by omega, by omega⟩
      exact ⟨⟨trivial, ⟨rng⟩, ⟨⟨hy, trivial⟩, trivial⟩, ⟨hy, trivial⟩, trivial⟩, ⟨⟨trivial, ⟨rng⟩, ⟨hy, trivial⟩, trivial⟩, trivial⟩, trivial⟩
end Go.Vi
