/- Balls that come out: the conditions hold. -/
import Derived.Test.YtkkpkfphfhcgoabDoorH1Vc
import Derived.Test.YtkkpkfphfhcgoabDoorH1Spec
namespace Go.Vi
theorem rl_back {w h : Int} {r : Rl} (hl : (r.c.length : Int) = w * h) (h81 : r.c.length ≤ 81) : rlO w h (padB 81 r.c) r.x r.y r.d = r := by
  unfold rlO
  rw [take_full hl h81]
theorem good81 {w h : Int} {r : Rl} (g : goodR w h r) : r.c.length ≤ 81 := by
  have hm := mul_bd g.1.1 g.1.2
  have := g.2.1
  omega
theorem retG_roll3 {w h : Int} {c : List UInt8} {t : Bool} {s : Rn} {ty : TypeId} {b b' : Bool} {rest : List Blk} (hb : b' = b) :
    retG 1 (.bool b) [rollB w h c t s ty] (.lit b') (⟨.mix [.int .i64 w, .int .i64 h, .str c, .bool t] 81 (padB 81 s.r.c) [.int .i64 s.r.x, .int .i64 s.r.y, .int .i64 s.r.d, .int .i64 s.e, .int .i64 s.k], ty, .box⟩ :: rest) := by
  subst hb
  unfold retG leSel leSelBy autoSel
  simp [rollB, pairsL, pairsV, pairsIn, idPairs, selOf, lookN, selMem, findSel, Cells.selN, selL, V.sel, nilToL, V.nilTo, nodupSel, hasSel, prefSel, chkB, leSt, leL, leV, leMem, leCells, underL, V.under, memUnder]
/-- What a ball's box holds is told back. -/
structure Facts (t : Bool) (w h : Int) (r0 : Rl) (e0 k0 : Int) (l : List UInt8) (a : Rn) : Prop where
  back : rlO w h (padB 81 a.r.c) a.r.x a.r.y a.r.d = a.r
  pre : rlP w h (padB 81 a.r.c) a.r.x a.r.y a.r.d
  back2 : rlO w h (padB 81 (stepN t w a).r.c) (stepN t w a).r.x (stepN t w a).r.y (stepN t w a).r.d = (stepN t w a).r
  out : inR w h (hitR t w a.r) = false → outR t w h r0 e0 k0 = stepN t w a
  same : inR w h (hitR t w a.r) = true → ((stepN t w a).r.x == r0.x && ((stepN t w a).r.y == r0.y && ((stepN t w a).r.d == r0.d && true))) = true → (padB 81 (padB 81 (stepN t w a).r.c) == padB 81 l) = true → outR t w h r0 e0 k0 = stepN t w a
  more : inR w h (hitR t w a.r) = true → (((stepN t w a).r.x == r0.x && ((stepN t w a).r.y == r0.y && ((stepN t w a).r.d == r0.d && true))) = false ∨ (padB 81 (padB 81 (stepN t w a).r.c) == padB 81 l) = false) →
    goInv t w h r0 e0 k0 (stepN t w a) ∧ leftR t w h r0 (stepN t w a).r < leftR t w h r0 a.r
theorem facts {t : Bool} {w h : Int} {r0 : Rl} {e0 k0 : Int} {l : List UInt8} (hl : padB 81 r0.c = l) (g0 : goodR w h r0) {a : Rn} (ha : goInv t w h r0 e0 k0 a) : Facts t w h r0 e0 k0 l a := by
  obtain ⟨ow, hr⟩ := ha
  have g := ow.1
  have h81 := good81 g
  have hc2 := hit_cells (t := t) g
  have hs : (stepN t w a).r = hitR t w a.r := rfl
  have h82 : (hitR t w a.r).c.length ≤ 81 := by have := g.2.1; have := hc2.1; omega
  have hb := rl_back g.2.1 h81
  have stop_out : stopR w h r0 (hitR t w a.r) = true → outR t w h r0 e0 k0 = stepN t w a := fun hst => by
    rw [← hr, run_last ow hst]; rfl
  have ce : (padB 81 (padB 81 (hitR t w a.r).c) == padB 81 l) = true → (hitR t w a.r).c = r0.c := fun hh => by
    have h1 := beq_iff_eq.1 hh
    rw [← hl, padB_self (padB_length 81 _), padB_self (padB_length 81 _)] at h1
    have h2 : (padB 81 (hitR t w a.r).c).take (w * h).toNat = (padB 81 r0.c).take (w * h).toNat := by rw [h1]
    rwa [take_full hc2.1 h82, take_full g0.2.1 (good81 g0)] at h2
  refine ⟨hb, ⟨by rw [take_full g.2.1 h81], by rw [hb]; exact g⟩, rl_back hc2.1 h82, fun hn => ?_, fun hy h1 h2 => ?_, fun hy hne => ?_⟩
  · exact stop_out (by unfold stopR; rw [hn]; rfl)
  · refine stop_out ?_
    rw [hs] at h1 h2
    simp only [Bool.and_eq_true, beq_iff_eq, and_true] at h1
    have : hitR t w a.r = r0 := by
      have hc := ce h2
      generalize hitR t w a.r = q at *
      cases q; cases r0
      simp only at h1 hc
      simp [h1.1, h1.2.1, h1.2.2, hc]
    unfold stopR
    rw [this]; simp
  · have hst : stopR w h r0 (hitR t w a.r) = false := by
      refine stopR_false.2 ⟨hy, fun he => ?_⟩
      rw [hs, he] at hne
      rcases hne with h1 | h1
      · simp at h1
      · rw [hl, padB_self (by rw [← hl]; exact padB_length 81 _)] at h1
        simp at h1
    have hnx := onWay_next ow hst
    have hrn := run_next ow hst
    refine ⟨⟨hnx.1, ?_⟩, ?_⟩
    · rw [← hr, hrn]; rfl
    · rw [hs]; omega
theorem vc_impl_roll_goOut (mw mh : Int) (mc : List UInt8) (mu : Bool) (l : List UInt8) (bx by_ bd en hn : Int) (h : rlP mw mh l bx by_ bd) :
    VC_impl_roll_goOut mw mh mc mu l bx by_ bd en hn (retG 1 (.bool (!inR mw mh (outR mu mw mh (rlO mw mh l bx by_ bd) en hn).r)) [rollB mw mh mc mu (outR mu mw mh (rlO mw mh l bx by_ bd) en hn) 70]) := by
  have hg := h.2
  have hl : padB 81 (rlO mw mh l bx by_ bd).c = l := h.1.symm
  have key := fun a ha => facts (t := mu) (e0 := en) (k0 := hn) hl hg (a := a) ha
  have f0 := key ⟨rlO mw mh l bx by_ bd, en, hn⟩ ⟨onWay_first hg, rfl⟩
  have hr : ∀ s : Rn, (stepN mu mw s).r = hitR mu mw s.r := fun _ => rfl
  unfold VC_impl_roll_goOut
  simp only [and_self, true_and, and_true]
  have e1 := f0.back2
  refine ⟨⟨⟨h⟩, fun h1 => ?_, fun h1 => ⟨fun h2 => ⟨fun h3 => ?_, fun h3 => ?_⟩, fun h2 => ?_⟩⟩, fun a ha => ?_⟩
  · have h1 : inR mw mh (hitR mu mw (rlO mw mh l bx by_ bd)) = false := by simpa using h1
    rw [f0.out h1]
    exact retG_roll3 (by rw [hr, h1]; rfl)
  · have h1 : inR mw mh (hitR mu mw (rlO mw mh l bx by_ bd)) = true := by simpa using h1
    rw [f0.same h1 h2 h3]
    exact retG_roll3 (by rw [hr, h1]; rfl)
  · have h1 : inR mw mh (hitR mu mw (rlO mw mh l bx by_ bd)) = true := by simpa using h1
    rw [e1]
    exact ⟨⟨rfl, rfl, rfl, rfl⟩, ⟨(f0.more h1 (.inr h3)).1⟩⟩
  · have h1 : inR mw mh (hitR mu mw (rlO mw mh l bx by_ bd)) = true := by simpa using h1
    rw [e1]
    exact ⟨⟨rfl, rfl, rfl, rfl⟩, ⟨(f0.more h1 (.inl h2)).1⟩⟩
  · have fa := key a ha
    have e2 := fa.back2
    have e0 := fa.back
    rw [e0]
    refine ⟨⟨fa.pre⟩, fun h1 => ?_, fun h1 => ⟨fun h2 => ⟨fun h3 => ?_, fun h3 => ?_⟩, fun h2 => ?_⟩⟩
    · have h1 : inR mw mh (hitR mu mw a.r) = false := by simpa using h1
      rw [fa.out h1]
      exact retG_roll3 (by rw [hr, h1]; rfl)
    · have h1 : inR mw mh (hitR mu mw a.r) = true := by simpa using h1
      rw [fa.same h1 h2 h3]
      exact retG_roll3 (by rw [hr, h1]; rfl)
    · have h1 : inR mw mh (hitR mu mw a.r) = true := by simpa using h1
      rw [e2]
      exact ⟨⟨rfl, rfl, rfl, rfl⟩, ⟨fa.more h1 (.inr h3)⟩⟩
    · have h1 : inR mw mh (hitR mu mw a.r) = true := by simpa using h1
      rw [e2]
      exact ⟨⟨rfl, rfl, rfl, rfl⟩, ⟨fa.more h1 (.inl h2)⟩⟩
/-! ### where it ends -/
/-- A ball that is out, just behind an end; or one that is where it began. -/
def Ended (w h : Int) (r0 r : Rl) : Prop :=
  (r.c.length : Int) = w * h ∧ r.c.all mirB = true ∧ (0 ≤ r.d ∧ r.d ≤ 3) ∧
  ((inR w h r = true ∧ r = r0) ∨ (inR w h r = false ∧ ((r.d = 0 ∧ r.y = -1 ∧ 0 ≤ r.x ∧ r.x < w) ∨ (r.d = 1 ∧ r.x = w ∧ 0 ≤ r.y ∧ r.y < h) ∨ (r.d = 2 ∧ r.y = h ∧ 0 ≤ r.x ∧ r.x < w) ∨ (r.d = 3 ∧ r.x = -1 ∧ 0 ≤ r.y ∧ r.y < h))))
theorem hit_ended {t : Bool} {w h : Int} {r0 r : Rl} (g : goodR w h r) (hs : stopR w h r0 (hitR t w r) = true) : Ended w h r0 (hitR t w r) := by
  obtain ⟨h1, h2, h3⟩ := hit_cells (t := t) g
  refine ⟨h1, h2, h3, ?_⟩
  cases hi : inR w h (hitR t w r) with
  | true =>
    refine .inl ⟨rfl, ?_⟩
    unfold stopR at hs
    rw [hi] at hs
    simpa using hs
  | false =>
    refine .inr ⟨rfl, ?_⟩
    obtain ⟨hx, hy⟩ := inR_iff.1 g.2.2.2.1
    have hn : ¬ ((0 ≤ (hitR t w r).x ∧ (hitR t w r).x < w) ∧ (0 ≤ (hitR t w r).y ∧ (hitR t w r).y < h)) := fun hh => by
      rw [inR_iff.2 hh] at hi; cases hi
    have ex : (hitR t w r).x = r.x + dxW (hitR t w r).d := rfl
    have ey : (hitR t w r).y = r.y + dyW (hitR t w r).d := rfl
    rcases four h3 with hd | hd | hd | hd <;> rw [hd] at ex ey
    · have e1 : dxW 0 = 0 := rfl
      have e2 : dyW 0 = -1 := rfl
      rw [e1] at ex; rw [e2] at ey
      exact .inl ⟨hd, by omega, by omega, by omega⟩
    · have e1 : dxW 1 = 1 := rfl
      have e2 : dyW 1 = 0 := rfl
      rw [e1] at ex; rw [e2] at ey
      exact .inr (.inl ⟨hd, by omega, by omega, by omega⟩)
    · have e1 : dxW 2 = 0 := rfl
      have e2 : dyW 2 = 1 := rfl
      rw [e1] at ex; rw [e2] at ey
      exact .inr (.inr (.inl ⟨hd, by omega, by omega, by omega⟩))
    · have e1 : dxW 3 = -1 := rfl
      have e2 : dyW 3 = 0 := rfl
      rw [e1] at ex; rw [e2] at ey
      exact .inr (.inr (.inr ⟨hd, by omega, by omega, by omega⟩))
theorem out_ended {t : Bool} {w h : Int} {r0 : Rl} (g : goodR w h r0) (e k : Int) : Ended w h r0 (outR t w h r0 e k).r :=
  run_ind (fun _ => True) (fun s => Ended w h r0 s.r) (fun _ _ _ _ => trivial) (fun _ o _ hs => hit_ended o.1 hs) _ ⟨r0, e, k⟩ rfl (onWay_first g) trivial
/-- Out, or behind the first cell of all. -/
theorem ended_bd {w h : Int} {r0 r : Rl} (g : goodR w h r0) (he : Ended w h r0 r) : (-1 ≤ r.x ∧ r.x ≤ 9) ∧ (-1 ≤ r.y ∧ r.y ≤ 9) := by
  have hw := g.1.1
  have hh := g.1.2
  obtain ⟨_, _, _, ⟨hi, _⟩ | ⟨_, ⟨_, h1, h2, h3⟩ | ⟨_, h1, h2, h3⟩ | ⟨_, h1, h2, h3⟩ | ⟨_, h1, h2, h3⟩⟩⟩ := he
  · obtain ⟨hx, hy⟩ := inR_iff.1 hi; omega
  all_goals omega
theorem end_place {w h : Int} {r0 r : Rl} (g : goodR w h r0) (he : Ended w h r0 r) (ho : inR w h r = false) : outP w h r.x r.y = endR w h r := by
  have hw := g.1.1
  have hh := g.1.2
  obtain ⟨_, _, _, ⟨hi, _⟩ | ⟨_, ⟨h0, h1, h2, h3⟩ | ⟨h0, h1, h2, h3⟩ | ⟨h0, h1, h2, h3⟩ | ⟨h0, h1, h2, h3⟩⟩⟩ := he
  · rw [ho] at hi; cases hi
  · unfold outP endR; rw [if_pos (by omega), if_pos h0]
  · unfold outP endR; rw [if_neg (by omega), if_pos (by omega), if_neg (by omega), if_pos h0]
  · unfold outP endR; rw [if_neg (by omega), if_neg (by omega), if_pos (by omega), if_neg (by omega), if_neg (by omega), if_pos h0]
  · unfold outP endR; rw [if_neg (by omega), if_neg (by omega), if_neg (by omega), if_neg (by omega), if_neg (by omega), if_neg (by omega)]
theorem ent_good {w h : Int} {c : List UInt8} {k : Int} (hw : 1 ≤ w ∧ w ≤ 9) (hh : 1 ≤ h ∧ h ≤ 9) (hl : (c.length : Int) = w * h) (hm : c.all mirB = true) (hk : 0 ≤ k ∧ k < 2 * (w + h)) : goodR w h (entR w h c k) := by
  refine ⟨⟨hw, hh⟩, hl, hm, inR_iff.2 ?_, ?_⟩
  · unfold entR entX entY
    simp only
    split
    · omega
    · split
      · omega
      · split <;> omega
  · unfold entR entD
    simp only
    split
    · omega
    · split
      · omega
      · split <;> omega
/-- From nowhere in the maze a ball comes to an end's beginning. -/
theorem ent_first {t : Bool} {w h : Int} {c : List UInt8} {k : Int} {r : Rl} (g : goodR w h r) : hitR t w r ≠ entR w h c k := by
  intro he
  obtain ⟨hx, hy⟩ := inR_iff.1 g.2.2.2.1
  have hd : (hitR t w r).d = entD w h k := by rw [he]; rfl
  have ex : r.x + dxW (hitR t w r).d = entX w h k := by have : (hitR t w r).x = entX w h k := by rw [he]; rfl
                                                        exact this
  have ey : r.y + dyW (hitR t w r).d = entY w h k := by have : (hitR t w r).y = entY w h k := by rw [he]; rfl
                                                        exact this
  rw [hd] at ex ey
  unfold entX entD at ex
  unfold entY entD at ey
  have d0 : dyW 0 = -1 := rfl
  have d1 : dxW 1 = 1 := rfl
  have d2 : dyW 2 = 1 := rfl
  have d3 : dxW 3 = -1 := rfl
  by_cases k1 : k < w
  · simp only [k1, if_true] at ey; rw [d2] at ey; omega
  · by_cases k2 : k < w + h
    · simp only [k1, k2, if_true, if_false] at ex; rw [d3] at ex; omega
    · by_cases k3 : k < 2 * w + h
      · simp only [k1, k2, k3, if_true, if_false] at ey; rw [d0] at ey; omega
      · simp only [k1, k2, k3, if_false] at ex; rw [d1] at ex; omega
theorem ent_out {t : Bool} {w h : Int} {c : List UInt8} {k : Int} (g : goodR w h (entR w h c k)) (e n : Int) : inR w h (outR t w h (entR w h c k) e n).r = false :=
  run_ind (fun _ => True) (fun s => inR w h s.r = false) (fun _ _ _ _ => trivial) (fun s o _ hs => by
    unfold stopR at hs
    simp only [Bool.or_eq_true, Bool.not_eq_true', decide_eq_true_eq] at hs
    rcases hs with hs | hs
    · exact hs
    · exact absurd hs (ent_first o.1)) _ ⟨entR w h c k, e, n⟩ rfl (onWay_first g) trivial
/-! ### ends told -/
theorem vc_impl_endOf (mw mh : Int) (mc : List UInt8) (mu : Bool) (bx by_ bd : Int) (h : (1 ≤ mw ∧ mw ≤ 9) ∧ (1 ≤ mh ∧ mh ≤ 9) ∧ (-1 ≤ bx ∧ bx ≤ 9) ∧ (-1 ≤ by_ ∧ by_ ≤ 9)) : VC_impl_endOf mw mh mc mu bx by_ bd (retP (.int .i64 (endR mw mh ⟨mc, bx, by_, bd⟩))) := by
  unfold VC_impl_endOf endR
  have e1 : IntKind.wrap .i64 (mw + mh) = mw + mh := wrap64_in (by omega)
  have e2 : IntKind.wrap .i64 (2 * (mw + mh)) = 2 * (mw + mh) := wrap64_in (by omega)
  have e3 : IntKind.wrap .i64 (2 * (mw + mh) - 1) = 2 * (mw + mh) - 1 := wrap64_in (by omega)
  have e4 : IntKind.wrap .i64 (2 * (mw + mh) - 1 - by_) = 2 * (mw + mh) - 1 - by_ := wrap64_in (by omega)
  have e5 : IntKind.wrap .i64 (mw - 1) = mw - 1 := wrap64_in (by omega)
  have e6 : IntKind.wrap .i64 (mw - 1 - bx) = mw - 1 - bx := wrap64_in (by omega)
  have e7 : IntKind.wrap .i64 (mw + mh + (mw - 1 - bx)) = 2 * mw + mh - 1 - bx := by rw [wrap64_in (by omega)]; omega
  have e8 : IntKind.wrap .i64 (mw + by_) = mw + by_ := wrap64_in (by omega)
  simp only [e1, e2, e3, e4, e5, e6, e7, e8, retP_int, and_true, and_self, beq_iff_eq, beq_eq_false_iff_ne, ne_eq]
  refine ⟨fun h1 => by simp [h1], fun h1 => ⟨fun h2 => by simp [h2], fun h2 => ⟨fun h3 => by simp [h3], fun h3 => by simp [h1, h2, h3]⟩⟩⟩
theorem vc_spec_miOut (mw mh : Int) (mc : List UInt8) (mu : Bool) (bx by_ bd : Int) (h : (1 ≤ mw ∧ mw ≤ 9) ∧ (1 ≤ mh ∧ mh ≤ 9) ∧ (-1 ≤ bx ∧ bx ≤ 9) ∧ (-1 ≤ by_ ∧ by_ ≤ 9)) : VC_spec_miOut mw mh mc mu bx by_ bd (retP (.int .i64 (outP mw mh bx by_))) := by
  unfold VC_spec_miOut outP
  have e1 : IntKind.wrap .i64 (mw + mh) = mw + mh := wrap64_in (by omega)
  have e2 : IntKind.wrap .i64 (2 * (mw + mh)) = 2 * (mw + mh) := wrap64_in (by omega)
  have e3 : IntKind.wrap .i64 (2 * (mw + mh) - 1) = 2 * (mw + mh) - 1 := wrap64_in (by omega)
  have e4 : IntKind.wrap .i64 (2 * (mw + mh) - 1 - by_) = 2 * (mw + mh) - 1 - by_ := wrap64_in (by omega)
  have e5 : IntKind.wrap .i64 (2 * mw) = 2 * mw := wrap64_in (by omega)
  have e6 : IntKind.wrap .i64 (2 * mw + mh) = 2 * mw + mh := wrap64_in (by omega)
  have e7 : IntKind.wrap .i64 (2 * mw + mh - 1) = 2 * mw + mh - 1 := wrap64_in (by omega)
  have e8 : IntKind.wrap .i64 (2 * mw + mh - 1 - bx) = 2 * mw + mh - 1 - bx := wrap64_in (by omega)
  have e9 : IntKind.wrap .i64 (mw + by_) = mw + by_ := wrap64_in (by omega)
  simp only [e1, e2, e3, e4, e5, e6, e7, e8, e9, retP_int, and_true, and_self, decide_eq_true_eq, decide_eq_false_iff_not, ge_iff_le]
  refine ⟨fun h1 => by simp [h1], fun h1 => ⟨fun h2 => by simp [h1, h2], fun h2 => ⟨fun h3 => by simp [h1, h2, h3], fun h3 => by simp [h1, h2, h3]⟩⟩⟩
theorem vc_spec_miAt (mw mh : Int) (mc : List UInt8) (mu : Bool) (bx by_ bd : Int) (h : blB ⟨mw, mh, mc, mu⟩ bx by_ bd = true) : VC_spec_miAt mw mh mc mu bx by_ bd (retP (.int .u8 (cellR mw ⟨mc, bx, by_, bd⟩).toNat)) := by
  have g := bl_good h
  obtain ⟨i0, i1, i2, _⟩ := g.ix
  obtain ⟨⟨hw, hh⟩, hl, _, hi, _⟩ := g
  obtain ⟨hx, hy⟩ := inR_iff.1 hi
  simp only at hx hy hl i0 i1
  have hm := mul_bd hw hh
  have hyw : 0 ≤ by_ * mw := Int.mul_nonneg hy.1 (by omega)
  unfold VC_spec_miAt
  rw [wrap64_in (x := by_ * mw) (by omega), wrap64_in (x := by_ * mw + bx) (by omega)]
  exact ⟨⟨i0, by omega⟩, by rw [retP_int]; rfl⟩
theorem sd_good {w h : Int} {l : List UInt8} {k : Int} (hp : sdP w h l k) : goodR w h (entR w h (l.take (w * h).toNat) k) := ent_good hp.2.1.1 hp.2.1.2 hp.2.2.1 hp.2.2.2.1 hp.2.2.2.2
theorem vc_impl_roll_send (k mw mh : Int) (mc : List UInt8) (mu : Bool) (l : List UInt8) (bx by_ bd en hn : Int) (h : sdP mw mh l k) :
    VC_impl_roll_send k mw mh mc mu l bx by_ bd en hn (retG 1 (.int .i64 (endR mw mh (sdR mu mw mh l k en hn).r)) [rollB mw mh mc mu (sdR mu mw mh l k en hn) 70]) := by
  have g := sd_good h
  have hrl : rlO mw mh l (entX mw mh k) (entY mw mh k) (entD mw mh k) = entR mw mh (l.take (mw * mh).toNat) k := rfl
  have bd := ended_bd g (out_ended (t := mu) g en hn)
  unfold VC_impl_roll_send sdR
  rw [hrl]
  refine ⟨⟨h.2.1.1, h.2.1.2, h.2.2.2.2⟩, ⟨h.1, g⟩, trivial, ⟨h.2.1.1, h.2.1.2, bd⟩, ?_⟩
  generalize outR mu mw mh (entR mw mh (l.take (mw * mh).toNat) k) en hn = s
  have he : endR mw mh ⟨mc, s.r.x, s.r.y, s.r.d⟩ = endR mw mh s.r := rfl
  rw [he]
  unfold retG leSel leSelBy autoSel
  simp [rollB, pairsL, pairsV, pairsIn, idPairs, selOf, lookN, selMem, findSel, Cells.selN, selL, V.sel, nilToL, V.nilTo, nodupSel, hasSel, prefSel, chkB, leSt, leL, leV, leMem, leCells, underL, V.under, memUnder]
theorem run_yes {w h : Int} {c : List UInt8} {t : Bool} {x y d : Int} {s : Rn} (hs : rn7 w h c t x y d = s) (ho : inR w h s.r = false) {c' : List UInt8} {e' k' n' : Int} (h1 : c' = s.r.c) (h2 : e' = endR w h s.r) (h3 : k' = s.k) (h4 : n' = s.e) :
    retP (runV w h c t x y d) (.tup [.agg [.int .i64 w, .int .i64 h, .str c', .bool t], .int .i64 e', .int .i64 k', .int .i64 n', .lit true]) := by
  subst h1; subst h2; subst h3; subst h4
  have hb : rnB w h c t x y d = true := by unfold rnB; rw [hs, ho]; rfl
  simp [runV, rnW, rnH, rnC, rnU, rnE, rnK, rnN, hb, hs, retP, leV, leL, V.under, underL, chkB]
theorem run_no {w h : Int} {c : List UInt8} {t : Bool} {x y d : Int} {s : Rn} (hs : rn7 w h c t x y d = s) (ho : inR w h s.r = true) :
    retP (runV w h c t x y d) (.tup [.agg [.int .i64 0, .int .i64 0, .str [], .lit false], .int .i64 0, .int .i64 0, .int .i64 0, .lit false]) := by
  have hb : rnB w h c t x y d = false := by unfold rnB; rw [hs, ho]; rfl
  simp [runV, rnW, rnH, rnC, rnU, rnE, rnK, rnN, hb, retP, leV, leL, V.under, underL, chkB]
theorem run_tail {mw mh : Int} {mc : List UInt8} {mu : Bool} {bx by_ bd : Int} (g : goodR mw mh ⟨mc, bx, by_, bd⟩) {a : Rn} (ha : goInv mu mw mh ⟨mc, bx, by_, bd⟩ 0 0 a) {k' : Int} (hk : hitsN mw a.r a.k = k') :
    At (blB ⟨mw, mh, a.r.c, mu⟩ a.r.x a.r.y a.r.d = true) ∧ At True ∧
    ((!blB ⟨mw, mh, (hitR mu mw a.r).c, mu⟩ (hitR mu mw a.r).x (hitR mu mw a.r).y (hitR mu mw a.r).d) = true →
      At ((1 ≤ mw ∧ mw ≤ 9) ∧ (1 ≤ mh ∧ mh ≤ 9) ∧ (-1 ≤ (hitR mu mw a.r).x ∧ (hitR mu mw a.r).x ≤ 9) ∧ -1 ≤ (hitR mu mw a.r).y ∧ (hitR mu mw a.r).y ≤ 9) ∧
      retP (runV mw mh mc mu bx by_ bd) (V.tup [V.agg [V.int IntKind.i64 mw, V.int IntKind.i64 mh, V.str (hitR mu mw a.r).c, V.bool mu], V.int IntKind.i64 (outP mw mh (hitR mu mw a.r).x (hitR mu mw a.r).y), V.int IntKind.i64 k', V.int IntKind.i64 (IntKind.i64.wrap (a.e + 1)), V.lit true])) ∧
    ((!blB ⟨mw, mh, (hitR mu mw a.r).c, mu⟩ (hitR mu mw a.r).x (hitR mu mw a.r).y (hitR mu mw a.r).d) = false →
      (((hitR mu mw a.r).x == bx && ((hitR mu mw a.r).y == by_ && ((hitR mu mw a.r).d == bd && true))) = true →
        (((hitR mu mw a.r).c == mc) = true → retP (runV mw mh mc mu bx by_ bd) (V.tup [V.agg [V.int IntKind.i64 0, V.int IntKind.i64 0, V.str [], V.lit false], V.int IntKind.i64 0, V.int IntKind.i64 0, V.int IntKind.i64 0, V.lit false])) ∧
        (((hitR mu mw a.r).c == mc) = false → At (goInv mu mw mh ⟨mc, bx, by_, bd⟩ 0 0 ⟨hitR mu mw a.r, IntKind.i64.wrap (a.e + 1), k'⟩ ∧ leftR mu mw mh ⟨mc, bx, by_, bd⟩ (hitR mu mw a.r) < leftR mu mw mh ⟨mc, bx, by_, bd⟩ a.r))) ∧
      (((hitR mu mw a.r).x == bx && ((hitR mu mw a.r).y == by_ && ((hitR mu mw a.r).d == bd && true))) = false →
        At (goInv mu mw mh ⟨mc, bx, by_, bd⟩ 0 0 ⟨hitR mu mw a.r, IntKind.i64.wrap (a.e + 1), k'⟩ ∧ leftR mu mw mh ⟨mc, bx, by_, bd⟩ (hitR mu mw a.r) < leftR mu mw mh ⟨mc, bx, by_, bd⟩ a.r))) := by
  obtain ⟨ow, hr⟩ := ha
  have ga := ow.1
  have hst : (⟨hitR mu mw a.r, IntKind.i64.wrap (a.e + 1), k'⟩ : Rn) = ⟨hitR mu mw a.r, inc a.e, hitsN mw a.r a.k⟩ := by rw [hk]; rfl
  have stop_out : stopR mw mh ⟨mc, bx, by_, bd⟩ (hitR mu mw a.r) = true → rn7 mw mh mc mu bx by_ bd = ⟨hitR mu mw a.r, IntKind.i64.wrap (a.e + 1), k'⟩ := fun h => by
    unfold rn7; rw [← hr, run_last ow h, hst]
  have more : stopR mw mh ⟨mc, bx, by_, bd⟩ (hitR mu mw a.r) = false → goInv mu mw mh ⟨mc, bx, by_, bd⟩ 0 0 ⟨hitR mu mw a.r, IntKind.i64.wrap (a.e + 1), k'⟩ ∧ leftR mu mw mh ⟨mc, bx, by_, bd⟩ (hitR mu mw a.r) < leftR mu mw mh ⟨mc, bx, by_, bd⟩ a.r := fun h => by
    have hn := onWay_next ow h
    exact ⟨⟨hn.1, by rw [← hr, run_next ow h, hst]⟩, by omega⟩
  refine ⟨⟨good_bl ga⟩, ⟨trivial⟩, fun h1 => ?_, fun h1 => ?_⟩
  · have hin : inR mw mh (hitR mu mw a.r) = false := by
      cases hi : inR mw mh (hitR mu mw a.r) with
      | false => rfl
      | true => rw [good_bl (hit_good ga hi)] at h1; cases h1
    have hs : stopR mw mh ⟨mc, bx, by_, bd⟩ (hitR mu mw a.r) = true := by unfold stopR; rw [hin]; rfl
    have he := hit_ended ga hs
    exact ⟨⟨g.1.1, g.1.2, ended_bd g he⟩, run_yes (stop_out hs) hin rfl (end_place g he hin) rfl rfl⟩
  · have hin : inR mw mh (hitR mu mw a.r) = true := by
      have h3 : blB ⟨mw, mh, (hitR mu mw a.r).c, mu⟩ (hitR mu mw a.r).x (hitR mu mw a.r).y (hitR mu mw a.r).d = true := by simpa using h1
      exact (bl_good h3).2.2.2.1
    refine ⟨fun h2 => ⟨fun h3 => ?_, fun h3 => ⟨more (stopR_false.2 ⟨hin, fun he => ?_⟩)⟩⟩, fun h2 => ⟨more (stopR_false.2 ⟨hin, fun he => ?_⟩)⟩⟩
    · simp only [Bool.and_eq_true, beq_iff_eq, and_true] at h2 h3
      have he : hitR mu mw a.r = ⟨mc, bx, by_, bd⟩ := by
        generalize hitR mu mw a.r = q at *
        cases q
        simp only at h2 h3
        simp [h2.1, h2.2.1, h2.2.2, h3]
      exact run_no (stop_out (by unfold stopR; rw [he]; simp)) hin
    · rw [he] at h3; simp at h3
    · rw [he] at h2; simp at h2
theorem vc_spec_miRun (mw mh : Int) (mc : List UInt8) (mu : Bool) (bx by_ bd : Int) (h : blB ⟨mw, mh, mc, mu⟩ bx by_ bd = true) : VC_spec_miRun mw mh mc mu bx by_ bd (retP (runV mw mh mc mu bx by_ bd)) := by
  have g := bl_good h
  unfold VC_spec_miRun
  simp only [and_self, true_and, and_true]
  refine ⟨⟨onWay_first g, rfl⟩, fun a ha => ⟨⟨good_bl ha.1.1⟩, fun h46 => run_tail g ha ?_, fun h46 => run_tail g ha ?_⟩⟩
  · have db := u8db (cellR mw a.r)
    unfold hitsN
    rw [show (cellR mw a.r == 46) = false from ?_]
    · rfl
    · rw [show (((cellR mw a.r).toNat : Int) != 46) = !(((cellR mw a.r).toNat : Int) == 46) from rfl, db] at h46
      simpa using h46
  · have db := u8db (cellR mw a.r)
    unfold hitsN
    rw [show (cellR mw a.r == 46) = true from ?_]
    · rfl
    · rw [show (((cellR mw a.r).toNat : Int) != 46) = !(((cellR mw a.r).toNat : Int) == 46) from rfl, db] at h46
      simpa using h46
/-! ### the functions -/
theorem rl_roll {mw mh : Int} {mc : List UInt8} {bx by_ bd : Int} (g : goodR mw mh ⟨mc, bx, by_, bd⟩) : rlP mw mh (cpB 81 [] 81 mc) bx by_ bd ∧ rlO mw mh (cpB 81 [] 81 mc) bx by_ bd = ⟨mc, bx, by_, bd⟩ := rl_first g
theorem retP_two {a a' : Int} {b b' : Bool} (h1 : a' = a) (h2 : b' = b) : retP (.tup [.int .i64 a, .bool b]) (.tup [.int .i64 a', .bool b']) ∧ retP (.tup [.int .i64 a, .bool b]) (.tup [.int .i64 a', .lit b']) := by
  subst h1; subst h2
  simp [retP, leV, leL, V.under, underL, chkB]
theorem vc_spec_ExitOf (mw mh : Int) (mc : List UInt8) (mu : Bool) (bx by_ bd : Int) (_ : True) : VC_spec_ExitOf mw mh mc mu bx by_ bd (retP (.tup [.int .i64 (exE mw mh mc mu bx by_ bd), .bool (exB mw mh mc mu bx by_ bd)])) := by
  unfold VC_spec_ExitOf
  refine ⟨⟨trivial⟩, fun h => ?_, fun h => ?_⟩
  · have hb : blB ⟨mw, mh, mc, mu⟩ bx by_ bd = false := by simpa using h
    exact (retP_two (by simp [exE, hb]) (by simp [exB, hb])).2
  · have hb : blB ⟨mw, mh, mc, mu⟩ bx by_ bd = true := by simpa using h
    exact ⟨⟨hb⟩, (retP_two (by simp [exE, hb]) (by simp [exB, hb])).1⟩
theorem vc_spec_HitsOfBall (mw mh : Int) (mc : List UInt8) (mu : Bool) (bx by_ bd : Int) (_ : True) : VC_spec_HitsOfBall mw mh mc mu bx by_ bd (retP (.tup [.int .i64 (exK mw mh mc mu bx by_ bd), .bool (exB mw mh mc mu bx by_ bd)])) := by
  unfold VC_spec_HitsOfBall
  refine ⟨⟨trivial⟩, fun h => ?_, fun h => ?_⟩
  · have hb : blB ⟨mw, mh, mc, mu⟩ bx by_ bd = false := by simpa using h
    exact (retP_two (by simp [exK, hb]) (by simp [exB, hb])).2
  · have hb : blB ⟨mw, mh, mc, mu⟩ bx by_ bd = true := by simpa using h
    exact ⟨⟨hb⟩, (retP_two (by simp [exK, hb]) (by simp [exB, hb])).1⟩
theorem vc_impl_ExitOf (mw mh : Int) (mc : List UInt8) (mu : Bool) (bx by_ bd : Int) (_ : True) : VC_impl_ExitOf mw mh mc mu bx by_ bd (retP (.tup [.int .i64 (exE mw mh mc mu bx by_ bd), .bool (exB mw mh mc mu bx by_ bd)])) := by
  unfold VC_impl_ExitOf
  refine ⟨⟨trivial⟩, fun h => ?_, fun h => ?_⟩
  · have hb : blB ⟨mw, mh, mc, mu⟩ bx by_ bd = false := by simpa using h
    exact (retP_two (by simp [exE, hb]) (by simp [exB, hb])).2
  · have hb : blB ⟨mw, mh, mc, mu⟩ bx by_ bd = true := by simpa using h
    have g := bl_good hb
    have hf := rl_roll g
    have bdd := ended_bd g (out_ended (t := mu) g 0 0)
    have h7 : outR mu mw mh ⟨mc, bx, by_, bd⟩ 0 0 = rn7 mw mh mc mu bx by_ bd := rfl
    rw [hf.2, h7]
    rw [h7] at bdd
    refine ⟨trivial, ⟨hf.1⟩, fun h2 => ?_, fun h2 => ⟨trivial, ⟨g.1.1, g.1.2, bdd⟩, ?_⟩⟩
    · have hi : rnB mw mh mc mu bx by_ bd = false := by unfold rnB; simpa using h2
      exact (retP_two (by simp [exE, hb, rnE, hi]) (by simp [exB, hb, hi])).2
    · have hi : rnB mw mh mc mu bx by_ bd = true := by unfold rnB; simpa using h2
      exact (retP_two (by simp [exE, hb, rnE, hi]; rfl) (by simp [exB, hb, hi])).2
theorem vc_impl_HitsOfBall (mw mh : Int) (mc : List UInt8) (mu : Bool) (bx by_ bd : Int) (_ : True) : VC_impl_HitsOfBall mw mh mc mu bx by_ bd (retP (.tup [.int .i64 (exK mw mh mc mu bx by_ bd), .bool (exB mw mh mc mu bx by_ bd)])) := by
  unfold VC_impl_HitsOfBall
  refine ⟨⟨trivial⟩, fun h => ?_, fun h => ?_⟩
  · have hb : blB ⟨mw, mh, mc, mu⟩ bx by_ bd = false := by simpa using h
    exact (retP_two (by simp [exK, hb]) (by simp [exB, hb])).2
  · have hb : blB ⟨mw, mh, mc, mu⟩ bx by_ bd = true := by simpa using h
    have g := bl_good hb
    have hf := rl_roll g
    have h7 : outR mu mw mh ⟨mc, bx, by_, bd⟩ 0 0 = rn7 mw mh mc mu bx by_ bd := rfl
    rw [hf.2, h7]
    refine ⟨trivial, ⟨hf.1⟩, fun h2 => ?_, fun h2 => ?_⟩
    · have hi : rnB mw mh mc mu bx by_ bd = false := by unfold rnB; simpa using h2
      exact (retP_two (by simp [exK, hb, rnK, hi]) (by simp [exB, hb, hi])).2
    · have hi : rnB mw mh mc mu bx by_ bd = true := by unfold rnB; simpa using h2
      exact (retP_two (by simp [exK, hb, rnK, hi]) (by simp [exB, hb, hi])).2
theorem maze_no {mw mh : Int} {mc : List UInt8} {mu : Bool} {bx by_ bd : Int} (h : exB mw mh mc mu bx by_ bd = false) :
    retP (.tup [.agg [.int .i64 (exW mw mh mc mu bx by_ bd), .int .i64 (exH mw mh mc mu bx by_ bd), .str (exC mw mh mc mu bx by_ bd), .bool (exU mw mh mc mu bx by_ bd)], .bool (exB mw mh mc mu bx by_ bd)]) (.tup [.agg [.int .i64 0, .int .i64 0, .str [], .lit false], .lit false]) := by
  have e : exW mw mh mc mu bx by_ bd = 0 ∧ exH mw mh mc mu bx by_ bd = 0 ∧ exC mw mh mc mu bx by_ bd = [] ∧ exU mw mh mc mu bx by_ bd = false := by
    unfold exB at h
    unfold exW exH exC exU rnW rnH rnC rnU
    cases hb : blB ⟨mw, mh, mc, mu⟩ bx by_ bd
    · simp
    · rw [hb] at h
      simp at h
      simp [h]
  rw [e.1, e.2.1, e.2.2.1, e.2.2.2, h]
  simp [retP, leV, leL, V.under, underL, chkB]
theorem vc_spec_MazeAfterBall (mw mh : Int) (mc : List UInt8) (mu : Bool) (bx by_ bd : Int) (_ : True) : VC_spec_MazeAfterBall mw mh mc mu bx by_ bd
    (retP (.tup [.agg [.int .i64 (exW mw mh mc mu bx by_ bd), .int .i64 (exH mw mh mc mu bx by_ bd), .str (exC mw mh mc mu bx by_ bd), .bool (exU mw mh mc mu bx by_ bd)], .bool (exB mw mh mc mu bx by_ bd)])) := by
  unfold VC_spec_MazeAfterBall
  refine ⟨⟨trivial⟩, fun h => ?_, fun h => ?_⟩
  · have hb : blB ⟨mw, mh, mc, mu⟩ bx by_ bd = false := by simpa using h
    exact maze_no (by simp [exB, hb])
  · have hb : blB ⟨mw, mh, mc, mu⟩ bx by_ bd = true := by simpa using h
    refine ⟨⟨hb⟩, ?_⟩
    simp [exW, exH, exC, exU, exB, hb, retP, leV, leL, V.under, underL, chkB]
theorem vc_impl_MazeAfterBall (mw mh : Int) (mc : List UInt8) (mu : Bool) (bx by_ bd : Int) (_ : True) : VC_impl_MazeAfterBall mw mh mc mu bx by_ bd
    (retP (.tup [.agg [.int .i64 (exW mw mh mc mu bx by_ bd), .int .i64 (exH mw mh mc mu bx by_ bd), .str (exC mw mh mc mu bx by_ bd), .bool (exU mw mh mc mu bx by_ bd)], .bool (exB mw mh mc mu bx by_ bd)])) := by
  unfold VC_impl_MazeAfterBall
  refine ⟨⟨trivial⟩, fun h => ?_, fun h => ?_⟩
  · have hb : blB ⟨mw, mh, mc, mu⟩ bx by_ bd = false := by simpa using h
    exact maze_no (by simp [exB, hb])
  · have hb : blB ⟨mw, mh, mc, mu⟩ bx by_ bd = true := by simpa using h
    have g := bl_good hb
    have hf := rl_roll g
    have h7 : outR mu mw mh ⟨mc, bx, by_, bd⟩ 0 0 = rn7 mw mh mc mu bx by_ bd := rfl
    have hen := out_ended (t := mu) g 0 0
    have hm := mul_bd g.1.1 g.1.2
    have hlen := g.2.1
    simp only at hlen
    rw [hf.2, h7]
    rw [h7] at hen
    refine ⟨trivial, ⟨hf.1⟩, fun h2 => ?_, fun h2 => ⟨trivial, ⟨by omega, by omega⟩, ?_⟩⟩
    · have hi : rnB mw mh mc mu bx by_ bd = false := by unfold rnB; simpa using h2
      exact maze_no (by simp [exB, hb, hi])
    · have hi : rnB mw mh mc mu bx by_ bd = true := by unfold rnB; simpa using h2
      have ht : ((padB 81 (padB 81 (rn7 mw mh mc mu bx by_ bd).r.c)).take ((mc.length : Int)).toNat) = (rn7 mw mh mc mu bx by_ bd).r.c := text_full (by have := hen.1; omega) (by omega)
      rw [ht]
      simp [exW, exH, exC, exU, exB, rnW, rnH, rnC, rnU, hb, hi, retP, leV, leL, V.under, underL, chkB]
theorem vc_spec_l1Most (a b : Int) (_ : True) : VC_spec_l1Most a b (retP (.int .i64 (if a < b then b else a))) := by
  unfold VC_spec_l1Most
  refine ⟨fun h => ?_, fun h => ?_⟩
  · have h := of_decide_eq_true h
    rw [retP_int, if_neg (by omega)]
  · have h := of_decide_eq_false h
    rw [retP_int]
    split <;> omega
/-! ### the longest way -/
theorem ent_bl {mw mh : Int} {mc : List UInt8} {mu : Bool} {k : Int} (hm : mzB ⟨mw, mh, mc, mu⟩ = true) (hk : 0 ≤ k ∧ k < 2 * (mw + mh)) : goodR mw mh (entR mw mh mc k) ∧ blB ⟨mw, mh, mc, mu⟩ (entX mw mh k) (entY mw mh k) (entD mw mh k) = true := by
  obtain ⟨hw, hh, hl, ha⟩ := mz_iff.1 hm
  have g := ent_good hw hh hl ha hk
  exact ⟨g, good_bl (t := mu) g⟩
theorem lt_step {mw mh : Int} {mc : List UInt8} {mu : Bool} {k : Int} (hm : mzB ⟨mw, mh, mc, mu⟩ = true) (hk : 0 ≤ k ∧ k < 2 * (mw + mh)) :
    (if ltF mw mh mc mu k.toNat < rnN mw mh mc mu (entX mw mh k) (entY mw mh k) (entD mw mh k) then rnN mw mh mc mu (entX mw mh k) (entY mw mh k) (entD mw mh k) else ltF mw mh mc mu k.toNat) = ltF mw mh mc mu (k + 1).toNat ∧
    rnN mw mh mc mu (entX mw mh k) (entY mw mh k) (entD mw mh k) = (outR mu mw mh (entR mw mh mc k) 0 0).e := by
  obtain ⟨g, _⟩ := ent_bl hm hk
  have ho := ent_out (t := mu) g 0 0
  have h7 : rn7 mw mh mc mu (entX mw mh k) (entY mw mh k) (entD mw mh k) = outR mu mw mh (entR mw mh mc k) 0 0 := rfl
  have hb : rnB mw mh mc mu (entX mw mh k) (entY mw mh k) (entD mw mh k) = true := by unfold rnB; rw [h7, ho]; rfl
  have hn : rnN mw mh mc mu (entX mw mh k) (entY mw mh k) (entD mw mh k) = (outR mu mw mh (entR mw mh mc k) 0 0).e := by unfold rnN; rw [hb, h7]; rfl
  refine ⟨?_, hn⟩
  rw [hn, show (k + 1).toNat = k.toNat + 1 by omega]
  simp only [ltF]
  rw [show ((k.toNat : Nat) : Int) = k by omega]
theorem lt_inv {mw mh a : Int} (h : ltInv mw mh a) (ha : a < 2 * (mw + mh)) : IntKind.wrap .i64 (a + 1) = a + 1 ∧ ltInv mw mh (a + 1) ∧ (2 * (mw + mh) - (a + 1)).toNat < (2 * (mw + mh) - a).toNat := by
  obtain ⟨hs, h0, h1⟩ := h
  exact ⟨wrap64_in (by omega), ⟨hs, by omega, by omega⟩, by omega⟩
theorem lt_res {mw mh : Int} {mc : List UInt8} {mu : Bool} {n : Int} {b : Bool} (h1 : n = ltE mw mh mc mu) (h2 : b = ltB mw mh mc mu) : retP (.tup [.int .i64 (ltE mw mh mc mu), .bool (ltB mw mh mc mu)]) (.tup [.int .i64 n, .lit b]) := (retP_two h1 h2).2
theorem vc_impl_LongestTrack (mw mh : Int) (mc : List UInt8) (mu : Bool) (_ : True) : VC_impl_LongestTrack mw mh mc mu (retP (.tup [.int .i64 (ltE mw mh mc mu), .bool (ltB mw mh mc mu)])) := by
  unfold VC_impl_LongestTrack
  refine ⟨⟨trivial⟩, fun h => ?_, fun h => ⟨fun h2 => ?_, fun h2 => ?_⟩⟩
  · have hm : mzB ⟨mw, mh, mc, mu⟩ = false := by simpa using h
    exact lt_res (by simp [ltE, ltB, hm]) (by simp [ltB, hm])
  · exact lt_res (by simp [ltE, ltB, h2]) (by simp [ltB, h2])
  · have hm : mzB ⟨mw, mh, mc, mu⟩ = true := by simpa using h
    obtain ⟨hw, hh, hl, ha⟩ := mz_iff.1 hm
    simp only at hw hh hl ha
    have hmul := mul_bd hw hh
    obtain ⟨e1, e2, _⟩ := wrap_ends hw hh
    rw [e1, e2]
    have hcp : (cpB 81 [] 81 mc).take (mw * mh).toNat = mc := by rw [cp_full (by omega), take_full hl (by omega)]
    refine ⟨by simp [ltF], ⟨⟨⟨hw, hh⟩, by omega, by omega⟩⟩, fun a ha' => ⟨fun hlt => ?_, fun hge => ?_⟩⟩
    · have hlt := of_decide_eq_true hlt
      obtain ⟨s1, s2, s3⟩ := lt_inv ha' hlt
      have hst := lt_step hm ⟨ha'.2.1, hlt⟩
      have hsd : sdR mu mw mh (cpB 81 [] 81 mc) a 0 0 = outR mu mw mh (entR mw mh mc a) 0 0 := by unfold sdR; rw [hcp]
      have hsp : sdP mw mh (cpB 81 [] 81 mc) a := ⟨by rw [hcp, cp_full (by omega)], ⟨hw, hh⟩, by rw [hcp]; exact hl, by rw [hcp]; exact ha, ha'.2.1, hlt⟩
      rw [hsd, s1]
      rw [hst.2] at hst
      refine ⟨trivial, ⟨hsp⟩, by simp [hst.1], ⟨s2, s3⟩⟩
    · have hge := of_decide_eq_false hge
      have he : a = 2 * (mw + mh) := by have := ha'.2.2; omega
      subst he
      have hb : ltB mw mh mc mu = true := by unfold ltB; rw [hm]; simp [h2]
      exact lt_res (by unfold ltE; rw [hb]; rfl) hb.symm
theorem vc_spec_LongestTrack (mw mh : Int) (mc : List UInt8) (mu : Bool) (_ : True) : VC_spec_LongestTrack mw mh mc mu (retP (.tup [.int .i64 (ltE mw mh mc mu), .bool (ltB mw mh mc mu)])) := by
  unfold VC_spec_LongestTrack
  refine ⟨⟨trivial⟩, fun h => ?_, fun h => ⟨fun h2 => ?_, fun h2 => ?_⟩⟩
  · have hm : mzB ⟨mw, mh, mc, mu⟩ = false := by simpa using h
    exact lt_res (by simp [ltE, ltB, hm]) (by simp [ltB, hm])
  · exact lt_res (by simp [ltE, ltB, h2]) (by simp [ltB, h2])
  · have hm : mzB ⟨mw, mh, mc, mu⟩ = true := by simpa using h
    obtain ⟨hw, hh, hl, ha⟩ := mz_iff.1 hm
    simp only at hw hh hl ha
    obtain ⟨e1, e2, _⟩ := wrap_ends hw hh
    rw [e1, e2]
    refine ⟨by simp [ltF], ⟨⟨⟨hw, hh⟩, by omega, by omega⟩⟩, fun a ha' => ⟨fun hlt => ?_, fun hge => ?_⟩⟩
    · have hlt := of_decide_eq_true hlt
      obtain ⟨s1, s2, s3⟩ := lt_inv ha' hlt
      have hst := lt_step hm ⟨ha'.2.1, hlt⟩
      obtain ⟨_, hbl⟩ := ent_bl hm ⟨ha'.2.1, hlt⟩
      rw [s1, hst.1]
      have rng : ((1 ≤ mw ∧ mw ≤ 9) ∧ (1 ≤ mh ∧ mh ≤ 9) ∧ 0 ≤ a ∧ a < 2 * (mw + mh)) := ⟨hw, hh, ha'.2.1, hlt⟩
      simp only [at_iff, hbl, rng, s2, s3, and_self]
    · have hge := of_decide_eq_false hge
      have he : a = 2 * (mw + mh) := by have := ha'.2.2; omega
      subst he
      have hb : ltB mw mh mc mu = true := by unfold ltB; rw [hm]; simp [h2]
      exact lt_res (by unfold ltE; rw [hb]; rfl) hb.symm
end Go.Vi
