/- Balls until the maze is the same: the conditions hold. -/
import Derived.Test.YtkkpkfphfhcgoaaDoorD1Vc
import Derived.Test.YtkkpkfphfhcgoaaDoorD1Spec
namespace Go.Vi
theorem goN_r (t : Bool) (w : Int) : ∀ (n : Nat) (s : Rn), (goN t w n s).r = iterR t w n s.r
  | 0, _ => rfl
  | n + 1, _ => goN_r t w n _
theorem out_r (t : Bool) (w h : Int) (r : Rl) (e n : Int) : (outR t w h r e n).r = (outR t w h r 0 0).r := by
  unfold outR runR
  rw [goN_r, goN_r]
theorem aft_good {w h k : Int} {c : List UInt8} (hw : 1 ≤ w ∧ w ≤ 9) (hh : 1 ≤ h ∧ h ≤ 9) (hk : 0 ≤ k ∧ k < 2 * (w + h)) (hl : (c.length : Int) = w * h) (hm : c.all mirB = true) : ((aftC w h k c).length : Int) = w * h ∧ (aftC w h k c).all mirB = true := by
  have he := out_ended (t := true) (ent_good (k := k) hw hh hl hm hk) 0 0
  exact ⟨he.1, he.2.1⟩
theorem bs_step {w h k : Int} {c0 c : List UInt8} {b : Int} (hw : 1 ≤ w ∧ w ≤ 9) (hh : 1 ≤ h ∧ h ≤ 9) (hk : 0 ≤ k ∧ k < 2 * (w + h)) (hi : bsInv w h k c0 b c) (hb : b ≤ 600) :
    ((aftC w h k c == c0) = true → bsF w h k c0 600 1 c0 = some b) ∧ ((aftC w h k c == c0) = false → bsInv w h k c0 (IntKind.wrap .i64 (b + 1)) (aftC w h k c) ∧ ((601 : Int) - IntKind.wrap .i64 (b + 1)).toNat < ((601 : Int) - b).toNat) := by
  obtain ⟨hl, hm, h1, h2, h3⟩ := hi
  have e : (601 - b).toNat = (601 - (b + 1)).toNat + 1 := by omega
  have hs : ∀ n, bsF w h k c0 (n + 1) b c = bif aftC w h k c == c0 then some b else bsF w h k c0 n (b + 1) (aftC w h k c) := fun _ => rfl
  rw [e, hs] at h3
  rw [wrap64_in (x := b + 1) (by omega)]
  refine ⟨fun hc => by rw [← h3, hc]; rfl, fun hc => ?_⟩
  obtain ⟨g1, g2⟩ := aft_good hw hh hk hl hm
  rw [hc] at h3
  exact ⟨⟨g1, g2, by omega, by omega, h3⟩, by omega⟩
theorem bs_none {w h k : Int} {c0 c : List UInt8} {b : Int} (hi : bsInv w h k c0 b c) (hb : ¬ b ≤ 600) : bsF w h k c0 600 1 c0 = none := by
  obtain ⟨_, _, h1, h2, h3⟩ := hi
  rw [← h3, show (601 - b).toNat = 0 by omega]
  rfl
theorem bs_no {mw mh : Int} {mc : List UInt8} {mu : Bool} {k : Int} (h : bsW mw mh mc mu k = none) : retP (.tup [.int .i64 (bsN mw mh mc mu k), .bool (bsB mw mh mc mu k)]) (.tup [.int .i64 0, .lit false]) :=
  (retP_two (by unfold bsN; rw [h]) (by unfold bsB; rw [h]; rfl)).2
theorem bs_yes {mw mh : Int} {mc : List UInt8} {mu : Bool} {k b : Int} (h : bsW mw mh mc mu k = some b) : retP (.tup [.int .i64 (bsN mw mh mc mu k), .bool (bsB mw mh mc mu k)]) (.tup [.int .i64 b, .lit true]) :=
  (retP_two (by unfold bsN; rw [h]) (by unfold bsB; rw [h]; rfl)).2
theorem bs_first {w h k : Int} {c : List UInt8} (hl : (c.length : Int) = w * h) (hm : c.all mirB = true) : bsInv w h k c 1 c := ⟨hl, hm, by omega, by omega, rfl⟩
theorem vc_spec_BallsUntilSame (mw mh : Int) (mc : List UInt8) (mu : Bool) (k : Int) (_ : True) : VC_spec_BallsUntilSame mw mh mc mu k (retP (.tup [.int .i64 (bsN mw mh mc mu k), .bool (bsB mw mh mc mu k)])) := by
  unfold VC_spec_BallsUntilSame
  simp only [and_self, true_and, and_true]
  refine ⟨⟨trivial⟩, fun h => ?_, fun h => ⟨fun h2 => ?_, fun h2 => ?_⟩⟩
  · have hb : enB ⟨mw, mh, mc, mu⟩ k = false := by simpa using h
    exact bs_no (by unfold bsW; rw [hb]; rfl)
  · have hu : mu = false := by simpa using h2
    exact bs_no (by unfold bsW; rw [hu, Bool.and_false]; rfl)
  · have hb : enB ⟨mw, mh, mc, mu⟩ k = true := by simpa using h
    have hu : mu = true := by simpa using h2
    have hW : bsW mw mh mc mu k = bsF mw mh k mc 600 1 mc := by unfold bsW; rw [hb, hu]; rfl
    have he := hb
    unfold enB at he
    simp only [Bool.and_eq_true, inB_eq] at he
    obtain ⟨hw, hh, hl, hm⟩ := mz_iff.1 he.1
    simp only at hw hh hl hm
    have hk : 0 ≤ k ∧ k < 2 * (mw + mh) := by omega
    refine ⟨⟨bs_first hl hm⟩, fun a ha => ⟨fun hle => ?_, fun hgt => ?_⟩⟩
    · have hle := of_decide_eq_true hle
      have g := ent_good (k := k) hw hh ha.1 ha.2.1 hk
      have hbl : blB ⟨mw, mh, a.2, mu⟩ (entX mw mh k) (entY mw mh k) (entD mw mh k) = true := good_bl (t := mu) g
      have h7 : rn7 mw mh a.2 mu (entX mw mh k) (entY mw mh k) (entD mw mh k) = outR mu mw mh (entR mw mh a.2 k) 0 0 := rfl
      have hB : rnB mw mh a.2 mu (entX mw mh k) (entY mw mh k) (entD mw mh k) = true := by unfold rnB; rw [h7, ent_out g]; rfl
      have hC : rnC mw mh a.2 mu (entX mw mh k) (entY mw mh k) (entD mw mh k) = aftC mw mh k a.2 := by unfold rnC aftC; rw [hB, h7, hu]; rfl
      obtain ⟨s1, s2⟩ := bs_step hw hh hk ha hle
      rw [hC]
      exact ⟨⟨hw, hh, hk⟩, ⟨hbl⟩, fun hc => bs_yes (hW.trans (s1 hc)), fun hc => ⟨⟨by simp [rnW, hB], by simp [rnH, hB], by simp [rnU, hB]⟩, ⟨s2 hc⟩⟩⟩
    · exact bs_no (hW.trans (bs_none ha (of_decide_eq_false hgt)))
theorem vc_impl_BallsUntilSame (mw mh : Int) (mc : List UInt8) (mu : Bool) (k : Int) (_ : True) : VC_impl_BallsUntilSame mw mh mc mu k (retP (.tup [.int .i64 (bsN mw mh mc mu k), .bool (bsB mw mh mc mu k)])) := by
  unfold VC_impl_BallsUntilSame
  simp only [and_self, true_and, and_true]
  refine ⟨⟨trivial⟩, fun h => ?_, fun h => ⟨fun h2 => ?_, fun h2 => ⟨⟨trivial⟩, ?_⟩⟩⟩
  · have hm : mzB ⟨mw, mh, mc, mu⟩ = false := by simpa using h
    exact bs_no (by unfold bsW enB; rw [hm]; rfl)
  · have hu : mu = false := by simpa using h2
    exact bs_no (by unfold bsW; rw [hu, Bool.and_false]; rfl)
  · have hmz : mzB ⟨mw, mh, mc, mu⟩ = true := by simpa using h
    have hu : mu = true := by simpa using h2
    obtain ⟨hw, hh, hl, hm⟩ := mz_iff.1 hmz
    simp only at hw hh hl hm
    have hmul := mul_bd hw hh
    obtain ⟨e1, e2, e3⟩ := wrap_ends hw hh
    rw [e1, e2, e3]
    refine ⟨fun hkn => ?_, fun hky => ?_⟩
    · have hkn : inB k 0 (2 * (mw + mh) - 1) = false := by simpa using hkn
      exact bs_no (by unfold bsW enB; rw [hmz, hkn]; rfl)
    · have hky : inB k 0 (2 * (mw + mh) - 1) = true := by simpa using hky
      have hb : enB ⟨mw, mh, mc, mu⟩ k = true := by unfold enB; rw [hmz, hky]; rfl
      have hW : bsW mw mh mc mu k = bsF mw mh k mc 600 1 mc := by unfold bsW; rw [hb, hu]; rfl
      have hk' := inB_eq.1 hky
      have hk : 0 ≤ k ∧ k < 2 * (mw + mh) := by omega
      have h81 : mc.length ≤ 81 := by omega
      have hcp : (cpB 81 [] 81 mc).take (mw * mh).toNat = mc := by rw [cp_full h81, take_full hl h81]
      have hro : (rlO mw mh (cpB 81 [] 81 mc) 0 0 0).c = mc := hcp
      rw [hro, cp_full h81]
      refine ⟨⟨⟨rfl, rfl, rfl, rfl⟩, rfl⟩, ⟨bs_first hl hm⟩, fun a ha => ⟨fun hle => ?_, fun hgt => ?_⟩⟩
      · have hle := of_decide_eq_true hle
        have ha81 : a.2.r.c.length ≤ 81 := by have := ha.1; omega
        have htk : (padB 81 a.2.r.c).take (mw * mh).toNat = a.2.r.c := take_full ha.1 ha81
        have hsp : sdP mw mh (padB 81 a.2.r.c) k := ⟨by rw [htk], ⟨hw, hh⟩, by rw [htk]; exact ha.1, by rw [htk]; exact ha.2.1, hk⟩
        have hsd : (sdR mu mw mh (padB 81 a.2.r.c) k a.2.e a.2.k).r.c = aftC mw mh k a.2.r.c := by
          unfold sdR aftC
          rw [htk, out_r, hu]
        obtain ⟨g1, g2⟩ := aft_good hw hh hk ha.1 ha.2.1
        have g81 : (aftC mw mh k a.2.r.c).length ≤ 81 := by omega
        have hbk : (rlO mw mh (padB 81 (aftC mw mh k a.2.r.c)) (sdR mu mw mh (padB 81 a.2.r.c) k a.2.e a.2.k).r.x (sdR mu mw mh (padB 81 a.2.r.c) k a.2.e a.2.k).r.y (sdR mu mw mh (padB 81 a.2.r.c) k a.2.e a.2.k).r.d).c = aftC mw mh k a.2.r.c := take_full g1 g81
        have heq : (padB 81 (padB 81 (aftC mw mh k a.2.r.c)) == padB 81 (padB 81 mc)) = (aftC mw mh k a.2.r.c == mc) := by
          rw [padB_self (padB_length 81 _), padB_self (padB_length 81 _), Bool.eq_iff_iff, beq_iff_eq, beq_iff_eq]
          refine ⟨fun hh' => ?_, fun hh' => by rw [hh']⟩
          have : (padB 81 (aftC mw mh k a.2.r.c)).take (mw * mh).toNat = (padB 81 mc).take (mw * mh).toNat := by rw [hh']
          rwa [take_full g1 g81, take_full hl h81] at this
        obtain ⟨s1, s2⟩ := bs_step hw hh hk ha hle
        rw [hsd, heq, hbk]
        exact ⟨⟨hsp⟩, fun hc => bs_yes (hW.trans (s1 hc)), fun hc => ⟨⟨rfl, rfl, rfl, rfl⟩, ⟨s2 hc⟩⟩⟩
      · exact bs_no (hW.trans (bs_none ha (of_decide_eq_false hgt)))
end Go.Vi
