/- Puzzles: the conditions hold. -/
import Derived.Test.YtickpjdnncpnmaaDoorPAVc
import Derived.Test.YtickpjdnncpnmaaDoorPASpec
namespace Go.Vi
/-! ### powers -/
theorem pow_small {c i : Nat} (hc : c <= 6) (hi : i <= 9) : c ^ i <= 10077696 :=
 Nat.le_trans (Nat.pow_le_pow_left hc i) (Nat.le_trans (Nat.pow_le_pow_right (by omega) hi) (by decide))
theorem pow_mono {c i j : Nat} (hc : 1 <= c) (h : i <= j) : c ^ i <= c ^ j := Nat.pow_le_pow_right (by omega) h
theorem pow_pos' {c i : Nat} (hc : 1 <= c) : 1 <= c ^ i := Nat.pow_pos (by omega)
theorem pow300_pos {c n : Nat} (hc : 1 <= c) : decide (pow300 c n > 0) = decide (c ^ n <= 300) := by
 unfold pow300
 have := pow_pos' (i := n) hc
 by_cases h : c ^ n <= 300
 ·rw [decide_eq_true h]
  simp only [cond_true, decide_eq_true_eq]
  omega
 ·rw [decide_eq_false h]
  simp
theorem vc_spec_pzPower (s : List UInt8) (n : Int) (h : 1 <= s.length /\ s.length <= 6 /\ 0 <= n /\ n <= 9) : VC_spec_pzPower s n (retP (.int .i64 (pow300 s.length n.toNat))) := by
 obtain ⟨h1, h2, h3, h4⟩ := h
 unfold VC_spec_pzPower
 refine ⟨by simp, ⟨h1, h2, h4, h3, Int.le_refl _, by simp, by omega⟩, fun q hq => ?_⟩
 obtain ⟨_, _, _, g1, g2, g3, g4⟩ := hq
 obtain ⟨k, x⟩ := q
 simp only at g1 g2 g3 g4 ⊢
 have hx0 : 0 <= x := by rw [g3]; exact Int.natCast_nonneg _
 have hxl : x * (s.length : Int) <= 300 * 6 := Int.mul_le_mul g4 (by omega) (by omega) (by omega)
 have hxl0 : 0 <= x * (s.length : Int) := Int.mul_nonneg hx0 (by omega)
 have hstep : k > 0 -> x * (s.length : Int) = ((s.length ^ (n - (k - 1)).toNat : Nat) : Int) := fun hk => by
  rw [g3, show (n - (k - 1)).toNat = (n - k).toNat + 1 by omega, Nat.pow_succ, Int.natCast_mul]
 rw [wrap64_in (x := x * _) (by omega), wrap64_in (x := k - 1) (by omega)]
 refine ⟨fun hc => ⟨fun ho => ?_, fun ho => ⟨by simp, ⟨⟨h1, h2, h4, ?_, ?_, ?_, ?_⟩, ?_⟩⟩⟩, fun hc => ?_⟩
 ·have hc := of_decide_eq_true hc
  have ho := of_decide_eq_true ho
  rw [retP_int]
  have hm := pow_mono (c := s.length) h1 (show (n - (k - 1)).toNat <= n.toNat by omega)
  rw [hstep hc] at ho
  unfold pow300
  rw [decide_eq_false (by omega)]
  rfl
 ·have hc := of_decide_eq_true hc
  simp only; omega
 ·simp only; omega
 ·exact hstep (of_decide_eq_true hc)
 ·have ho := of_decide_eq_false ho
  simp only; omega
 ·have hc := of_decide_eq_true hc
  omega
 ·have hc := of_decide_eq_false hc
  rw [retP_int]
  unfold pow300
  have hk : k = 0 := by omega
  subst hk
  rw [Int.sub_zero] at g3
  rw [decide_eq_true (by omega)]
  exact g3
theorem vc_spec_pzSize (s : List UInt8) (w h : Int) (_ : True) : VC_spec_pzSize s w h (retP (.bool (sizeB s w h))) := by
 unfold VC_spec_pzSize sizeB
 refine ⟨⟨trivial⟩, fun h1 => ⟨⟨trivial⟩, fun h2 => ⟨⟨trivial⟩, fun h3 => ?_, fun h3 => ?_⟩, fun h2 => ?_⟩, fun h1 => ?_⟩
 ·have hm := mul_bd (inB_eq.1 h2) (inB_eq.1 h3)
  have hr := rule_len h1
  rw [wrap64_in (x := w * h) (by omega)]
  refine ⟨fun h4 => ⟨⟨hr.1, hr.2, by omega, of_decide_eq_true h4⟩, ?_⟩, fun h4 => ?_⟩
  ·rw [retP_bool, pow300_pos hr.1, h1, h2, h3, h4]
   rfl
  ·rw [retP_lit, h1, h2, h3, h4]
   rfl
 ·rw [retP_lit, h1, h2, h3]
  rfl
 ·rw [retP_lit, h1, h2]
  rfl
 ·rw [retP_lit, h1]
  rfl
theorem vc_impl_isSize (w h : Int) (_ : True) : VC_impl_isSize w h (retP (.bool (inB w 1 9 && inB h 1 9))) := by
 unfold VC_impl_isSize
 refine ⟨⟨trivial⟩, fun h1 => ⟨⟨trivial⟩, ?_⟩, fun h1 => ?_⟩
 ·rw [retP_bool, h1]; rfl
 ·rw [retP_lit, h1]; rfl
theorem retP_cnt {a b : Int} {c d : Bool} (h1 : a = b) (h2 : c = d) : retP (.tup [.int .i64 b, .bool d]) (.tup [.int .i64 a, .lit c]) := by
 subst h1; subst h2
 simp [retP, leV, leL, chkB, V.under, underL]
theorem cntB_no {s : List UInt8} {w h : Int} (hs : sizeB s w h = false) : (0 : Int) = cntB s w h := by
 unfold cntB
 rw [hs]
 rfl
theorem vc_impl_CountBoards (s : List UInt8) (w h : Int) (_ : True) : VC_impl_CountBoards s w h (retP (.tup [.int .i64 (cntB s w h), .bool (sizeB s w h)])) := by
 unfold VC_impl_CountBoards
 refine ⟨⟨trivial⟩, fun h1 => ?_, fun h1 => ⟨⟨trivial⟩, fun h2 => ?_, fun h2 => ?_⟩⟩
 ·have hs : sizeB s w h = false := by
   simp only [Bool.not_eq_true'] at h1
   simp [sizeB, h1]
  exact retP_cnt (cntB_no hs) hs.symm
 ·have hs : sizeB s w h = false := by
   simp only [Bool.not_eq_true'] at h2
   simp [sizeB, h2]
  exact retP_cnt (cntB_no hs) hs.symm
 ·simp only [Bool.not_eq_false'] at h1 h2
  have h2' := h2
  simp only [Bool.and_eq_true] at h2'
  have hm := mul_bd (inB_eq.1 h2'.1) (inB_eq.1 h2'.2)
  have hr := rule_len h1
  rw [wrap64_in (x := w * h) (by omega)]
  refine ⟨fun h3 => ?_, fun h3 => ⟨by simp, ⟨hr.1, hr.2, ?_, Int.le_refl _, by omega, rfl⟩, fun q hq => ⟨fun hc => ?_, fun hc => ⟨fun ho => ?_, fun ho => ?_⟩⟩⟩⟩
  ·have h3 := of_decide_eq_true h3
   have hs : sizeB s w h = false := by
    have : decide (w * h <= 9) = false := by simp only [decide_eq_false_iff_not]; omega
    simp [sizeB, this]
   exact retP_cnt (cntB_no hs) hs.symm
  ·have h3 := of_decide_eq_false h3
   omega
  ·obtain ⟨g1, g2, g3, g4, g5, g6⟩ := hq
   obtain ⟨i, x⟩ := q
   simp only at g4 g5 g6 hc ⊢
   have hc := of_decide_eq_true hc
   have hb := pow_small (c := s.length) (i := i.toNat) g2 (by omega)
   have hx : x * (s.length : Int) <= 10077696 * 6 := Int.mul_le_mul (by omega) (by omega) (by omega) (by omega)
   have hx0 : 0 <= x * (s.length : Int) := Int.mul_nonneg (by rw [g6]; exact Int.natCast_nonneg _) (by omega)
   rw [wrap64_in (x := x * _) (by omega), wrap64_in (x := i + 1) (by omega)]
   refine ⟨by simp, ⟨⟨g1, g2, g3, by simp only; omega, by simp only; omega, ?_⟩, by omega⟩⟩
   simp only
   rw [g6, show (i + 1).toNat = i.toNat + 1 by omega, Nat.pow_succ, Int.natCast_mul]
  ·obtain ⟨g1, g2, g3, g4, g5, g6⟩ := hq
   obtain ⟨i, x⟩ := q
   simp only at g4 g5 g6 hc ho ⊢
   have hc := of_decide_eq_false hc
   have ho := of_decide_eq_true ho
   have hi : i = w * h := by omega
   have hs : sizeB s w h = false := by
    have : decide (s.length ^ (w * h).toNat <= 300) = false := by
     simp only [decide_eq_false_iff_not]
     rw [<- hi]; omega
    simp [sizeB, this]
   exact retP_cnt (cntB_no hs) hs.symm
  ·obtain ⟨g1, g2, g3, g4, g5, g6⟩ := hq
   obtain ⟨i, x⟩ := q
   simp only at g4 g5 g6 hc ho ⊢
   have hc := of_decide_eq_false hc
   have ho := of_decide_eq_false ho
   have h3 := of_decide_eq_false h3
   have hi : i = w * h := by omega
   have hs : sizeB s w h = true := by
    have d1 : decide (s.length ^ (w * h).toNat <= 300) = true := by
     simp only [decide_eq_true_eq]
     rw [<- hi]; omega
    have d2 : decide (w * h <= 9) = true := by simp only [decide_eq_true_eq]; omega
    simp [sizeB, h1, h2'.1, h2'.2, of_decide_eq_true d1, of_decide_eq_true d2]
   refine retP_cnt ?_ hs.symm
   unfold cntB
   rw [hs, cond_true, g6, hi]
/-! ### clues -/
theorem inB_zero {b : Int} : (b == 0) = inB b 0 0 := by
 unfold inB
 by_cases h : b = 0
 ·subst h; rfl
 ·rw [beq_eq_false_iff_ne.2 h]
  symm
  simp only [Bool.and_eq_false_iff, decide_eq_false_iff_not]
  omega
theorem vc_spec_pzClue (s : List UInt8) (cells cx cy ck : Int) (h : s.length <= 1000 /\ 0 <= cells /\ cells <= 1000) : VC_spec_pzClue s cells cx cy ck (retP (.bool (clueB cx cy ck s.length cells))) := by
 unfold VC_spec_pzClue clueB gA gB
 rw [wrap64_in (x := cells - 1) (by omega), wrap64_in (x := (s.length : Int) - 1) (by omega)]
 refine ⟨fun h0 => ?_, fun h0 => ⟨fun h1 => ?_, fun h1 => ⟨fun h2 => ?_, fun h2 => ⟨fun h3 => ?_, fun h3 => ⟨fun h4 => ?_, fun h4 => ?_⟩⟩⟩⟩⟩
 ·simp only [h0, cond_true]
  refine ⟨⟨trivial⟩, fun g => ⟨⟨trivial⟩, ?_⟩, fun g => ?_⟩
  ·rw [retP_bool, g]; rfl
  ·rw [retP_lit, g]; rfl
 ·simp only [h0, h1, cond_true, cond_false]
  refine ⟨⟨trivial⟩, fun g => ⟨⟨trivial⟩, ?_⟩, fun g => ?_⟩
  ·rw [retP_bool, g]; rfl
  ·rw [retP_lit, g]; rfl
 ·simp only [h0, h1, h2, cond_true, cond_false]
  refine ⟨⟨trivial⟩, fun g => ⟨⟨trivial⟩, ?_⟩, fun g => ?_⟩
  ·rw [retP_bool, g]; rfl
  ·rw [retP_lit, g]; rfl
 ·simp only [h0, h1, h2, h3, cond_true, cond_false]
  refine ⟨⟨trivial⟩, fun g => ⟨⟨trivial⟩, ?_⟩, fun g => ?_⟩
  ·rw [retP_bool, g]; rfl
  ·rw [retP_lit, g]; rfl
 ·simp only [h0, h1, h2, h3, h4, cond_true, cond_false]
  refine ⟨⟨trivial⟩, fun g => ?_, fun g => ?_⟩
  ·rw [retP_bool, g, inB_zero]; rfl
  ·rw [retP_lit, g]; rfl
 ·simp only [h0, h1, h2, h3, h4, cond_false]
  rw [retP_lit]
  symm
  unfold inB
  simp only [Bool.and_eq_false_iff, decide_eq_false_iff_not]
  omega
/-! ### puzzles -/
theorem size_bd {s : List UInt8} {w h : Int} (hs : sizeB s w h = true) : 1 <= s.length /\ s.length <= 6 /\ 1 <= w * h /\ w * h <= 9 /\ 1 <= w /\ w <= 9 /\ 1 <= h /\ h <= 9 := by
 unfold sizeB at hs
 simp only [Bool.and_eq_true, decide_eq_true_eq] at hs
 obtain ⟨⟨⟨h1, h2, h3⟩, h4⟩, _⟩ := hs
 have hr := rule_len h1
 have hm := mul_bd (inB_eq.1 h2) (inB_eq.1 h3)
 have a := inB_eq.1 h2
 have b := inB_eq.1 h3
 omega
/-! ### sets of clues -/
/-! ### a clue left out -/
end Go.Vi
