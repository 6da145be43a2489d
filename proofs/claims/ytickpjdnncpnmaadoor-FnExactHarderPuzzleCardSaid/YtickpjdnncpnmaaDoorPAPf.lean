/- Puzzles: the conditions hold. -/
import Derived.Test.YtickpjdnncpnmaaDoorPAVc
import Derived.Test.YtickpjdnncpnmaaDoorPASpec
namespace Go.Vi
/-! ### powers -/
theorem pow_small {c i : Nat} (hc : c <= 6) (hi : i <= 9) : c ^ i <= 10077696 :=
 Nat.le_trans (Nat.pow_le_pow_left hc i) (Nat.le_trans (Nat.pow_le_pow_right (by omega) hi) (by decide))
theorem pow_mono {c i j : Nat} (hc : 1 <= c) (h : i <= j) : c ^ i <= c ^ j := Nat.pow_le_pow_right (by omega) h
theorem pow_pos' {c i : Nat} (hc : 1 <= c) : 1 <= c ^ i := Nat.pow_pos (by omega)
theorem pow300_pos {c n : Nat} (hc : 1 <= c) : decide (pow300 c n > 0) = decide (c ^ n <= 300) := by
 unfold pow300
 have := pow_pos' (i := n) hc
 by_cases h : c ^ n <= 300
 ·rw [decide_eq_true h]
  simp only [cond_true, decide_eq_true_eq]
  omega
 ·rw [decide_eq_false h]
  simp
theorem vc_spec_pzPower (s : List UInt8) (n : Int) (h : 1 <= s.length /\ s.length <= 6 /\ 0 <= n /\ n <= 9) : VC_spec_pzPower s n (retP (.int .i64 (pow300 s.length n.toNat))) := by
 obtain ⟨h1, h2, h3, h4⟩ := h
 unfold VC_spec_pzPower
 refine ⟨by simp, ⟨h1, h2, h4, h3, Int.le_refl _, by simp, by omega⟩, fun q hq => ?_⟩
 obtain ⟨_, _, _, g1, g2, g3, g4⟩ := hq
 obtain ⟨k, x⟩ := q
 simp only at g1 g2 g3 g4 ⊢
 have hx0 : 0 <= x := by rw [g3]; exact Int.natCast_nonneg _
 have hxl : x * (s.length : Int) <= 300 * 6 := Int.mul_le_mul g4 (by omega) (by omega) (by omega)
 have hxl0 : 0 <= x * (s.length : Int) := Int.mul_nonneg hx0 (by omega)
 have hstep : k > 0 -> x * (s.length : Int) = ((s.length ^ (n - (k - 1)).toNat : Nat) : Int) := fun hk => by
  rw [g3, show (n - (k - 1)).toNat = (n - k).toNat + 1 by omega, Nat.pow_succ, Int.natCast_mul]
 rw [wrap64_in (x := x * _) (by omega), wrap64_in (x := k - 1) (by omega)]
 refine ⟨fun hc => ⟨fun ho => ?_, fun ho => ⟨by simp, ⟨⟨h1, h2, h4, ?_, ?_, ?_, ?_⟩, ?_⟩⟩⟩, fun hc => ?_⟩
 ·have hc := of_decide_eq_true hc
  have ho := of_decide_eq_true ho
  rw [retP_int]
  have hm := pow_mono (c := s.length) h1 (show (n - (k - 1)).toNat <= n.toNat by omega)
  rw [hstep hc] at ho
  unfold pow300
  rw [decide_eq_false (by omega)]
  rfl
 ·have hc := of_decide_eq_true hc
  simp only; omega
 ·simp only; omega
 ·exact hstep (of_decide_eq_true hc)
 ·have ho := of_decide_eq_false ho
  simp only; omega
 ·have hc := of_decide_eq_true hc
  omega
 ·have hc := of_decide_eq_false hc
  rw [retP_int]
  unfold pow300
  have hk : k = 0 := by omega
  subst hk
  rw [Int.sub_zero] at g3
  rw [decide_eq_true (by omega)]
  exact g3
theorem vc_spec_pzSize (s : List UInt8) (w h : Int) (_ : True) : VC_spec_pzSize s w h (retP (.bool (sizeB s w h))) := by
 unfold VC_spec_pzSize sizeB
 refine ⟨⟨trivial⟩, fun h1 => ⟨⟨trivial⟩, fun h2 => ⟨⟨trivial⟩, fun h3 => ?_, fun h3 => ?_⟩, fun h2 => ?_⟩, fun h1 => ?_⟩
 ·have hm := mul_bd (inB_eq.1 h2) (inB_eq.1 h3)
  have hr := rule_len h1
  rw [wrap64_in (x := w * h) (by omega)]
  refine ⟨fun h4 => ⟨⟨hr.1, hr.2, by omega, of_decide_eq_true h4⟩, ?_⟩, fun h4 => ?_⟩
  ·rw [retP_bool, pow300_pos hr.1, h1, h2, h3, h4]
   rfl
  ·rw [retP_lit, h1, h2, h3, h4]
   rfl
 ·rw [retP_lit, h1, h2, h3]
  rfl
 ·rw [retP_lit, h1, h2]
  rfl
 ·rw [retP_lit, h1]
  rfl
theorem vc_impl_isSize (w h : Int) (_ : True) : VC_impl_isSize w h (retP (.bool (inB w 1 9 && inB h 1 9))) := by
 unfold VC_impl_isSize
 refine ⟨⟨trivial⟩, fun h1 => ⟨⟨trivial⟩, ?_⟩, fun h1 => ?_⟩
 ·rw [retP_bool, h1]; rfl
 ·rw [retP_lit, h1]; rfl
theorem retP_cnt {a b : Int} {c d : Bool} (h1 : a = b) (h2 : c = d) : retP (.tup [.int .i64 b, .bool d]) (.tup [.int .i64 a, .lit c]) := by
 subst h1; subst h2
 simp [retP, leV, leL, chkB, V.under, underL]
theorem cntB_no {s : List UInt8} {w h : Int} (hs : sizeB s w h = false) : (0 : Int) = cntB s w h := by
 unfold cntB
 rw [hs]
 rfl
theorem vc_impl_CountBoards (s : List UInt8) (w h : Int) (_ : True) : VC_impl_CountBoards s w h (retP (.tup [.int .i64 (cntB s w h), .bool (sizeB s w h)])) := by
 unfold VC_impl_CountBoards
 refine ⟨⟨trivial⟩, fun h1 => ?_, fun h1 => ⟨⟨trivial⟩, fun h2 => ?_, fun h2 => ?_⟩⟩
 ·have hs : sizeB s w h = false := by
   simp only [Bool.not_eq_true'] at h1
   simp [sizeB, h1]
  exact retP_cnt (cntB_no hs) hs.symm
 ·have hs : sizeB s w h = false := by
   simp only [Bool.not_eq_true'] at h2
   simp [sizeB, h2]
  exact retP_cnt (cntB_no hs) hs.symm
 ·simp only [Bool.not_eq_false'] at h1 h2
  have h2' := h2
  simp only [Bool.and_eq_true] at h2'
  have hm := mul_bd (inB_eq.1 h2'.1) (inB_eq.1 h2'.2)
  have hr := rule_len h1
  rw [wrap64_in (x := w * h) (by omega)]
  refine ⟨fun h3 => ?_, fun h3 => ⟨by simp, ⟨hr.1, hr.2, ?_, Int.le_refl _, by omega, rfl⟩, fun q hq => ⟨fun hc => ?_, fun hc => ⟨fun ho => ?_, fun ho => ?_⟩⟩⟩⟩
  ·have h3 := of_decide_eq_true h3
   have hs : sizeB s w h = false := by
    have : decide (w * h <= 9) = false := by simp only [decide_eq_false_iff_not]; omega
    simp [sizeB, this]
   exact retP_cnt (cntB_no hs) hs.symm
  ·have h3 := of_decide_eq_false h3
   omega
  ·obtain ⟨g1, g2, g3, g4, g5, g6⟩ := hq
   obtain ⟨i, x⟩ := q
   simp only at g4 g5 g6 hc ⊢
   have hc := of_decide_eq_true hc
   have hb := pow_small (c := s.length) (i := i.toNat) g2 (by omega)
   have hx : x * (s.length : Int) <= 10077696 * 6 := Int.mul_le_mul (by omega) (by omega) (by omega) (by omega)
   have hx0 : 0 <= x * (s.length : Int) := Int.mul_nonneg (by rw [g6]; exact Int.natCast_nonneg _) (by omega)
   rw [wrap64_in (x := x * _) (by omega), wrap64_in (x := i + 1) (by omega)]
   refine ⟨by simp, ⟨⟨g1, g2, g3, by simp only; omega, by simp only; omega, ?_⟩, by omega⟩⟩
   simp only
   rw [g6, show (i + 1).toNat = i.toNat + 1 by omega, Nat.pow_succ, Int.natCast_mul]
  ·obtain ⟨g1, g2, g3, g4, g5, g6⟩ := hq
   obtain ⟨i, x⟩ := q
   simp only at g4 g5 g6 hc ho ⊢
   have hc := of_decide_eq_false hc
   have ho := of_decide_eq_true ho
   have hi : i = w * h := by omega
   have hs : sizeB s w h = false := by
    have : decide (s.length ^ (w * h).toNat <= 300) = false := by
     simp only [decide_eq_false_iff_not]
     rw [<- hi]; omega
    simp [sizeB, this]
   exact retP_cnt (cntB_no hs) hs.symm
  ·obtain ⟨g1, g2, g3, g4, g5, g6⟩ := hq
   obtain ⟨i, x⟩ := q
   simp only at g4 g5 g6 hc ho ⊢
   have hc := of_decide_eq_false hc
   have ho := of_decide_eq_false ho
   have h3 := of_decide_eq_false h3
   have hi : i = w * h := by omega
   have hs : sizeB s w h = true := by
    have d1 : decide (s.length ^ (w * h).toNat <= 300) = true := by
     simp only [decide_eq_true_eq]
     rw [<- hi]; omega
    have d2 : decide (w * h <= 9) = true := by simp only [decide_eq_true_eq]; omega
    simp [sizeB, h1, h2'.1, h2'.2, of_decide_eq_true d1, of_decide_eq_true d2]
   refine retP_cnt ?_ hs.symm
   unfold cntB
   rw [hs, cond_true, g6, hi]
/-! ### clues -/
theorem inB_zero {b : Int} : (b == 0) = inB b 0 0 := by
 unfold inB
 by_cases h : b = 0
 ·subst h; rfl
 ·rw [beq_eq_false_iff_ne.2 h]
  symm
  simp only [Bool.and_eq_false_iff, decide_eq_false_iff_not]
  omega
theorem vc_spec_pzClue (s : List UInt8) (cells cx cy ck : Int) (h : s.length <= 1000 /\ 0 <= cells /\ cells <= 1000) : VC_spec_pzClue s cells cx cy ck (retP (.bool (clueB cx cy ck s.length cells))) := by
 unfold VC_spec_pzClue clueB gA gB
 rw [wrap64_in (x := cells - 1) (by omega), wrap64_in (x := (s.length : Int) - 1) (by omega)]
 refine ⟨fun h0 => ?_, fun h0 => ⟨fun h1 => ?_, fun h1 => ⟨fun h2 => ?_, fun h2 => ⟨fun h3 => ?_, fun h3 => ⟨fun h4 => ?_, fun h4 => ?_⟩⟩⟩⟩⟩
 ·simp only [h0, cond_true]
  refine ⟨⟨trivial⟩, fun g => ⟨⟨trivial⟩, ?_⟩, fun g => ?_⟩
  ·rw [retP_bool, g]; rfl
  ·rw [retP_lit, g]; rfl
 ·simp only [h0, h1, cond_true, cond_false]
  refine ⟨⟨trivial⟩, fun g => ⟨⟨trivial⟩, ?_⟩, fun g => ?_⟩
  ·rw [retP_bool, g]; rfl
  ·rw [retP_lit, g]; rfl
 ·simp only [h0, h1, h2, cond_true, cond_false]
  refine ⟨⟨trivial⟩, fun g => ⟨⟨trivial⟩, ?_⟩, fun g => ?_⟩
  ·rw [retP_bool, g]; rfl
  ·rw [retP_lit, g]; rfl
 ·simp only [h0, h1, h2, h3, cond_true, cond_false]
  refine ⟨⟨trivial⟩, fun g => ⟨⟨trivial⟩, ?_⟩, fun g => ?_⟩
  ·rw [retP_bool, g]; rfl
  ·rw [retP_lit, g]; rfl
 ·simp only [h0, h1, h2, h3, h4, cond_true, cond_false]
  refine ⟨⟨trivial⟩, fun g => ?_, fun g => ?_⟩
  ·rw [retP_bool, g, inB_zero]; rfl
  ·rw [retP_lit, g]; rfl
 ·simp only [h0, h1, h2, h3, h4, cond_false]
  rw [retP_lit]
  symm
  unfold inB
  simp only [Bool.and_eq_false_iff, decide_eq_false_iff_not]
  omega
/-! ### puzzles -/
theorem size_bd {s : List UInt8} {w h : Int} (hs : sizeB s w h = true) : 1 <= s.length /\ s.length <= 6 /\ 1 <= w * h /\ w * h <= 9 /\ 1 <= w /\ w <= 9 /\ 1 <= h /\ h <= 9 := by
 unfold sizeB at hs
 simp only [Bool.and_eq_true, decide_eq_true_eq] at hs
 obtain ⟨⟨⟨h1, h2, h3⟩, h4⟩, _⟩ := hs
 have hr := rule_len h1
 have hm := mul_bd (inB_eq.1 h2) (inB_eq.1 h3)
 have a := inB_eq.1 h2
 have b := inB_eq.1 h3
 omega
theorem vc_spec_pzGood (pr : List UInt8) (pw ph : Int) (n : Nat) (a : List Int) (h : a.length = n * 3 /\ n <= 2000000) : VC_spec_pzGood pr pw ph n a (retG 1 (.bool (goodZ pr pw ph n a)) [⟨.ints .i64 a, 83, .rows 3⟩]) := by
 unfold VC_spec_pzGood
 obtain ⟨ha, hn⟩ := h
 refine ⟨⟨trivial⟩, fun h1 => retG_yes (.inl rfl) ?_, fun h1 => ⟨fun h2 => retG_yes (.inl rfl) ?_, fun h2 => ?_⟩⟩
 ·simp only [Bool.not_eq_true'] at h1
  simp [goodZ, h1]
 ·have h2 := of_decide_eq_true h2
  have : decide (n <= 6) = false := by simp only [decide_eq_false_iff_not]; omega
  simp [goodZ, this]
 ·simp only [Bool.not_eq_false'] at h1
  have h2 := of_decide_eq_false h2
  have hb := size_bd h1
  rw [wrap64_in (x := pw * ph) (by omega)]
  refine ⟨by simp, ⟨ha, h1, by omega, Int.le_refl _, by omega, rfl⟩, fun i hi => ⟨fun hc => ?_, fun hc => retG_yes (.inl rfl) ?_⟩⟩
  ·have hc := of_decide_eq_true hc
   obtain ⟨_, _, _, g1, g2, g3⟩ := hi
   rw [wrap64_in (x := i + 1) (by omega)]
   refine ⟨⟨g1, hc⟩, ⟨by omega⟩, ⟨by omega, by omega, by omega⟩, fun ho => retG_yes (.inl rfl) ?_, fun ho => ⟨by simp, ⟨⟨ha, h1, by omega, by omega, by omega, ?_⟩, by omega⟩⟩⟩
   ·simp only [Bool.not_eq_true'] at ho
    have := allC_false (n := n) (a := a) (cols := pr.length) (cells := pw * ph) (i := i.toNat) (by omega) ho
    simp [goodZ, this]
   ·simp only [Bool.not_eq_false'] at ho
    rw [show (i + 1).toNat = i.toNat + 1 by omega]
    simp only [allC, Bool.and_eq_true]
    exact ⟨g3, ho⟩
  ·have hc := of_decide_eq_false hc
   obtain ⟨_, _, g0, g1, g2, g3⟩ := hi
   rw [show i.toNat = n by omega] at g3
   simp [goodZ, h1, g3, g0]
theorem vc_impl_IsPuzzle (pr : List UInt8) (pw ph : Int) (n : Nat) (a : List Int) (h : a.length = n * 3 /\ n <= 2000000) : VC_impl_IsPuzzle pr pw ph n a (retG 1 (.bool (goodZ pr pw ph n a)) [⟨.ints .i64 a, 83, .rows 3⟩]) := by
 unfold VC_impl_IsPuzzle
 obtain ⟨ha, hn⟩ := h
 refine ⟨⟨trivial⟩, fun h1 => retG_yes (.inl rfl) ?_, fun h1 => ⟨fun h2 => retG_yes (.inl rfl) ?_, fun h2 => ?_⟩⟩
 ·simp only [Bool.not_eq_true'] at h1
  simp [goodZ, h1]
 ·have h2 := of_decide_eq_true h2
  have : decide (n <= 6) = false := by simp only [decide_eq_false_iff_not]; omega
  simp [goodZ, this]
 ·simp only [Bool.not_eq_false'] at h1
  have h2 := of_decide_eq_false h2
  have hb := size_bd h1
  rw [wrap64_in (x := pw * ph) (by omega)]
  refine ⟨⟨ha, by omega, by omega, by omega, by omega, by omega⟩, retG_yes (.inr rfl) ?_⟩
  have : decide (n <= 6) = true := by simp only [decide_eq_true_eq]; omega
  rw [goodZ, h1, this]
  rfl
/-! ### sets of clues -/
theorem wrapU_in {x : Int} (h : 0 <= x /\ x < 18446744073709551616) : IntKind.wrap .u64 x = x := by
 simp only [IntKind.wrap, IntKind.signed, IntKind.bits]
 simp
 omega
theorem two_pow {n : Int} (h : 0 <= n /\ n <= 60) : (1 : Int) * (2 : Int) ^ n.toNat = ((2 ^ n.toNat : Nat) : Int) /\ 1 <= 2 ^ n.toNat /\ 2 ^ n.toNat <= 1152921504606846976 := by
 refine ⟨by rw [Int.one_mul, Int.natCast_pow]; rfl, Nat.pow_pos (by omega), Nat.le_trans (Nat.pow_le_pow_right (by omega) (show n.toNat <= 60 by omega)) (by decide)⟩
theorem vc_impl_firstClues (n : Int) (h : 0 <= n /\ n <= 60) : VC_impl_firstClues n (retP (.int .u64 ((2 ^ n.toNat - 1 : Nat) : Int))) := by
 unfold VC_impl_firstClues
 obtain ⟨e, e1, e2⟩ := two_pow h
 rw [show min n.toNat 64 = n.toNat by omega, e, wrapU_in (x := ((2 ^ n.toNat : Nat) : Int)) (by omega), wrapU_in (by omega)]
 refine ⟨⟨by omega⟩, ?_⟩
 rw [retP_int]
 omega
theorem vc_impl_oneClue (n : Int) (h : 0 <= n /\ n <= 60) : VC_impl_oneClue n (retP (.int .u64 ((2 ^ n.toNat : Nat) : Int))) := by
 unfold VC_impl_oneClue
 obtain ⟨e, e1, e2⟩ := two_pow h
 rw [show min n.toNat 64 = n.toNat by omega, e, wrapU_in (by omega)]
 refine ⟨⟨by omega⟩, ?_⟩
 rw [retP_int]
theorem vc_impl_clueSet_hasAll (s o : Int) (h : 0 <= s /\ s < 18446744073709551616 /\ 0 <= o /\ o < 18446744073709551616) : VC_impl_clueSet_hasAll s o (retP (.bool (allIn2 s o))) := by
 unfold VC_impl_clueSet_hasAll
 exact ⟨⟨h⟩, (retP_bool _ _).2 rfl⟩
theorem vc_impl_clueSet_without (s n : Int) (h : 0 <= s /\ s < 18446744073709551616 /\ 0 <= n /\ n <= 60) : VC_impl_clueSet_without s n (retP (.int .u64 (wout s n.toNat))) := by
 unfold VC_impl_clueSet_without
 obtain ⟨_, e1, e2⟩ := two_pow ⟨h.2.2.1, h.2.2.2⟩
 exact ⟨⟨h.2.2.1, h.2.2.2⟩, ⟨h.1, h.2.1, by omega, by omega⟩, (retP_int _ _ _).2 rfl⟩
theorem vc_impl_allClues (pr : List UInt8) (pw ph : Int) (n : Nat) (a : List Int) (h : n <= 60) : VC_impl_allClues pr pw ph n a (retG 1 (.int .u64 ((2 ^ n - 1 : Nat) : Int)) [⟨.ints .i64 a, 83, .rows 3⟩]) := by
 unfold VC_impl_allClues
 exact ⟨⟨by omega, by omega⟩, retG_c1 rfl rfl ⟨_, _, rfl⟩⟩
theorem has_bit {m : Int} {i : Nat} : allIn2 m ((2 ^ i : Nat) : Int) = m.toNat.testBit i := by
 unfold allIn2
 rw [Int.toNat_natCast]
 cases hb : m.toNat.testBit i
 ·rw [beq_eq_false_iff_ne]
  intro h
  have h' : m.toNat &&& 2 ^ i = 2 ^ i := by exact_mod_cast h
  have h2 := congrArg (fun x => x.testBit i) h'
  simp [Nat.testBit_and, hb] at h2
 ·have h' : m.toNat &&& 2 ^ i = 2 ^ i := by
   refine Nat.eq_of_testBit_eq fun j => ?_
   rw [Nat.testBit_and, Nat.testBit_two_pow]
   by_cases hj : i = j
   ·subst hj; simp [hb]
   ·simp [hj]
  rw [h']
  simp
theorem keepL_len (a : List Int) (m : Int) : ∀ i, (keepL a m i).length = keepN m i * 3
 | 0 => rfl
 | i + 1 => by
  simp only [keepL, keepN, List.length_append, keepL_len a m i]
  cases m.toNat.testBit i <;> simp <;> omega
theorem keepN_le (m : Int) : ∀ i, keepN m i <= i
 | 0 => Nat.le_refl _
 | i + 1 => by
  have := keepN_le m i
  simp only [keepN]
  cases m.toNat.testBit i <;> simp <;> omega
theorem vc_impl_withClues (m : Int) (pr : List UInt8) (pw ph : Int) (n : Nat) (a : List Int) (h : a.length = n * 3 /\ n <= 60 /\ 0 <= m /\ m < 18446744073709551616) : VC_impl_withClues m pr pw ph n a
  (retG 1 (.agg [.str pr, .int .i64 pw, .int .i64 ph, .row 1 (keepN m n)]) [⟨.ints .i64 a, 83, .rows 3⟩, ⟨.ints .i64 (keepL a m n), 83, .rows 3⟩]) := by
 unfold VC_impl_withClues
 obtain ⟨ha, hn, h1, h2⟩ := h
 refine ⟨by simp [keepL], ⟨ha, hn, h1, h2, Int.le_refl _, by omega⟩, fun i hi => ⟨fun hc => ?_, fun hc => ?_⟩⟩
 ·have hc := of_decide_eq_true hc
  obtain ⟨_, _, _, _, g1, g2⟩ := hi
  obtain ⟨_, e1, e2⟩ := two_pow (n := i) (by omega)
  rw [wrap64_in (x := i + 1) (by omega), has_bit, show (i + 1).toNat = i.toNat + 1 by omega]
  refine ⟨⟨g1, hc⟩, ⟨by omega⟩, ⟨g1, by omega⟩, ⟨h1, h2, by omega, by omega⟩, fun hb => ?_, fun hb => ?_⟩
  ·have hN : keepN m (i.toNat + 1) = keepN m i.toNat + 1 := by simp [keepN, hb]
   have hL : keepL a m (i.toNat + 1) = keepL a m i.toNat ++ [a.getD (i.toNat * 3) 0, a.getD (i.toNat * 3 + 1) 0, a.getD (i.toNat * 3 + 1 + 1) 0] := by simp [keepL, hb]
   have hle := keepN_le m i.toNat
   refine ⟨⟨⟨keepL_len _ _ _, by simp⟩, trivial, by omega⟩, ?_, ⟨⟨ha, hn, h1, h2, by omega, by omega⟩, by omega⟩⟩
   rw [hN, hL]
   simp
  ·have hN : keepN m (i.toNat + 1) = keepN m i.toNat := by simp [keepN, hb]
   have hL : keepL a m (i.toNat + 1) = keepL a m i.toNat := by simp [keepL, hb]
   refine ⟨?_, ⟨⟨ha, hn, h1, h2, by omega, by omega⟩, by omega⟩⟩
   rw [hN, hL]
   simp
 ·have hc := of_decide_eq_false hc
  obtain ⟨_, _, _, _, g1, g2⟩ := hi
  rw [show i.toNat = n by omega]
  unfold retG leSel leSelBy autoSel
  simp [pairsL, pairsV, idPairs, pairsIn, selOf, lookN, selMem, chkB, nodupSel, hasSel, prefSel, leSt, leL, leV, nilToL, V.nilTo, isNilS, findSel, selL, V.sel, Cells.selN, leMem, leCells, memUnder, underL, V.under]
  exact trivial
/-! ### a clue left out -/
theorem wout_bit {s : Int} {k j : Nat} (hk : k <= 60) (hj : j <= 60) : (wout s k).toNat.testBit j = (s.toNat.testBit j && !decide (k = j)) := by
 unfold wout
 have h1 : 2 ^ k < 2 ^ 64 := Nat.pow_lt_pow_right (by omega) (by omega)
 rw [Int.toNat_natCast, Nat.testBit_and, show 18446744073709551615 - 2 ^ k = 2 ^ 64 - (2 ^ k + 1) by omega, Nat.testBit_two_pow_sub_succ h1, Nat.testBit_two_pow, decide_eq_true (show j < 64 by omega), Bool.true_and]
theorem take3 {a : List Int} {i : Nat} (h : (i + 1) * 3 <= a.length) : a.take ((i + 1) * 3) = a.take (i * 3) ++ [a.getD (i * 3) 0, a.getD (i * 3 + 1) 0, a.getD (i * 3 + 1 + 1) 0] := by
 rw [show (i + 1) * 3 = i * 3 + 1 + 1 + 1 by omega, take_succ_int (show i * 3 + 1 + 1 < a.length by omega), take_succ_int (show i * 3 + 1 < a.length by omega), take_succ_int (show i * 3 < a.length by omega)]
 simp
theorem retG_row {a l l' : List Int} {e : TypeId} {n n' : Nat} {b1 b2 : Blk} (h1 : n = n') (h2 : l = l') : retG 1 (.row 1 n') [⟨.ints .i64 a, e, .rows 3⟩, ⟨.ints .i64 l', e, .rows 3⟩] (.row 3 n) [⟨.ints .i64 a, e, .rows 3⟩, b1, b2, ⟨.ints .i64 l, e, .rows 3⟩] := by
 subst h1; subst h2
 unfold retG leSel leSelBy autoSel
 simp [pairsL, pairsV, idPairs, pairsIn, selOf, lookN, selMem, chkB, nodupSel, hasSel, prefSel, leSt, leL, leV, nilToL, V.nilTo, isNilS, findSel, selL, V.sel, Cells.selN, leMem, leCells, memUnder, underL, V.under]
 exact trivial
theorem vc_spec_pzWithout (k : Int) (n : Nat) (a : List Int) (h : a.length = n * 3 /\ n <= 2000000 /\ 0 <= k /\ k < n) : VC_spec_pzWithout k n a (retG 1 (.row 1 (n - 1)) [⟨.ints .i64 a, 83, .rows 3⟩, ⟨.ints .i64 (wo3 a k.toNat), 83, .rows 3⟩]) := by
 unfold VC_spec_pzWithout
 obtain ⟨ha, hn, h1, h2⟩ := h
 rw [wrap64_in (x := k + 1) (by omega), show (k + 1).toNat = k.toNat + 1 by omega]
 have hw : ∀ l : List Int, ([] : List Int) ++ List.take (k.toNat * 3) (List.drop (0 * 3) a) ++ List.take ((n - (k.toNat + 1)) * 3) (List.drop ((k.toNat + 1) * 3) a) = wo3 a k.toNat := fun _ => by
  unfold wo3
  rw [Nat.zero_mul, List.drop_zero, List.nil_append, List.take_of_length_le (l := List.drop _ a) (by rw [List.length_drop]; omega)]
 have e1 : At (0 <= k /\ k <= (n : Int) /\ n * 3 <= Cells.len (.ints .i64 a)) := ⟨h1, by omega, by simp only [Cells.len]; omega⟩
 have e2 : At (0 <= k + 1 /\ k + 1 <= (n : Int) /\ n * 3 <= Cells.len (.ints .i64 a)) := ⟨by omega, by omega, by simp only [Cells.len]; omega⟩
 have e3 : At ((List.length ([] : List Int) = 0 * 3 /\ k.toNat * 3 <= List.length (List.drop (0 * 3) a)) /\ posM (rowKind 3) k.toNat /\ 0 + k.toNat <= 1000000000) := ⟨⟨rfl, by simp; omega⟩, trivial, by omega⟩
 have e4 : At ((List.length (([] : List Int) ++ List.take (k.toNat * 3) (List.drop (0 * 3) a)) = (0 + k.toNat) * 3 /\ (n - (k.toNat + 1)) * 3 <= List.length (List.drop ((k.toNat + 1) * 3) a)) /\ posM (rowKind 3) (n - (k.toNat + 1)) /\ 0 + k.toNat + (n - (k.toNat + 1)) <= 1000000000) :=
  ⟨⟨by simp; omega, by simp; omega⟩, trivial, by omega⟩
 have e5 := fun b1 b2 => retG_row (a := a) (e := 83) (b1 := b1) (b2 := b2) (show 0 + k.toNat + (n - (k.toNat + 1)) = n - 1 by omega) (hw [])
 simp only [e1, e2, e3, e4, e5, and_self]
end Go.Vi
