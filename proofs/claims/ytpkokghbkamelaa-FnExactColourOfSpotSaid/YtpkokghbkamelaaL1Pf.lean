/- The conditions hold. -/
import Derived.Test.YtpkokghbkamelaaL1Vc
import Derived.Test.YtpkokghbkamelaaL1Spec
namespace Go.Vi
theorem wrap64_in {x : Int} (h : -9223372036854775808 <= x /\ x <= 9223372036854775807) : IntKind.wrap .i64 x = x := IntWalk.i64_in _ (by omega)
theorem all_take_succ {p : UInt8 -> Bool} {l : List UInt8} {i : Nat} (h : i < l.length) : (l.take (i + 1)).all p = ((l.take i).all p && p (l.getD i 0)) := by
 rw [List.take_succ_eq_append_getElem h, List.all_append]
 simp [List.getD_eq_getElem?_getD, List.getElem?_eq_getElem h]
theorem all_getD {p : UInt8 -> Bool} {l : List UInt8} {i : Nat} (h : i < l.length) (hp : p (l.getD i 0) = false) : l.all p = false := by
 rw [List.all_eq_false]
 refine ⟨l[i], List.getElem_mem h, ?_⟩
 rw [List.getD_eq_getElem?_getD, List.getElem?_eq_getElem h] at hp
 simpa using hp
theorem byte_lt (c : UInt8) : ((c.toNat : Nat) : Int) < 256 := by have := c.toNat_lt; omega

theorem vc_spec_l1In (n lo hi : Int) (_ : True) : VC_spec_l1In n lo hi (retP (.bool (inB n lo hi))) := by
 unfold VC_spec_l1In inB
 simp only [retP_lit, retP_bool, ge_iff_le]
 refine ⟨fun h => by simp [h], fun h => by simp [h]⟩
theorem vc_impl_within (n lo hi : Int) (_ : True) : VC_impl_within n lo hi (retP (.bool (inB n lo hi))) := by
 unfold VC_impl_within inB
 simp only [retP_lit, retP_bool]
 refine ⟨fun h => by simp [h], fun h => by simp [h]⟩
theorem vc_impl_digit (b : Int) (h : 0 <= b /\ b < 256) : VC_impl_digit b (retP (.int .i64 (b - 48))) := by
 unfold VC_impl_digit
 simp only [retP_int]
 rw [wrap64_in (x := b) (by omega), wrap64_in (by omega)]

def signI (n : Int) : Bool := n == 76 || n == 82 || n == 78 || n == 85
theorem signI_toNat (c : UInt8) : signI c.toNat = signB c := by
 have h : ∀ n : Nat, n < 256 -> (((c.toNat : Int) == (n : Int)) = (c == UInt8.ofNat n)) := fun n hn => by
  rw [Bool.eq_iff_iff]
  simp only [beq_iff_eq, <- UInt8.toNat_inj, UInt8.toNat_ofNat']
  omega
 have h1 := h 76 (by omega); have h2 := h 82 (by omega); have h3 := h 78 (by omega); have h4 := h 85 (by omega)
 unfold signI signB
 exact congr (congrArg _ (congr (congrArg _ (congr (congrArg _ h1) h2)) h3)) h4
theorem ruleInv_step {s : List UInt8} {i : Int} (h : ruleInv s i) (hi : i < s.length) (hc : signB (s.getD i.toNat 0) = true) :
  ruleInv s (IntKind.wrap .i64 (i + 1)) /\ ((s.length : Int) - IntKind.wrap .i64 (i + 1)).toNat < ((s.length : Int) - i).toNat := by
 obtain ⟨h0, h1, h2, h3, h4⟩ := h
 rw [wrap64_in (by omega)]
 refine ⟨⟨by omega, by omega, h2, h3, ?_⟩, by omega⟩
 rw [show (i + 1).toNat = i.toNat + 1 by omega, all_take_succ (by omega), h4, hc]
 rfl
theorem rule_long {s : List UInt8} (h : ¬ (s.length : Int) <= 6) : ruleB s = false := by
 unfold ruleB; simp only [Bool.and_eq_false_iff, decide_eq_false_iff_not]; omega
theorem rule_short {s : List UInt8} (h : ¬ 1 <= (s.length : Int)) : ruleB s = false := by
 unfold ruleB; simp only [Bool.and_eq_false_iff, decide_eq_false_iff_not]; omega
theorem rule_bad {s : List UInt8} {i : Int} (h : ruleInv s i) (hi : i < s.length) (hc : signB (s.getD i.toNat 0) = false) : ruleB s = false := by
 obtain ⟨h0, h1, h2, h3, h4⟩ := h
 unfold ruleB
 rw [all_getD (by omega) hc, Bool.and_false]
theorem rule_done {s : List UInt8} {i : Int} (h : ruleInv s i) (hi : ¬ i < s.length) : ruleB s = true := by
 obtain ⟨h0, h1, h2, h3, h4⟩ := h
 rw [List.take_of_length_le (by omega)] at h4
 unfold ruleB
 simp [h4, h2, h3]
theorem rule_start {s : List UInt8} (h1 : 1 <= (s.length : Int)) (h2 : (s.length : Int) <= 6) : ruleInv s 0 := ⟨by omega, by omega, by omega, by omega, by simp⟩
theorem inB_eq {n lo hi : Int} : inB n lo hi = true ↔ lo <= n /\ n <= hi := by unfold inB; simp
theorem inB_ne {n lo hi : Int} : inB n lo hi = false ↔ ¬ (lo <= n /\ n <= hi) := by rw [<- inB_eq]; simp
theorem vc_impl_IsRule (s : List UInt8) (_ : True) : VC_impl_IsRule s (retP (.bool (ruleB s))) := by
 unfold VC_impl_IsRule
 simp only [at_iff, retP_lit, and_true, true_and, Bool.not_eq_true', Bool.not_eq_false', inB_eq, inB_ne, decide_eq_true_eq, decide_eq_false_iff_not]
 refine ⟨fun h => ?_, fun h => ⟨rule_start h.1 h.2, fun i hi => ⟨fun hlt => ⟨⟨hi.1, hlt⟩, ?_⟩, fun hge => (rule_done hi hge).symm⟩⟩⟩
 ·by_cases h1 : 1 <= (s.length : Int)
  ·exact (rule_long (fun h2 => h ⟨h1, h2⟩)).symm
  ·exact (rule_short h1).symm
 have hs := signI_toNat (s.getD i.toNat 0)
 unfold signI at hs
 have yes := fun h => ruleInv_step hi hlt h
 have no := fun h => (rule_bad hi hlt h).symm
 rw [<- hs] at yes no
 generalize ((s.getD i.toNat 0).toNat : Int) = c at *
 cases h1 : c == 76 <;> cases h2 : c == 82 <;> cases h3 : c == 78 <;> cases h4 : c == 85 <;> simp_all
theorem vc_spec_woRule (s : List UInt8) (_ : True) : VC_spec_woRule s (retP (.bool (ruleB s))) := by
 unfold VC_spec_woRule
 simp only [at_iff, retP_lit, and_true, true_and, Bool.not_eq_true', Bool.not_eq_false', inB_eq, inB_ne, decide_eq_true_eq, decide_eq_false_iff_not]
 refine ⟨fun h => ?_, fun h => ⟨rule_start h.1 h.2, fun i hi => ⟨fun hlt => ⟨⟨hi.1, hlt⟩, ?_⟩, fun hge => (rule_done hi hge).symm⟩⟩⟩
 ·by_cases h1 : 1 <= (s.length : Int)
  ·exact (rule_long (fun h2 => h ⟨h1, h2⟩)).symm
  ·exact (rule_short h1).symm
 have hs := signI_toNat (s.getD i.toNat 0)
 unfold signI at hs
 have yes := fun h => ruleInv_step hi hlt h
 have no := fun h => (rule_bad hi hlt h).symm
 rw [<- hs] at yes no
 generalize ((s.getD i.toNat 0).toNat : Int) = c at *
 cases h1 : c == 76 <;> cases h2 : c == 82 <;> cases h3 : c == 78 <;> cases h4 : c == 85 <;> simp_all

theorem cols_step {c : List UInt8} {n i : Int} (h : colsInv c n i) (hi : i < c.length) (hc : inB (((c.getD i.toNat 0).toNat : Int) - 48) 0 (n - 1) = true) :
  colsInv c n (IntKind.wrap .i64 (i + 1)) /\ ((c.length : Int) - IntKind.wrap .i64 (i + 1)).toNat < ((c.length : Int) - i).toNat := by
 obtain ⟨hb, h0, h1, h2⟩ := h
 rw [wrap64_in (by omega)]
 refine ⟨⟨hb, by omega, by omega, ?_⟩, by omega⟩
 unfold colsB at h2 ⊢
 rw [show (i + 1).toNat = i.toNat + 1 by omega, all_take_succ (by omega), h2, hc]
 rfl
theorem cols_done {c : List UInt8} {n i : Int} (h : colsInv c n i) (hi : ¬ i < c.length) : colsB c n = true := by
 obtain ⟨hb, h0, h1, h2⟩ := h
 rwa [List.take_of_length_le (by omega)] at h2
theorem cols_bad {c : List UInt8} {n i : Int} (h : colsInv c n i) (hi : i < c.length) (hc : inB (((c.getD i.toNat 0).toNat : Int) - 48) 0 (n - 1) = false) : colsB c n = false := by
 obtain ⟨hb, h0, h1, h2⟩ := h
 exact all_getD (by omega) hc
theorem cols_start {c : List UInt8} {n : Int} (h : c.length <= 1000) : colsInv c n 0 := ⟨h, by omega, by omega, by simp [colsB]⟩
theorem vc_impl_areColours (s : List UInt8) (n : Int) (h : -1000 <= n /\ n <= 1000 /\ s.length <= 1000) : VC_impl_areColours s n (retP (.bool (colsB s n))) := by
 unfold VC_impl_areColours
 simp only [at_iff, retP_lit, and_true, true_and, Bool.not_eq_true', Bool.not_eq_false', decide_eq_true_eq, decide_eq_false_iff_not]
 rw [wrap64_in (x := n - 1) (by omega)]
 refine ⟨cols_start h.2.2, fun i hi => ⟨fun hlt => ⟨⟨hi.2.1, hlt⟩, ⟨by omega, byte_lt _⟩, fun hc => (cols_bad hi hlt hc).symm, fun hc => cols_step hi hlt hc⟩, fun hge => (cols_done hi hge).symm⟩⟩
theorem rule_len {s : List UInt8} (h : ruleB s = true) : 1 <= s.length /\ s.length <= 6 := by
 unfold ruleB at h; simp only [Bool.and_eq_true, decide_eq_true_eq] at h; omega
theorem mul_bd {a b : Int} (ha : 1 <= a /\ a <= 9) (hb : 1 <= b /\ b <= 9) : 1 <= a * b /\ a * b <= 81 := by
 obtain ⟨h1, h2⟩ := ha
 have e : a = 1 \/ a = 2 \/ a = 3 \/ a = 4 \/ a = 5 \/ a = 6 \/ a = 7 \/ a = 8 \/ a = 9 := by omega
 rcases e with rfl | rfl | rfl | rfl | rfl | rfl | rfl | rfl | rfl <;> omega
theorem vc_spec_woGood (wr : List UInt8) (ww wh : Int) (wc : List UInt8) (wx wy wd : Int) (_ : True) : VC_spec_woGood wr ww wh wc wx wy wd (retP (.bool (goodB ⟨wr, ww, wh, wc, wx, wy, wd⟩))) := by
 unfold VC_spec_woGood goodB
 simp only [at_iff, retP_lit, retP_bool, and_true, true_and, Bool.not_eq_true', Bool.not_eq_false']
 refine ⟨fun h => by simp [h], fun hr => ⟨fun h => by simp [h], fun hw => ⟨fun h => by simp [h], fun hh => ?_⟩⟩⟩
 have hm := mul_bd (inB_eq.1 hw) (inB_eq.1 hh)
 have hl := rule_len hr
 rw [wrap64_in (x := ww * wh) (by omega)]
 refine ⟨fun h => ?_, fun h => ?_⟩
 ·have : ((wc.length : Int) == ww * wh) = false := by simpa using h
  simp [this]
 ·have hc : ((wc.length : Int) == ww * wh) = true := by simpa using h
  have hcl : (wc.length : Int) = ww * wh := by simpa using hc
  have hw' := inB_eq.1 hw
  have hh' := inB_eq.1 hh
  refine ⟨cols_start (by omega), fun i hi => ⟨fun hlt => ⟨⟨hi.2.1, by simpa using hlt⟩, ?_⟩, fun hge => ?_⟩⟩
  ·have hlt' : i < wc.length := by simpa using hlt
   have hb := byte_lt (wc.getD i.toNat 0)
   rw [wrap64_in (x := ((wc.getD i.toNat 0).toNat : Int)) (by omega), wrap64_in (x := ((wc.getD i.toNat 0).toNat : Int) - 48) (by omega), wrap64_in (x := (wr.length : Int) - 1) (by omega)]
   exact ⟨fun h => by simp [cols_bad hi hlt' h], fun h => cols_step hi hlt' h⟩
  ·have hd := cols_done hi (by simpa using hge)
   rw [wrap64_in (x := ww - 1) (by omega), wrap64_in (x := wh - 1) (by omega), hr, hw, hh, hc, hd]
   refine ⟨fun h1 => ⟨fun h2 => by simp [h1, h2], fun h2 => by simp [h1, h2]⟩, fun h1 => by simp [h1]⟩
theorem inB_rec (n lo hi : Int) : (Bool.rec false (decide (n <= hi)) (decide (lo <= n)) : Bool) = inB n lo hi := by
 unfold inB; cases decide (lo <= n) <;> rfl
theorem vc_impl_IsWorld (wr : List UInt8) (ww wh : Int) (wc : List UInt8) (wx wy wd : Int) (_ : True) : VC_impl_IsWorld wr ww wh wc wx wy wd (retP (.bool (goodB ⟨wr, ww, wh, wc, wx, wy, wd⟩))) := by
 unfold VC_impl_IsWorld goodB
 simp only [at_iff, retP_lit, retP_bool, true_and, Bool.not_eq_true', Bool.not_eq_false']
 refine ⟨fun h => by simp [h], fun hr => ⟨fun hw => ⟨fun h => by simp [h], fun hh => ?_⟩, fun h => by simp [h]⟩⟩
 have hm := mul_bd (inB_eq.1 hw) (inB_eq.1 hh)
 have hl := rule_len hr
 rw [wrap64_in (x := ww * wh) (by omega)]
 refine ⟨fun h => ?_, fun h => ?_⟩
 ·have : ((wc.length : Int) == ww * wh) = false := by simpa using h
  simp [this]
 ·have hc : ((wc.length : Int) == ww * wh) = true := by simpa using h
  have hcl : (wc.length : Int) = ww * wh := by simpa using hc
  have hw' := inB_eq.1 hw
  have hh' := inB_eq.1 hh
  rw [wrap64_in (x := ww - 1) (by omega), wrap64_in (x := wh - 1) (by omega), hr, hw, hh, hc]
  refine ⟨⟨by omega, by omega, by omega⟩, fun h0 => ⟨fun h1 => ⟨fun h2 => by simp [h0, h1, h2], fun h2 => by simp [h0, h1, h2]⟩, fun h1 => by simp [h0, h1]⟩, fun h0 => by simp [h0]⟩
/-- What a good world's numbers are. -/
theorem good_bd {w : Wd} (h : goodB w = true) : (1 <= w.w /\ w.w <= 9) /\ (1 <= w.h /\ w.h <= 9) /\ (0 <= w.x /\ w.x <= w.w - 1) /\ (0 <= w.y /\ w.y <= w.h - 1) /\ (0 <= w.d /\ w.d <= 3) /\ (w.c.length : Int) = w.w * w.h /\ (1 <= w.r.length /\ w.r.length <= 6) /\ colsB w.c w.r.length = true /\ ruleB w.r = true := by
 unfold goodB at h
 simp only [Bool.and_eq_true, inB_eq, beq_iff_eq] at h
 obtain ⟨⟨⟨⟨⟨⟨⟨h1, h2⟩, h3⟩, h4⟩, h5⟩, h6⟩, h7⟩, h8⟩ := h
 exact ⟨h2, h3, h6, h7, h8, h4, rule_len h1, h5, h1⟩
theorem cell_bd {w : Wd} (h : goodB w = true) {x y : Int} (hc : hasB w x y = true) : 0 <= y * w.w /\ y * w.w <= 81 /\ 0 <= y * w.w + x /\ y * w.w + x < (w.c.length : Int) /\ (0 <= x /\ x <= w.w - 1) /\ (0 <= y /\ y <= w.h - 1) := by
 obtain ⟨h1, h2, _, _, _, hl, _⟩ := good_bd h
 unfold hasB at hc
 simp only [Bool.and_eq_true, inB_eq] at hc
 obtain ⟨hx, hy⟩ := hc
 have hm := mul_bd h1 h2
 have a1 : 0 <= y * w.w := Int.mul_nonneg hy.1 (by omega)
 have a2 : y * w.w <= (w.h - 1) * w.w := Int.mul_le_mul_of_nonneg_right hy.2 (by omega)
 have a3 : (w.h - 1) * w.w = w.w * w.h - w.w := by rw [Int.sub_mul, Int.one_mul, Int.mul_comm]
 omega
theorem col_bd {w : Wd} (h : goodB w = true) {i : Nat} (hi : i < w.c.length) : 48 <= ((w.c.getD i 0).toNat : Int) /\ ((w.c.getD i 0).toNat : Int) - 48 <= (w.r.length : Int) - 1 := by
 obtain ⟨_, _, _, _, _, _, _, hc, _⟩ := good_bd h
 unfold colsB at hc
 rw [List.all_eq_true] at hc
 have := hc _ (List.getElem_mem hi)
 rw [inB_eq] at this
 rw [List.getD_eq_getElem?_getD, List.getElem?_eq_getElem hi]
 simp only [Option.getD_some]
 omega
theorem wrapu8_in {x : Int} (h : 0 <= x /\ x <= 255) : IntKind.wrap .u8 x = x := by
 unfold IntKind.wrap IntKind.signed IntKind.bits
 simp
 omega
theorem vc_spec_woColour (wr : List UInt8) (ww wh : Int) (wc : List UInt8) (wx wy wd x y : Int) (h : goodB ⟨wr, ww, wh, wc, wx, wy, wd⟩ = true /\ hasB ⟨wr, ww, wh, wc, wx, wy, wd⟩ x y = true) : VC_spec_woColour wr ww wh wc wx wy wd x y (retP (.int .i64 (colAt ⟨wr, ww, wh, wc, wx, wy, wd⟩ x y))) := by
 have hb := cell_bd h.1 h.2
 have hc := col_bd h.1 (i := (y * ww + x).toNat) (by simp only at hb ⊢; omega)
 have hg := good_bd h.1
 unfold VC_spec_woColour colAt cellIx
 simp only at hb hc hg ⊢
 have hlt := byte_lt (wc.getD (y * ww + x).toNat 0)
 rw [wrap64_in (x := y * ww) (by omega), wrap64_in (x := y * ww + x) (by omega), wrapu8_in (by omega), wrap64_in (by omega)]
 simp only [at_iff, retP_int]
 exact ⟨⟨hb.2.2.1, hb.2.2.2.1⟩, trivial⟩
theorem vc_impl_board_colour (wr : List UInt8) (ww wh : Int) (wc : List UInt8) (wx wy wd x y : Int) (h : goodB ⟨wr, ww, wh, wc, wx, wy, wd⟩ = true /\ hasB ⟨wr, ww, wh, wc, wx, wy, wd⟩ x y = true) : VC_impl_board_colour wr ww wh wc wx wy wd x y (retP (.int .i64 (colAt ⟨wr, ww, wh, wc, wx, wy, wd⟩ x y))) := by
 have hb := cell_bd h.1 h.2
 have hg := good_bd h.1
 unfold VC_impl_board_colour colAt cellIx
 simp only at hb hg ⊢
 have hlt := byte_lt (wc.getD (y * ww + x).toNat 0)
 rw [wrap64_in (x := y * ww) (by omega), wrap64_in (x := y * ww + x) (by omega)]
 simp only [at_iff, retP_int]
 exact ⟨⟨hb.2.2.1, hb.2.2.2.1⟩, ⟨by omega, hlt⟩, trivial⟩
theorem vc_laws_szWorld (wr : List UInt8) (ww wh : Int) (wc : List UInt8) (wx wy wd left : Int) (h : 0 <= left /\ left <= 1000000000 /\ (wr.length : Int) <= 9223372036854775807 /\ (wc.length : Int) <= 9223372036854775807) : VC_laws_szWorld wr ww wh wc wx wy wd left (retP (.int .i64 (szW ⟨wr, ww, wh, wc, wx, wy, wd⟩ left))) := by
 unfold VC_laws_szWorld szW
 rw [wrap64_in (x := left - (wr.length : Int)) (by omega)]
 simp only [retP_int, decide_eq_true_eq, decide_eq_false_iff_not]
 refine ⟨fun h1 => by simp [h1], fun h1 => ?_⟩
 rw [wrap64_in (x := left - (wr.length : Int) - (wc.length : Int)) (by omega)]
 refine ⟨fun h2 => by simp [h1, h2], fun h2 => by simp [h1, h2]⟩
theorem vc_laws_eqWorld (ar : List UInt8) (aw ah : Int) (ac : List UInt8) (ax ay ad : Int) (br : List UInt8) (bw bh : Int) (bc : List UInt8) (bx by_ bd : Int) (_ : True) : VC_laws_eqWorld ar aw ah ac ax ay ad br bw bh bc bx by_ bd (retP (.bool (eqW ⟨ar, aw, ah, ac, ax, ay, ad⟩ ⟨br, bw, bh, bc, bx, by_, bd⟩))) := by
 unfold VC_laws_eqWorld eqW
 simp only [retP_lit, Bool.not_eq_true', Bool.not_eq_false', bne_iff_ne, ne_eq, bne_eq_false_iff_eq]
 refine ⟨fun h => by simp [h], fun h1 => ⟨fun h => by simp [h], fun h2 => ⟨fun h => by simp [h], fun h3 => ⟨fun h => by simp [h], fun h4 => ⟨fun h => by simp [h], fun h5 => ⟨fun h => by simp [h], fun h6 => ⟨fun h => by simp [h], fun h7 => by simp [h1, h2, h3, h4, h5, h6, h7]⟩⟩⟩⟩⟩⟩⟩
theorem vc_spec_ColourAt (wr : List UInt8) (ww wh : Int) (wc : List UInt8) (wx wy wd x y : Int) (_ : True) : VC_spec_ColourAt wr ww wh wc wx wy wd x y
  (retP (.tup [.int .i64 (bif goodB ⟨wr, ww, wh, wc, wx, wy, wd⟩ && hasB ⟨wr, ww, wh, wc, wx, wy, wd⟩ x y then colAt ⟨wr, ww, wh, wc, wx, wy, wd⟩ x y else 0), .bool (goodB ⟨wr, ww, wh, wc, wx, wy, wd⟩ && hasB ⟨wr, ww, wh, wc, wx, wy, wd⟩ x y)])) := by
 unfold VC_spec_ColourAt
 by_cases hg : goodB ⟨wr, ww, wh, wc, wx, wy, wd⟩ = true
 ·have hb := good_bd hg
  simp only at hb
  rw [wrap64_in (x := ww - 1) (by omega), wrap64_in (x := wh - 1) (by omega)]
  cases h1 : inB x 0 (ww - 1) <;> cases h2 : inB y 0 (wh - 1) <;> simp [hg, h1, h2, hasB, retP, leV, leL, chkB, V.under, underL]
 ·simp only [Bool.not_eq_true] at hg
  simp [hg, retP, leV, leL, chkB, V.under, underL]
theorem vc_impl_ColourAt (wr : List UInt8) (ww wh : Int) (wc : List UInt8) (wx wy wd x y : Int) (_ : True) : VC_impl_ColourAt wr ww wh wc wx wy wd x y
  (retP (.tup [.int .i64 (bif goodB ⟨wr, ww, wh, wc, wx, wy, wd⟩ && hasB ⟨wr, ww, wh, wc, wx, wy, wd⟩ x y then colAt ⟨wr, ww, wh, wc, wx, wy, wd⟩ x y else 0), .bool (goodB ⟨wr, ww, wh, wc, wx, wy, wd⟩ && hasB ⟨wr, ww, wh, wc, wx, wy, wd⟩ x y)])) := by
 unfold VC_impl_ColourAt
 by_cases hg : goodB ⟨wr, ww, wh, wc, wx, wy, wd⟩ = true
 ·have hb := good_bd hg
  simp only at hb
  rw [wrap64_in (x := ww - 1) (by omega), wrap64_in (x := wh - 1) (by omega)]
  cases h1 : inB x 0 (ww - 1) <;> cases h2 : inB y 0 (wh - 1) <;> simp [hg, h1, h2, hasB, retP, leV, leL, chkB, V.under, underL]
 ·simp only [Bool.not_eq_true] at hg
  simp [hg, retP, leV, leL, chkB, V.under, underL]
theorem vc_spec_PlaceAnt (wr : List UInt8) (ww wh : Int) (wc : List UInt8) (wx wy wd x y d : Int) (_ : True) : VC_spec_PlaceAnt wr ww wh wc wx wy wd x y d
  (retP (okV (goodB ⟨wr, ww, wh, wc, wx, wy, wd⟩ && hasB ⟨wr, ww, wh, wc, wx, wy, wd⟩ x y && inB d 0 3) { (⟨wr, ww, wh, wc, wx, wy, wd⟩ : Wd) with x := x, y := y, d := d })) := by
 unfold VC_spec_PlaceAnt
 by_cases hg : goodB ⟨wr, ww, wh, wc, wx, wy, wd⟩ = true
 ·have hb := good_bd hg
  simp only at hb
  rw [wrap64_in (x := ww - 1) (by omega), wrap64_in (x := wh - 1) (by omega)]
  cases h1 : inB x 0 (ww - 1) <;> cases h2 : inB y 0 (wh - 1) <;> cases inB d 0 3 <;> simp [hg, h1, h2, hasB, okV, wdV, zeroWd, retP, leV, leL, chkB, V.under, underL]
 ·simp only [Bool.not_eq_true] at hg
  simp [hg, okV, wdV, zeroWd, retP, leV, leL, chkB, V.under, underL]
theorem vc_impl_PlaceAnt (wr : List UInt8) (ww wh : Int) (wc : List UInt8) (wx wy wd x y d : Int) (_ : True) : VC_impl_PlaceAnt wr ww wh wc wx wy wd x y d
  (retP (okV (goodB ⟨wr, ww, wh, wc, wx, wy, wd⟩ && hasB ⟨wr, ww, wh, wc, wx, wy, wd⟩ x y && inB d 0 3) { (⟨wr, ww, wh, wc, wx, wy, wd⟩ : Wd) with x := x, y := y, d := d })) := by
 unfold VC_impl_PlaceAnt
 by_cases hg : goodB ⟨wr, ww, wh, wc, wx, wy, wd⟩ = true
 ·have hb := good_bd hg
  simp only at hb
  rw [wrap64_in (x := ww - 1) (by omega), wrap64_in (x := wh - 1) (by omega)]
  cases h1 : inB x 0 (ww - 1) <;> cases h2 : inB y 0 (wh - 1) <;> cases inB d 0 3 <;> simp [hg, h1, h2, hasB, okV, wdV, zeroWd, retP, leV, leL, chkB, V.under, underL]
 ·simp only [Bool.not_eq_true] at hg
  simp [hg, okV, wdV, zeroWd, retP, leV, leL, chkB, V.under, underL]
theorem eqW_self (w : Wd) : eqW w w = true := by unfold eqW; simp
end Go.Vi
