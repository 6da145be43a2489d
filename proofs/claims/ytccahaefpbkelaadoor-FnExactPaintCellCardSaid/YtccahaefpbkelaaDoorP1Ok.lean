/- The contracts of this chapter. -/
import Derived.Test.YtccahaefpbkelaaDoorProg
import Derived.Test.YtccahaefpbkelaaDoorP1Pf
import Derived.KernelRfl
namespace Go.Proofs.YtccahaefpbkelaaDoor
open Go Go.Vi
set_option linter.unusedVariables false
def annTP1 : FuncId → Nat → St → Option Ann := fun f => if f = 36 then ann_spec_woRule else if f = 40 then ann_impl_IsRule else if f = 21 then ann_spec_woGood else if f = 42 then ann_impl_areColours else (fun _ _ => none)
def TP1_0 : Tab := Tab.none
theorem TP1_0_ok : TP1_0.Ok Tryd.prog := Tab.none_ok
theorem eq_spec_l1In (n : Int) (lo : Int) (hi : Int) (K : V → Prop) : VC_spec_l1In n lo hi K = vbody Tryd.prog (vin Tryd.prog TP1_0 annTP1 3) TP1_0.looks (annTP1 31) 31 [.int .i64 n, .int .i64 lo, .int .i64 hi] [] fun v _ => K v := by kernel_rfl
theorem ok_spec_l1In : OK Tryd.prog 31 F_spec_l1In.spec := (vbody_ok (vin_ok TP1_0_ok annTP1 3) TP1_0_ok.looks _ _).ofF fun args m p R h hp => by
  unfold F_spec_l1In at h
  split at h
  · injection h with h; injection h with h1 h2; subst h1; subst h2
    exact ⟨rfl, (congrArg At (eq_spec_l1In _ _ _ _)).mp ⟨vc_spec_l1In _ _ _ hp⟩⟩
  · cases h
def TP1_1 : Tab := TP1_0.add 31 F_spec_l1In
theorem TP1_1_ok : TP1_1.Ok Tryd.prog := TP1_0_ok.add ok_spec_l1In
theorem eq_impl_within (n : Int) (lo : Int) (hi : Int) (K : V → Prop) : VC_impl_within n lo hi K = vbody Tryd.prog (vin Tryd.prog TP1_1 annTP1 3) TP1_1.looks (annTP1 34) 34 [.int .i64 n, .int .i64 lo, .int .i64 hi] [] fun v _ => K v := by kernel_rfl
theorem ok_impl_within : OK Tryd.prog 34 F_impl_within.spec := (vbody_ok (vin_ok TP1_1_ok annTP1 3) TP1_1_ok.looks _ _).ofF fun args m p R h hp => by
  unfold F_impl_within at h
  split at h
  · injection h with h; injection h with h1 h2; subst h1; subst h2
    exact ⟨rfl, (congrArg At (eq_impl_within _ _ _ _)).mp ⟨vc_impl_within _ _ _ hp⟩⟩
  · cases h
def TP1_2 : Tab := TP1_1.add 34 F_impl_within
theorem TP1_2_ok : TP1_2.Ok Tryd.prog := TP1_1_ok.add ok_impl_within
theorem eq_impl_digit (b : Int) (K : V → Prop) : VC_impl_digit b K = vbody Tryd.prog (vin Tryd.prog TP1_2 annTP1 3) TP1_2.looks (annTP1 53) 53 [.int .u8 b] [] fun v _ => K v := by kernel_rfl
theorem ok_impl_digit : OK Tryd.prog 53 F_impl_digit.spec := (vbody_ok (vin_ok TP1_2_ok annTP1 3) TP1_2_ok.looks _ _).ofF fun args m p R h hp => by
  unfold F_impl_digit at h
  split at h
  · injection h with h; injection h with h1 h2; subst h1; subst h2
    exact ⟨rfl, (congrArg At (eq_impl_digit _ _)).mp ⟨vc_impl_digit _ hp⟩⟩
  · cases h
def TP1_3 : Tab := TP1_2.add 53 F_impl_digit
theorem TP1_3_ok : TP1_3.Ok Tryd.prog := TP1_2_ok.add ok_impl_digit
theorem eq_spec_woRule (s : List UInt8) (K : V → Prop) : VC_spec_woRule s K = vbody Tryd.prog (vin Tryd.prog TP1_3 annTP1 3) TP1_3.looks (annTP1 36) 36 [.str s] [] fun v _ => K v := by kernel_rfl
theorem ok_spec_woRule : OK Tryd.prog 36 F_spec_woRule.spec := (vbody_ok (vin_ok TP1_3_ok annTP1 3) TP1_3_ok.looks _ _).ofF fun args m p R h hp => by
  unfold F_spec_woRule at h
  split at h
  · injection h with h; injection h with h1 h2; subst h1; subst h2
    exact ⟨rfl, (congrArg At (eq_spec_woRule _ _)).mp ⟨vc_spec_woRule _ hp⟩⟩
  · cases h
def TP1_4 : Tab := TP1_3.add 36 F_spec_woRule
theorem TP1_4_ok : TP1_4.Ok Tryd.prog := TP1_3_ok.add ok_spec_woRule
theorem eq_impl_IsRule (s : List UInt8) (K : V → Prop) : VC_impl_IsRule s K = vbody Tryd.prog (vin Tryd.prog TP1_4 annTP1 3) TP1_4.looks (annTP1 40) 40 [.str s] [] fun v _ => K v := by kernel_rfl
theorem ok_impl_IsRule : OK Tryd.prog 40 F_impl_IsRule.spec := (vbody_ok (vin_ok TP1_4_ok annTP1 3) TP1_4_ok.looks _ _).ofF fun args m p R h hp => by
  unfold F_impl_IsRule at h
  split at h
  · injection h with h; injection h with h1 h2; subst h1; subst h2
    exact ⟨rfl, (congrArg At (eq_impl_IsRule _ _)).mp ⟨vc_impl_IsRule _ hp⟩⟩
  · cases h
def TP1_5 : Tab := TP1_4.add 40 F_impl_IsRule
theorem TP1_5_ok : TP1_5.Ok Tryd.prog := TP1_4_ok.add ok_impl_IsRule
theorem eq_spec_woGood (wr : List UInt8) (ww : Int) (wh : Int) (wc : List UInt8) (wx : Int) (wy : Int) (wd : Int) (K : V → Prop) : VC_spec_woGood wr ww wh wc wx wy wd K = vbody Tryd.prog (vin Tryd.prog TP1_5 annTP1 3) TP1_5.looks (annTP1 21) 21 [.agg [.str wr, .int .i64 ww, .int .i64 wh, .str wc, .int .i64 wx, .int .i64 wy, .int .i64 wd]] [] fun v _ => K v := by kernel_rfl
theorem ok_spec_woGood : OK Tryd.prog 21 F_spec_woGood.spec := (vbody_ok (vin_ok TP1_5_ok annTP1 3) TP1_5_ok.looks _ _).ofF fun args m p R h hp => by
  unfold F_spec_woGood at h
  split at h
  · injection h with h; injection h with h1 h2; subst h1; subst h2
    exact ⟨rfl, (congrArg At (eq_spec_woGood _ _ _ _ _ _ _ _)).mp ⟨vc_spec_woGood _ _ _ _ _ _ _ hp⟩⟩
  · cases h
def TP1_6 : Tab := TP1_5.add 21 F_spec_woGood
theorem TP1_6_ok : TP1_6.Ok Tryd.prog := TP1_5_ok.add ok_spec_woGood
theorem eq_impl_areColours (s : List UInt8) (n : Int) (K : V → Prop) : VC_impl_areColours s n K = vbody Tryd.prog (vin Tryd.prog TP1_6 annTP1 3) TP1_6.looks (annTP1 42) 42 [.str s, .int .i64 n] [] fun v _ => K v := by kernel_rfl
theorem ok_impl_areColours : OK Tryd.prog 42 F_impl_areColours.spec := (vbody_ok (vin_ok TP1_6_ok annTP1 3) TP1_6_ok.looks _ _).ofF fun args m p R h hp => by
  unfold F_impl_areColours at h
  split at h
  · injection h with h; injection h with h1 h2; subst h1; subst h2
    exact ⟨rfl, (congrArg At (eq_impl_areColours _ _ _)).mp ⟨vc_impl_areColours _ _ hp⟩⟩
  · cases h
def TP1_7 : Tab := TP1_6.add 42 F_impl_areColours
theorem TP1_7_ok : TP1_7.Ok Tryd.prog := TP1_6_ok.add ok_impl_areColours
theorem eq_impl_IsWorld (wr : List UInt8) (ww : Int) (wh : Int) (wc : List UInt8) (wx : Int) (wy : Int) (wd : Int) (K : V → Prop) : VC_impl_IsWorld wr ww wh wc wx wy wd K = vbody Tryd.prog (vin Tryd.prog TP1_7 annTP1 4) TP1_7.looks (annTP1 24) 24 [.agg [.str wr, .int .i64 ww, .int .i64 wh, .str wc, .int .i64 wx, .int .i64 wy, .int .i64 wd]] [] fun v _ => K v := by kernel_rfl
theorem ok_impl_IsWorld : OK Tryd.prog 24 F_impl_IsWorld.spec := (vbody_ok (vin_ok TP1_7_ok annTP1 4) TP1_7_ok.looks _ _).ofF fun args m p R h hp => by
  unfold F_impl_IsWorld at h
  split at h
  · injection h with h; injection h with h1 h2; subst h1; subst h2
    exact ⟨rfl, (congrArg At (eq_impl_IsWorld _ _ _ _ _ _ _ _)).mp ⟨vc_impl_IsWorld _ _ _ _ _ _ _ hp⟩⟩
  · cases h
def TP1_8 : Tab := TP1_7.add 24 F_impl_IsWorld
theorem TP1_8_ok : TP1_8.Ok Tryd.prog := TP1_7_ok.add ok_impl_IsWorld
theorem eq_laws_szWorld (wr : List UInt8) (ww : Int) (wh : Int) (wc : List UInt8) (wx : Int) (wy : Int) (wd : Int) (left : Int) (K : V → Prop) : VC_laws_szWorld wr ww wh wc wx wy wd left K = vbody Tryd.prog (vin Tryd.prog TP1_8 annTP1 3) TP1_8.looks (annTP1 8) 8 [.agg [.str wr, .int .i64 ww, .int .i64 wh, .str wc, .int .i64 wx, .int .i64 wy, .int .i64 wd], .int .i64 left] [] fun v _ => K v := by kernel_rfl
theorem ok_laws_szWorld : OK Tryd.prog 8 F_laws_szWorld.spec := (vbody_ok (vin_ok TP1_8_ok annTP1 3) TP1_8_ok.looks _ _).ofF fun args m p R h hp => by
  unfold F_laws_szWorld at h
  split at h
  · injection h with h; injection h with h1 h2; subst h1; subst h2
    exact ⟨rfl, (congrArg At (eq_laws_szWorld _ _ _ _ _ _ _ _ _)).mp ⟨vc_laws_szWorld _ _ _ _ _ _ _ _ hp⟩⟩
  · cases h
def TP1_9 : Tab := TP1_8.add 8 F_laws_szWorld
theorem TP1_9_ok : TP1_9.Ok Tryd.prog := TP1_8_ok.add ok_laws_szWorld
theorem eq_laws_eqWorld (ar : List UInt8) (aw : Int) (ah : Int) (ac : List UInt8) (ax : Int) (ay : Int) (ad : Int) (br : List UInt8) (bw : Int) (bh : Int) (bc : List UInt8) (bx : Int) (by_ : Int) (bd : Int) (K : V → Prop) : VC_laws_eqWorld ar aw ah ac ax ay ad br bw bh bc bx by_ bd K = vbody Tryd.prog (vin Tryd.prog TP1_9 annTP1 3) TP1_9.looks (annTP1 12) 12 [.agg [.str ar, .int .i64 aw, .int .i64 ah, .str ac, .int .i64 ax, .int .i64 ay, .int .i64 ad], .agg [.str br, .int .i64 bw, .int .i64 bh, .str bc, .int .i64 bx, .int .i64 by_, .int .i64 bd]] [] fun v _ => K v := by kernel_rfl
theorem ok_laws_eqWorld : OK Tryd.prog 12 F_laws_eqWorld.spec := (vbody_ok (vin_ok TP1_9_ok annTP1 3) TP1_9_ok.looks _ _).ofF fun args m p R h hp => by
  unfold F_laws_eqWorld at h
  split at h
  · injection h with h; injection h with h1 h2; subst h1; subst h2
    exact ⟨rfl, (congrArg At (eq_laws_eqWorld _ _ _ _ _ _ _ _ _ _ _ _ _ _ _)).mp ⟨vc_laws_eqWorld _ _ _ _ _ _ _ _ _ _ _ _ _ _ hp⟩⟩
  · cases h
def TP1_10 : Tab := TP1_9.add 12 F_laws_eqWorld
theorem TP1_10_ok : TP1_10.Ok Tryd.prog := TP1_9_ok.add ok_laws_eqWorld
theorem eq_spec_l1Num (n : Int) (K : V → Prop) : VC_spec_l1Num n K = vbody Tryd.prog (vin Tryd.prog TP1_10 annTP1 3) TP1_10.looks (annTP1 50) 50 [.int .i64 n] [] fun v _ => K v := by kernel_rfl
theorem ok_spec_l1Num : OK Tryd.prog 50 F_spec_l1Num.spec := (vbody_ok (vin_ok TP1_10_ok annTP1 3) TP1_10_ok.looks _ _).ofF fun args m p R h hp => by
  unfold F_spec_l1Num at h
  split at h
  · injection h with h; injection h with h1 h2; subst h1; subst h2
    exact ⟨rfl, (congrArg At (eq_spec_l1Num _ _)).mp ⟨vc_spec_l1Num _ hp⟩⟩
  · cases h
def TP1_11 : Tab := TP1_10.add 50 F_spec_l1Num
theorem TP1_11_ok : TP1_11.Ok Tryd.prog := TP1_10_ok.add ok_spec_l1Num
theorem eq_strconv_FormatInt (n : Int) (b : Int) (K : V → Prop) : VC_strconv_FormatInt n b K = vbody Tryd.prog (vin Tryd.prog TP1_11 annTP1 3) TP1_11.looks (annTP1 56) 56 [.int .i64 n, .int .i64 b] [] fun v _ => K v := by kernel_rfl
theorem ok_strconv_FormatInt : OK Tryd.prog 56 F_strconv_FormatInt.spec := (vbody_ok (vin_ok TP1_11_ok annTP1 3) TP1_11_ok.looks _ _).ofF fun args m p R h hp => by
  unfold F_strconv_FormatInt at h
  split at h
  · injection h with h; injection h with h1 h2; subst h1; subst h2
    exact ⟨rfl, (congrArg At (eq_strconv_FormatInt _ _ _)).mp ⟨vc_strconv_FormatInt _ _ hp⟩⟩
  · cases h
def TP1_12 : Tab := TP1_11.add 56 F_strconv_FormatInt
theorem TP1_12_ok : TP1_12.Ok Tryd.prog := TP1_11_ok.add ok_strconv_FormatInt
theorem eq_strconv_Itoa (n : Int) (K : V → Prop) : VC_strconv_Itoa n K = vbody Tryd.prog (vin Tryd.prog TP1_12 annTP1 3) TP1_12.looks (annTP1 51) 51 [.int .i64 n] [] fun v _ => K v := by kernel_rfl
theorem ok_strconv_Itoa : OK Tryd.prog 51 F_strconv_Itoa.spec := (vbody_ok (vin_ok TP1_12_ok annTP1 3) TP1_12_ok.looks _ _).ofF fun args m p R h hp => by
  unfold F_strconv_Itoa at h
  split at h
  · injection h with h; injection h with h1 h2; subst h1; subst h2
    exact ⟨rfl, (congrArg At (eq_strconv_Itoa _ _)).mp ⟨vc_strconv_Itoa _ hp⟩⟩
  · cases h
def TP1_13 : Tab := TP1_12.add 51 F_strconv_Itoa
theorem TP1_13_ok : TP1_13.Ok Tryd.prog := TP1_12_ok.add ok_strconv_Itoa
theorem eq_spec_PaintCell (wr : List UInt8) (ww : Int) (wh : Int) (wc : List UInt8) (wx : Int) (wy : Int) (wd : Int) (x : Int) (y : Int) (k : Int) (K : V → Prop) : VC_spec_PaintCell wr ww wh wc wx wy wd x y k K = vbody Tryd.prog (vin Tryd.prog TP1_13 annTP1 4) TP1_13.looks (annTP1 19) 19 [.agg [.str wr, .int .i64 ww, .int .i64 wh, .str wc, .int .i64 wx, .int .i64 wy, .int .i64 wd], .int .i64 x, .int .i64 y, .int .i64 k] [] fun v _ => K v := by kernel_rfl
theorem ok_spec_PaintCell : OK Tryd.prog 19 F_spec_PaintCell.spec := (vbody_ok (vin_ok TP1_13_ok annTP1 4) TP1_13_ok.looks _ _).ofF fun args m p R h hp => by
  unfold F_spec_PaintCell at h
  split at h
  · injection h with h; injection h with h1 h2; subst h1; subst h2
    exact ⟨rfl, (congrArg At (eq_spec_PaintCell _ _ _ _ _ _ _ _ _ _ _)).mp ⟨vc_spec_PaintCell _ _ _ _ _ _ _ _ _ _ hp⟩⟩
  · cases h
def TP1_14 : Tab := TP1_13.add 19 F_spec_PaintCell
theorem TP1_14_ok : TP1_14.Ok Tryd.prog := TP1_13_ok.add ok_spec_PaintCell
theorem eq_impl_PaintCell (wr : List UInt8) (ww : Int) (wh : Int) (wc : List UInt8) (wx : Int) (wy : Int) (wd : Int) (x : Int) (y : Int) (k : Int) (K : V → Prop) : VC_impl_PaintCell wr ww wh wc wx wy wd x y k K = vbody Tryd.prog (vin Tryd.prog TP1_14 annTP1 4) TP1_14.looks (annTP1 20) 20 [.agg [.str wr, .int .i64 ww, .int .i64 wh, .str wc, .int .i64 wx, .int .i64 wy, .int .i64 wd], .int .i64 x, .int .i64 y, .int .i64 k] [] fun v _ => K v := by kernel_rfl
theorem ok_impl_PaintCell : OK Tryd.prog 20 F_impl_PaintCell.spec := (vbody_ok (vin_ok TP1_14_ok annTP1 4) TP1_14_ok.looks _ _).ofF fun args m p R h hp => by
  unfold F_impl_PaintCell at h
  split at h
  · injection h with h; injection h with h1 h2; subst h1; subst h2
    exact ⟨rfl, (congrArg At (eq_impl_PaintCell _ _ _ _ _ _ _ _ _ _ _)).mp ⟨vc_impl_PaintCell _ _ _ _ _ _ _ _ _ _ hp⟩⟩
  · cases h
def TP1_15 : Tab := TP1_14.add 20 F_impl_PaintCell
theorem TP1_15_ok : TP1_15.Ok Tryd.prog := TP1_14_ok.add ok_impl_PaintCell
def TP1 : Tab := TP1_15
theorem TP1_ok : TP1.Ok Tryd.prog := TP1_15_ok
end Go.Proofs.YtccahaefpbkelaaDoor
