/- The contracts of this chapter. -/
import Derived.Test.YtlechboepjmmhabDoorProg
import Derived.Test.YtlechboepjmmhabDoorV1Pf
import Derived.KernelRfl
namespace Go.Proofs.YtlechboepjmmhabDoor
open Go Go.Vi
set_option linter.unusedVariables false
def annTV1 : FuncId → Nat → St → Option Ann := fun f => if f = 44 then ann_impl_stepsUntil else if f = 63 then ann_spec_woRule else if f = 70 then ann_impl_IsRule else if f = 42 then ann_spec_woGood else if f = 72 then ann_impl_areColours else if f = 43 then ann_spec_loPeriod else if f = 52 then ann_spec_loVisits else if f = 56 then ann_impl_trackOf else if f = 54 then ann_impl_visitsOf else if f = 57 then ann_slices_Index_int_int else if f = 58 then ann_slices_Max_int_int else if f = 29 then ann_spec_TrackAfter else if f = 31 then ann_spec_CellsVisited else if f = 32 then ann_impl_CellsVisited else if f = 35 then ann_spec_MostVisited else if f = 33 then ann_spec_CoverSteps else if f = 34 then ann_impl_CoverSteps else if f = 37 then ann_spec_NeverVisited else if f = 38 then ann_impl_NeverVisited else if f = 26 then ann_laws_eqIntS else if f = 27 then ann_laws_markIntS else if f = 28 then ann_laws_heldIntS else (fun _ _ => none)
def TV1_0 : Tab := Tab.none
theorem TV1_0_ok : TV1_0.Ok Tryd.prog := Tab.none_ok
theorem eq_spec_l1In (n : Int) (lo : Int) (hi : Int) (K : V → Prop) : VC_spec_l1In n lo hi K = vbody Tryd.prog (vin Tryd.prog TV1_0 annTV1 3) TV1_0.looks (annTV1 64) 64 [.int .i64 n, .int .i64 lo, .int .i64 hi] [] (fun v _ => K v) := by kernel_rfl
theorem ok_spec_l1In : OK Tryd.prog 64 F_spec_l1In.spec := (vbody_ok (vin_ok TV1_0_ok annTV1 3) TV1_0_ok.looks _ _).ofF fun args m p R h hp => by
  unfold F_spec_l1In at h
  split at h
  · injection h with h; injection h with h1 h2; subst h1; subst h2
    exact ⟨rfl, (congrArg At (eq_spec_l1In _ _ _ _)).mp ⟨vc_spec_l1In _ _ _ hp⟩⟩
  · cases h
def TV1_1 : Tab := TV1_0.add 64 F_spec_l1In
theorem TV1_1_ok : TV1_1.Ok Tryd.prog := TV1_0_ok.add ok_spec_l1In
theorem eq_impl_within (n : Int) (lo : Int) (hi : Int) (K : V → Prop) : VC_impl_within n lo hi K = vbody Tryd.prog (vin Tryd.prog TV1_1 annTV1 3) TV1_1.looks (annTV1 55) 55 [.int .i64 n, .int .i64 lo, .int .i64 hi] [] (fun v _ => K v) := by kernel_rfl
theorem ok_impl_within : OK Tryd.prog 55 F_impl_within.spec := (vbody_ok (vin_ok TV1_1_ok annTV1 3) TV1_1_ok.looks _ _).ofF fun args m p R h hp => by
  unfold F_impl_within at h
  split at h
  · injection h with h; injection h with h1 h2; subst h1; subst h2
    exact ⟨rfl, (congrArg At (eq_impl_within _ _ _ _)).mp ⟨vc_impl_within _ _ _ hp⟩⟩
  · cases h
def TV1_2 : Tab := TV1_1.add 55 F_impl_within
theorem TV1_2_ok : TV1_2.Ok Tryd.prog := TV1_1_ok.add ok_impl_within
theorem eq_impl_digit (b : Int) (K : V → Prop) : VC_impl_digit b K = vbody Tryd.prog (vin Tryd.prog TV1_2 annTV1 3) TV1_2.looks (annTV1 61) 61 [.int .u8 b] [] (fun v _ => K v) := by kernel_rfl
theorem ok_impl_digit : OK Tryd.prog 61 F_impl_digit.spec := (vbody_ok (vin_ok TV1_2_ok annTV1 3) TV1_2_ok.looks _ _).ofF fun args m p R h hp => by
  unfold F_impl_digit at h
  split at h
  · injection h with h; injection h with h1 h2; subst h1; subst h2
    exact ⟨rfl, (congrArg At (eq_impl_digit _ _)).mp ⟨vc_impl_digit _ hp⟩⟩
  · cases h
def TV1_3 : Tab := TV1_2.add 61 F_impl_digit
theorem TV1_3_ok : TV1_3.Ok Tryd.prog := TV1_2_ok.add ok_impl_digit
theorem eq_spec_woRule (s : List UInt8) (K : V → Prop) : VC_spec_woRule s K = vbody Tryd.prog (vin Tryd.prog TV1_3 annTV1 3) TV1_3.looks (annTV1 63) 63 [.str s] [] (fun v _ => K v) := by kernel_rfl
theorem ok_spec_woRule : OK Tryd.prog 63 F_spec_woRule.spec := (vbody_ok (vin_ok TV1_3_ok annTV1 3) TV1_3_ok.looks _ _).ofF fun args m p R h hp => by
  unfold F_spec_woRule at h
  split at h
  · injection h with h; injection h with h1 h2; subst h1; subst h2
    exact ⟨rfl, (congrArg At (eq_spec_woRule _ _)).mp ⟨vc_spec_woRule _ hp⟩⟩
  · cases h
def TV1_4 : Tab := TV1_3.add 63 F_spec_woRule
theorem TV1_4_ok : TV1_4.Ok Tryd.prog := TV1_3_ok.add ok_spec_woRule
theorem eq_impl_IsRule (s : List UInt8) (K : V → Prop) : VC_impl_IsRule s K = vbody Tryd.prog (vin Tryd.prog TV1_4 annTV1 3) TV1_4.looks (annTV1 70) 70 [.str s] [] (fun v _ => K v) := by kernel_rfl
theorem ok_impl_IsRule : OK Tryd.prog 70 F_impl_IsRule.spec := (vbody_ok (vin_ok TV1_4_ok annTV1 3) TV1_4_ok.looks _ _).ofF fun args m p R h hp => by
  unfold F_impl_IsRule at h
  split at h
  · injection h with h; injection h with h1 h2; subst h1; subst h2
    exact ⟨rfl, (congrArg At (eq_impl_IsRule _ _)).mp ⟨vc_impl_IsRule _ hp⟩⟩
  · cases h
def TV1_5 : Tab := TV1_4.add 70 F_impl_IsRule
theorem TV1_5_ok : TV1_5.Ok Tryd.prog := TV1_4_ok.add ok_impl_IsRule
theorem eq_spec_woGood (wr : List UInt8) (ww : Int) (wh : Int) (wc : List UInt8) (wx : Int) (wy : Int) (wd : Int) (K : V → Prop) : VC_spec_woGood wr ww wh wc wx wy wd K = vbody Tryd.prog (vin Tryd.prog TV1_5 annTV1 3) TV1_5.looks (annTV1 42) 42 [.agg [.str wr, .int .i64 ww, .int .i64 wh, .str wc, .int .i64 wx, .int .i64 wy, .int .i64 wd]] [] (fun v _ => K v) := by kernel_rfl
theorem ok_spec_woGood : OK Tryd.prog 42 F_spec_woGood.spec := (vbody_ok (vin_ok TV1_5_ok annTV1 3) TV1_5_ok.looks _ _).ofF fun args m p R h hp => by
  unfold F_spec_woGood at h
  split at h
  · injection h with h; injection h with h1 h2; subst h1; subst h2
    exact ⟨rfl, (congrArg At (eq_spec_woGood _ _ _ _ _ _ _ _)).mp ⟨vc_spec_woGood _ _ _ _ _ _ _ hp⟩⟩
  · cases h
def TV1_6 : Tab := TV1_5.add 42 F_spec_woGood
theorem TV1_6_ok : TV1_6.Ok Tryd.prog := TV1_5_ok.add ok_spec_woGood
theorem eq_impl_areColours (s : List UInt8) (n : Int) (K : V → Prop) : VC_impl_areColours s n K = vbody Tryd.prog (vin Tryd.prog TV1_6 annTV1 3) TV1_6.looks (annTV1 72) 72 [.str s, .int .i64 n] [] (fun v _ => K v) := by kernel_rfl
theorem ok_impl_areColours : OK Tryd.prog 72 F_impl_areColours.spec := (vbody_ok (vin_ok TV1_6_ok annTV1 3) TV1_6_ok.looks _ _).ofF fun args m p R h hp => by
  unfold F_impl_areColours at h
  split at h
  · injection h with h; injection h with h1 h2; subst h1; subst h2
    exact ⟨rfl, (congrArg At (eq_impl_areColours _ _ _)).mp ⟨vc_impl_areColours _ _ hp⟩⟩
  · cases h
def TV1_7 : Tab := TV1_6.add 72 F_impl_areColours
theorem TV1_7_ok : TV1_7.Ok Tryd.prog := TV1_6_ok.add ok_impl_areColours
theorem eq_impl_IsWorld (wr : List UInt8) (ww : Int) (wh : Int) (wc : List UInt8) (wx : Int) (wy : Int) (wd : Int) (K : V → Prop) : VC_impl_IsWorld wr ww wh wc wx wy wd K = vbody Tryd.prog (vin Tryd.prog TV1_7 annTV1 4) TV1_7.looks (annTV1 49) 49 [.agg [.str wr, .int .i64 ww, .int .i64 wh, .str wc, .int .i64 wx, .int .i64 wy, .int .i64 wd]] [] (fun v _ => K v) := by kernel_rfl
theorem ok_impl_IsWorld : OK Tryd.prog 49 F_impl_IsWorld.spec := (vbody_ok (vin_ok TV1_7_ok annTV1 4) TV1_7_ok.looks _ _).ofF fun args m p R h hp => by
  unfold F_impl_IsWorld at h
  split at h
  · injection h with h; injection h with h1 h2; subst h1; subst h2
    exact ⟨rfl, (congrArg At (eq_impl_IsWorld _ _ _ _ _ _ _ _)).mp ⟨vc_impl_IsWorld _ _ _ _ _ _ _ hp⟩⟩
  · cases h
def TV1_8 : Tab := TV1_7.add 49 F_impl_IsWorld
theorem TV1_8_ok : TV1_8.Ok Tryd.prog := TV1_7_ok.add ok_impl_IsWorld
theorem eq_spec_woColour (wr : List UInt8) (ww : Int) (wh : Int) (wc : List UInt8) (wx : Int) (wy : Int) (wd : Int) (x : Int) (y : Int) (K : V → Prop) : VC_spec_woColour wr ww wh wc wx wy wd x y K = vbody Tryd.prog (vin Tryd.prog TV1_8 annTV1 3) TV1_8.looks (annTV1 66) 66 [.agg [.str wr, .int .i64 ww, .int .i64 wh, .str wc, .int .i64 wx, .int .i64 wy, .int .i64 wd], .int .i64 x, .int .i64 y] [] (fun v _ => K v) := by kernel_rfl
theorem ok_spec_woColour : OK Tryd.prog 66 F_spec_woColour.spec := (vbody_ok (vin_ok TV1_8_ok annTV1 3) TV1_8_ok.looks _ _).ofF fun args m p R h hp => by
  unfold F_spec_woColour at h
  split at h
  · injection h with h; injection h with h1 h2; subst h1; subst h2
    exact ⟨rfl, (congrArg At (eq_spec_woColour _ _ _ _ _ _ _ _ _ _)).mp ⟨vc_spec_woColour _ _ _ _ _ _ _ _ _ hp⟩⟩
  · cases h
def TV1_9 : Tab := TV1_8.add 66 F_spec_woColour
theorem TV1_9_ok : TV1_9.Ok Tryd.prog := TV1_8_ok.add ok_spec_woColour
theorem eq_impl_board_colour (wr : List UInt8) (ww : Int) (wh : Int) (wc : List UInt8) (wx : Int) (wy : Int) (wd : Int) (x : Int) (y : Int) (K : V → Prop) : VC_impl_board_colour wr ww wh wc wx wy wd x y K = vbody Tryd.prog (vin Tryd.prog TV1_9 annTV1 3) TV1_9.looks (annTV1 79) 79 [.agg [.str wr, .int .i64 ww, .int .i64 wh, .str wc, .int .i64 wx, .int .i64 wy, .int .i64 wd], .int .i64 x, .int .i64 y] [] (fun v _ => K v) := by kernel_rfl
theorem ok_impl_board_colour : OK Tryd.prog 79 F_impl_board_colour.spec := (vbody_ok (vin_ok TV1_9_ok annTV1 3) TV1_9_ok.looks _ _).ofF fun args m p R h hp => by
  unfold F_impl_board_colour at h
  split at h
  · injection h with h; injection h with h1 h2; subst h1; subst h2
    exact ⟨rfl, (congrArg At (eq_impl_board_colour _ _ _ _ _ _ _ _ _ _)).mp ⟨vc_impl_board_colour _ _ _ _ _ _ _ _ _ hp⟩⟩
  · cases h
def TV1_10 : Tab := TV1_9.add 79 F_impl_board_colour
theorem TV1_10_ok : TV1_10.Ok Tryd.prog := TV1_9_ok.add ok_impl_board_colour
theorem eq_laws_szWorld (wr : List UInt8) (ww : Int) (wh : Int) (wc : List UInt8) (wx : Int) (wy : Int) (wd : Int) (left : Int) (K : V → Prop) : VC_laws_szWorld wr ww wh wc wx wy wd left K = vbody Tryd.prog (vin Tryd.prog TV1_10 annTV1 3) TV1_10.looks (annTV1 14) 14 [.agg [.str wr, .int .i64 ww, .int .i64 wh, .str wc, .int .i64 wx, .int .i64 wy, .int .i64 wd], .int .i64 left] [] (fun v _ => K v) := by kernel_rfl
theorem ok_laws_szWorld : OK Tryd.prog 14 F_laws_szWorld.spec := (vbody_ok (vin_ok TV1_10_ok annTV1 3) TV1_10_ok.looks _ _).ofF fun args m p R h hp => by
  unfold F_laws_szWorld at h
  split at h
  · injection h with h; injection h with h1 h2; subst h1; subst h2
    exact ⟨rfl, (congrArg At (eq_laws_szWorld _ _ _ _ _ _ _ _ _)).mp ⟨vc_laws_szWorld _ _ _ _ _ _ _ _ hp⟩⟩
  · cases h
def TV1_11 : Tab := TV1_10.add 14 F_laws_szWorld
theorem TV1_11_ok : TV1_11.Ok Tryd.prog := TV1_10_ok.add ok_laws_szWorld
theorem eq_laws_eqWorld (ar : List UInt8) (aw : Int) (ah : Int) (ac : List UInt8) (ax : Int) (ay : Int) (ad : Int) (br : List UInt8) (bw : Int) (bh : Int) (bc : List UInt8) (bx : Int) (by_ : Int) (bd : Int) (K : V → Prop) : VC_laws_eqWorld ar aw ah ac ax ay ad br bw bh bc bx by_ bd K = vbody Tryd.prog (vin Tryd.prog TV1_11 annTV1 3) TV1_11.looks (annTV1 41) 41 [.agg [.str ar, .int .i64 aw, .int .i64 ah, .str ac, .int .i64 ax, .int .i64 ay, .int .i64 ad], .agg [.str br, .int .i64 bw, .int .i64 bh, .str bc, .int .i64 bx, .int .i64 by_, .int .i64 bd]] [] (fun v _ => K v) := by kernel_rfl
theorem ok_laws_eqWorld : OK Tryd.prog 41 F_laws_eqWorld.spec := (vbody_ok (vin_ok TV1_11_ok annTV1 3) TV1_11_ok.looks _ _).ofF fun args m p R h hp => by
  unfold F_laws_eqWorld at h
  split at h
  · injection h with h; injection h with h1 h2; subst h1; subst h2
    exact ⟨rfl, (congrArg At (eq_laws_eqWorld _ _ _ _ _ _ _ _ _ _ _ _ _ _ _)).mp ⟨vc_laws_eqWorld _ _ _ _ _ _ _ _ _ _ _ _ _ _ hp⟩⟩
  · cases h
def TV1_12 : Tab := TV1_11.add 41 F_laws_eqWorld
theorem TV1_12_ok : TV1_12.Ok Tryd.prog := TV1_11_ok.add ok_laws_eqWorld
theorem eq_spec_l1Num (n : Int) (K : V → Prop) : VC_spec_l1Num n K = vbody Tryd.prog (vin Tryd.prog TV1_12 annTV1 0) TV1_12.looks (annTV1 85) 85 [.int .i64 n] [] (fun v _ => K v) := by kernel_rfl
theorem ok_spec_l1Num : OK Tryd.prog 85 F_spec_l1Num.spec := (vbody_ok (vin_ok TV1_12_ok annTV1 0) TV1_12_ok.looks _ _).ofF fun args m p R h hp => by
  unfold F_spec_l1Num at h
  split at h
  · injection h with h; injection h with h1 h2; subst h1; subst h2
    exact ⟨rfl, (congrArg At (eq_spec_l1Num _ _)).mp ⟨vc_spec_l1Num _ hp⟩⟩
  · cases h
def TV1_13 : Tab := TV1_12.add 85 F_spec_l1Num
theorem TV1_13_ok : TV1_13.Ok Tryd.prog := TV1_12_ok.add ok_spec_l1Num
theorem eq_strconv_FormatInt (n : Int) (b : Int) (K : V → Prop) : VC_strconv_FormatInt n b K = vbody Tryd.prog (vin Tryd.prog TV1_13 annTV1 3) TV1_13.looks (annTV1 97) 97 [.int .i64 n, .int .i64 b] [] (fun v _ => K v) := by kernel_rfl
theorem ok_strconv_FormatInt : OK Tryd.prog 97 F_strconv_FormatInt.spec := (vbody_ok (vin_ok TV1_13_ok annTV1 3) TV1_13_ok.looks _ _).ofF fun args m p R h hp => by
  unfold F_strconv_FormatInt at h
  split at h
  · injection h with h; injection h with h1 h2; subst h1; subst h2
    exact ⟨rfl, (congrArg At (eq_strconv_FormatInt _ _ _)).mp ⟨vc_strconv_FormatInt _ _ hp⟩⟩
  · cases h
def TV1_14 : Tab := TV1_13.add 97 F_strconv_FormatInt
theorem TV1_14_ok : TV1_14.Ok Tryd.prog := TV1_13_ok.add ok_strconv_FormatInt
theorem eq_strconv_Itoa (n : Int) (K : V → Prop) : VC_strconv_Itoa n K = vbody Tryd.prog (vin Tryd.prog TV1_14 annTV1 3) TV1_14.looks (annTV1 78) 78 [.int .i64 n] [] (fun v _ => K v) := by kernel_rfl
theorem ok_strconv_Itoa : OK Tryd.prog 78 F_strconv_Itoa.spec := (vbody_ok (vin_ok TV1_14_ok annTV1 3) TV1_14_ok.looks _ _).ofF fun args m p R h hp => by
  unfold F_strconv_Itoa at h
  split at h
  · injection h with h; injection h with h1 h2; subst h1; subst h2
    exact ⟨rfl, (congrArg At (eq_strconv_Itoa _ _)).mp ⟨vc_strconv_Itoa _ hp⟩⟩
  · cases h
def TV1_15 : Tab := TV1_14.add 78 F_strconv_Itoa
theorem TV1_15_ok : TV1_15.Ok Tryd.prog := TV1_14_ok.add ok_strconv_Itoa
theorem eq_spec_l1Mod (n : Int) (m : Int) (K : V → Prop) : VC_spec_l1Mod n m K = vbody Tryd.prog (vin Tryd.prog TV1_15 annTV1 3) TV1_15.looks (annTV1 86) 86 [.int .i64 n, .int .i64 m] [] (fun v _ => K v) := by kernel_rfl
theorem ok_spec_l1Mod : OK Tryd.prog 86 F_spec_l1Mod.spec := (vbody_ok (vin_ok TV1_15_ok annTV1 3) TV1_15_ok.looks _ _).ofF fun args m p R h hp => by
  unfold F_spec_l1Mod at h
  split at h
  · injection h with h; injection h with h1 h2; subst h1; subst h2
    exact ⟨rfl, (congrArg At (eq_spec_l1Mod _ _ _)).mp ⟨vc_spec_l1Mod _ _ hp⟩⟩
  · cases h
def TV1_16 : Tab := TV1_15.add 86 F_spec_l1Mod
theorem TV1_16_ok : TV1_16.Ok Tryd.prog := TV1_15_ok.add ok_spec_l1Mod
theorem eq_spec_woTurn (b : Int) (K : V → Prop) : VC_spec_woTurn b K = vbody Tryd.prog (vin Tryd.prog TV1_16 annTV1 3) TV1_16.looks (annTV1 67) 67 [.int .u8 b] [] (fun v _ => K v) := by kernel_rfl
theorem ok_spec_woTurn : OK Tryd.prog 67 F_spec_woTurn.spec := (vbody_ok (vin_ok TV1_16_ok annTV1 3) TV1_16_ok.looks _ _).ofF fun args m p R h hp => by
  unfold F_spec_woTurn at h
  split at h
  · injection h with h; injection h with h1 h2; subst h1; subst h2
    exact ⟨rfl, (congrArg At (eq_spec_woTurn _ _)).mp ⟨vc_spec_woTurn _ hp⟩⟩
  · cases h
def TV1_17 : Tab := TV1_16.add 67 F_spec_woTurn
theorem TV1_17_ok : TV1_17.Ok Tryd.prog := TV1_16_ok.add ok_spec_woTurn
theorem eq_impl_quarters (b : Int) (K : V → Prop) : VC_impl_quarters b K = vbody Tryd.prog (vin Tryd.prog TV1_17 annTV1 3) TV1_17.looks (annTV1 81) 81 [.int .u8 b] [] (fun v _ => K v) := by kernel_rfl
theorem ok_impl_quarters : OK Tryd.prog 81 F_impl_quarters.spec := (vbody_ok (vin_ok TV1_17_ok annTV1 3) TV1_17_ok.looks _ _).ofF fun args m p R h hp => by
  unfold F_impl_quarters at h
  split at h
  · injection h with h; injection h with h1 h2; subst h1; subst h2
    exact ⟨rfl, (congrArg At (eq_impl_quarters _ _)).mp ⟨vc_impl_quarters _ hp⟩⟩
  · cases h
def TV1_18 : Tab := TV1_17.add 81 F_impl_quarters
theorem TV1_18_ok : TV1_18.Ok Tryd.prog := TV1_17_ok.add ok_impl_quarters
theorem eq_impl_direction (d : Int) (K : V → Prop) : VC_impl_direction d K = vbody Tryd.prog (vin Tryd.prog TV1_18 annTV1 3) TV1_18.looks (annTV1 92) 92 [.int .i64 d] [] (fun v _ => K v) := by kernel_rfl
theorem ok_impl_direction : OK Tryd.prog 92 F_impl_direction.spec := (vbody_ok (vin_ok TV1_18_ok annTV1 3) TV1_18_ok.looks _ _).ofF fun args m p R h hp => by
  unfold F_impl_direction at h
  split at h
  · injection h with h; injection h with h1 h2; subst h1; subst h2
    exact ⟨rfl, (congrArg At (eq_impl_direction _ _)).mp ⟨vc_impl_direction _ hp⟩⟩
  · cases h
def TV1_19 : Tab := TV1_18.add 92 F_impl_direction
theorem TV1_19_ok : TV1_19.Ok Tryd.prog := TV1_18_ok.add ok_impl_direction
theorem eq_impl_board_sign (wr : List UInt8) (ww : Int) (wh : Int) (wc : List UInt8) (wx : Int) (wy : Int) (wd : Int) (K : V → Prop) : VC_impl_board_sign wr ww wh wc wx wy wd K = vbody Tryd.prog (vin Tryd.prog TV1_19 annTV1 3) TV1_19.looks (annTV1 82) 82 [.agg [.str wr, .int .i64 ww, .int .i64 wh, .str wc, .int .i64 wx, .int .i64 wy, .int .i64 wd]] [] (fun v _ => K v) := by kernel_rfl
theorem ok_impl_board_sign : OK Tryd.prog 82 F_impl_board_sign.spec := (vbody_ok (vin_ok TV1_19_ok annTV1 3) TV1_19_ok.looks _ _).ofF fun args m p R h hp => by
  unfold F_impl_board_sign at h
  split at h
  · injection h with h; injection h with h1 h2; subst h1; subst h2
    exact ⟨rfl, (congrArg At (eq_impl_board_sign _ _ _ _ _ _ _ _)).mp ⟨vc_impl_board_sign _ _ _ _ _ _ _ hp⟩⟩
  · cases h
def TV1_20 : Tab := TV1_19.add 82 F_impl_board_sign
theorem TV1_20_ok : TV1_20.Ok Tryd.prog := TV1_19_ok.add ok_impl_board_sign
theorem eq_impl_board_painted (wr : List UInt8) (ww : Int) (wh : Int) (wc : List UInt8) (wx : Int) (wy : Int) (wd : Int) (x : Int) (y : Int) (k : Int) (K : V → Prop) : VC_impl_board_painted wr ww wh wc wx wy wd x y k K = vbody Tryd.prog (vin Tryd.prog TV1_20 annTV1 3) TV1_20.looks (annTV1 83) 83 [.agg [.str wr, .int .i64 ww, .int .i64 wh, .str wc, .int .i64 wx, .int .i64 wy, .int .i64 wd], .int .i64 x, .int .i64 y, .int .i64 k] [] (fun v _ => K v) := by kernel_rfl
theorem ok_impl_board_painted : OK Tryd.prog 83 F_impl_board_painted.spec := (vbody_ok (vin_ok TV1_20_ok annTV1 3) TV1_20_ok.looks _ _).ofF fun args m p R h hp => by
  unfold F_impl_board_painted at h
  split at h
  · injection h with h; injection h with h1 h2; subst h1; subst h2
    exact ⟨rfl, (congrArg At (eq_impl_board_painted _ _ _ _ _ _ _ _ _ _ _)).mp ⟨vc_impl_board_painted _ _ _ _ _ _ _ _ _ _ hp⟩⟩
  · cases h
def TV1_21 : Tab := TV1_20.add 83 F_impl_board_painted
theorem TV1_21_ok : TV1_21.Ok Tryd.prog := TV1_20_ok.add ok_impl_board_painted
theorem eq_impl_board_turned (wr : List UInt8) (ww : Int) (wh : Int) (wc : List UInt8) (wx : Int) (wy : Int) (wd : Int) (q : Int) (K : V → Prop) : VC_impl_board_turned wr ww wh wc wx wy wd q K = vbody Tryd.prog (vin Tryd.prog TV1_21 annTV1 3) TV1_21.looks (annTV1 80) 80 [.agg [.str wr, .int .i64 ww, .int .i64 wh, .str wc, .int .i64 wx, .int .i64 wy, .int .i64 wd], .int .i64 q] [] (fun v _ => K v) := by kernel_rfl
theorem ok_impl_board_turned : OK Tryd.prog 80 F_impl_board_turned.spec := (vbody_ok (vin_ok TV1_21_ok annTV1 3) TV1_21_ok.looks _ _).ofF fun args m p R h hp => by
  unfold F_impl_board_turned at h
  split at h
  · injection h with h; injection h with h1 h2; subst h1; subst h2
    exact ⟨rfl, (congrArg At (eq_impl_board_turned _ _ _ _ _ _ _ _ _)).mp ⟨vc_impl_board_turned _ _ _ _ _ _ _ _ hp⟩⟩
  · cases h
def TV1_22 : Tab := TV1_21.add 80 F_impl_board_turned
theorem TV1_22_ok : TV1_22.Ok Tryd.prog := TV1_21_ok.add ok_impl_board_turned
theorem eq_impl_board_moved (wr : List UInt8) (ww : Int) (wh : Int) (wc : List UInt8) (wx : Int) (wy : Int) (wd : Int) (k : Int) (K : V → Prop) : VC_impl_board_moved wr ww wh wc wx wy wd k K = vbody Tryd.prog (vin Tryd.prog TV1_22 annTV1 3) TV1_22.looks (annTV1 84) 84 [.agg [.str wr, .int .i64 ww, .int .i64 wh, .str wc, .int .i64 wx, .int .i64 wy, .int .i64 wd], .int .i64 k] [] (fun v _ => K v) := by kernel_rfl
theorem ok_impl_board_moved : OK Tryd.prog 84 F_impl_board_moved.spec := (vbody_ok (vin_ok TV1_22_ok annTV1 3) TV1_22_ok.looks _ _).ofF fun args m p R h hp => by
  unfold F_impl_board_moved at h
  split at h
  · injection h with h; injection h with h1 h2; subst h1; subst h2
    exact ⟨rfl, (congrArg At (eq_impl_board_moved _ _ _ _ _ _ _ _ _)).mp ⟨vc_impl_board_moved _ _ _ _ _ _ _ _ hp⟩⟩
  · cases h
def TV1_23 : Tab := TV1_22.add 84 F_impl_board_moved
theorem TV1_23_ok : TV1_23.Ok Tryd.prog := TV1_22_ok.add ok_impl_board_moved
theorem eq_spec_woPaint (x : Int) (y : Int) (k : Int) (wr : List UInt8) (ww : Int) (wh : Int) (wc : List UInt8) (wx : Int) (wy : Int) (wd : Int) (e : TypeId) (K : V → List Blk → Prop) : VC_spec_woPaint x y k wr ww wh wc wx wy wd e K = vbody Tryd.prog (vin Tryd.prog TV1_23 annTV1 3) TV1_23.looks (annTV1 68) 68 [.ptr 0 0, .int .i64 x, .int .i64 y, .int .i64 k] [⟨.vals [.str wr, .int .i64 ww, .int .i64 wh, .str wc, .int .i64 wx, .int .i64 wy, .int .i64 wd], e, .box⟩] (K) := by kernel_rfl
theorem ok_spec_woPaint : OK Tryd.prog 68 F_spec_woPaint.spec := (vbody_ok (vin_ok TV1_23_ok annTV1 3) TV1_23_ok.looks _ _).ofG fun args m p R M h hp => by
  unfold F_spec_woPaint at h
  split at h
  · injection h with h; injection h with h1 h2; injection h2 with h2 h3; subst h1; subst h2; subst h3
    exact (congrArg At (eq_spec_woPaint _ _ _ _ _ _ _ _ _ _ _ _)).mp ⟨vc_spec_woPaint _ _ _ _ _ _ _ _ _ _ _ hp⟩
  · cases h
def TV1_24 : Tab := TV1_23.addG 68 F_spec_woPaint
theorem TV1_24_ok : TV1_24.Ok Tryd.prog := TV1_23_ok.addG ok_spec_woPaint
theorem eq_spec_woGo (k : Int) (wr : List UInt8) (ww : Int) (wh : Int) (wc : List UInt8) (wx : Int) (wy : Int) (wd : Int) (e : TypeId) (K : V → List Blk → Prop) : VC_spec_woGo k wr ww wh wc wx wy wd e K = vbody Tryd.prog (vin Tryd.prog TV1_24 annTV1 3) TV1_24.looks (annTV1 69) 69 [.ptr 0 0, .int .i64 k] [⟨.vals [.str wr, .int .i64 ww, .int .i64 wh, .str wc, .int .i64 wx, .int .i64 wy, .int .i64 wd], e, .box⟩] (K) := by kernel_rfl
theorem ok_spec_woGo : OK Tryd.prog 69 F_spec_woGo.spec := (vbody_ok (vin_ok TV1_24_ok annTV1 3) TV1_24_ok.looks _ _).ofG fun args m p R M h hp => by
  unfold F_spec_woGo at h
  split at h
  · injection h with h; injection h with h1 h2; injection h2 with h2 h3; subst h1; subst h2; subst h3
    exact (congrArg At (eq_spec_woGo _ _ _ _ _ _ _ _ _ _)).mp ⟨vc_spec_woGo _ _ _ _ _ _ _ _ _ hp⟩
  · cases h
def TV1_25 : Tab := TV1_24.addG 69 F_spec_woGo
theorem TV1_25_ok : TV1_25.Ok Tryd.prog := TV1_24_ok.addG ok_spec_woGo
theorem eq_spec_woStep (wr : List UInt8) (ww : Int) (wh : Int) (wc : List UInt8) (wx : Int) (wy : Int) (wd : Int) (K : V → Prop) : VC_spec_woStep wr ww wh wc wx wy wd K = vbody Tryd.prog (vin Tryd.prog TV1_25 annTV1 4) TV1_25.looks (annTV1 46) 46 [.agg [.str wr, .int .i64 ww, .int .i64 wh, .str wc, .int .i64 wx, .int .i64 wy, .int .i64 wd]] [] (fun v _ => K v) := by kernel_rfl
theorem ok_spec_woStep : OK Tryd.prog 46 F_spec_woStep.spec := (vbody_ok (vin_ok TV1_25_ok annTV1 4) TV1_25_ok.looks _ _).ofF fun args m p R h hp => by
  unfold F_spec_woStep at h
  split at h
  · injection h with h; injection h with h1 h2; subst h1; subst h2
    exact ⟨rfl, (congrArg At (eq_spec_woStep _ _ _ _ _ _ _ _)).mp ⟨vc_spec_woStep _ _ _ _ _ _ _ hp⟩⟩
  · cases h
def TV1_26 : Tab := TV1_25.add 46 F_spec_woStep
theorem TV1_26_ok : TV1_26.Ok Tryd.prog := TV1_25_ok.add ok_spec_woStep
theorem eq_impl_board_forth (wr : List UInt8) (ww : Int) (wh : Int) (wc : List UInt8) (wx : Int) (wy : Int) (wd : Int) (K : V → Prop) : VC_impl_board_forth wr ww wh wc wx wy wd K = vbody Tryd.prog (vin Tryd.prog TV1_26 annTV1 4) TV1_26.looks (annTV1 65) 65 [.agg [.str wr, .int .i64 ww, .int .i64 wh, .str wc, .int .i64 wx, .int .i64 wy, .int .i64 wd]] [] (fun v _ => K v) := by kernel_rfl
theorem ok_impl_board_forth : OK Tryd.prog 65 F_impl_board_forth.spec := (vbody_ok (vin_ok TV1_26_ok annTV1 4) TV1_26_ok.looks _ _).ofF fun args m p R h hp => by
  unfold F_impl_board_forth at h
  split at h
  · injection h with h; injection h with h1 h2; subst h1; subst h2
    exact ⟨rfl, (congrArg At (eq_impl_board_forth _ _ _ _ _ _ _ _)).mp ⟨vc_impl_board_forth _ _ _ _ _ _ _ hp⟩⟩
  · cases h
def TV1_27 : Tab := TV1_26.add 65 F_impl_board_forth
theorem TV1_27_ok : TV1_27.Ok Tryd.prog := TV1_26_ok.add ok_impl_board_forth
theorem eq_laws_toWorld (wr : List UInt8) (ww : Int) (wh : Int) (wc : List UInt8) (wx : Int) (wy : Int) (wd : Int) (K : V → Prop) : VC_laws_toWorld wr ww wh wc wx wy wd K = vbody Tryd.prog (vin Tryd.prog TV1_27 annTV1 3) TV1_27.looks (annTV1 16) 16 [.agg [.str wr, .int .i64 ww, .int .i64 wh, .str wc, .int .i64 wx, .int .i64 wy, .int .i64 wd]] [] (fun v _ => K v) := by kernel_rfl
theorem ok_laws_toWorld : OK Tryd.prog 16 F_laws_toWorld.spec := (vbody_ok (vin_ok TV1_27_ok annTV1 3) TV1_27_ok.looks _ _).ofF fun args m p R h hp => by
  unfold F_laws_toWorld at h
  split at h
  · injection h with h; injection h with h1 h2; subst h1; subst h2
    exact ⟨rfl, (congrArg At (eq_laws_toWorld _ _ _ _ _ _ _ _)).mp ⟨vc_laws_toWorld _ _ _ _ _ _ _ hp⟩⟩
  · cases h
def TV1_28 : Tab := TV1_27.add 16 F_laws_toWorld
theorem TV1_28_ok : TV1_28.Ok Tryd.prog := TV1_27_ok.add ok_laws_toWorld
theorem eq_spec_loPeriod (wr : List UInt8) (ww : Int) (wh : Int) (wc : List UInt8) (wx : Int) (wy : Int) (wd : Int) (K : V → Prop) : VC_spec_loPeriod wr ww wh wc wx wy wd K = vbody Tryd.prog (vin Tryd.prog TV1_28 annTV1 3) TV1_28.looks (annTV1 43) 43 [.agg [.str wr, .int .i64 ww, .int .i64 wh, .str wc, .int .i64 wx, .int .i64 wy, .int .i64 wd]] [] (fun v _ => K v) := by kernel_rfl
theorem ok_spec_loPeriod : OK Tryd.prog 43 F_spec_loPeriod.spec := (vbody_ok (vin_ok TV1_28_ok annTV1 3) TV1_28_ok.looks _ _).ofF fun args m p R h hp => by
  unfold F_spec_loPeriod at h
  split at h
  · injection h with h; injection h with h1 h2; subst h1; subst h2
    exact ⟨rfl, (congrArg At (eq_spec_loPeriod _ _ _ _ _ _ _ _)).mp ⟨vc_spec_loPeriod _ _ _ _ _ _ _ hp⟩⟩
  · cases h
def TV1_29 : Tab := TV1_28.add 43 F_spec_loPeriod
theorem TV1_29_ok : TV1_29.Ok Tryd.prog := TV1_28_ok.add ok_spec_loPeriod
theorem eq_impl_PeriodOf_1 (wr : List UInt8) (ww : Int) (wh : Int) (wc : List UInt8) (wx : Int) (wy : Int) (wd : Int) (zr : List UInt8) (zw : Int) (zh : Int) (zc : List UInt8) (zx : Int) (zy : Int) (zd : Int) (K : V → List Blk → Prop) : VC_impl_PeriodOf_1 wr ww wh wc wx wy wd zr zw zh zc zx zy zd K = vbody Tryd.prog (vin Tryd.prog TV1_29 annTV1 3) TV1_29.looks (annTV1 45) 45 [.agg [.str wr, .int .i64 ww, .int .i64 wh, .str wc, .int .i64 wx, .int .i64 wy, .int .i64 wd], .ptr 0 0] [⟨.vals [.str zr, .int .i64 zw, .int .i64 zh, .str zc, .int .i64 zx, .int .i64 zy, .int .i64 zd], 27, .box⟩] (K) := by kernel_rfl
theorem ok_impl_PeriodOf_1 : OK Tryd.prog 45 F_impl_PeriodOf_1.spec := (vbody_ok (vin_ok TV1_29_ok annTV1 3) TV1_29_ok.looks _ _).ofFM fun args m p R h hp => by
  unfold F_impl_PeriodOf_1 at h
  split at h
  · injection h with h; injection h with h1 h2; subst h1; subst h2
    exact (congrArg At (eq_impl_PeriodOf_1 _ _ _ _ _ _ _ _ _ _ _ _ _ _ _)).mp ⟨vc_impl_PeriodOf_1 _ _ _ _ _ _ _ _ _ _ _ _ _ _ hp⟩
  · cases h
def TV1_30 : Tab := TV1_29.add 45 F_impl_PeriodOf_1
theorem TV1_30_ok : TV1_30.Ok Tryd.prog := TV1_29_ok.add ok_impl_PeriodOf_1
theorem eq_spec_PeriodOf (wr : List UInt8) (ww : Int) (wh : Int) (wc : List UInt8) (wx : Int) (wy : Int) (wd : Int) (K : V → Prop) : VC_spec_PeriodOf wr ww wh wc wx wy wd K = vbody Tryd.prog (vin Tryd.prog TV1_30 annTV1 3) TV1_30.looks (annTV1 15) 15 [.agg [.str wr, .int .i64 ww, .int .i64 wh, .str wc, .int .i64 wx, .int .i64 wy, .int .i64 wd]] [] (fun v _ => K v) := by kernel_rfl
theorem ok_spec_PeriodOf : OK Tryd.prog 15 F_spec_PeriodOf.spec := (vbody_ok (vin_ok TV1_30_ok annTV1 3) TV1_30_ok.looks _ _).ofF fun args m p R h hp => by
  unfold F_spec_PeriodOf at h
  split at h
  · injection h with h; injection h with h1 h2; subst h1; subst h2
    exact ⟨rfl, (congrArg At (eq_spec_PeriodOf _ _ _ _ _ _ _ _)).mp ⟨vc_spec_PeriodOf _ _ _ _ _ _ _ hp⟩⟩
  · cases h
def TV1_31 : Tab := TV1_30.add 15 F_spec_PeriodOf
theorem TV1_31_ok : TV1_31.Ok Tryd.prog := TV1_30_ok.add ok_spec_PeriodOf
theorem eq_impl_PeriodOf (wr : List UInt8) (ww : Int) (wh : Int) (wc : List UInt8) (wx : Int) (wy : Int) (wd : Int) (K : V → Prop) : VC_impl_PeriodOf wr ww wh wc wx wy wd K = vbody Tryd.prog (vin Tryd.prog TV1_31 annTV1 3) TV1_31.looks (annTV1 17) 17 [.agg [.str wr, .int .i64 ww, .int .i64 wh, .str wc, .int .i64 wx, .int .i64 wy, .int .i64 wd]] [] (fun v _ => K v) := by kernel_rfl
theorem ok_impl_PeriodOf : OK Tryd.prog 17 F_impl_PeriodOf.spec := (vbody_ok (vin_ok TV1_31_ok annTV1 3) TV1_31_ok.looks _ _).ofF fun args m p R h hp => by
  unfold F_impl_PeriodOf at h
  split at h
  · injection h with h; injection h with h1 h2; subst h1; subst h2
    exact ⟨rfl, (congrArg At (eq_impl_PeriodOf _ _ _ _ _ _ _ _)).mp ⟨vc_impl_PeriodOf _ _ _ _ _ _ _ hp⟩⟩
  · cases h
def TV1_32 : Tab := TV1_31.add 17 F_impl_PeriodOf
theorem TV1_32_ok : TV1_32.Ok Tryd.prog := TV1_31_ok.add ok_impl_PeriodOf
theorem eq_spec_woSteps (wr : List UInt8) (ww : Int) (wh : Int) (wc : List UInt8) (wx : Int) (wy : Int) (wd : Int) (steps : Int) (K : V → Prop) : VC_spec_woSteps wr ww wh wc wx wy wd steps K = vbody Tryd.prog (vin Tryd.prog TV1_32 annTV1 3) TV1_32.looks (annTV1 51) 51 [.agg [.str wr, .int .i64 ww, .int .i64 wh, .str wc, .int .i64 wx, .int .i64 wy, .int .i64 wd], .int .i64 steps] [] (fun v _ => K v) := by kernel_rfl
theorem ok_spec_woSteps : OK Tryd.prog 51 F_spec_woSteps.spec := (vbody_ok (vin_ok TV1_32_ok annTV1 3) TV1_32_ok.looks _ _).ofF fun args m p R h hp => by
  unfold F_spec_woSteps at h
  split at h
  · injection h with h; injection h with h1 h2; subst h1; subst h2
    exact ⟨rfl, (congrArg At (eq_spec_woSteps _ _ _ _ _ _ _ _ _)).mp ⟨vc_spec_woSteps _ _ _ _ _ _ _ _ hp⟩⟩
  · cases h
def TV1_33 : Tab := TV1_32.add 51 F_spec_woSteps
theorem TV1_33_ok : TV1_33.Ok Tryd.prog := TV1_32_ok.add ok_spec_woSteps
theorem eq_spec_loVisits (wr : List UInt8) (ww : Int) (wh : Int) (wc : List UInt8) (wx : Int) (wy : Int) (wd : Int) (steps : Int) (K : V → List Blk → Prop) : VC_spec_loVisits wr ww wh wc wx wy wd steps K = vbody Tryd.prog (vin Tryd.prog TV1_33 annTV1 3) TV1_33.looks (annTV1 52) 52 [.agg [.str wr, .int .i64 ww, .int .i64 wh, .str wc, .int .i64 wx, .int .i64 wy, .int .i64 wd], .int .i64 steps] [] (K) := by kernel_rfl
theorem ok_spec_loVisits : OK Tryd.prog 52 F_spec_loVisits.spec := (vbody_ok (vin_ok TV1_33_ok annTV1 3) TV1_33_ok.looks _ _).ofG fun args m p R M h hp => by
  unfold F_spec_loVisits at h
  split at h
  · injection h with h; injection h with h1 h2; injection h2 with h2 h3; subst h1; subst h2; subst h3
    exact (congrArg At (eq_spec_loVisits _ _ _ _ _ _ _ _ _)).mp ⟨vc_spec_loVisits _ _ _ _ _ _ _ _ hp⟩
  · cases h
def TV1_34 : Tab := TV1_33.addG 52 F_spec_loVisits
theorem TV1_34_ok : TV1_34.Ok Tryd.prog := TV1_33_ok.addG ok_spec_loVisits
theorem eq_impl_trackOf (wr : List UInt8) (ww : Int) (wh : Int) (wc : List UInt8) (wx : Int) (wy : Int) (wd : Int) (steps : Int) (K : V → List Blk → Prop) : VC_impl_trackOf wr ww wh wc wx wy wd steps K = vbody Tryd.prog (vin Tryd.prog TV1_34 annTV1 3) TV1_34.looks (annTV1 56) 56 [.agg [.str wr, .int .i64 ww, .int .i64 wh, .str wc, .int .i64 wx, .int .i64 wy, .int .i64 wd], .int .i64 steps] [] (K) := by kernel_rfl
theorem ok_impl_trackOf : OK Tryd.prog 56 F_impl_trackOf.spec := (vbody_ok (vin_ok TV1_34_ok annTV1 3) TV1_34_ok.looks _ _).ofG fun args m p R M h hp => by
  unfold F_impl_trackOf at h
  split at h
  · injection h with h; injection h with h1 h2; injection h2 with h2 h3; subst h1; subst h2; subst h3
    exact (congrArg At (eq_impl_trackOf _ _ _ _ _ _ _ _ _)).mp ⟨vc_impl_trackOf _ _ _ _ _ _ _ _ hp⟩
  · cases h
def TV1_35 : Tab := TV1_34.addG 56 F_impl_trackOf
theorem TV1_35_ok : TV1_35.Ok Tryd.prog := TV1_34_ok.addG ok_impl_trackOf
theorem eq_impl_visitsOf (wr : List UInt8) (ww : Int) (wh : Int) (wc : List UInt8) (wx : Int) (wy : Int) (wd : Int) (steps : Int) (K : V → List Blk → Prop) : VC_impl_visitsOf wr ww wh wc wx wy wd steps K = vbody Tryd.prog (vin Tryd.prog TV1_35 annTV1 3) TV1_35.looks (annTV1 54) 54 [.agg [.str wr, .int .i64 ww, .int .i64 wh, .str wc, .int .i64 wx, .int .i64 wy, .int .i64 wd], .int .i64 steps] [] (K) := by kernel_rfl
theorem ok_impl_visitsOf : OK Tryd.prog 54 F_impl_visitsOf.spec := (vbody_ok (vin_ok TV1_35_ok annTV1 3) TV1_35_ok.looks _ _).ofG fun args m p R M h hp => by
  unfold F_impl_visitsOf at h
  split at h
  · injection h with h; injection h with h1 h2; injection h2 with h2 h3; subst h1; subst h2; subst h3
    exact (congrArg At (eq_impl_visitsOf _ _ _ _ _ _ _ _ _)).mp ⟨vc_impl_visitsOf _ _ _ _ _ _ _ _ hp⟩
  · cases h
def TV1_36 : Tab := TV1_35.addG 54 F_impl_visitsOf
theorem TV1_36_ok : TV1_36.Ok Tryd.prog := TV1_35_ok.addG ok_impl_visitsOf
theorem eq_slices_Index_int_int (v : Int) (n : Nat) (a : List Int) (K : V → List Blk → Prop) : VC_slices_Index_int_int v n a K = vbody Tryd.prog (vin Tryd.prog TV1_36 annTV1 3) TV1_36.looks (annTV1 57) 57 [.row 0 n, .int .i64 v] [⟨.ints .i64 a, 3, .row⟩] (K) := by kernel_rfl
theorem ok_slices_Index_int_int : OK Tryd.prog 57 F_slices_Index_int_int.spec := (vbody_ok (vin_ok TV1_36_ok annTV1 3) TV1_36_ok.looks _ _).ofFM fun args m p R h hp => by
  unfold F_slices_Index_int_int at h
  split at h
  · injection h with h; injection h with h1 h2; subst h1; subst h2
    exact (congrArg At (eq_slices_Index_int_int _ _ _ _)).mp ⟨vc_slices_Index_int_int _ _ _ hp⟩
  · cases h
def TV1_37 : Tab := TV1_36.add 57 F_slices_Index_int_int
theorem TV1_37_ok : TV1_37.Ok Tryd.prog := TV1_36_ok.add ok_slices_Index_int_int
theorem eq_slices_Max_int_int  (n : Nat) (a : List Int) (K : V → List Blk → Prop) : VC_slices_Max_int_int  n a K = vbody Tryd.prog (vin Tryd.prog TV1_37 annTV1 3) TV1_37.looks (annTV1 58) 58 [.row 0 n] [⟨.ints .i64 a, 3, .row⟩] (K) := by kernel_rfl
theorem ok_slices_Max_int_int : OK Tryd.prog 58 F_slices_Max_int_int.spec := (vbody_ok (vin_ok TV1_37_ok annTV1 3) TV1_37_ok.looks _ _).ofFM fun args m p R h hp => by
  unfold F_slices_Max_int_int at h
  split at h
  · injection h with h; injection h with h1 h2; subst h1; subst h2
    exact (congrArg At (eq_slices_Max_int_int _ _ _)).mp ⟨vc_slices_Max_int_int _ _ hp⟩
  · cases h
def TV1_38 : Tab := TV1_37.add 58 F_slices_Max_int_int
theorem TV1_38_ok : TV1_38.Ok Tryd.prog := TV1_37_ok.add ok_slices_Max_int_int
theorem eq_spec_VisitsAfter (wr : List UInt8) (ww : Int) (wh : Int) (wc : List UInt8) (wx : Int) (wy : Int) (wd : Int) (steps : Int) (K : V → List Blk → Prop) : VC_spec_VisitsAfter wr ww wh wc wx wy wd steps K = vbody Tryd.prog (vin Tryd.prog TV1_38 annTV1 3) TV1_38.looks (annTV1 24) 24 [.agg [.str wr, .int .i64 ww, .int .i64 wh, .str wc, .int .i64 wx, .int .i64 wy, .int .i64 wd], .int .i64 steps] [] (K) := by kernel_rfl
theorem ok_spec_VisitsAfter : OK Tryd.prog 24 F_spec_VisitsAfter.spec := (vbody_ok (vin_ok TV1_38_ok annTV1 3) TV1_38_ok.looks _ _).ofG fun args m p R M h hp => by
  unfold F_spec_VisitsAfter at h
  split at h
  · injection h with h; injection h with h1 h2; injection h2 with h2 h3; subst h1; subst h2; subst h3
    exact (congrArg At (eq_spec_VisitsAfter _ _ _ _ _ _ _ _ _)).mp ⟨vc_spec_VisitsAfter _ _ _ _ _ _ _ _ hp⟩
  · cases h
def TV1_39 : Tab := TV1_38.addG 24 F_spec_VisitsAfter
theorem TV1_39_ok : TV1_39.Ok Tryd.prog := TV1_38_ok.addG ok_spec_VisitsAfter
theorem eq_impl_VisitsAfter (wr : List UInt8) (ww : Int) (wh : Int) (wc : List UInt8) (wx : Int) (wy : Int) (wd : Int) (steps : Int) (K : V → List Blk → Prop) : VC_impl_VisitsAfter wr ww wh wc wx wy wd steps K = vbody Tryd.prog (vin Tryd.prog TV1_39 annTV1 3) TV1_39.looks (annTV1 25) 25 [.agg [.str wr, .int .i64 ww, .int .i64 wh, .str wc, .int .i64 wx, .int .i64 wy, .int .i64 wd], .int .i64 steps] [] (K) := by kernel_rfl
theorem ok_impl_VisitsAfter : OK Tryd.prog 25 F_impl_VisitsAfter.spec := (vbody_ok (vin_ok TV1_39_ok annTV1 3) TV1_39_ok.looks _ _).ofG fun args m p R M h hp => by
  unfold F_impl_VisitsAfter at h
  split at h
  · injection h with h; injection h with h1 h2; injection h2 with h2 h3; subst h1; subst h2; subst h3
    exact (congrArg At (eq_impl_VisitsAfter _ _ _ _ _ _ _ _ _)).mp ⟨vc_impl_VisitsAfter _ _ _ _ _ _ _ _ hp⟩
  · cases h
def TV1_40 : Tab := TV1_39.addG 25 F_impl_VisitsAfter
theorem TV1_40_ok : TV1_40.Ok Tryd.prog := TV1_39_ok.addG ok_impl_VisitsAfter
theorem eq_spec_TrackAfter (wr : List UInt8) (ww : Int) (wh : Int) (wc : List UInt8) (wx : Int) (wy : Int) (wd : Int) (steps : Int) (K : V → List Blk → Prop) : VC_spec_TrackAfter wr ww wh wc wx wy wd steps K = vbody Tryd.prog (vin Tryd.prog TV1_40 annTV1 3) TV1_40.looks (annTV1 29) 29 [.agg [.str wr, .int .i64 ww, .int .i64 wh, .str wc, .int .i64 wx, .int .i64 wy, .int .i64 wd], .int .i64 steps] [] (K) := by kernel_rfl
theorem ok_spec_TrackAfter : OK Tryd.prog 29 F_spec_TrackAfter.spec := (vbody_ok (vin_ok TV1_40_ok annTV1 3) TV1_40_ok.looks _ _).ofG fun args m p R M h hp => by
  unfold F_spec_TrackAfter at h
  split at h
  · injection h with h; injection h with h1 h2; injection h2 with h2 h3; subst h1; subst h2; subst h3
    exact (congrArg At (eq_spec_TrackAfter _ _ _ _ _ _ _ _ _)).mp ⟨vc_spec_TrackAfter _ _ _ _ _ _ _ _ hp⟩
  · cases h
def TV1_41 : Tab := TV1_40.addG 29 F_spec_TrackAfter
theorem TV1_41_ok : TV1_41.Ok Tryd.prog := TV1_40_ok.addG ok_spec_TrackAfter
theorem eq_impl_TrackAfter (wr : List UInt8) (ww : Int) (wh : Int) (wc : List UInt8) (wx : Int) (wy : Int) (wd : Int) (steps : Int) (K : V → List Blk → Prop) : VC_impl_TrackAfter wr ww wh wc wx wy wd steps K = vbody Tryd.prog (vin Tryd.prog TV1_41 annTV1 3) TV1_41.looks (annTV1 30) 30 [.agg [.str wr, .int .i64 ww, .int .i64 wh, .str wc, .int .i64 wx, .int .i64 wy, .int .i64 wd], .int .i64 steps] [] (K) := by kernel_rfl
theorem ok_impl_TrackAfter : OK Tryd.prog 30 F_impl_TrackAfter.spec := (vbody_ok (vin_ok TV1_41_ok annTV1 3) TV1_41_ok.looks _ _).ofG fun args m p R M h hp => by
  unfold F_impl_TrackAfter at h
  split at h
  · injection h with h; injection h with h1 h2; injection h2 with h2 h3; subst h1; subst h2; subst h3
    exact (congrArg At (eq_impl_TrackAfter _ _ _ _ _ _ _ _ _)).mp ⟨vc_impl_TrackAfter _ _ _ _ _ _ _ _ hp⟩
  · cases h
def TV1_42 : Tab := TV1_41.addG 30 F_impl_TrackAfter
theorem TV1_42_ok : TV1_42.Ok Tryd.prog := TV1_41_ok.addG ok_impl_TrackAfter
theorem eq_spec_CellsVisited (wr : List UInt8) (ww : Int) (wh : Int) (wc : List UInt8) (wx : Int) (wy : Int) (wd : Int) (steps : Int) (K : V → Prop) : VC_spec_CellsVisited wr ww wh wc wx wy wd steps K = vbody Tryd.prog (vin Tryd.prog TV1_42 annTV1 3) TV1_42.looks (annTV1 31) 31 [.agg [.str wr, .int .i64 ww, .int .i64 wh, .str wc, .int .i64 wx, .int .i64 wy, .int .i64 wd], .int .i64 steps] [] (fun v _ => K v) := by kernel_rfl
theorem ok_spec_CellsVisited : OK Tryd.prog 31 F_spec_CellsVisited.spec := (vbody_ok (vin_ok TV1_42_ok annTV1 3) TV1_42_ok.looks _ _).ofF fun args m p R h hp => by
  unfold F_spec_CellsVisited at h
  split at h
  · injection h with h; injection h with h1 h2; subst h1; subst h2
    exact ⟨rfl, (congrArg At (eq_spec_CellsVisited _ _ _ _ _ _ _ _ _)).mp ⟨vc_spec_CellsVisited _ _ _ _ _ _ _ _ hp⟩⟩
  · cases h
def TV1_43 : Tab := TV1_42.add 31 F_spec_CellsVisited
theorem TV1_43_ok : TV1_43.Ok Tryd.prog := TV1_42_ok.add ok_spec_CellsVisited
theorem eq_impl_CellsVisited (wr : List UInt8) (ww : Int) (wh : Int) (wc : List UInt8) (wx : Int) (wy : Int) (wd : Int) (steps : Int) (K : V → Prop) : VC_impl_CellsVisited wr ww wh wc wx wy wd steps K = vbody Tryd.prog (vin Tryd.prog TV1_43 annTV1 3) TV1_43.looks (annTV1 32) 32 [.agg [.str wr, .int .i64 ww, .int .i64 wh, .str wc, .int .i64 wx, .int .i64 wy, .int .i64 wd], .int .i64 steps] [] (fun v _ => K v) := by kernel_rfl
theorem ok_impl_CellsVisited : OK Tryd.prog 32 F_impl_CellsVisited.spec := (vbody_ok (vin_ok TV1_43_ok annTV1 3) TV1_43_ok.looks _ _).ofF fun args m p R h hp => by
  unfold F_impl_CellsVisited at h
  split at h
  · injection h with h; injection h with h1 h2; subst h1; subst h2
    exact ⟨rfl, (congrArg At (eq_impl_CellsVisited _ _ _ _ _ _ _ _ _)).mp ⟨vc_impl_CellsVisited _ _ _ _ _ _ _ _ hp⟩⟩
  · cases h
def TV1_44 : Tab := TV1_43.add 32 F_impl_CellsVisited
theorem TV1_44_ok : TV1_44.Ok Tryd.prog := TV1_43_ok.add ok_impl_CellsVisited
theorem eq_spec_MostVisited (wr : List UInt8) (ww : Int) (wh : Int) (wc : List UInt8) (wx : Int) (wy : Int) (wd : Int) (steps : Int) (K : V → Prop) : VC_spec_MostVisited wr ww wh wc wx wy wd steps K = vbody Tryd.prog (vin Tryd.prog TV1_44 annTV1 3) TV1_44.looks (annTV1 35) 35 [.agg [.str wr, .int .i64 ww, .int .i64 wh, .str wc, .int .i64 wx, .int .i64 wy, .int .i64 wd], .int .i64 steps] [] (fun v _ => K v) := by kernel_rfl
theorem ok_spec_MostVisited : OK Tryd.prog 35 F_spec_MostVisited.spec := (vbody_ok (vin_ok TV1_44_ok annTV1 3) TV1_44_ok.looks _ _).ofF fun args m p R h hp => by
  unfold F_spec_MostVisited at h
  split at h
  · injection h with h; injection h with h1 h2; subst h1; subst h2
    exact ⟨rfl, (congrArg At (eq_spec_MostVisited _ _ _ _ _ _ _ _ _)).mp ⟨vc_spec_MostVisited _ _ _ _ _ _ _ _ hp⟩⟩
  · cases h
def TV1_45 : Tab := TV1_44.add 35 F_spec_MostVisited
theorem TV1_45_ok : TV1_45.Ok Tryd.prog := TV1_44_ok.add ok_spec_MostVisited
theorem eq_impl_MostVisited (wr : List UInt8) (ww : Int) (wh : Int) (wc : List UInt8) (wx : Int) (wy : Int) (wd : Int) (steps : Int) (K : V → Prop) : VC_impl_MostVisited wr ww wh wc wx wy wd steps K = vbody Tryd.prog (vin Tryd.prog TV1_45 annTV1 3) TV1_45.looks (annTV1 36) 36 [.agg [.str wr, .int .i64 ww, .int .i64 wh, .str wc, .int .i64 wx, .int .i64 wy, .int .i64 wd], .int .i64 steps] [] (fun v _ => K v) := by kernel_rfl
theorem ok_impl_MostVisited : OK Tryd.prog 36 F_impl_MostVisited.spec := (vbody_ok (vin_ok TV1_45_ok annTV1 3) TV1_45_ok.looks _ _).ofF fun args m p R h hp => by
  unfold F_impl_MostVisited at h
  split at h
  · injection h with h; injection h with h1 h2; subst h1; subst h2
    exact ⟨rfl, (congrArg At (eq_impl_MostVisited _ _ _ _ _ _ _ _ _)).mp ⟨vc_impl_MostVisited _ _ _ _ _ _ _ _ hp⟩⟩
  · cases h
def TV1_46 : Tab := TV1_45.add 36 F_impl_MostVisited
theorem TV1_46_ok : TV1_46.Ok Tryd.prog := TV1_45_ok.add ok_impl_MostVisited
theorem eq_spec_CoverSteps (wr : List UInt8) (ww : Int) (wh : Int) (wc : List UInt8) (wx : Int) (wy : Int) (wd : Int) (K : V → Prop) : VC_spec_CoverSteps wr ww wh wc wx wy wd K = vbody Tryd.prog (vin Tryd.prog TV1_46 annTV1 3) TV1_46.looks (annTV1 33) 33 [.agg [.str wr, .int .i64 ww, .int .i64 wh, .str wc, .int .i64 wx, .int .i64 wy, .int .i64 wd]] [] (fun v _ => K v) := by kernel_rfl
theorem ok_spec_CoverSteps : OK Tryd.prog 33 F_spec_CoverSteps.spec := (vbody_ok (vin_ok TV1_46_ok annTV1 3) TV1_46_ok.looks _ _).ofF fun args m p R h hp => by
  unfold F_spec_CoverSteps at h
  split at h
  · injection h with h; injection h with h1 h2; subst h1; subst h2
    exact ⟨rfl, (congrArg At (eq_spec_CoverSteps _ _ _ _ _ _ _ _)).mp ⟨vc_spec_CoverSteps _ _ _ _ _ _ _ hp⟩⟩
  · cases h
def TV1_47 : Tab := TV1_46.add 33 F_spec_CoverSteps
theorem TV1_47_ok : TV1_47.Ok Tryd.prog := TV1_46_ok.add ok_spec_CoverSteps
theorem eq_impl_CoverSteps (wr : List UInt8) (ww : Int) (wh : Int) (wc : List UInt8) (wx : Int) (wy : Int) (wd : Int) (K : V → Prop) : VC_impl_CoverSteps wr ww wh wc wx wy wd K = vbody Tryd.prog (vin Tryd.prog TV1_47 annTV1 3) TV1_47.looks (annTV1 34) 34 [.agg [.str wr, .int .i64 ww, .int .i64 wh, .str wc, .int .i64 wx, .int .i64 wy, .int .i64 wd]] [] (fun v _ => K v) := by kernel_rfl
theorem ok_impl_CoverSteps : OK Tryd.prog 34 F_impl_CoverSteps.spec := (vbody_ok (vin_ok TV1_47_ok annTV1 3) TV1_47_ok.looks _ _).ofF fun args m p R h hp => by
  unfold F_impl_CoverSteps at h
  split at h
  · injection h with h; injection h with h1 h2; subst h1; subst h2
    exact ⟨rfl, (congrArg At (eq_impl_CoverSteps _ _ _ _ _ _ _ _)).mp ⟨vc_impl_CoverSteps _ _ _ _ _ _ _ hp⟩⟩
  · cases h
def TV1_48 : Tab := TV1_47.add 34 F_impl_CoverSteps
theorem TV1_48_ok : TV1_48.Ok Tryd.prog := TV1_47_ok.add ok_impl_CoverSteps
theorem eq_spec_NeverVisited (wr : List UInt8) (ww : Int) (wh : Int) (wc : List UInt8) (wx : Int) (wy : Int) (wd : Int) (K : V → List Blk → Prop) : VC_spec_NeverVisited wr ww wh wc wx wy wd K = vbody Tryd.prog (vin Tryd.prog TV1_48 annTV1 3) TV1_48.looks (annTV1 37) 37 [.agg [.str wr, .int .i64 ww, .int .i64 wh, .str wc, .int .i64 wx, .int .i64 wy, .int .i64 wd]] [] (K) := by kernel_rfl
theorem ok_spec_NeverVisited : OK Tryd.prog 37 F_spec_NeverVisited.spec := (vbody_ok (vin_ok TV1_48_ok annTV1 3) TV1_48_ok.looks _ _).ofG fun args m p R M h hp => by
  unfold F_spec_NeverVisited at h
  split at h
  · injection h with h; injection h with h1 h2; injection h2 with h2 h3; subst h1; subst h2; subst h3
    exact (congrArg At (eq_spec_NeverVisited _ _ _ _ _ _ _ _)).mp ⟨vc_spec_NeverVisited _ _ _ _ _ _ _ hp⟩
  · cases h
def TV1_49 : Tab := TV1_48.addG 37 F_spec_NeverVisited
theorem TV1_49_ok : TV1_49.Ok Tryd.prog := TV1_48_ok.addG ok_spec_NeverVisited
theorem eq_impl_NeverVisited (wr : List UInt8) (ww : Int) (wh : Int) (wc : List UInt8) (wx : Int) (wy : Int) (wd : Int) (K : V → List Blk → Prop) : VC_impl_NeverVisited wr ww wh wc wx wy wd K = vbody Tryd.prog (vin Tryd.prog TV1_49 annTV1 3) TV1_49.looks (annTV1 38) 38 [.agg [.str wr, .int .i64 ww, .int .i64 wh, .str wc, .int .i64 wx, .int .i64 wy, .int .i64 wd]] [] (K) := by kernel_rfl
theorem ok_impl_NeverVisited : OK Tryd.prog 38 F_impl_NeverVisited.spec := (vbody_ok (vin_ok TV1_49_ok annTV1 3) TV1_49_ok.looks _ _).ofG fun args m p R M h hp => by
  unfold F_impl_NeverVisited at h
  split at h
  · injection h with h; injection h with h1 h2; injection h2 with h2 h3; subst h1; subst h2; subst h3
    exact (congrArg At (eq_impl_NeverVisited _ _ _ _ _ _ _ _)).mp ⟨vc_impl_NeverVisited _ _ _ _ _ _ _ hp⟩
  · cases h
def TV1_50 : Tab := TV1_49.addG 38 F_impl_NeverVisited
theorem TV1_50_ok : TV1_50.Ok Tryd.prog := TV1_49_ok.addG ok_impl_NeverVisited
theorem eq_laws_eqIntS  (n : Nat) (m : Nat) (a : List Int) (b : List Int) (K : V → List Blk → Prop) : VC_laws_eqIntS  n m a b K = vbody Tryd.prog (vin Tryd.prog TV1_50 annTV1 3) TV1_50.looks (annTV1 26) 26 [.row 0 n, .row 1 m] [⟨.ints .i64 a, 3, .row⟩, ⟨.ints .i64 b, 3, .row⟩] (K) := by kernel_rfl
theorem ok_laws_eqIntS : OK Tryd.prog 26 F_laws_eqIntS.spec := (vbody_ok (vin_ok TV1_50_ok annTV1 3) TV1_50_ok.looks _ _).ofFM fun args m p R h hp => by
  unfold F_laws_eqIntS at h
  split at h
  · injection h with h; injection h with h1 h2; subst h1; subst h2
    exact (congrArg At (eq_laws_eqIntS _ _ _ _ _)).mp ⟨vc_laws_eqIntS _ _ _ _ hp⟩
  · cases h
def TV1_51 : Tab := TV1_50.add 26 F_laws_eqIntS
theorem TV1_51_ok : TV1_51.Ok Tryd.prog := TV1_50_ok.add ok_laws_eqIntS
theorem eq_laws_markIntS (k : Int) (n : Nat) (a : List Int) (K : V → List Blk → Prop) : VC_laws_markIntS k n a K = vbody Tryd.prog (vin Tryd.prog TV1_51 annTV1 3) TV1_51.looks (annTV1 27) 27 [.row 0 n, .int .i64 k] [⟨.ints .i64 a, 3, .row⟩] (K) := by kernel_rfl
theorem ok_laws_markIntS : OK Tryd.prog 27 F_laws_markIntS.spec := (vbody_ok (vin_ok TV1_51_ok annTV1 3) TV1_51_ok.looks _ _).ofG fun args m p R M h hp => by
  unfold F_laws_markIntS at h
  split at h
  · injection h with h; injection h with h1 h2; injection h2 with h2 h3; subst h1; subst h2; subst h3
    exact (congrArg At (eq_laws_markIntS _ _ _ _)).mp ⟨vc_laws_markIntS _ _ _ hp⟩
  · cases h
def TV1_52 : Tab := TV1_51.addG 27 F_laws_markIntS
theorem TV1_52_ok : TV1_52.Ok Tryd.prog := TV1_51_ok.addG ok_laws_markIntS
theorem eq_laws_heldIntS (k : Int) (n : Nat) (a : List Int) (K : V → List Blk → Prop) : VC_laws_heldIntS k n a K = vbody Tryd.prog (vin Tryd.prog TV1_52 annTV1 3) TV1_52.looks (annTV1 28) 28 [.row 0 n, .int .i64 k] [⟨.ints .i64 a, 3, .row⟩] (K) := by kernel_rfl
theorem ok_laws_heldIntS : OK Tryd.prog 28 F_laws_heldIntS.spec := (vbody_ok (vin_ok TV1_52_ok annTV1 3) TV1_52_ok.looks _ _).ofFM fun args m p R h hp => by
  unfold F_laws_heldIntS at h
  split at h
  · injection h with h; injection h with h1 h2; subst h1; subst h2
    exact (congrArg At (eq_laws_heldIntS _ _ _ _)).mp ⟨vc_laws_heldIntS _ _ _ hp⟩
  · cases h
def TV1_53 : Tab := TV1_52.add 28 F_laws_heldIntS
theorem TV1_53_ok : TV1_53.Ok Tryd.prog := TV1_52_ok.add ok_laws_heldIntS
def TV1 : Tab := TV1_53
theorem TV1_ok : TV1.Ok Tryd.prog := TV1_53_ok
end Go.Proofs.YtlechboepjmmhabDoor
