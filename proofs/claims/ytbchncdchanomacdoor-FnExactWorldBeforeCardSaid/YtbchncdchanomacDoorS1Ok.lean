/- The contracts of this chapter. -/
import Derived.Test.YtbchncdchanomacDoorProg
import Derived.Test.YtbchncdchanomacDoorS1Pf
import Derived.KernelRfl
namespace Go.Proofs.YtbchncdchanomacDoor
open Go Go.Vi
set_option linter.unusedVariables false
def annTS1 : FuncId → Nat → St → Option Ann := fun f => if f = 23 then ann_impl_led else if f = 27 then ann_spec_woRule else if f = 33 then ann_impl_IsRule else if f = 18 then ann_spec_woGood else if f = 35 then ann_impl_areColours else if f = 12 then ann_spec_WorldAfter else if f = 16 then ann_spec_WorldBefore else (fun _ _ => none)
def TS1_0 : Tab := Tab.none
theorem TS1_0_ok : TS1_0.Ok Tryd.prog := Tab.none_ok
theorem eq_spec_l1In (n : Int) (lo : Int) (hi : Int) (K : V → Prop) : VC_spec_l1In n lo hi K = vbody Tryd.prog (vin Tryd.prog TS1_0 annTS1 3) TS1_0.looks (annTS1 28) 28 [.int .i64 n, .int .i64 lo, .int .i64 hi] [] (fun v _ => K v) := by kernel_rfl
theorem ok_spec_l1In : OK Tryd.prog 28 F_spec_l1In.spec := (vbody_ok (vin_ok TS1_0_ok annTS1 3) TS1_0_ok.looks _ _).ofF fun args m p R h hp => by
  unfold F_spec_l1In at h
  split at h
  · injection h with h; injection h with h1 h2; subst h1; subst h2
    exact ⟨rfl, (congrArg At (eq_spec_l1In _ _ _ _)).mp ⟨vc_spec_l1In _ _ _ hp⟩⟩
  · cases h
def TS1_1 : Tab := TS1_0.add 28 F_spec_l1In
theorem TS1_1_ok : TS1_1.Ok Tryd.prog := TS1_0_ok.add ok_spec_l1In
theorem eq_impl_within (n : Int) (lo : Int) (hi : Int) (K : V → Prop) : VC_impl_within n lo hi K = vbody Tryd.prog (vin Tryd.prog TS1_1 annTS1 3) TS1_1.looks (annTS1 38) 38 [.int .i64 n, .int .i64 lo, .int .i64 hi] [] (fun v _ => K v) := by kernel_rfl
theorem ok_impl_within : OK Tryd.prog 38 F_impl_within.spec := (vbody_ok (vin_ok TS1_1_ok annTS1 3) TS1_1_ok.looks _ _).ofF fun args m p R h hp => by
  unfold F_impl_within at h
  split at h
  · injection h with h; injection h with h1 h2; subst h1; subst h2
    exact ⟨rfl, (congrArg At (eq_impl_within _ _ _ _)).mp ⟨vc_impl_within _ _ _ hp⟩⟩
  · cases h
def TS1_2 : Tab := TS1_1.add 38 F_impl_within
theorem TS1_2_ok : TS1_2.Ok Tryd.prog := TS1_1_ok.add ok_impl_within
theorem eq_impl_digit (b : Int) (K : V → Prop) : VC_impl_digit b K = vbody Tryd.prog (vin Tryd.prog TS1_2 annTS1 3) TS1_2.looks (annTS1 48) 48 [.int .u8 b] [] (fun v _ => K v) := by kernel_rfl
theorem ok_impl_digit : OK Tryd.prog 48 F_impl_digit.spec := (vbody_ok (vin_ok TS1_2_ok annTS1 3) TS1_2_ok.looks _ _).ofF fun args m p R h hp => by
  unfold F_impl_digit at h
  split at h
  · injection h with h; injection h with h1 h2; subst h1; subst h2
    exact ⟨rfl, (congrArg At (eq_impl_digit _ _)).mp ⟨vc_impl_digit _ hp⟩⟩
  · cases h
def TS1_3 : Tab := TS1_2.add 48 F_impl_digit
theorem TS1_3_ok : TS1_3.Ok Tryd.prog := TS1_2_ok.add ok_impl_digit
theorem eq_spec_woRule (s : List UInt8) (K : V → Prop) : VC_spec_woRule s K = vbody Tryd.prog (vin Tryd.prog TS1_3 annTS1 3) TS1_3.looks (annTS1 27) 27 [.str s] [] (fun v _ => K v) := by kernel_rfl
theorem ok_spec_woRule : OK Tryd.prog 27 F_spec_woRule.spec := (vbody_ok (vin_ok TS1_3_ok annTS1 3) TS1_3_ok.looks _ _).ofF fun args m p R h hp => by
  unfold F_spec_woRule at h
  split at h
  · injection h with h; injection h with h1 h2; subst h1; subst h2
    exact ⟨rfl, (congrArg At (eq_spec_woRule _ _)).mp ⟨vc_spec_woRule _ hp⟩⟩
  · cases h
def TS1_4 : Tab := TS1_3.add 27 F_spec_woRule
theorem TS1_4_ok : TS1_4.Ok Tryd.prog := TS1_3_ok.add ok_spec_woRule
theorem eq_impl_IsRule (s : List UInt8) (K : V → Prop) : VC_impl_IsRule s K = vbody Tryd.prog (vin Tryd.prog TS1_4 annTS1 3) TS1_4.looks (annTS1 33) 33 [.str s] [] (fun v _ => K v) := by kernel_rfl
theorem ok_impl_IsRule : OK Tryd.prog 33 F_impl_IsRule.spec := (vbody_ok (vin_ok TS1_4_ok annTS1 3) TS1_4_ok.looks _ _).ofF fun args m p R h hp => by
  unfold F_impl_IsRule at h
  split at h
  · injection h with h; injection h with h1 h2; subst h1; subst h2
    exact ⟨rfl, (congrArg At (eq_impl_IsRule _ _)).mp ⟨vc_impl_IsRule _ hp⟩⟩
  · cases h
def TS1_5 : Tab := TS1_4.add 33 F_impl_IsRule
theorem TS1_5_ok : TS1_5.Ok Tryd.prog := TS1_4_ok.add ok_impl_IsRule
theorem eq_spec_woGood (wr : List UInt8) (ww : Int) (wh : Int) (wc : List UInt8) (wx : Int) (wy : Int) (wd : Int) (K : V → Prop) : VC_spec_woGood wr ww wh wc wx wy wd K = vbody Tryd.prog (vin Tryd.prog TS1_5 annTS1 3) TS1_5.looks (annTS1 18) 18 [.agg [.str wr, .int .i64 ww, .int .i64 wh, .str wc, .int .i64 wx, .int .i64 wy, .int .i64 wd]] [] (fun v _ => K v) := by kernel_rfl
theorem ok_spec_woGood : OK Tryd.prog 18 F_spec_woGood.spec := (vbody_ok (vin_ok TS1_5_ok annTS1 3) TS1_5_ok.looks _ _).ofF fun args m p R h hp => by
  unfold F_spec_woGood at h
  split at h
  · injection h with h; injection h with h1 h2; subst h1; subst h2
    exact ⟨rfl, (congrArg At (eq_spec_woGood _ _ _ _ _ _ _ _)).mp ⟨vc_spec_woGood _ _ _ _ _ _ _ hp⟩⟩
  · cases h
def TS1_6 : Tab := TS1_5.add 18 F_spec_woGood
theorem TS1_6_ok : TS1_6.Ok Tryd.prog := TS1_5_ok.add ok_spec_woGood
theorem eq_impl_areColours (s : List UInt8) (n : Int) (K : V → Prop) : VC_impl_areColours s n K = vbody Tryd.prog (vin Tryd.prog TS1_6 annTS1 3) TS1_6.looks (annTS1 35) 35 [.str s, .int .i64 n] [] (fun v _ => K v) := by kernel_rfl
theorem ok_impl_areColours : OK Tryd.prog 35 F_impl_areColours.spec := (vbody_ok (vin_ok TS1_6_ok annTS1 3) TS1_6_ok.looks _ _).ofF fun args m p R h hp => by
  unfold F_impl_areColours at h
  split at h
  · injection h with h; injection h with h1 h2; subst h1; subst h2
    exact ⟨rfl, (congrArg At (eq_impl_areColours _ _ _)).mp ⟨vc_impl_areColours _ _ hp⟩⟩
  · cases h
def TS1_7 : Tab := TS1_6.add 35 F_impl_areColours
theorem TS1_7_ok : TS1_7.Ok Tryd.prog := TS1_6_ok.add ok_impl_areColours
theorem eq_impl_IsWorld (wr : List UInt8) (ww : Int) (wh : Int) (wc : List UInt8) (wx : Int) (wy : Int) (wd : Int) (K : V → Prop) : VC_impl_IsWorld wr ww wh wc wx wy wd K = vbody Tryd.prog (vin Tryd.prog TS1_7 annTS1 4) TS1_7.looks (annTS1 21) 21 [.agg [.str wr, .int .i64 ww, .int .i64 wh, .str wc, .int .i64 wx, .int .i64 wy, .int .i64 wd]] [] (fun v _ => K v) := by kernel_rfl
theorem ok_impl_IsWorld : OK Tryd.prog 21 F_impl_IsWorld.spec := (vbody_ok (vin_ok TS1_7_ok annTS1 4) TS1_7_ok.looks _ _).ofF fun args m p R h hp => by
  unfold F_impl_IsWorld at h
  split at h
  · injection h with h; injection h with h1 h2; subst h1; subst h2
    exact ⟨rfl, (congrArg At (eq_impl_IsWorld _ _ _ _ _ _ _ _)).mp ⟨vc_impl_IsWorld _ _ _ _ _ _ _ hp⟩⟩
  · cases h
def TS1_8 : Tab := TS1_7.add 21 F_impl_IsWorld
theorem TS1_8_ok : TS1_8.Ok Tryd.prog := TS1_7_ok.add ok_impl_IsWorld
theorem eq_spec_woColour (wr : List UInt8) (ww : Int) (wh : Int) (wc : List UInt8) (wx : Int) (wy : Int) (wd : Int) (x : Int) (y : Int) (K : V → Prop) : VC_spec_woColour wr ww wh wc wx wy wd x y K = vbody Tryd.prog (vin Tryd.prog TS1_8 annTS1 3) TS1_8.looks (annTS1 29) 29 [.agg [.str wr, .int .i64 ww, .int .i64 wh, .str wc, .int .i64 wx, .int .i64 wy, .int .i64 wd], .int .i64 x, .int .i64 y] [] (fun v _ => K v) := by kernel_rfl
theorem ok_spec_woColour : OK Tryd.prog 29 F_spec_woColour.spec := (vbody_ok (vin_ok TS1_8_ok annTS1 3) TS1_8_ok.looks _ _).ofF fun args m p R h hp => by
  unfold F_spec_woColour at h
  split at h
  · injection h with h; injection h with h1 h2; subst h1; subst h2
    exact ⟨rfl, (congrArg At (eq_spec_woColour _ _ _ _ _ _ _ _ _ _)).mp ⟨vc_spec_woColour _ _ _ _ _ _ _ _ _ hp⟩⟩
  · cases h
def TS1_9 : Tab := TS1_8.add 29 F_spec_woColour
theorem TS1_9_ok : TS1_9.Ok Tryd.prog := TS1_8_ok.add ok_spec_woColour
theorem eq_impl_board_colour (wr : List UInt8) (ww : Int) (wh : Int) (wc : List UInt8) (wx : Int) (wy : Int) (wd : Int) (x : Int) (y : Int) (K : V → Prop) : VC_impl_board_colour wr ww wh wc wx wy wd x y K = vbody Tryd.prog (vin Tryd.prog TS1_9 annTS1 3) TS1_9.looks (annTS1 39) 39 [.agg [.str wr, .int .i64 ww, .int .i64 wh, .str wc, .int .i64 wx, .int .i64 wy, .int .i64 wd], .int .i64 x, .int .i64 y] [] (fun v _ => K v) := by kernel_rfl
theorem ok_impl_board_colour : OK Tryd.prog 39 F_impl_board_colour.spec := (vbody_ok (vin_ok TS1_9_ok annTS1 3) TS1_9_ok.looks _ _).ofF fun args m p R h hp => by
  unfold F_impl_board_colour at h
  split at h
  · injection h with h; injection h with h1 h2; subst h1; subst h2
    exact ⟨rfl, (congrArg At (eq_impl_board_colour _ _ _ _ _ _ _ _ _ _)).mp ⟨vc_impl_board_colour _ _ _ _ _ _ _ _ _ hp⟩⟩
  · cases h
def TS1_10 : Tab := TS1_9.add 39 F_impl_board_colour
theorem TS1_10_ok : TS1_10.Ok Tryd.prog := TS1_9_ok.add ok_impl_board_colour
theorem eq_laws_szWorld (wr : List UInt8) (ww : Int) (wh : Int) (wc : List UInt8) (wx : Int) (wy : Int) (wd : Int) (left : Int) (K : V → Prop) : VC_laws_szWorld wr ww wh wc wx wy wd left K = vbody Tryd.prog (vin Tryd.prog TS1_10 annTS1 3) TS1_10.looks (annTS1 7) 7 [.agg [.str wr, .int .i64 ww, .int .i64 wh, .str wc, .int .i64 wx, .int .i64 wy, .int .i64 wd], .int .i64 left] [] (fun v _ => K v) := by kernel_rfl
theorem ok_laws_szWorld : OK Tryd.prog 7 F_laws_szWorld.spec := (vbody_ok (vin_ok TS1_10_ok annTS1 3) TS1_10_ok.looks _ _).ofF fun args m p R h hp => by
  unfold F_laws_szWorld at h
  split at h
  · injection h with h; injection h with h1 h2; subst h1; subst h2
    exact ⟨rfl, (congrArg At (eq_laws_szWorld _ _ _ _ _ _ _ _ _)).mp ⟨vc_laws_szWorld _ _ _ _ _ _ _ _ hp⟩⟩
  · cases h
def TS1_11 : Tab := TS1_10.add 7 F_laws_szWorld
theorem TS1_11_ok : TS1_11.Ok Tryd.prog := TS1_10_ok.add ok_laws_szWorld
theorem eq_laws_eqWorld (ar : List UInt8) (aw : Int) (ah : Int) (ac : List UInt8) (ax : Int) (ay : Int) (ad : Int) (br : List UInt8) (bw : Int) (bh : Int) (bc : List UInt8) (bx : Int) (by_ : Int) (bd : Int) (K : V → Prop) : VC_laws_eqWorld ar aw ah ac ax ay ad br bw bh bc bx by_ bd K = vbody Tryd.prog (vin Tryd.prog TS1_11 annTS1 3) TS1_11.looks (annTS1 11) 11 [.agg [.str ar, .int .i64 aw, .int .i64 ah, .str ac, .int .i64 ax, .int .i64 ay, .int .i64 ad], .agg [.str br, .int .i64 bw, .int .i64 bh, .str bc, .int .i64 bx, .int .i64 by_, .int .i64 bd]] [] (fun v _ => K v) := by kernel_rfl
theorem ok_laws_eqWorld : OK Tryd.prog 11 F_laws_eqWorld.spec := (vbody_ok (vin_ok TS1_11_ok annTS1 3) TS1_11_ok.looks _ _).ofF fun args m p R h hp => by
  unfold F_laws_eqWorld at h
  split at h
  · injection h with h; injection h with h1 h2; subst h1; subst h2
    exact ⟨rfl, (congrArg At (eq_laws_eqWorld _ _ _ _ _ _ _ _ _ _ _ _ _ _ _)).mp ⟨vc_laws_eqWorld _ _ _ _ _ _ _ _ _ _ _ _ _ _ hp⟩⟩
  · cases h
def TS1_12 : Tab := TS1_11.add 11 F_laws_eqWorld
theorem TS1_12_ok : TS1_12.Ok Tryd.prog := TS1_11_ok.add ok_laws_eqWorld
theorem eq_spec_l1Num (n : Int) (K : V → Prop) : VC_spec_l1Num n K = vbody Tryd.prog (vin Tryd.prog TS1_12 annTS1 3) TS1_12.looks (annTS1 46) 46 [.int .i64 n] [] (fun v _ => K v) := by kernel_rfl
theorem ok_spec_l1Num : OK Tryd.prog 46 F_spec_l1Num.spec := (vbody_ok (vin_ok TS1_12_ok annTS1 3) TS1_12_ok.looks _ _).ofF fun args m p R h hp => by
  unfold F_spec_l1Num at h
  split at h
  · injection h with h; injection h with h1 h2; subst h1; subst h2
    exact ⟨rfl, (congrArg At (eq_spec_l1Num _ _)).mp ⟨vc_spec_l1Num _ hp⟩⟩
  · cases h
def TS1_13 : Tab := TS1_12.add 46 F_spec_l1Num
theorem TS1_13_ok : TS1_13.Ok Tryd.prog := TS1_12_ok.add ok_spec_l1Num
theorem eq_strconv_FormatInt (n : Int) (b : Int) (K : V → Prop) : VC_strconv_FormatInt n b K = vbody Tryd.prog (vin Tryd.prog TS1_13 annTS1 3) TS1_13.looks (annTS1 52) 52 [.int .i64 n, .int .i64 b] [] (fun v _ => K v) := by kernel_rfl
theorem ok_strconv_FormatInt : OK Tryd.prog 52 F_strconv_FormatInt.spec := (vbody_ok (vin_ok TS1_13_ok annTS1 3) TS1_13_ok.looks _ _).ofF fun args m p R h hp => by
  unfold F_strconv_FormatInt at h
  split at h
  · injection h with h; injection h with h1 h2; subst h1; subst h2
    exact ⟨rfl, (congrArg At (eq_strconv_FormatInt _ _ _)).mp ⟨vc_strconv_FormatInt _ _ hp⟩⟩
  · cases h
def TS1_14 : Tab := TS1_13.add 52 F_strconv_FormatInt
theorem TS1_14_ok : TS1_14.Ok Tryd.prog := TS1_13_ok.add ok_strconv_FormatInt
theorem eq_strconv_Itoa (n : Int) (K : V → Prop) : VC_strconv_Itoa n K = vbody Tryd.prog (vin Tryd.prog TS1_14 annTS1 3) TS1_14.looks (annTS1 49) 49 [.int .i64 n] [] (fun v _ => K v) := by kernel_rfl
theorem ok_strconv_Itoa : OK Tryd.prog 49 F_strconv_Itoa.spec := (vbody_ok (vin_ok TS1_14_ok annTS1 3) TS1_14_ok.looks _ _).ofF fun args m p R h hp => by
  unfold F_strconv_Itoa at h
  split at h
  · injection h with h; injection h with h1 h2; subst h1; subst h2
    exact ⟨rfl, (congrArg At (eq_strconv_Itoa _ _)).mp ⟨vc_strconv_Itoa _ hp⟩⟩
  · cases h
def TS1_15 : Tab := TS1_14.add 49 F_strconv_Itoa
theorem TS1_15_ok : TS1_15.Ok Tryd.prog := TS1_14_ok.add ok_strconv_Itoa
theorem eq_spec_l1Mod (n : Int) (m : Int) (K : V → Prop) : VC_spec_l1Mod n m K = vbody Tryd.prog (vin Tryd.prog TS1_15 annTS1 3) TS1_15.looks (annTS1 45) 45 [.int .i64 n, .int .i64 m] [] (fun v _ => K v) := by kernel_rfl
theorem ok_spec_l1Mod : OK Tryd.prog 45 F_spec_l1Mod.spec := (vbody_ok (vin_ok TS1_15_ok annTS1 3) TS1_15_ok.looks _ _).ofF fun args m p R h hp => by
  unfold F_spec_l1Mod at h
  split at h
  · injection h with h; injection h with h1 h2; subst h1; subst h2
    exact ⟨rfl, (congrArg At (eq_spec_l1Mod _ _ _)).mp ⟨vc_spec_l1Mod _ _ hp⟩⟩
  · cases h
def TS1_16 : Tab := TS1_15.add 45 F_spec_l1Mod
theorem TS1_16_ok : TS1_16.Ok Tryd.prog := TS1_15_ok.add ok_spec_l1Mod
theorem eq_spec_woTurn (b : Int) (K : V → Prop) : VC_spec_woTurn b K = vbody Tryd.prog (vin Tryd.prog TS1_16 annTS1 3) TS1_16.looks (annTS1 30) 30 [.int .u8 b] [] (fun v _ => K v) := by kernel_rfl
theorem ok_spec_woTurn : OK Tryd.prog 30 F_spec_woTurn.spec := (vbody_ok (vin_ok TS1_16_ok annTS1 3) TS1_16_ok.looks _ _).ofF fun args m p R h hp => by
  unfold F_spec_woTurn at h
  split at h
  · injection h with h; injection h with h1 h2; subst h1; subst h2
    exact ⟨rfl, (congrArg At (eq_spec_woTurn _ _)).mp ⟨vc_spec_woTurn _ hp⟩⟩
  · cases h
def TS1_17 : Tab := TS1_16.add 30 F_spec_woTurn
theorem TS1_17_ok : TS1_17.Ok Tryd.prog := TS1_16_ok.add ok_spec_woTurn
theorem eq_impl_quarters (b : Int) (K : V → Prop) : VC_impl_quarters b K = vbody Tryd.prog (vin Tryd.prog TS1_17 annTS1 3) TS1_17.looks (annTS1 41) 41 [.int .u8 b] [] (fun v _ => K v) := by kernel_rfl
theorem ok_impl_quarters : OK Tryd.prog 41 F_impl_quarters.spec := (vbody_ok (vin_ok TS1_17_ok annTS1 3) TS1_17_ok.looks _ _).ofF fun args m p R h hp => by
  unfold F_impl_quarters at h
  split at h
  · injection h with h; injection h with h1 h2; subst h1; subst h2
    exact ⟨rfl, (congrArg At (eq_impl_quarters _ _)).mp ⟨vc_impl_quarters _ hp⟩⟩
  · cases h
def TS1_18 : Tab := TS1_17.add 41 F_impl_quarters
theorem TS1_18_ok : TS1_18.Ok Tryd.prog := TS1_17_ok.add ok_impl_quarters
theorem eq_impl_direction (d : Int) (K : V → Prop) : VC_impl_direction d K = vbody Tryd.prog (vin Tryd.prog TS1_18 annTS1 3) TS1_18.looks (annTS1 50) 50 [.int .i64 d] [] (fun v _ => K v) := by kernel_rfl
theorem ok_impl_direction : OK Tryd.prog 50 F_impl_direction.spec := (vbody_ok (vin_ok TS1_18_ok annTS1 3) TS1_18_ok.looks _ _).ofF fun args m p R h hp => by
  unfold F_impl_direction at h
  split at h
  · injection h with h; injection h with h1 h2; subst h1; subst h2
    exact ⟨rfl, (congrArg At (eq_impl_direction _ _)).mp ⟨vc_impl_direction _ hp⟩⟩
  · cases h
def TS1_19 : Tab := TS1_18.add 50 F_impl_direction
theorem TS1_19_ok : TS1_19.Ok Tryd.prog := TS1_18_ok.add ok_impl_direction
theorem eq_impl_board_sign (wr : List UInt8) (ww : Int) (wh : Int) (wc : List UInt8) (wx : Int) (wy : Int) (wd : Int) (K : V → Prop) : VC_impl_board_sign wr ww wh wc wx wy wd K = vbody Tryd.prog (vin Tryd.prog TS1_19 annTS1 3) TS1_19.looks (annTS1 42) 42 [.agg [.str wr, .int .i64 ww, .int .i64 wh, .str wc, .int .i64 wx, .int .i64 wy, .int .i64 wd]] [] (fun v _ => K v) := by kernel_rfl
theorem ok_impl_board_sign : OK Tryd.prog 42 F_impl_board_sign.spec := (vbody_ok (vin_ok TS1_19_ok annTS1 3) TS1_19_ok.looks _ _).ofF fun args m p R h hp => by
  unfold F_impl_board_sign at h
  split at h
  · injection h with h; injection h with h1 h2; subst h1; subst h2
    exact ⟨rfl, (congrArg At (eq_impl_board_sign _ _ _ _ _ _ _ _)).mp ⟨vc_impl_board_sign _ _ _ _ _ _ _ hp⟩⟩
  · cases h
def TS1_20 : Tab := TS1_19.add 42 F_impl_board_sign
theorem TS1_20_ok : TS1_20.Ok Tryd.prog := TS1_19_ok.add ok_impl_board_sign
theorem eq_impl_board_painted (wr : List UInt8) (ww : Int) (wh : Int) (wc : List UInt8) (wx : Int) (wy : Int) (wd : Int) (x : Int) (y : Int) (k : Int) (K : V → Prop) : VC_impl_board_painted wr ww wh wc wx wy wd x y k K = vbody Tryd.prog (vin Tryd.prog TS1_20 annTS1 3) TS1_20.looks (annTS1 43) 43 [.agg [.str wr, .int .i64 ww, .int .i64 wh, .str wc, .int .i64 wx, .int .i64 wy, .int .i64 wd], .int .i64 x, .int .i64 y, .int .i64 k] [] (fun v _ => K v) := by kernel_rfl
theorem ok_impl_board_painted : OK Tryd.prog 43 F_impl_board_painted.spec := (vbody_ok (vin_ok TS1_20_ok annTS1 3) TS1_20_ok.looks _ _).ofF fun args m p R h hp => by
  unfold F_impl_board_painted at h
  split at h
  · injection h with h; injection h with h1 h2; subst h1; subst h2
    exact ⟨rfl, (congrArg At (eq_impl_board_painted _ _ _ _ _ _ _ _ _ _ _)).mp ⟨vc_impl_board_painted _ _ _ _ _ _ _ _ _ _ hp⟩⟩
  · cases h
def TS1_21 : Tab := TS1_20.add 43 F_impl_board_painted
theorem TS1_21_ok : TS1_21.Ok Tryd.prog := TS1_20_ok.add ok_impl_board_painted
theorem eq_impl_board_turned (wr : List UInt8) (ww : Int) (wh : Int) (wc : List UInt8) (wx : Int) (wy : Int) (wd : Int) (q : Int) (K : V → Prop) : VC_impl_board_turned wr ww wh wc wx wy wd q K = vbody Tryd.prog (vin Tryd.prog TS1_21 annTS1 3) TS1_21.looks (annTS1 40) 40 [.agg [.str wr, .int .i64 ww, .int .i64 wh, .str wc, .int .i64 wx, .int .i64 wy, .int .i64 wd], .int .i64 q] [] (fun v _ => K v) := by kernel_rfl
theorem ok_impl_board_turned : OK Tryd.prog 40 F_impl_board_turned.spec := (vbody_ok (vin_ok TS1_21_ok annTS1 3) TS1_21_ok.looks _ _).ofF fun args m p R h hp => by
  unfold F_impl_board_turned at h
  split at h
  · injection h with h; injection h with h1 h2; subst h1; subst h2
    exact ⟨rfl, (congrArg At (eq_impl_board_turned _ _ _ _ _ _ _ _ _)).mp ⟨vc_impl_board_turned _ _ _ _ _ _ _ _ hp⟩⟩
  · cases h
def TS1_22 : Tab := TS1_21.add 40 F_impl_board_turned
theorem TS1_22_ok : TS1_22.Ok Tryd.prog := TS1_21_ok.add ok_impl_board_turned
theorem eq_impl_board_moved (wr : List UInt8) (ww : Int) (wh : Int) (wc : List UInt8) (wx : Int) (wy : Int) (wd : Int) (k : Int) (K : V → Prop) : VC_impl_board_moved wr ww wh wc wx wy wd k K = vbody Tryd.prog (vin Tryd.prog TS1_22 annTS1 3) TS1_22.looks (annTS1 44) 44 [.agg [.str wr, .int .i64 ww, .int .i64 wh, .str wc, .int .i64 wx, .int .i64 wy, .int .i64 wd], .int .i64 k] [] (fun v _ => K v) := by kernel_rfl
theorem ok_impl_board_moved : OK Tryd.prog 44 F_impl_board_moved.spec := (vbody_ok (vin_ok TS1_22_ok annTS1 3) TS1_22_ok.looks _ _).ofF fun args m p R h hp => by
  unfold F_impl_board_moved at h
  split at h
  · injection h with h; injection h with h1 h2; subst h1; subst h2
    exact ⟨rfl, (congrArg At (eq_impl_board_moved _ _ _ _ _ _ _ _ _)).mp ⟨vc_impl_board_moved _ _ _ _ _ _ _ _ hp⟩⟩
  · cases h
def TS1_23 : Tab := TS1_22.add 44 F_impl_board_moved
theorem TS1_23_ok : TS1_23.Ok Tryd.prog := TS1_22_ok.add ok_impl_board_moved
theorem eq_spec_woPaint (x : Int) (y : Int) (k : Int) (wr : List UInt8) (ww : Int) (wh : Int) (wc : List UInt8) (wx : Int) (wy : Int) (wd : Int) (e : TypeId) (K : V → List Blk → Prop) : VC_spec_woPaint x y k wr ww wh wc wx wy wd e K = vbody Tryd.prog (vin Tryd.prog TS1_23 annTS1 3) TS1_23.looks (annTS1 31) 31 [.ptr 0 0, .int .i64 x, .int .i64 y, .int .i64 k] [⟨.vals [.str wr, .int .i64 ww, .int .i64 wh, .str wc, .int .i64 wx, .int .i64 wy, .int .i64 wd], e, .box⟩] (K) := by kernel_rfl
theorem ok_spec_woPaint : OK Tryd.prog 31 F_spec_woPaint.spec := (vbody_ok (vin_ok TS1_23_ok annTS1 3) TS1_23_ok.looks _ _).ofG fun args m p R M h hp => by
  unfold F_spec_woPaint at h
  split at h
  · injection h with h; injection h with h1 h2; injection h2 with h2 h3; subst h1; subst h2; subst h3
    exact (congrArg At (eq_spec_woPaint _ _ _ _ _ _ _ _ _ _ _ _)).mp ⟨vc_spec_woPaint _ _ _ _ _ _ _ _ _ _ _ hp⟩
  · cases h
def TS1_24 : Tab := TS1_23.addG 31 F_spec_woPaint
theorem TS1_24_ok : TS1_24.Ok Tryd.prog := TS1_23_ok.addG ok_spec_woPaint
theorem eq_spec_woGo (k : Int) (wr : List UInt8) (ww : Int) (wh : Int) (wc : List UInt8) (wx : Int) (wy : Int) (wd : Int) (e : TypeId) (K : V → List Blk → Prop) : VC_spec_woGo k wr ww wh wc wx wy wd e K = vbody Tryd.prog (vin Tryd.prog TS1_24 annTS1 3) TS1_24.looks (annTS1 32) 32 [.ptr 0 0, .int .i64 k] [⟨.vals [.str wr, .int .i64 ww, .int .i64 wh, .str wc, .int .i64 wx, .int .i64 wy, .int .i64 wd], e, .box⟩] (K) := by kernel_rfl
theorem ok_spec_woGo : OK Tryd.prog 32 F_spec_woGo.spec := (vbody_ok (vin_ok TS1_24_ok annTS1 3) TS1_24_ok.looks _ _).ofG fun args m p R M h hp => by
  unfold F_spec_woGo at h
  split at h
  · injection h with h; injection h with h1 h2; injection h2 with h2 h3; subst h1; subst h2; subst h3
    exact (congrArg At (eq_spec_woGo _ _ _ _ _ _ _ _ _ _)).mp ⟨vc_spec_woGo _ _ _ _ _ _ _ _ _ hp⟩
  · cases h
def TS1_25 : Tab := TS1_24.addG 32 F_spec_woGo
theorem TS1_25_ok : TS1_25.Ok Tryd.prog := TS1_24_ok.addG ok_spec_woGo
theorem eq_spec_woStep (wr : List UInt8) (ww : Int) (wh : Int) (wc : List UInt8) (wx : Int) (wy : Int) (wd : Int) (K : V → Prop) : VC_spec_woStep wr ww wh wc wx wy wd K = vbody Tryd.prog (vin Tryd.prog TS1_25 annTS1 4) TS1_25.looks (annTS1 19) 19 [.agg [.str wr, .int .i64 ww, .int .i64 wh, .str wc, .int .i64 wx, .int .i64 wy, .int .i64 wd]] [] (fun v _ => K v) := by kernel_rfl
theorem ok_spec_woStep : OK Tryd.prog 19 F_spec_woStep.spec := (vbody_ok (vin_ok TS1_25_ok annTS1 4) TS1_25_ok.looks _ _).ofF fun args m p R h hp => by
  unfold F_spec_woStep at h
  split at h
  · injection h with h; injection h with h1 h2; subst h1; subst h2
    exact ⟨rfl, (congrArg At (eq_spec_woStep _ _ _ _ _ _ _ _)).mp ⟨vc_spec_woStep _ _ _ _ _ _ _ hp⟩⟩
  · cases h
def TS1_26 : Tab := TS1_25.add 19 F_spec_woStep
theorem TS1_26_ok : TS1_26.Ok Tryd.prog := TS1_25_ok.add ok_spec_woStep
theorem eq_impl_board_forth (wr : List UInt8) (ww : Int) (wh : Int) (wc : List UInt8) (wx : Int) (wy : Int) (wd : Int) (K : V → Prop) : VC_impl_board_forth wr ww wh wc wx wy wd K = vbody Tryd.prog (vin Tryd.prog TS1_26 annTS1 4) TS1_26.looks (annTS1 24) 24 [.agg [.str wr, .int .i64 ww, .int .i64 wh, .str wc, .int .i64 wx, .int .i64 wy, .int .i64 wd]] [] (fun v _ => K v) := by kernel_rfl
theorem ok_impl_board_forth : OK Tryd.prog 24 F_impl_board_forth.spec := (vbody_ok (vin_ok TS1_26_ok annTS1 4) TS1_26_ok.looks _ _).ofF fun args m p R h hp => by
  unfold F_impl_board_forth at h
  split at h
  · injection h with h; injection h with h1 h2; subst h1; subst h2
    exact ⟨rfl, (congrArg At (eq_impl_board_forth _ _ _ _ _ _ _ _)).mp ⟨vc_impl_board_forth _ _ _ _ _ _ _ hp⟩⟩
  · cases h
def TS1_27 : Tab := TS1_26.add 24 F_impl_board_forth
theorem TS1_27_ok : TS1_27.Ok Tryd.prog := TS1_26_ok.add ok_impl_board_forth
theorem eq_spec_woBack (wr : List UInt8) (ww : Int) (wh : Int) (wc : List UInt8) (wx : Int) (wy : Int) (wd : Int) (K : V → Prop) : VC_spec_woBack wr ww wh wc wx wy wd K = vbody Tryd.prog (vin Tryd.prog TS1_27 annTS1 4) TS1_27.looks (annTS1 25) 25 [.agg [.str wr, .int .i64 ww, .int .i64 wh, .str wc, .int .i64 wx, .int .i64 wy, .int .i64 wd]] [] (fun v _ => K v) := by kernel_rfl
theorem ok_spec_woBack : OK Tryd.prog 25 F_spec_woBack.spec := (vbody_ok (vin_ok TS1_27_ok annTS1 4) TS1_27_ok.looks _ _).ofF fun args m p R h hp => by
  unfold F_spec_woBack at h
  split at h
  · injection h with h; injection h with h1 h2; subst h1; subst h2
    exact ⟨rfl, (congrArg At (eq_spec_woBack _ _ _ _ _ _ _ _)).mp ⟨vc_spec_woBack _ _ _ _ _ _ _ hp⟩⟩
  · cases h
def TS1_28 : Tab := TS1_27.add 25 F_spec_woBack
theorem TS1_28_ok : TS1_28.Ok Tryd.prog := TS1_27_ok.add ok_spec_woBack
theorem eq_impl_board_back (wr : List UInt8) (ww : Int) (wh : Int) (wc : List UInt8) (wx : Int) (wy : Int) (wd : Int) (K : V → Prop) : VC_impl_board_back wr ww wh wc wx wy wd K = vbody Tryd.prog (vin Tryd.prog TS1_28 annTS1 4) TS1_28.looks (annTS1 26) 26 [.agg [.str wr, .int .i64 ww, .int .i64 wh, .str wc, .int .i64 wx, .int .i64 wy, .int .i64 wd]] [] (fun v _ => K v) := by kernel_rfl
theorem ok_impl_board_back : OK Tryd.prog 26 F_impl_board_back.spec := (vbody_ok (vin_ok TS1_28_ok annTS1 4) TS1_28_ok.looks _ _).ofF fun args m p R h hp => by
  unfold F_impl_board_back at h
  split at h
  · injection h with h; injection h with h1 h2; subst h1; subst h2
    exact ⟨rfl, (congrArg At (eq_impl_board_back _ _ _ _ _ _ _ _)).mp ⟨vc_impl_board_back _ _ _ _ _ _ _ hp⟩⟩
  · cases h
def TS1_29 : Tab := TS1_28.add 26 F_impl_board_back
theorem TS1_29_ok : TS1_29.Ok Tryd.prog := TS1_28_ok.add ok_impl_board_back
theorem eq_spec_WorldAfter (wr : List UInt8) (ww : Int) (wh : Int) (wc : List UInt8) (wx : Int) (wy : Int) (wd : Int) (steps : Int) (K : V → Prop) : VC_spec_WorldAfter wr ww wh wc wx wy wd steps K = vbody Tryd.prog (vin Tryd.prog TS1_29 annTS1 3) TS1_29.looks (annTS1 12) 12 [.agg [.str wr, .int .i64 ww, .int .i64 wh, .str wc, .int .i64 wx, .int .i64 wy, .int .i64 wd], .int .i64 steps] [] (fun v _ => K v) := by kernel_rfl
theorem ok_spec_WorldAfter : OK Tryd.prog 12 F_spec_WorldAfter.spec := (vbody_ok (vin_ok TS1_29_ok annTS1 3) TS1_29_ok.looks _ _).ofF fun args m p R h hp => by
  unfold F_spec_WorldAfter at h
  split at h
  · injection h with h; injection h with h1 h2; subst h1; subst h2
    exact ⟨rfl, (congrArg At (eq_spec_WorldAfter _ _ _ _ _ _ _ _ _)).mp ⟨vc_spec_WorldAfter _ _ _ _ _ _ _ _ hp⟩⟩
  · cases h
def TS1_30 : Tab := TS1_29.add 12 F_spec_WorldAfter
theorem TS1_30_ok : TS1_30.Ok Tryd.prog := TS1_29_ok.add ok_spec_WorldAfter
theorem eq_spec_WorldBefore (wr : List UInt8) (ww : Int) (wh : Int) (wc : List UInt8) (wx : Int) (wy : Int) (wd : Int) (steps : Int) (K : V → Prop) : VC_spec_WorldBefore wr ww wh wc wx wy wd steps K = vbody Tryd.prog (vin Tryd.prog TS1_30 annTS1 3) TS1_30.looks (annTS1 16) 16 [.agg [.str wr, .int .i64 ww, .int .i64 wh, .str wc, .int .i64 wx, .int .i64 wy, .int .i64 wd], .int .i64 steps] [] (fun v _ => K v) := by kernel_rfl
theorem ok_spec_WorldBefore : OK Tryd.prog 16 F_spec_WorldBefore.spec := (vbody_ok (vin_ok TS1_30_ok annTS1 3) TS1_30_ok.looks _ _).ofF fun args m p R h hp => by
  unfold F_spec_WorldBefore at h
  split at h
  · injection h with h; injection h with h1 h2; subst h1; subst h2
    exact ⟨rfl, (congrArg At (eq_spec_WorldBefore _ _ _ _ _ _ _ _ _)).mp ⟨vc_spec_WorldBefore _ _ _ _ _ _ _ _ hp⟩⟩
  · cases h
def TS1_31 : Tab := TS1_30.add 16 F_spec_WorldBefore
theorem TS1_31_ok : TS1_31.Ok Tryd.prog := TS1_30_ok.add ok_spec_WorldBefore
theorem eq_impl_WorldAfter (wr : List UInt8) (ww : Int) (wh : Int) (wc : List UInt8) (wx : Int) (wy : Int) (wd : Int) (steps : Int) (K : V → Prop) : VC_impl_WorldAfter wr ww wh wc wx wy wd steps K = vbody Tryd.prog (vin Tryd.prog TS1_31 annTS1 3) TS1_31.looks (annTS1 13) 13 [.agg [.str wr, .int .i64 ww, .int .i64 wh, .str wc, .int .i64 wx, .int .i64 wy, .int .i64 wd], .int .i64 steps] [] (fun v _ => K v) := by kernel_rfl
theorem ok_impl_WorldAfter : OK Tryd.prog 13 F_impl_WorldAfter.spec := (vbody_ok (vin_ok TS1_31_ok annTS1 3) TS1_31_ok.looks _ _).ofF fun args m p R h hp => by
  unfold F_impl_WorldAfter at h
  split at h
  · injection h with h; injection h with h1 h2; subst h1; subst h2
    exact ⟨rfl, (congrArg At (eq_impl_WorldAfter _ _ _ _ _ _ _ _ _)).mp ⟨vc_impl_WorldAfter _ _ _ _ _ _ _ _ hp⟩⟩
  · cases h
def TS1_32 : Tab := TS1_31.add 13 F_impl_WorldAfter
theorem TS1_32_ok : TS1_32.Ok Tryd.prog := TS1_31_ok.add ok_impl_WorldAfter
theorem eq_impl_WorldBefore (wr : List UInt8) (ww : Int) (wh : Int) (wc : List UInt8) (wx : Int) (wy : Int) (wd : Int) (steps : Int) (K : V → Prop) : VC_impl_WorldBefore wr ww wh wc wx wy wd steps K = vbody Tryd.prog (vin Tryd.prog TS1_32 annTS1 3) TS1_32.looks (annTS1 17) 17 [.agg [.str wr, .int .i64 ww, .int .i64 wh, .str wc, .int .i64 wx, .int .i64 wy, .int .i64 wd], .int .i64 steps] [] (fun v _ => K v) := by kernel_rfl
theorem ok_impl_WorldBefore : OK Tryd.prog 17 F_impl_WorldBefore.spec := (vbody_ok (vin_ok TS1_32_ok annTS1 3) TS1_32_ok.looks _ _).ofF fun args m p R h hp => by
  unfold F_impl_WorldBefore at h
  split at h
  · injection h with h; injection h with h1 h2; subst h1; subst h2
    exact ⟨rfl, (congrArg At (eq_impl_WorldBefore _ _ _ _ _ _ _ _ _)).mp ⟨vc_impl_WorldBefore _ _ _ _ _ _ _ _ hp⟩⟩
  · cases h
def TS1_33 : Tab := TS1_32.add 17 F_impl_WorldBefore
theorem TS1_33_ok : TS1_33.Ok Tryd.prog := TS1_32_ok.add ok_impl_WorldBefore
theorem eq_spec_StepWorld (wr : List UInt8) (ww : Int) (wh : Int) (wc : List UInt8) (wx : Int) (wy : Int) (wd : Int) (K : V → Prop) : VC_spec_StepWorld wr ww wh wc wx wy wd K = vbody Tryd.prog (vin Tryd.prog TS1_33 annTS1 3) TS1_33.looks (annTS1 8) 8 [.agg [.str wr, .int .i64 ww, .int .i64 wh, .str wc, .int .i64 wx, .int .i64 wy, .int .i64 wd]] [] (fun v _ => K v) := by kernel_rfl
theorem ok_spec_StepWorld : OK Tryd.prog 8 F_spec_StepWorld.spec := (vbody_ok (vin_ok TS1_33_ok annTS1 3) TS1_33_ok.looks _ _).ofF fun args m p R h hp => by
  unfold F_spec_StepWorld at h
  split at h
  · injection h with h; injection h with h1 h2; subst h1; subst h2
    exact ⟨rfl, (congrArg At (eq_spec_StepWorld _ _ _ _ _ _ _ _)).mp ⟨vc_spec_StepWorld _ _ _ _ _ _ _ hp⟩⟩
  · cases h
def TS1_34 : Tab := TS1_33.add 8 F_spec_StepWorld
theorem TS1_34_ok : TS1_34.Ok Tryd.prog := TS1_33_ok.add ok_spec_StepWorld
theorem eq_impl_StepWorld (wr : List UInt8) (ww : Int) (wh : Int) (wc : List UInt8) (wx : Int) (wy : Int) (wd : Int) (K : V → Prop) : VC_impl_StepWorld wr ww wh wc wx wy wd K = vbody Tryd.prog (vin Tryd.prog TS1_34 annTS1 3) TS1_34.looks (annTS1 10) 10 [.agg [.str wr, .int .i64 ww, .int .i64 wh, .str wc, .int .i64 wx, .int .i64 wy, .int .i64 wd]] [] (fun v _ => K v) := by kernel_rfl
theorem ok_impl_StepWorld : OK Tryd.prog 10 F_impl_StepWorld.spec := (vbody_ok (vin_ok TS1_34_ok annTS1 3) TS1_34_ok.looks _ _).ofF fun args m p R h hp => by
  unfold F_impl_StepWorld at h
  split at h
  · injection h with h; injection h with h1 h2; subst h1; subst h2
    exact ⟨rfl, (congrArg At (eq_impl_StepWorld _ _ _ _ _ _ _ _)).mp ⟨vc_impl_StepWorld _ _ _ _ _ _ _ hp⟩⟩
  · cases h
def TS1_35 : Tab := TS1_34.add 10 F_impl_StepWorld
theorem TS1_35_ok : TS1_35.Ok Tryd.prog := TS1_34_ok.add ok_impl_StepWorld
theorem eq_spec_StepBack (wr : List UInt8) (ww : Int) (wh : Int) (wc : List UInt8) (wx : Int) (wy : Int) (wd : Int) (K : V → Prop) : VC_spec_StepBack wr ww wh wc wx wy wd K = vbody Tryd.prog (vin Tryd.prog TS1_35 annTS1 3) TS1_35.looks (annTS1 14) 14 [.agg [.str wr, .int .i64 ww, .int .i64 wh, .str wc, .int .i64 wx, .int .i64 wy, .int .i64 wd]] [] (fun v _ => K v) := by kernel_rfl
theorem ok_spec_StepBack : OK Tryd.prog 14 F_spec_StepBack.spec := (vbody_ok (vin_ok TS1_35_ok annTS1 3) TS1_35_ok.looks _ _).ofF fun args m p R h hp => by
  unfold F_spec_StepBack at h
  split at h
  · injection h with h; injection h with h1 h2; subst h1; subst h2
    exact ⟨rfl, (congrArg At (eq_spec_StepBack _ _ _ _ _ _ _ _)).mp ⟨vc_spec_StepBack _ _ _ _ _ _ _ hp⟩⟩
  · cases h
def TS1_36 : Tab := TS1_35.add 14 F_spec_StepBack
theorem TS1_36_ok : TS1_36.Ok Tryd.prog := TS1_35_ok.add ok_spec_StepBack
theorem eq_impl_StepBack (wr : List UInt8) (ww : Int) (wh : Int) (wc : List UInt8) (wx : Int) (wy : Int) (wd : Int) (K : V → Prop) : VC_impl_StepBack wr ww wh wc wx wy wd K = vbody Tryd.prog (vin Tryd.prog TS1_36 annTS1 3) TS1_36.looks (annTS1 15) 15 [.agg [.str wr, .int .i64 ww, .int .i64 wh, .str wc, .int .i64 wx, .int .i64 wy, .int .i64 wd]] [] (fun v _ => K v) := by kernel_rfl
theorem ok_impl_StepBack : OK Tryd.prog 15 F_impl_StepBack.spec := (vbody_ok (vin_ok TS1_36_ok annTS1 3) TS1_36_ok.looks _ _).ofF fun args m p R h hp => by
  unfold F_impl_StepBack at h
  split at h
  · injection h with h; injection h with h1 h2; subst h1; subst h2
    exact ⟨rfl, (congrArg At (eq_impl_StepBack _ _ _ _ _ _ _ _)).mp ⟨vc_impl_StepBack _ _ _ _ _ _ _ hp⟩⟩
  · cases h
def TS1_37 : Tab := TS1_36.add 15 F_impl_StepBack
theorem TS1_37_ok : TS1_37.Ok Tryd.prog := TS1_36_ok.add ok_impl_StepBack
def TS1 : Tab := TS1_37
theorem TS1_ok : TS1.Ok Tryd.prog := TS1_37_ok
end Go.Proofs.YtbchncdchanomacDoor
