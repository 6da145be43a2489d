/- The contracts of this chapter. -/
import Derived.Test.YtbchncdchanomabDoorProg
import Derived.Test.YtbchncdchanomabDoorT1Pf
import Derived.KernelRfl
namespace Go.Proofs.YtbchncdchanomabDoor
open Go Go.Vi
set_option linter.unusedVariables false
def annTT1 : FuncId → Nat → St → Option Ann := fun f => if f = 59 then ann_spec_woRule else if f = 44 then ann_impl_IsRule else if f = 39 then ann_spec_woGood else if f = 46 then ann_impl_areColours else if f = 7 then ann_spec_TurnsAfter else if f = 9 then ann_impl_TurnsAfter else (fun _ _ => none)
def TT1_0 : Tab := Tab.none
theorem TT1_0_ok : TT1_0.Ok Tryd.prog := Tab.none_ok
theorem eq_spec_l1In (n : Int) (lo : Int) (hi : Int) (K : V → Prop) : VC_spec_l1In n lo hi K = vbody Tryd.prog (vin Tryd.prog TT1_0 annTT1 3) TT1_0.looks (annTT1 40) 40 [.int .i64 n, .int .i64 lo, .int .i64 hi] [] (fun v _ => K v) := by kernel_rfl
theorem ok_spec_l1In : OK Tryd.prog 40 F_spec_l1In.spec := (vbody_ok (vin_ok TT1_0_ok annTT1 3) TT1_0_ok.looks _ _).ofF fun args m p R h hp => by
  unfold F_spec_l1In at h
  split at h
  · injection h with h; injection h with h1 h2; subst h1; subst h2
    exact ⟨rfl, (congrArg At (eq_spec_l1In _ _ _ _)).mp ⟨vc_spec_l1In _ _ _ hp⟩⟩
  · cases h
def TT1_1 : Tab := TT1_0.add 40 F_spec_l1In
theorem TT1_1_ok : TT1_1.Ok Tryd.prog := TT1_0_ok.add ok_spec_l1In
theorem eq_impl_within (n : Int) (lo : Int) (hi : Int) (K : V → Prop) : VC_impl_within n lo hi K = vbody Tryd.prog (vin Tryd.prog TT1_1 annTT1 3) TT1_1.looks (annTT1 49) 49 [.int .i64 n, .int .i64 lo, .int .i64 hi] [] (fun v _ => K v) := by kernel_rfl
theorem ok_impl_within : OK Tryd.prog 49 F_impl_within.spec := (vbody_ok (vin_ok TT1_1_ok annTT1 3) TT1_1_ok.looks _ _).ofF fun args m p R h hp => by
  unfold F_impl_within at h
  split at h
  · injection h with h; injection h with h1 h2; subst h1; subst h2
    exact ⟨rfl, (congrArg At (eq_impl_within _ _ _ _)).mp ⟨vc_impl_within _ _ _ hp⟩⟩
  · cases h
def TT1_2 : Tab := TT1_1.add 49 F_impl_within
theorem TT1_2_ok : TT1_2.Ok Tryd.prog := TT1_1_ok.add ok_impl_within
theorem eq_impl_digit (b : Int) (K : V → Prop) : VC_impl_digit b K = vbody Tryd.prog (vin Tryd.prog TT1_2 annTT1 3) TT1_2.looks (annTT1 27) 27 [.int .u8 b] [] (fun v _ => K v) := by kernel_rfl
theorem ok_impl_digit : OK Tryd.prog 27 F_impl_digit.spec := (vbody_ok (vin_ok TT1_2_ok annTT1 3) TT1_2_ok.looks _ _).ofF fun args m p R h hp => by
  unfold F_impl_digit at h
  split at h
  · injection h with h; injection h with h1 h2; subst h1; subst h2
    exact ⟨rfl, (congrArg At (eq_impl_digit _ _)).mp ⟨vc_impl_digit _ hp⟩⟩
  · cases h
def TT1_3 : Tab := TT1_2.add 27 F_impl_digit
theorem TT1_3_ok : TT1_3.Ok Tryd.prog := TT1_2_ok.add ok_impl_digit
theorem eq_spec_woRule (s : List UInt8) (K : V → Prop) : VC_spec_woRule s K = vbody Tryd.prog (vin Tryd.prog TT1_3 annTT1 3) TT1_3.looks (annTT1 59) 59 [.str s] [] (fun v _ => K v) := by kernel_rfl
theorem ok_spec_woRule : OK Tryd.prog 59 F_spec_woRule.spec := (vbody_ok (vin_ok TT1_3_ok annTT1 3) TT1_3_ok.looks _ _).ofF fun args m p R h hp => by
  unfold F_spec_woRule at h
  split at h
  · injection h with h; injection h with h1 h2; subst h1; subst h2
    exact ⟨rfl, (congrArg At (eq_spec_woRule _ _)).mp ⟨vc_spec_woRule _ hp⟩⟩
  · cases h
def TT1_4 : Tab := TT1_3.add 59 F_spec_woRule
theorem TT1_4_ok : TT1_4.Ok Tryd.prog := TT1_3_ok.add ok_spec_woRule
theorem eq_impl_IsRule (s : List UInt8) (K : V → Prop) : VC_impl_IsRule s K = vbody Tryd.prog (vin Tryd.prog TT1_4 annTT1 3) TT1_4.looks (annTT1 44) 44 [.str s] [] (fun v _ => K v) := by kernel_rfl
theorem ok_impl_IsRule : OK Tryd.prog 44 F_impl_IsRule.spec := (vbody_ok (vin_ok TT1_4_ok annTT1 3) TT1_4_ok.looks _ _).ofF fun args m p R h hp => by
  unfold F_impl_IsRule at h
  split at h
  · injection h with h; injection h with h1 h2; subst h1; subst h2
    exact ⟨rfl, (congrArg At (eq_impl_IsRule _ _)).mp ⟨vc_impl_IsRule _ hp⟩⟩
  · cases h
def TT1_5 : Tab := TT1_4.add 44 F_impl_IsRule
theorem TT1_5_ok : TT1_5.Ok Tryd.prog := TT1_4_ok.add ok_impl_IsRule
theorem eq_spec_woGood (wr : List UInt8) (ww : Int) (wh : Int) (wc : List UInt8) (wx : Int) (wy : Int) (wd : Int) (K : V → Prop) : VC_spec_woGood wr ww wh wc wx wy wd K = vbody Tryd.prog (vin Tryd.prog TT1_5 annTT1 3) TT1_5.looks (annTT1 39) 39 [.agg [.str wr, .int .i64 ww, .int .i64 wh, .str wc, .int .i64 wx, .int .i64 wy, .int .i64 wd]] [] (fun v _ => K v) := by kernel_rfl
theorem ok_spec_woGood : OK Tryd.prog 39 F_spec_woGood.spec := (vbody_ok (vin_ok TT1_5_ok annTT1 3) TT1_5_ok.looks _ _).ofF fun args m p R h hp => by
  unfold F_spec_woGood at h
  split at h
  · injection h with h; injection h with h1 h2; subst h1; subst h2
    exact ⟨rfl, (congrArg At (eq_spec_woGood _ _ _ _ _ _ _ _)).mp ⟨vc_spec_woGood _ _ _ _ _ _ _ hp⟩⟩
  · cases h
def TT1_6 : Tab := TT1_5.add 39 F_spec_woGood
theorem TT1_6_ok : TT1_6.Ok Tryd.prog := TT1_5_ok.add ok_spec_woGood
theorem eq_impl_areColours (s : List UInt8) (n : Int) (K : V → Prop) : VC_impl_areColours s n K = vbody Tryd.prog (vin Tryd.prog TT1_6 annTT1 3) TT1_6.looks (annTT1 46) 46 [.str s, .int .i64 n] [] (fun v _ => K v) := by kernel_rfl
theorem ok_impl_areColours : OK Tryd.prog 46 F_impl_areColours.spec := (vbody_ok (vin_ok TT1_6_ok annTT1 3) TT1_6_ok.looks _ _).ofF fun args m p R h hp => by
  unfold F_impl_areColours at h
  split at h
  · injection h with h; injection h with h1 h2; subst h1; subst h2
    exact ⟨rfl, (congrArg At (eq_impl_areColours _ _ _)).mp ⟨vc_impl_areColours _ _ hp⟩⟩
  · cases h
def TT1_7 : Tab := TT1_6.add 46 F_impl_areColours
theorem TT1_7_ok : TT1_7.Ok Tryd.prog := TT1_6_ok.add ok_impl_areColours
theorem eq_impl_IsWorld (wr : List UInt8) (ww : Int) (wh : Int) (wc : List UInt8) (wx : Int) (wy : Int) (wd : Int) (K : V → Prop) : VC_impl_IsWorld wr ww wh wc wx wy wd K = vbody Tryd.prog (vin Tryd.prog TT1_7 annTT1 4) TT1_7.looks (annTT1 21) 21 [.agg [.str wr, .int .i64 ww, .int .i64 wh, .str wc, .int .i64 wx, .int .i64 wy, .int .i64 wd]] [] (fun v _ => K v) := by kernel_rfl
theorem ok_impl_IsWorld : OK Tryd.prog 21 F_impl_IsWorld.spec := (vbody_ok (vin_ok TT1_7_ok annTT1 4) TT1_7_ok.looks _ _).ofF fun args m p R h hp => by
  unfold F_impl_IsWorld at h
  split at h
  · injection h with h; injection h with h1 h2; subst h1; subst h2
    exact ⟨rfl, (congrArg At (eq_impl_IsWorld _ _ _ _ _ _ _ _)).mp ⟨vc_impl_IsWorld _ _ _ _ _ _ _ hp⟩⟩
  · cases h
def TT1_8 : Tab := TT1_7.add 21 F_impl_IsWorld
theorem TT1_8_ok : TT1_8.Ok Tryd.prog := TT1_7_ok.add ok_impl_IsWorld
theorem eq_spec_woColour (wr : List UInt8) (ww : Int) (wh : Int) (wc : List UInt8) (wx : Int) (wy : Int) (wd : Int) (x : Int) (y : Int) (K : V → Prop) : VC_spec_woColour wr ww wh wc wx wy wd x y K = vbody Tryd.prog (vin Tryd.prog TT1_8 annTT1 3) TT1_8.looks (annTT1 19) 19 [.agg [.str wr, .int .i64 ww, .int .i64 wh, .str wc, .int .i64 wx, .int .i64 wy, .int .i64 wd], .int .i64 x, .int .i64 y] [] (fun v _ => K v) := by kernel_rfl
theorem ok_spec_woColour : OK Tryd.prog 19 F_spec_woColour.spec := (vbody_ok (vin_ok TT1_8_ok annTT1 3) TT1_8_ok.looks _ _).ofF fun args m p R h hp => by
  unfold F_spec_woColour at h
  split at h
  · injection h with h; injection h with h1 h2; subst h1; subst h2
    exact ⟨rfl, (congrArg At (eq_spec_woColour _ _ _ _ _ _ _ _ _ _)).mp ⟨vc_spec_woColour _ _ _ _ _ _ _ _ _ hp⟩⟩
  · cases h
def TT1_9 : Tab := TT1_8.add 19 F_spec_woColour
theorem TT1_9_ok : TT1_9.Ok Tryd.prog := TT1_8_ok.add ok_spec_woColour
theorem eq_impl_board_colour (wr : List UInt8) (ww : Int) (wh : Int) (wc : List UInt8) (wx : Int) (wy : Int) (wd : Int) (x : Int) (y : Int) (K : V → Prop) : VC_impl_board_colour wr ww wh wc wx wy wd x y K = vbody Tryd.prog (vin Tryd.prog TT1_9 annTT1 3) TT1_9.looks (annTT1 50) 50 [.agg [.str wr, .int .i64 ww, .int .i64 wh, .str wc, .int .i64 wx, .int .i64 wy, .int .i64 wd], .int .i64 x, .int .i64 y] [] (fun v _ => K v) := by kernel_rfl
theorem ok_impl_board_colour : OK Tryd.prog 50 F_impl_board_colour.spec := (vbody_ok (vin_ok TT1_9_ok annTT1 3) TT1_9_ok.looks _ _).ofF fun args m p R h hp => by
  unfold F_impl_board_colour at h
  split at h
  · injection h with h; injection h with h1 h2; subst h1; subst h2
    exact ⟨rfl, (congrArg At (eq_impl_board_colour _ _ _ _ _ _ _ _ _ _)).mp ⟨vc_impl_board_colour _ _ _ _ _ _ _ _ _ hp⟩⟩
  · cases h
def TT1_10 : Tab := TT1_9.add 50 F_impl_board_colour
theorem TT1_10_ok : TT1_10.Ok Tryd.prog := TT1_9_ok.add ok_impl_board_colour
theorem eq_laws_szWorld (wr : List UInt8) (ww : Int) (wh : Int) (wc : List UInt8) (wx : Int) (wy : Int) (wd : Int) (left : Int) (K : V → Prop) : VC_laws_szWorld wr ww wh wc wx wy wd left K = vbody Tryd.prog (vin Tryd.prog TT1_10 annTT1 3) TT1_10.looks (annTT1 6) 6 [.agg [.str wr, .int .i64 ww, .int .i64 wh, .str wc, .int .i64 wx, .int .i64 wy, .int .i64 wd], .int .i64 left] [] (fun v _ => K v) := by kernel_rfl
theorem ok_laws_szWorld : OK Tryd.prog 6 F_laws_szWorld.spec := (vbody_ok (vin_ok TT1_10_ok annTT1 3) TT1_10_ok.looks _ _).ofF fun args m p R h hp => by
  unfold F_laws_szWorld at h
  split at h
  · injection h with h; injection h with h1 h2; subst h1; subst h2
    exact ⟨rfl, (congrArg At (eq_laws_szWorld _ _ _ _ _ _ _ _ _)).mp ⟨vc_laws_szWorld _ _ _ _ _ _ _ _ hp⟩⟩
  · cases h
def TT1_11 : Tab := TT1_10.add 6 F_laws_szWorld
theorem TT1_11_ok : TT1_11.Ok Tryd.prog := TT1_10_ok.add ok_laws_szWorld
theorem eq_laws_eqWorld (ar : List UInt8) (aw : Int) (ah : Int) (ac : List UInt8) (ax : Int) (ay : Int) (ad : Int) (br : List UInt8) (bw : Int) (bh : Int) (bc : List UInt8) (bx : Int) (by_ : Int) (bd : Int) (K : V → Prop) : VC_laws_eqWorld ar aw ah ac ax ay ad br bw bh bc bx by_ bd K = vbody Tryd.prog (vin Tryd.prog TT1_11 annTT1 3) TT1_11.looks (annTT1 12) 12 [.agg [.str ar, .int .i64 aw, .int .i64 ah, .str ac, .int .i64 ax, .int .i64 ay, .int .i64 ad], .agg [.str br, .int .i64 bw, .int .i64 bh, .str bc, .int .i64 bx, .int .i64 by_, .int .i64 bd]] [] (fun v _ => K v) := by kernel_rfl
theorem ok_laws_eqWorld : OK Tryd.prog 12 F_laws_eqWorld.spec := (vbody_ok (vin_ok TT1_11_ok annTT1 3) TT1_11_ok.looks _ _).ofF fun args m p R h hp => by
  unfold F_laws_eqWorld at h
  split at h
  · injection h with h; injection h with h1 h2; subst h1; subst h2
    exact ⟨rfl, (congrArg At (eq_laws_eqWorld _ _ _ _ _ _ _ _ _ _ _ _ _ _ _)).mp ⟨vc_laws_eqWorld _ _ _ _ _ _ _ _ _ _ _ _ _ _ hp⟩⟩
  · cases h
def TT1_12 : Tab := TT1_11.add 12 F_laws_eqWorld
theorem TT1_12_ok : TT1_12.Ok Tryd.prog := TT1_11_ok.add ok_laws_eqWorld
theorem eq_spec_l1Num (n : Int) (K : V → Prop) : VC_spec_l1Num n K = vbody Tryd.prog (vin Tryd.prog TT1_12 annTT1 3) TT1_12.looks (annTT1 32) 32 [.int .i64 n] [] (fun v _ => K v) := by kernel_rfl
theorem ok_spec_l1Num : OK Tryd.prog 32 F_spec_l1Num.spec := (vbody_ok (vin_ok TT1_12_ok annTT1 3) TT1_12_ok.looks _ _).ofF fun args m p R h hp => by
  unfold F_spec_l1Num at h
  split at h
  · injection h with h; injection h with h1 h2; subst h1; subst h2
    exact ⟨rfl, (congrArg At (eq_spec_l1Num _ _)).mp ⟨vc_spec_l1Num _ hp⟩⟩
  · cases h
def TT1_13 : Tab := TT1_12.add 32 F_spec_l1Num
theorem TT1_13_ok : TT1_13.Ok Tryd.prog := TT1_12_ok.add ok_spec_l1Num
theorem eq_strconv_FormatInt (n : Int) (b : Int) (K : V → Prop) : VC_strconv_FormatInt n b K = vbody Tryd.prog (vin Tryd.prog TT1_13 annTT1 3) TT1_13.looks (annTT1 83) 83 [.int .i64 n, .int .i64 b] [] (fun v _ => K v) := by kernel_rfl
theorem ok_strconv_FormatInt : OK Tryd.prog 83 F_strconv_FormatInt.spec := (vbody_ok (vin_ok TT1_13_ok annTT1 3) TT1_13_ok.looks _ _).ofF fun args m p R h hp => by
  unfold F_strconv_FormatInt at h
  split at h
  · injection h with h; injection h with h1 h2; subst h1; subst h2
    exact ⟨rfl, (congrArg At (eq_strconv_FormatInt _ _ _)).mp ⟨vc_strconv_FormatInt _ _ hp⟩⟩
  · cases h
def TT1_14 : Tab := TT1_13.add 83 F_strconv_FormatInt
theorem TT1_14_ok : TT1_14.Ok Tryd.prog := TT1_13_ok.add ok_strconv_FormatInt
theorem eq_strconv_Itoa (n : Int) (K : V → Prop) : VC_strconv_Itoa n K = vbody Tryd.prog (vin Tryd.prog TT1_14 annTT1 3) TT1_14.looks (annTT1 58) 58 [.int .i64 n] [] (fun v _ => K v) := by kernel_rfl
theorem ok_strconv_Itoa : OK Tryd.prog 58 F_strconv_Itoa.spec := (vbody_ok (vin_ok TT1_14_ok annTT1 3) TT1_14_ok.looks _ _).ofF fun args m p R h hp => by
  unfold F_strconv_Itoa at h
  split at h
  · injection h with h; injection h with h1 h2; subst h1; subst h2
    exact ⟨rfl, (congrArg At (eq_strconv_Itoa _ _)).mp ⟨vc_strconv_Itoa _ hp⟩⟩
  · cases h
def TT1_15 : Tab := TT1_14.add 58 F_strconv_Itoa
theorem TT1_15_ok : TT1_15.Ok Tryd.prog := TT1_14_ok.add ok_strconv_Itoa
theorem eq_spec_l1Mod (n : Int) (m : Int) (K : V → Prop) : VC_spec_l1Mod n m K = vbody Tryd.prog (vin Tryd.prog TT1_15 annTT1 3) TT1_15.looks (annTT1 69) 69 [.int .i64 n, .int .i64 m] [] (fun v _ => K v) := by kernel_rfl
theorem ok_spec_l1Mod : OK Tryd.prog 69 F_spec_l1Mod.spec := (vbody_ok (vin_ok TT1_15_ok annTT1 3) TT1_15_ok.looks _ _).ofF fun args m p R h hp => by
  unfold F_spec_l1Mod at h
  split at h
  · injection h with h; injection h with h1 h2; subst h1; subst h2
    exact ⟨rfl, (congrArg At (eq_spec_l1Mod _ _ _)).mp ⟨vc_spec_l1Mod _ _ hp⟩⟩
  · cases h
def TT1_16 : Tab := TT1_15.add 69 F_spec_l1Mod
theorem TT1_16_ok : TT1_16.Ok Tryd.prog := TT1_15_ok.add ok_spec_l1Mod
theorem eq_spec_woTurn (b : Int) (K : V → Prop) : VC_spec_woTurn b K = vbody Tryd.prog (vin Tryd.prog TT1_16 annTT1 3) TT1_16.looks (annTT1 41) 41 [.int .u8 b] [] (fun v _ => K v) := by kernel_rfl
theorem ok_spec_woTurn : OK Tryd.prog 41 F_spec_woTurn.spec := (vbody_ok (vin_ok TT1_16_ok annTT1 3) TT1_16_ok.looks _ _).ofF fun args m p R h hp => by
  unfold F_spec_woTurn at h
  split at h
  · injection h with h; injection h with h1 h2; subst h1; subst h2
    exact ⟨rfl, (congrArg At (eq_spec_woTurn _ _)).mp ⟨vc_spec_woTurn _ hp⟩⟩
  · cases h
def TT1_17 : Tab := TT1_16.add 41 F_spec_woTurn
theorem TT1_17_ok : TT1_17.Ok Tryd.prog := TT1_16_ok.add ok_spec_woTurn
theorem eq_impl_quarters (b : Int) (K : V → Prop) : VC_impl_quarters b K = vbody Tryd.prog (vin Tryd.prog TT1_17 annTT1 3) TT1_17.looks (annTT1 52) 52 [.int .u8 b] [] (fun v _ => K v) := by kernel_rfl
theorem ok_impl_quarters : OK Tryd.prog 52 F_impl_quarters.spec := (vbody_ok (vin_ok TT1_17_ok annTT1 3) TT1_17_ok.looks _ _).ofF fun args m p R h hp => by
  unfold F_impl_quarters at h
  split at h
  · injection h with h; injection h with h1 h2; subst h1; subst h2
    exact ⟨rfl, (congrArg At (eq_impl_quarters _ _)).mp ⟨vc_impl_quarters _ hp⟩⟩
  · cases h
def TT1_18 : Tab := TT1_17.add 52 F_impl_quarters
theorem TT1_18_ok : TT1_18.Ok Tryd.prog := TT1_17_ok.add ok_impl_quarters
theorem eq_impl_direction (d : Int) (K : V → Prop) : VC_impl_direction d K = vbody Tryd.prog (vin Tryd.prog TT1_18 annTT1 3) TT1_18.looks (annTT1 71) 71 [.int .i64 d] [] (fun v _ => K v) := by kernel_rfl
theorem ok_impl_direction : OK Tryd.prog 71 F_impl_direction.spec := (vbody_ok (vin_ok TT1_18_ok annTT1 3) TT1_18_ok.looks _ _).ofF fun args m p R h hp => by
  unfold F_impl_direction at h
  split at h
  · injection h with h; injection h with h1 h2; subst h1; subst h2
    exact ⟨rfl, (congrArg At (eq_impl_direction _ _)).mp ⟨vc_impl_direction _ hp⟩⟩
  · cases h
def TT1_19 : Tab := TT1_18.add 71 F_impl_direction
theorem TT1_19_ok : TT1_19.Ok Tryd.prog := TT1_18_ok.add ok_impl_direction
theorem eq_impl_board_sign (wr : List UInt8) (ww : Int) (wh : Int) (wc : List UInt8) (wx : Int) (wy : Int) (wd : Int) (K : V → Prop) : VC_impl_board_sign wr ww wh wc wx wy wd K = vbody Tryd.prog (vin Tryd.prog TT1_19 annTT1 3) TT1_19.looks (annTT1 23) 23 [.agg [.str wr, .int .i64 ww, .int .i64 wh, .str wc, .int .i64 wx, .int .i64 wy, .int .i64 wd]] [] (fun v _ => K v) := by kernel_rfl
theorem ok_impl_board_sign : OK Tryd.prog 23 F_impl_board_sign.spec := (vbody_ok (vin_ok TT1_19_ok annTT1 3) TT1_19_ok.looks _ _).ofF fun args m p R h hp => by
  unfold F_impl_board_sign at h
  split at h
  · injection h with h; injection h with h1 h2; subst h1; subst h2
    exact ⟨rfl, (congrArg At (eq_impl_board_sign _ _ _ _ _ _ _ _)).mp ⟨vc_impl_board_sign _ _ _ _ _ _ _ hp⟩⟩
  · cases h
def TT1_20 : Tab := TT1_19.add 23 F_impl_board_sign
theorem TT1_20_ok : TT1_20.Ok Tryd.prog := TT1_19_ok.add ok_impl_board_sign
theorem eq_impl_board_painted (wr : List UInt8) (ww : Int) (wh : Int) (wc : List UInt8) (wx : Int) (wy : Int) (wd : Int) (x : Int) (y : Int) (k : Int) (K : V → Prop) : VC_impl_board_painted wr ww wh wc wx wy wd x y k K = vbody Tryd.prog (vin Tryd.prog TT1_20 annTT1 3) TT1_20.looks (annTT1 53) 53 [.agg [.str wr, .int .i64 ww, .int .i64 wh, .str wc, .int .i64 wx, .int .i64 wy, .int .i64 wd], .int .i64 x, .int .i64 y, .int .i64 k] [] (fun v _ => K v) := by kernel_rfl
theorem ok_impl_board_painted : OK Tryd.prog 53 F_impl_board_painted.spec := (vbody_ok (vin_ok TT1_20_ok annTT1 3) TT1_20_ok.looks _ _).ofF fun args m p R h hp => by
  unfold F_impl_board_painted at h
  split at h
  · injection h with h; injection h with h1 h2; subst h1; subst h2
    exact ⟨rfl, (congrArg At (eq_impl_board_painted _ _ _ _ _ _ _ _ _ _ _)).mp ⟨vc_impl_board_painted _ _ _ _ _ _ _ _ _ _ hp⟩⟩
  · cases h
def TT1_21 : Tab := TT1_20.add 53 F_impl_board_painted
theorem TT1_21_ok : TT1_21.Ok Tryd.prog := TT1_20_ok.add ok_impl_board_painted
theorem eq_impl_board_turned (wr : List UInt8) (ww : Int) (wh : Int) (wc : List UInt8) (wx : Int) (wy : Int) (wd : Int) (q : Int) (K : V → Prop) : VC_impl_board_turned wr ww wh wc wx wy wd q K = vbody Tryd.prog (vin Tryd.prog TT1_21 annTT1 3) TT1_21.looks (annTT1 51) 51 [.agg [.str wr, .int .i64 ww, .int .i64 wh, .str wc, .int .i64 wx, .int .i64 wy, .int .i64 wd], .int .i64 q] [] (fun v _ => K v) := by kernel_rfl
theorem ok_impl_board_turned : OK Tryd.prog 51 F_impl_board_turned.spec := (vbody_ok (vin_ok TT1_21_ok annTT1 3) TT1_21_ok.looks _ _).ofF fun args m p R h hp => by
  unfold F_impl_board_turned at h
  split at h
  · injection h with h; injection h with h1 h2; subst h1; subst h2
    exact ⟨rfl, (congrArg At (eq_impl_board_turned _ _ _ _ _ _ _ _ _)).mp ⟨vc_impl_board_turned _ _ _ _ _ _ _ _ hp⟩⟩
  · cases h
def TT1_22 : Tab := TT1_21.add 51 F_impl_board_turned
theorem TT1_22_ok : TT1_22.Ok Tryd.prog := TT1_21_ok.add ok_impl_board_turned
theorem eq_impl_board_moved (wr : List UInt8) (ww : Int) (wh : Int) (wc : List UInt8) (wx : Int) (wy : Int) (wd : Int) (k : Int) (K : V → Prop) : VC_impl_board_moved wr ww wh wc wx wy wd k K = vbody Tryd.prog (vin Tryd.prog TT1_22 annTT1 3) TT1_22.looks (annTT1 54) 54 [.agg [.str wr, .int .i64 ww, .int .i64 wh, .str wc, .int .i64 wx, .int .i64 wy, .int .i64 wd], .int .i64 k] [] (fun v _ => K v) := by kernel_rfl
theorem ok_impl_board_moved : OK Tryd.prog 54 F_impl_board_moved.spec := (vbody_ok (vin_ok TT1_22_ok annTT1 3) TT1_22_ok.looks _ _).ofF fun args m p R h hp => by
  unfold F_impl_board_moved at h
  split at h
  · injection h with h; injection h with h1 h2; subst h1; subst h2
    exact ⟨rfl, (congrArg At (eq_impl_board_moved _ _ _ _ _ _ _ _ _)).mp ⟨vc_impl_board_moved _ _ _ _ _ _ _ _ hp⟩⟩
  · cases h
def TT1_23 : Tab := TT1_22.add 54 F_impl_board_moved
theorem TT1_23_ok : TT1_23.Ok Tryd.prog := TT1_22_ok.add ok_impl_board_moved
theorem eq_spec_woPaint (x : Int) (y : Int) (k : Int) (wr : List UInt8) (ww : Int) (wh : Int) (wc : List UInt8) (wx : Int) (wy : Int) (wd : Int) (e : TypeId) (K : V → List Blk → Prop) : VC_spec_woPaint x y k wr ww wh wc wx wy wd e K = vbody Tryd.prog (vin Tryd.prog TT1_23 annTT1 3) TT1_23.looks (annTT1 42) 42 [.ptr 0 0, .int .i64 x, .int .i64 y, .int .i64 k] [⟨.vals [.str wr, .int .i64 ww, .int .i64 wh, .str wc, .int .i64 wx, .int .i64 wy, .int .i64 wd], e, .box⟩] (K) := by kernel_rfl
theorem ok_spec_woPaint : OK Tryd.prog 42 F_spec_woPaint.spec := (vbody_ok (vin_ok TT1_23_ok annTT1 3) TT1_23_ok.looks _ _).ofG fun args m p R M h hp => by
  unfold F_spec_woPaint at h
  split at h
  · injection h with h; injection h with h1 h2; injection h2 with h2 h3; subst h1; subst h2; subst h3
    exact (congrArg At (eq_spec_woPaint _ _ _ _ _ _ _ _ _ _ _ _)).mp ⟨vc_spec_woPaint _ _ _ _ _ _ _ _ _ _ _ hp⟩
  · cases h
def TT1_24 : Tab := TT1_23.addG 42 F_spec_woPaint
theorem TT1_24_ok : TT1_24.Ok Tryd.prog := TT1_23_ok.addG ok_spec_woPaint
theorem eq_spec_woGo (k : Int) (wr : List UInt8) (ww : Int) (wh : Int) (wc : List UInt8) (wx : Int) (wy : Int) (wd : Int) (e : TypeId) (K : V → List Blk → Prop) : VC_spec_woGo k wr ww wh wc wx wy wd e K = vbody Tryd.prog (vin Tryd.prog TT1_24 annTT1 3) TT1_24.looks (annTT1 43) 43 [.ptr 0 0, .int .i64 k] [⟨.vals [.str wr, .int .i64 ww, .int .i64 wh, .str wc, .int .i64 wx, .int .i64 wy, .int .i64 wd], e, .box⟩] (K) := by kernel_rfl
theorem ok_spec_woGo : OK Tryd.prog 43 F_spec_woGo.spec := (vbody_ok (vin_ok TT1_24_ok annTT1 3) TT1_24_ok.looks _ _).ofG fun args m p R M h hp => by
  unfold F_spec_woGo at h
  split at h
  · injection h with h; injection h with h1 h2; injection h2 with h2 h3; subst h1; subst h2; subst h3
    exact (congrArg At (eq_spec_woGo _ _ _ _ _ _ _ _ _ _)).mp ⟨vc_spec_woGo _ _ _ _ _ _ _ _ _ hp⟩
  · cases h
def TT1_25 : Tab := TT1_24.addG 43 F_spec_woGo
theorem TT1_25_ok : TT1_25.Ok Tryd.prog := TT1_24_ok.addG ok_spec_woGo
theorem eq_spec_woStep (wr : List UInt8) (ww : Int) (wh : Int) (wc : List UInt8) (wx : Int) (wy : Int) (wd : Int) (K : V → Prop) : VC_spec_woStep wr ww wh wc wx wy wd K = vbody Tryd.prog (vin Tryd.prog TT1_25 annTT1 4) TT1_25.looks (annTT1 20) 20 [.agg [.str wr, .int .i64 ww, .int .i64 wh, .str wc, .int .i64 wx, .int .i64 wy, .int .i64 wd]] [] (fun v _ => K v) := by kernel_rfl
theorem ok_spec_woStep : OK Tryd.prog 20 F_spec_woStep.spec := (vbody_ok (vin_ok TT1_25_ok annTT1 4) TT1_25_ok.looks _ _).ofF fun args m p R h hp => by
  unfold F_spec_woStep at h
  split at h
  · injection h with h; injection h with h1 h2; subst h1; subst h2
    exact ⟨rfl, (congrArg At (eq_spec_woStep _ _ _ _ _ _ _ _)).mp ⟨vc_spec_woStep _ _ _ _ _ _ _ hp⟩⟩
  · cases h
def TT1_26 : Tab := TT1_25.add 20 F_spec_woStep
theorem TT1_26_ok : TT1_26.Ok Tryd.prog := TT1_25_ok.add ok_spec_woStep
theorem eq_impl_board_forth (wr : List UInt8) (ww : Int) (wh : Int) (wc : List UInt8) (wx : Int) (wy : Int) (wd : Int) (K : V → Prop) : VC_impl_board_forth wr ww wh wc wx wy wd K = vbody Tryd.prog (vin Tryd.prog TT1_26 annTT1 4) TT1_26.looks (annTT1 24) 24 [.agg [.str wr, .int .i64 ww, .int .i64 wh, .str wc, .int .i64 wx, .int .i64 wy, .int .i64 wd]] [] (fun v _ => K v) := by kernel_rfl
theorem ok_impl_board_forth : OK Tryd.prog 24 F_impl_board_forth.spec := (vbody_ok (vin_ok TT1_26_ok annTT1 4) TT1_26_ok.looks _ _).ofF fun args m p R h hp => by
  unfold F_impl_board_forth at h
  split at h
  · injection h with h; injection h with h1 h2; subst h1; subst h2
    exact ⟨rfl, (congrArg At (eq_impl_board_forth _ _ _ _ _ _ _ _)).mp ⟨vc_impl_board_forth _ _ _ _ _ _ _ hp⟩⟩
  · cases h
def TT1_27 : Tab := TT1_26.add 24 F_impl_board_forth
theorem TT1_27_ok : TT1_27.Ok Tryd.prog := TT1_26_ok.add ok_impl_board_forth
theorem eq_spec_TurnsAfter (wr : List UInt8) (ww : Int) (wh : Int) (wc : List UInt8) (wx : Int) (wy : Int) (wd : Int) (steps : Int) (K : V → Prop) : VC_spec_TurnsAfter wr ww wh wc wx wy wd steps K = vbody Tryd.prog (vin Tryd.prog TT1_27 annTT1 3) TT1_27.looks (annTT1 7) 7 [.agg [.str wr, .int .i64 ww, .int .i64 wh, .str wc, .int .i64 wx, .int .i64 wy, .int .i64 wd], .int .i64 steps] [] (fun v _ => K v) := by kernel_rfl
theorem ok_spec_TurnsAfter : OK Tryd.prog 7 F_spec_TurnsAfter.spec := (vbody_ok (vin_ok TT1_27_ok annTT1 3) TT1_27_ok.looks _ _).ofF fun args m p R h hp => by
  unfold F_spec_TurnsAfter at h
  split at h
  · injection h with h; injection h with h1 h2; subst h1; subst h2
    exact ⟨rfl, (congrArg At (eq_spec_TurnsAfter _ _ _ _ _ _ _ _ _)).mp ⟨vc_spec_TurnsAfter _ _ _ _ _ _ _ _ hp⟩⟩
  · cases h
def TT1_28 : Tab := TT1_27.add 7 F_spec_TurnsAfter
theorem TT1_28_ok : TT1_28.Ok Tryd.prog := TT1_27_ok.add ok_spec_TurnsAfter
theorem eq_impl_TurnsAfter (wr : List UInt8) (ww : Int) (wh : Int) (wc : List UInt8) (wx : Int) (wy : Int) (wd : Int) (steps : Int) (K : V → Prop) : VC_impl_TurnsAfter wr ww wh wc wx wy wd steps K = vbody Tryd.prog (vin Tryd.prog TT1_28 annTT1 3) TT1_28.looks (annTT1 9) 9 [.agg [.str wr, .int .i64 ww, .int .i64 wh, .str wc, .int .i64 wx, .int .i64 wy, .int .i64 wd], .int .i64 steps] [] (fun v _ => K v) := by kernel_rfl
theorem ok_impl_TurnsAfter : OK Tryd.prog 9 F_impl_TurnsAfter.spec := (vbody_ok (vin_ok TT1_28_ok annTT1 3) TT1_28_ok.looks _ _).ofF fun args m p R h hp => by
  unfold F_impl_TurnsAfter at h
  split at h
  · injection h with h; injection h with h1 h2; subst h1; subst h2
    exact ⟨rfl, (congrArg At (eq_impl_TurnsAfter _ _ _ _ _ _ _ _ _)).mp ⟨vc_impl_TurnsAfter _ _ _ _ _ _ _ _ hp⟩⟩
  · cases h
def TT1_29 : Tab := TT1_28.add 9 F_impl_TurnsAfter
theorem TT1_29_ok : TT1_29.Ok Tryd.prog := TT1_28_ok.add ok_impl_TurnsAfter
def TT1 : Tab := TT1_29
theorem TT1_ok : TT1.Ok Tryd.prog := TT1_29_ok
end Go.Proofs.YtbchncdchanomabDoor
