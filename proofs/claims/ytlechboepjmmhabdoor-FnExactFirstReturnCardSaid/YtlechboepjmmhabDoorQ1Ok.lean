/- The contracts of this chapter. -/
import Derived.Test.YtlechboepjmmhabDoorProg
import Derived.Test.YtlechboepjmmhabDoorQ1Pf
import Derived.KernelRfl
namespace Go.Proofs.YtlechboepjmmhabDoor
open Go Go.Vi
set_option linter.unusedVariables false
def annTQ1 : FuncId → Nat → St → Option Ann := fun f => if f = 44 then ann_impl_stepsUntil else if f = 63 then ann_spec_woRule else if f = 70 then ann_impl_IsRule else if f = 42 then ann_spec_woGood else if f = 72 then ann_impl_areColours else if f = 43 then ann_spec_loPeriod else if f = 18 then ann_spec_AntPeriod else if f = 20 then ann_spec_FirstReturn else if f = 22 then ann_spec_StepsBetween else (fun _ _ => none)
def TQ1_0 : Tab := Tab.none
theorem TQ1_0_ok : TQ1_0.Ok Tryd.prog := Tab.none_ok
theorem eq_spec_l1In (n : Int) (lo : Int) (hi : Int) (K : V → Prop) : VC_spec_l1In n lo hi K = vbody Tryd.prog (vin Tryd.prog TQ1_0 annTQ1 3) TQ1_0.looks (annTQ1 64) 64 [.int .i64 n, .int .i64 lo, .int .i64 hi] [] (fun v _ => K v) := by kernel_rfl
theorem ok_spec_l1In : OK Tryd.prog 64 F_spec_l1In.spec := (vbody_ok (vin_ok TQ1_0_ok annTQ1 3) TQ1_0_ok.looks _ _).ofF fun args m p R h hp => by
  unfold F_spec_l1In at h
  split at h
  · injection h with h; injection h with h1 h2; subst h1; subst h2
    exact ⟨rfl, (congrArg At (eq_spec_l1In _ _ _ _)).mp ⟨vc_spec_l1In _ _ _ hp⟩⟩
  · cases h
def TQ1_1 : Tab := TQ1_0.add 64 F_spec_l1In
theorem TQ1_1_ok : TQ1_1.Ok Tryd.prog := TQ1_0_ok.add ok_spec_l1In
theorem eq_impl_within (n : Int) (lo : Int) (hi : Int) (K : V → Prop) : VC_impl_within n lo hi K = vbody Tryd.prog (vin Tryd.prog TQ1_1 annTQ1 3) TQ1_1.looks (annTQ1 55) 55 [.int .i64 n, .int .i64 lo, .int .i64 hi] [] (fun v _ => K v) := by kernel_rfl
theorem ok_impl_within : OK Tryd.prog 55 F_impl_within.spec := (vbody_ok (vin_ok TQ1_1_ok annTQ1 3) TQ1_1_ok.looks _ _).ofF fun args m p R h hp => by
  unfold F_impl_within at h
  split at h
  · injection h with h; injection h with h1 h2; subst h1; subst h2
    exact ⟨rfl, (congrArg At (eq_impl_within _ _ _ _)).mp ⟨vc_impl_within _ _ _ hp⟩⟩
  · cases h
def TQ1_2 : Tab := TQ1_1.add 55 F_impl_within
theorem TQ1_2_ok : TQ1_2.Ok Tryd.prog := TQ1_1_ok.add ok_impl_within
theorem eq_impl_digit (b : Int) (K : V → Prop) : VC_impl_digit b K = vbody Tryd.prog (vin Tryd.prog TQ1_2 annTQ1 3) TQ1_2.looks (annTQ1 61) 61 [.int .u8 b] [] (fun v _ => K v) := by kernel_rfl
theorem ok_impl_digit : OK Tryd.prog 61 F_impl_digit.spec := (vbody_ok (vin_ok TQ1_2_ok annTQ1 3) TQ1_2_ok.looks _ _).ofF fun args m p R h hp => by
  unfold F_impl_digit at h
  split at h
  · injection h with h; injection h with h1 h2; subst h1; subst h2
    exact ⟨rfl, (congrArg At (eq_impl_digit _ _)).mp ⟨vc_impl_digit _ hp⟩⟩
  · cases h
def TQ1_3 : Tab := TQ1_2.add 61 F_impl_digit
theorem TQ1_3_ok : TQ1_3.Ok Tryd.prog := TQ1_2_ok.add ok_impl_digit
theorem eq_spec_woRule (s : List UInt8) (K : V → Prop) : VC_spec_woRule s K = vbody Tryd.prog (vin Tryd.prog TQ1_3 annTQ1 3) TQ1_3.looks (annTQ1 63) 63 [.str s] [] (fun v _ => K v) := by kernel_rfl
theorem ok_spec_woRule : OK Tryd.prog 63 F_spec_woRule.spec := (vbody_ok (vin_ok TQ1_3_ok annTQ1 3) TQ1_3_ok.looks _ _).ofF fun args m p R h hp => by
  unfold F_spec_woRule at h
  split at h
  · injection h with h; injection h with h1 h2; subst h1; subst h2
    exact ⟨rfl, (congrArg At (eq_spec_woRule _ _)).mp ⟨vc_spec_woRule _ hp⟩⟩
  · cases h
def TQ1_4 : Tab := TQ1_3.add 63 F_spec_woRule
theorem TQ1_4_ok : TQ1_4.Ok Tryd.prog := TQ1_3_ok.add ok_spec_woRule
theorem eq_impl_IsRule (s : List UInt8) (K : V → Prop) : VC_impl_IsRule s K = vbody Tryd.prog (vin Tryd.prog TQ1_4 annTQ1 3) TQ1_4.looks (annTQ1 70) 70 [.str s] [] (fun v _ => K v) := by kernel_rfl
theorem ok_impl_IsRule : OK Tryd.prog 70 F_impl_IsRule.spec := (vbody_ok (vin_ok TQ1_4_ok annTQ1 3) TQ1_4_ok.looks _ _).ofF fun args m p R h hp => by
  unfold F_impl_IsRule at h
  split at h
  · injection h with h; injection h with h1 h2; subst h1; subst h2
    exact ⟨rfl, (congrArg At (eq_impl_IsRule _ _)).mp ⟨vc_impl_IsRule _ hp⟩⟩
  · cases h
def TQ1_5 : Tab := TQ1_4.add 70 F_impl_IsRule
theorem TQ1_5_ok : TQ1_5.Ok Tryd.prog := TQ1_4_ok.add ok_impl_IsRule
theorem eq_spec_woGood (wr : List UInt8) (ww : Int) (wh : Int) (wc : List UInt8) (wx : Int) (wy : Int) (wd : Int) (K : V → Prop) : VC_spec_woGood wr ww wh wc wx wy wd K = vbody Tryd.prog (vin Tryd.prog TQ1_5 annTQ1 3) TQ1_5.looks (annTQ1 42) 42 [.agg [.str wr, .int .i64 ww, .int .i64 wh, .str wc, .int .i64 wx, .int .i64 wy, .int .i64 wd]] [] (fun v _ => K v) := by kernel_rfl
theorem ok_spec_woGood : OK Tryd.prog 42 F_spec_woGood.spec := (vbody_ok (vin_ok TQ1_5_ok annTQ1 3) TQ1_5_ok.looks _ _).ofF fun args m p R h hp => by
  unfold F_spec_woGood at h
  split at h
  · injection h with h; injection h with h1 h2; subst h1; subst h2
    exact ⟨rfl, (congrArg At (eq_spec_woGood _ _ _ _ _ _ _ _)).mp ⟨vc_spec_woGood _ _ _ _ _ _ _ hp⟩⟩
  · cases h
def TQ1_6 : Tab := TQ1_5.add 42 F_spec_woGood
theorem TQ1_6_ok : TQ1_6.Ok Tryd.prog := TQ1_5_ok.add ok_spec_woGood
theorem eq_impl_areColours (s : List UInt8) (n : Int) (K : V → Prop) : VC_impl_areColours s n K = vbody Tryd.prog (vin Tryd.prog TQ1_6 annTQ1 3) TQ1_6.looks (annTQ1 72) 72 [.str s, .int .i64 n] [] (fun v _ => K v) := by kernel_rfl
theorem ok_impl_areColours : OK Tryd.prog 72 F_impl_areColours.spec := (vbody_ok (vin_ok TQ1_6_ok annTQ1 3) TQ1_6_ok.looks _ _).ofF fun args m p R h hp => by
  unfold F_impl_areColours at h
  split at h
  · injection h with h; injection h with h1 h2; subst h1; subst h2
    exact ⟨rfl, (congrArg At (eq_impl_areColours _ _ _)).mp ⟨vc_impl_areColours _ _ hp⟩⟩
  · cases h
def TQ1_7 : Tab := TQ1_6.add 72 F_impl_areColours
theorem TQ1_7_ok : TQ1_7.Ok Tryd.prog := TQ1_6_ok.add ok_impl_areColours
theorem eq_impl_IsWorld (wr : List UInt8) (ww : Int) (wh : Int) (wc : List UInt8) (wx : Int) (wy : Int) (wd : Int) (K : V → Prop) : VC_impl_IsWorld wr ww wh wc wx wy wd K = vbody Tryd.prog (vin Tryd.prog TQ1_7 annTQ1 4) TQ1_7.looks (annTQ1 49) 49 [.agg [.str wr, .int .i64 ww, .int .i64 wh, .str wc, .int .i64 wx, .int .i64 wy, .int .i64 wd]] [] (fun v _ => K v) := by kernel_rfl
theorem ok_impl_IsWorld : OK Tryd.prog 49 F_impl_IsWorld.spec := (vbody_ok (vin_ok TQ1_7_ok annTQ1 4) TQ1_7_ok.looks _ _).ofF fun args m p R h hp => by
  unfold F_impl_IsWorld at h
  split at h
  · injection h with h; injection h with h1 h2; subst h1; subst h2
    exact ⟨rfl, (congrArg At (eq_impl_IsWorld _ _ _ _ _ _ _ _)).mp ⟨vc_impl_IsWorld _ _ _ _ _ _ _ hp⟩⟩
  · cases h
def TQ1_8 : Tab := TQ1_7.add 49 F_impl_IsWorld
theorem TQ1_8_ok : TQ1_8.Ok Tryd.prog := TQ1_7_ok.add ok_impl_IsWorld
theorem eq_spec_woColour (wr : List UInt8) (ww : Int) (wh : Int) (wc : List UInt8) (wx : Int) (wy : Int) (wd : Int) (x : Int) (y : Int) (K : V → Prop) : VC_spec_woColour wr ww wh wc wx wy wd x y K = vbody Tryd.prog (vin Tryd.prog TQ1_8 annTQ1 3) TQ1_8.looks (annTQ1 66) 66 [.agg [.str wr, .int .i64 ww, .int .i64 wh, .str wc, .int .i64 wx, .int .i64 wy, .int .i64 wd], .int .i64 x, .int .i64 y] [] (fun v _ => K v) := by kernel_rfl
theorem ok_spec_woColour : OK Tryd.prog 66 F_spec_woColour.spec := (vbody_ok (vin_ok TQ1_8_ok annTQ1 3) TQ1_8_ok.looks _ _).ofF fun args m p R h hp => by
  unfold F_spec_woColour at h
  split at h
  · injection h with h; injection h with h1 h2; subst h1; subst h2
    exact ⟨rfl, (congrArg At (eq_spec_woColour _ _ _ _ _ _ _ _ _ _)).mp ⟨vc_spec_woColour _ _ _ _ _ _ _ _ _ hp⟩⟩
  · cases h
def TQ1_9 : Tab := TQ1_8.add 66 F_spec_woColour
theorem TQ1_9_ok : TQ1_9.Ok Tryd.prog := TQ1_8_ok.add ok_spec_woColour
theorem eq_impl_board_colour (wr : List UInt8) (ww : Int) (wh : Int) (wc : List UInt8) (wx : Int) (wy : Int) (wd : Int) (x : Int) (y : Int) (K : V → Prop) : VC_impl_board_colour wr ww wh wc wx wy wd x y K = vbody Tryd.prog (vin Tryd.prog TQ1_9 annTQ1 3) TQ1_9.looks (annTQ1 79) 79 [.agg [.str wr, .int .i64 ww, .int .i64 wh, .str wc, .int .i64 wx, .int .i64 wy, .int .i64 wd], .int .i64 x, .int .i64 y] [] (fun v _ => K v) := by kernel_rfl
theorem ok_impl_board_colour : OK Tryd.prog 79 F_impl_board_colour.spec := (vbody_ok (vin_ok TQ1_9_ok annTQ1 3) TQ1_9_ok.looks _ _).ofF fun args m p R h hp => by
  unfold F_impl_board_colour at h
  split at h
  · injection h with h; injection h with h1 h2; subst h1; subst h2
    exact ⟨rfl, (congrArg At (eq_impl_board_colour _ _ _ _ _ _ _ _ _ _)).mp ⟨vc_impl_board_colour _ _ _ _ _ _ _ _ _ hp⟩⟩
  · cases h
def TQ1_10 : Tab := TQ1_9.add 79 F_impl_board_colour
theorem TQ1_10_ok : TQ1_10.Ok Tryd.prog := TQ1_9_ok.add ok_impl_board_colour
theorem eq_laws_szWorld (wr : List UInt8) (ww : Int) (wh : Int) (wc : List UInt8) (wx : Int) (wy : Int) (wd : Int) (left : Int) (K : V → Prop) : VC_laws_szWorld wr ww wh wc wx wy wd left K = vbody Tryd.prog (vin Tryd.prog TQ1_10 annTQ1 3) TQ1_10.looks (annTQ1 14) 14 [.agg [.str wr, .int .i64 ww, .int .i64 wh, .str wc, .int .i64 wx, .int .i64 wy, .int .i64 wd], .int .i64 left] [] (fun v _ => K v) := by kernel_rfl
theorem ok_laws_szWorld : OK Tryd.prog 14 F_laws_szWorld.spec := (vbody_ok (vin_ok TQ1_10_ok annTQ1 3) TQ1_10_ok.looks _ _).ofF fun args m p R h hp => by
  unfold F_laws_szWorld at h
  split at h
  · injection h with h; injection h with h1 h2; subst h1; subst h2
    exact ⟨rfl, (congrArg At (eq_laws_szWorld _ _ _ _ _ _ _ _ _)).mp ⟨vc_laws_szWorld _ _ _ _ _ _ _ _ hp⟩⟩
  · cases h
def TQ1_11 : Tab := TQ1_10.add 14 F_laws_szWorld
theorem TQ1_11_ok : TQ1_11.Ok Tryd.prog := TQ1_10_ok.add ok_laws_szWorld
theorem eq_laws_eqWorld (ar : List UInt8) (aw : Int) (ah : Int) (ac : List UInt8) (ax : Int) (ay : Int) (ad : Int) (br : List UInt8) (bw : Int) (bh : Int) (bc : List UInt8) (bx : Int) (by_ : Int) (bd : Int) (K : V → Prop) : VC_laws_eqWorld ar aw ah ac ax ay ad br bw bh bc bx by_ bd K = vbody Tryd.prog (vin Tryd.prog TQ1_11 annTQ1 3) TQ1_11.looks (annTQ1 41) 41 [.agg [.str ar, .int .i64 aw, .int .i64 ah, .str ac, .int .i64 ax, .int .i64 ay, .int .i64 ad], .agg [.str br, .int .i64 bw, .int .i64 bh, .str bc, .int .i64 bx, .int .i64 by_, .int .i64 bd]] [] (fun v _ => K v) := by kernel_rfl
theorem ok_laws_eqWorld : OK Tryd.prog 41 F_laws_eqWorld.spec := (vbody_ok (vin_ok TQ1_11_ok annTQ1 3) TQ1_11_ok.looks _ _).ofF fun args m p R h hp => by
  unfold F_laws_eqWorld at h
  split at h
  · injection h with h; injection h with h1 h2; subst h1; subst h2
    exact ⟨rfl, (congrArg At (eq_laws_eqWorld _ _ _ _ _ _ _ _ _ _ _ _ _ _ _)).mp ⟨vc_laws_eqWorld _ _ _ _ _ _ _ _ _ _ _ _ _ _ hp⟩⟩
  · cases h
def TQ1_12 : Tab := TQ1_11.add 41 F_laws_eqWorld
theorem TQ1_12_ok : TQ1_12.Ok Tryd.prog := TQ1_11_ok.add ok_laws_eqWorld
theorem eq_spec_l1Num (n : Int) (K : V → Prop) : VC_spec_l1Num n K = vbody Tryd.prog (vin Tryd.prog TQ1_12 annTQ1 0) TQ1_12.looks (annTQ1 85) 85 [.int .i64 n] [] (fun v _ => K v) := by kernel_rfl
theorem ok_spec_l1Num : OK Tryd.prog 85 F_spec_l1Num.spec := (vbody_ok (vin_ok TQ1_12_ok annTQ1 0) TQ1_12_ok.looks _ _).ofF fun args m p R h hp => by
  unfold F_spec_l1Num at h
  split at h
  · injection h with h; injection h with h1 h2; subst h1; subst h2
    exact ⟨rfl, (congrArg At (eq_spec_l1Num _ _)).mp ⟨vc_spec_l1Num _ hp⟩⟩
  · cases h
def TQ1_13 : Tab := TQ1_12.add 85 F_spec_l1Num
theorem TQ1_13_ok : TQ1_13.Ok Tryd.prog := TQ1_12_ok.add ok_spec_l1Num
theorem eq_strconv_FormatInt (n : Int) (b : Int) (K : V → Prop) : VC_strconv_FormatInt n b K = vbody Tryd.prog (vin Tryd.prog TQ1_13 annTQ1 3) TQ1_13.looks (annTQ1 97) 97 [.int .i64 n, .int .i64 b] [] (fun v _ => K v) := by kernel_rfl
theorem ok_strconv_FormatInt : OK Tryd.prog 97 F_strconv_FormatInt.spec := (vbody_ok (vin_ok TQ1_13_ok annTQ1 3) TQ1_13_ok.looks _ _).ofF fun args m p R h hp => by
  unfold F_strconv_FormatInt at h
  split at h
  · injection h with h; injection h with h1 h2; subst h1; subst h2
    exact ⟨rfl, (congrArg At (eq_strconv_FormatInt _ _ _)).mp ⟨vc_strconv_FormatInt _ _ hp⟩⟩
  · cases h
def TQ1_14 : Tab := TQ1_13.add 97 F_strconv_FormatInt
theorem TQ1_14_ok : TQ1_14.Ok Tryd.prog := TQ1_13_ok.add ok_strconv_FormatInt
theorem eq_strconv_Itoa (n : Int) (K : V → Prop) : VC_strconv_Itoa n K = vbody Tryd.prog (vin Tryd.prog TQ1_14 annTQ1 3) TQ1_14.looks (annTQ1 78) 78 [.int .i64 n] [] (fun v _ => K v) := by kernel_rfl
theorem ok_strconv_Itoa : OK Tryd.prog 78 F_strconv_Itoa.spec := (vbody_ok (vin_ok TQ1_14_ok annTQ1 3) TQ1_14_ok.looks _ _).ofF fun args m p R h hp => by
  unfold F_strconv_Itoa at h
  split at h
  · injection h with h; injection h with h1 h2; subst h1; subst h2
    exact ⟨rfl, (congrArg At (eq_strconv_Itoa _ _)).mp ⟨vc_strconv_Itoa _ hp⟩⟩
  · cases h
def TQ1_15 : Tab := TQ1_14.add 78 F_strconv_Itoa
theorem TQ1_15_ok : TQ1_15.Ok Tryd.prog := TQ1_14_ok.add ok_strconv_Itoa
theorem eq_spec_l1Mod (n : Int) (m : Int) (K : V → Prop) : VC_spec_l1Mod n m K = vbody Tryd.prog (vin Tryd.prog TQ1_15 annTQ1 3) TQ1_15.looks (annTQ1 86) 86 [.int .i64 n, .int .i64 m] [] (fun v _ => K v) := by kernel_rfl
theorem ok_spec_l1Mod : OK Tryd.prog 86 F_spec_l1Mod.spec := (vbody_ok (vin_ok TQ1_15_ok annTQ1 3) TQ1_15_ok.looks _ _).ofF fun args m p R h hp => by
  unfold F_spec_l1Mod at h
  split at h
  · injection h with h; injection h with h1 h2; subst h1; subst h2
    exact ⟨rfl, (congrArg At (eq_spec_l1Mod _ _ _)).mp ⟨vc_spec_l1Mod _ _ hp⟩⟩
  · cases h
def TQ1_16 : Tab := TQ1_15.add 86 F_spec_l1Mod
theorem TQ1_16_ok : TQ1_16.Ok Tryd.prog := TQ1_15_ok.add ok_spec_l1Mod
theorem eq_spec_woTurn (b : Int) (K : V → Prop) : VC_spec_woTurn b K = vbody Tryd.prog (vin Tryd.prog TQ1_16 annTQ1 3) TQ1_16.looks (annTQ1 67) 67 [.int .u8 b] [] (fun v _ => K v) := by kernel_rfl
theorem ok_spec_woTurn : OK Tryd.prog 67 F_spec_woTurn.spec := (vbody_ok (vin_ok TQ1_16_ok annTQ1 3) TQ1_16_ok.looks _ _).ofF fun args m p R h hp => by
  unfold F_spec_woTurn at h
  split at h
  · injection h with h; injection h with h1 h2; subst h1; subst h2
    exact ⟨rfl, (congrArg At (eq_spec_woTurn _ _)).mp ⟨vc_spec_woTurn _ hp⟩⟩
  · cases h
def TQ1_17 : Tab := TQ1_16.add 67 F_spec_woTurn
theorem TQ1_17_ok : TQ1_17.Ok Tryd.prog := TQ1_16_ok.add ok_spec_woTurn
theorem eq_impl_quarters (b : Int) (K : V → Prop) : VC_impl_quarters b K = vbody Tryd.prog (vin Tryd.prog TQ1_17 annTQ1 3) TQ1_17.looks (annTQ1 81) 81 [.int .u8 b] [] (fun v _ => K v) := by kernel_rfl
theorem ok_impl_quarters : OK Tryd.prog 81 F_impl_quarters.spec := (vbody_ok (vin_ok TQ1_17_ok annTQ1 3) TQ1_17_ok.looks _ _).ofF fun args m p R h hp => by
  unfold F_impl_quarters at h
  split at h
  · injection h with h; injection h with h1 h2; subst h1; subst h2
    exact ⟨rfl, (congrArg At (eq_impl_quarters _ _)).mp ⟨vc_impl_quarters _ hp⟩⟩
  · cases h
def TQ1_18 : Tab := TQ1_17.add 81 F_impl_quarters
theorem TQ1_18_ok : TQ1_18.Ok Tryd.prog := TQ1_17_ok.add ok_impl_quarters
theorem eq_impl_direction (d : Int) (K : V → Prop) : VC_impl_direction d K = vbody Tryd.prog (vin Tryd.prog TQ1_18 annTQ1 3) TQ1_18.looks (annTQ1 92) 92 [.int .i64 d] [] (fun v _ => K v) := by kernel_rfl
theorem ok_impl_direction : OK Tryd.prog 92 F_impl_direction.spec := (vbody_ok (vin_ok TQ1_18_ok annTQ1 3) TQ1_18_ok.looks _ _).ofF fun args m p R h hp => by
  unfold F_impl_direction at h
  split at h
  · injection h with h; injection h with h1 h2; subst h1; subst h2
    exact ⟨rfl, (congrArg At (eq_impl_direction _ _)).mp ⟨vc_impl_direction _ hp⟩⟩
  · cases h
def TQ1_19 : Tab := TQ1_18.add 92 F_impl_direction
theorem TQ1_19_ok : TQ1_19.Ok Tryd.prog := TQ1_18_ok.add ok_impl_direction
theorem eq_impl_board_sign (wr : List UInt8) (ww : Int) (wh : Int) (wc : List UInt8) (wx : Int) (wy : Int) (wd : Int) (K : V → Prop) : VC_impl_board_sign wr ww wh wc wx wy wd K = vbody Tryd.prog (vin Tryd.prog TQ1_19 annTQ1 3) TQ1_19.looks (annTQ1 82) 82 [.agg [.str wr, .int .i64 ww, .int .i64 wh, .str wc, .int .i64 wx, .int .i64 wy, .int .i64 wd]] [] (fun v _ => K v) := by kernel_rfl
theorem ok_impl_board_sign : OK Tryd.prog 82 F_impl_board_sign.spec := (vbody_ok (vin_ok TQ1_19_ok annTQ1 3) TQ1_19_ok.looks _ _).ofF fun args m p R h hp => by
  unfold F_impl_board_sign at h
  split at h
  · injection h with h; injection h with h1 h2; subst h1; subst h2
    exact ⟨rfl, (congrArg At (eq_impl_board_sign _ _ _ _ _ _ _ _)).mp ⟨vc_impl_board_sign _ _ _ _ _ _ _ hp⟩⟩
  · cases h
def TQ1_20 : Tab := TQ1_19.add 82 F_impl_board_sign
theorem TQ1_20_ok : TQ1_20.Ok Tryd.prog := TQ1_19_ok.add ok_impl_board_sign
theorem eq_impl_board_painted (wr : List UInt8) (ww : Int) (wh : Int) (wc : List UInt8) (wx : Int) (wy : Int) (wd : Int) (x : Int) (y : Int) (k : Int) (K : V → Prop) : VC_impl_board_painted wr ww wh wc wx wy wd x y k K = vbody Tryd.prog (vin Tryd.prog TQ1_20 annTQ1 3) TQ1_20.looks (annTQ1 83) 83 [.agg [.str wr, .int .i64 ww, .int .i64 wh, .str wc, .int .i64 wx, .int .i64 wy, .int .i64 wd], .int .i64 x, .int .i64 y, .int .i64 k] [] (fun v _ => K v) := by kernel_rfl
theorem ok_impl_board_painted : OK Tryd.prog 83 F_impl_board_painted.spec := (vbody_ok (vin_ok TQ1_20_ok annTQ1 3) TQ1_20_ok.looks _ _).ofF fun args m p R h hp => by
  unfold F_impl_board_painted at h
  split at h
  · injection h with h; injection h with h1 h2; subst h1; subst h2
    exact ⟨rfl, (congrArg At (eq_impl_board_painted _ _ _ _ _ _ _ _ _ _ _)).mp ⟨vc_impl_board_painted _ _ _ _ _ _ _ _ _ _ hp⟩⟩
  · cases h
def TQ1_21 : Tab := TQ1_20.add 83 F_impl_board_painted
theorem TQ1_21_ok : TQ1_21.Ok Tryd.prog := TQ1_20_ok.add ok_impl_board_painted
theorem eq_impl_board_turned (wr : List UInt8) (ww : Int) (wh : Int) (wc : List UInt8) (wx : Int) (wy : Int) (wd : Int) (q : Int) (K : V → Prop) : VC_impl_board_turned wr ww wh wc wx wy wd q K = vbody Tryd.prog (vin Tryd.prog TQ1_21 annTQ1 3) TQ1_21.looks (annTQ1 80) 80 [.agg [.str wr, .int .i64 ww, .int .i64 wh, .str wc, .int .i64 wx, .int .i64 wy, .int .i64 wd], .int .i64 q] [] (fun v _ => K v) := by kernel_rfl
theorem ok_impl_board_turned : OK Tryd.prog 80 F_impl_board_turned.spec := (vbody_ok (vin_ok TQ1_21_ok annTQ1 3) TQ1_21_ok.looks _ _).ofF fun args m p R h hp => by
  unfold F_impl_board_turned at h
  split at h
  · injection h with h; injection h with h1 h2; subst h1; subst h2
    exact ⟨rfl, (congrArg At (eq_impl_board_turned _ _ _ _ _ _ _ _ _)).mp ⟨vc_impl_board_turned _ _ _ _ _ _ _ _ hp⟩⟩
  · cases h
def TQ1_22 : Tab := TQ1_21.add 80 F_impl_board_turned
theorem TQ1_22_ok : TQ1_22.Ok Tryd.prog := TQ1_21_ok.add ok_impl_board_turned
theorem eq_impl_board_moved (wr : List UInt8) (ww : Int) (wh : Int) (wc : List UInt8) (wx : Int) (wy : Int) (wd : Int) (k : Int) (K : V → Prop) : VC_impl_board_moved wr ww wh wc wx wy wd k K = vbody Tryd.prog (vin Tryd.prog TQ1_22 annTQ1 3) TQ1_22.looks (annTQ1 84) 84 [.agg [.str wr, .int .i64 ww, .int .i64 wh, .str wc, .int .i64 wx, .int .i64 wy, .int .i64 wd], .int .i64 k] [] (fun v _ => K v) := by kernel_rfl
theorem ok_impl_board_moved : OK Tryd.prog 84 F_impl_board_moved.spec := (vbody_ok (vin_ok TQ1_22_ok annTQ1 3) TQ1_22_ok.looks _ _).ofF fun args m p R h hp => by
  unfold F_impl_board_moved at h
  split at h
  · injection h with h; injection h with h1 h2; subst h1; subst h2
    exact ⟨rfl, (congrArg At (eq_impl_board_moved _ _ _ _ _ _ _ _ _)).mp ⟨vc_impl_board_moved _ _ _ _ _ _ _ _ hp⟩⟩
  · cases h
def TQ1_23 : Tab := TQ1_22.add 84 F_impl_board_moved
theorem TQ1_23_ok : TQ1_23.Ok Tryd.prog := TQ1_22_ok.add ok_impl_board_moved
theorem eq_spec_woPaint (x : Int) (y : Int) (k : Int) (wr : List UInt8) (ww : Int) (wh : Int) (wc : List UInt8) (wx : Int) (wy : Int) (wd : Int) (e : TypeId) (K : V → List Blk → Prop) : VC_spec_woPaint x y k wr ww wh wc wx wy wd e K = vbody Tryd.prog (vin Tryd.prog TQ1_23 annTQ1 3) TQ1_23.looks (annTQ1 68) 68 [.ptr 0 0, .int .i64 x, .int .i64 y, .int .i64 k] [⟨.vals [.str wr, .int .i64 ww, .int .i64 wh, .str wc, .int .i64 wx, .int .i64 wy, .int .i64 wd], e, .box⟩] (K) := by kernel_rfl
theorem ok_spec_woPaint : OK Tryd.prog 68 F_spec_woPaint.spec := (vbody_ok (vin_ok TQ1_23_ok annTQ1 3) TQ1_23_ok.looks _ _).ofG fun args m p R M h hp => by
  unfold F_spec_woPaint at h
  split at h
  · injection h with h; injection h with h1 h2; injection h2 with h2 h3; subst h1; subst h2; subst h3
    exact (congrArg At (eq_spec_woPaint _ _ _ _ _ _ _ _ _ _ _ _)).mp ⟨vc_spec_woPaint _ _ _ _ _ _ _ _ _ _ _ hp⟩
  · cases h
def TQ1_24 : Tab := TQ1_23.addG 68 F_spec_woPaint
theorem TQ1_24_ok : TQ1_24.Ok Tryd.prog := TQ1_23_ok.addG ok_spec_woPaint
theorem eq_spec_woGo (k : Int) (wr : List UInt8) (ww : Int) (wh : Int) (wc : List UInt8) (wx : Int) (wy : Int) (wd : Int) (e : TypeId) (K : V → List Blk → Prop) : VC_spec_woGo k wr ww wh wc wx wy wd e K = vbody Tryd.prog (vin Tryd.prog TQ1_24 annTQ1 3) TQ1_24.looks (annTQ1 69) 69 [.ptr 0 0, .int .i64 k] [⟨.vals [.str wr, .int .i64 ww, .int .i64 wh, .str wc, .int .i64 wx, .int .i64 wy, .int .i64 wd], e, .box⟩] (K) := by kernel_rfl
theorem ok_spec_woGo : OK Tryd.prog 69 F_spec_woGo.spec := (vbody_ok (vin_ok TQ1_24_ok annTQ1 3) TQ1_24_ok.looks _ _).ofG fun args m p R M h hp => by
  unfold F_spec_woGo at h
  split at h
  · injection h with h; injection h with h1 h2; injection h2 with h2 h3; subst h1; subst h2; subst h3
    exact (congrArg At (eq_spec_woGo _ _ _ _ _ _ _ _ _ _)).mp ⟨vc_spec_woGo _ _ _ _ _ _ _ _ _ hp⟩
  · cases h
def TQ1_25 : Tab := TQ1_24.addG 69 F_spec_woGo
theorem TQ1_25_ok : TQ1_25.Ok Tryd.prog := TQ1_24_ok.addG ok_spec_woGo
theorem eq_spec_woStep (wr : List UInt8) (ww : Int) (wh : Int) (wc : List UInt8) (wx : Int) (wy : Int) (wd : Int) (K : V → Prop) : VC_spec_woStep wr ww wh wc wx wy wd K = vbody Tryd.prog (vin Tryd.prog TQ1_25 annTQ1 4) TQ1_25.looks (annTQ1 46) 46 [.agg [.str wr, .int .i64 ww, .int .i64 wh, .str wc, .int .i64 wx, .int .i64 wy, .int .i64 wd]] [] (fun v _ => K v) := by kernel_rfl
theorem ok_spec_woStep : OK Tryd.prog 46 F_spec_woStep.spec := (vbody_ok (vin_ok TQ1_25_ok annTQ1 4) TQ1_25_ok.looks _ _).ofF fun args m p R h hp => by
  unfold F_spec_woStep at h
  split at h
  · injection h with h; injection h with h1 h2; subst h1; subst h2
    exact ⟨rfl, (congrArg At (eq_spec_woStep _ _ _ _ _ _ _ _)).mp ⟨vc_spec_woStep _ _ _ _ _ _ _ hp⟩⟩
  · cases h
def TQ1_26 : Tab := TQ1_25.add 46 F_spec_woStep
theorem TQ1_26_ok : TQ1_26.Ok Tryd.prog := TQ1_25_ok.add ok_spec_woStep
theorem eq_impl_board_forth (wr : List UInt8) (ww : Int) (wh : Int) (wc : List UInt8) (wx : Int) (wy : Int) (wd : Int) (K : V → Prop) : VC_impl_board_forth wr ww wh wc wx wy wd K = vbody Tryd.prog (vin Tryd.prog TQ1_26 annTQ1 4) TQ1_26.looks (annTQ1 65) 65 [.agg [.str wr, .int .i64 ww, .int .i64 wh, .str wc, .int .i64 wx, .int .i64 wy, .int .i64 wd]] [] (fun v _ => K v) := by kernel_rfl
theorem ok_impl_board_forth : OK Tryd.prog 65 F_impl_board_forth.spec := (vbody_ok (vin_ok TQ1_26_ok annTQ1 4) TQ1_26_ok.looks _ _).ofF fun args m p R h hp => by
  unfold F_impl_board_forth at h
  split at h
  · injection h with h; injection h with h1 h2; subst h1; subst h2
    exact ⟨rfl, (congrArg At (eq_impl_board_forth _ _ _ _ _ _ _ _)).mp ⟨vc_impl_board_forth _ _ _ _ _ _ _ hp⟩⟩
  · cases h
def TQ1_27 : Tab := TQ1_26.add 65 F_impl_board_forth
theorem TQ1_27_ok : TQ1_27.Ok Tryd.prog := TQ1_26_ok.add ok_impl_board_forth
theorem eq_laws_toWorld (wr : List UInt8) (ww : Int) (wh : Int) (wc : List UInt8) (wx : Int) (wy : Int) (wd : Int) (K : V → Prop) : VC_laws_toWorld wr ww wh wc wx wy wd K = vbody Tryd.prog (vin Tryd.prog TQ1_27 annTQ1 3) TQ1_27.looks (annTQ1 16) 16 [.agg [.str wr, .int .i64 ww, .int .i64 wh, .str wc, .int .i64 wx, .int .i64 wy, .int .i64 wd]] [] (fun v _ => K v) := by kernel_rfl
theorem ok_laws_toWorld : OK Tryd.prog 16 F_laws_toWorld.spec := (vbody_ok (vin_ok TQ1_27_ok annTQ1 3) TQ1_27_ok.looks _ _).ofF fun args m p R h hp => by
  unfold F_laws_toWorld at h
  split at h
  · injection h with h; injection h with h1 h2; subst h1; subst h2
    exact ⟨rfl, (congrArg At (eq_laws_toWorld _ _ _ _ _ _ _ _)).mp ⟨vc_laws_toWorld _ _ _ _ _ _ _ hp⟩⟩
  · cases h
def TQ1_28 : Tab := TQ1_27.add 16 F_laws_toWorld
theorem TQ1_28_ok : TQ1_28.Ok Tryd.prog := TQ1_27_ok.add ok_laws_toWorld
theorem eq_spec_loPeriod (wr : List UInt8) (ww : Int) (wh : Int) (wc : List UInt8) (wx : Int) (wy : Int) (wd : Int) (K : V → Prop) : VC_spec_loPeriod wr ww wh wc wx wy wd K = vbody Tryd.prog (vin Tryd.prog TQ1_28 annTQ1 3) TQ1_28.looks (annTQ1 43) 43 [.agg [.str wr, .int .i64 ww, .int .i64 wh, .str wc, .int .i64 wx, .int .i64 wy, .int .i64 wd]] [] (fun v _ => K v) := by kernel_rfl
theorem ok_spec_loPeriod : OK Tryd.prog 43 F_spec_loPeriod.spec := (vbody_ok (vin_ok TQ1_28_ok annTQ1 3) TQ1_28_ok.looks _ _).ofF fun args m p R h hp => by
  unfold F_spec_loPeriod at h
  split at h
  · injection h with h; injection h with h1 h2; subst h1; subst h2
    exact ⟨rfl, (congrArg At (eq_spec_loPeriod _ _ _ _ _ _ _ _)).mp ⟨vc_spec_loPeriod _ _ _ _ _ _ _ hp⟩⟩
  · cases h
def TQ1_29 : Tab := TQ1_28.add 43 F_spec_loPeriod
theorem TQ1_29_ok : TQ1_29.Ok Tryd.prog := TQ1_28_ok.add ok_spec_loPeriod
theorem eq_impl_PeriodOf_1 (wr : List UInt8) (ww : Int) (wh : Int) (wc : List UInt8) (wx : Int) (wy : Int) (wd : Int) (zr : List UInt8) (zw : Int) (zh : Int) (zc : List UInt8) (zx : Int) (zy : Int) (zd : Int) (K : V → List Blk → Prop) : VC_impl_PeriodOf_1 wr ww wh wc wx wy wd zr zw zh zc zx zy zd K = vbody Tryd.prog (vin Tryd.prog TQ1_29 annTQ1 3) TQ1_29.looks (annTQ1 45) 45 [.agg [.str wr, .int .i64 ww, .int .i64 wh, .str wc, .int .i64 wx, .int .i64 wy, .int .i64 wd], .ptr 0 0] [⟨.vals [.str zr, .int .i64 zw, .int .i64 zh, .str zc, .int .i64 zx, .int .i64 zy, .int .i64 zd], 27, .box⟩] (K) := by kernel_rfl
theorem ok_impl_PeriodOf_1 : OK Tryd.prog 45 F_impl_PeriodOf_1.spec := (vbody_ok (vin_ok TQ1_29_ok annTQ1 3) TQ1_29_ok.looks _ _).ofFM fun args m p R h hp => by
  unfold F_impl_PeriodOf_1 at h
  split at h
  · injection h with h; injection h with h1 h2; subst h1; subst h2
    exact (congrArg At (eq_impl_PeriodOf_1 _ _ _ _ _ _ _ _ _ _ _ _ _ _ _)).mp ⟨vc_impl_PeriodOf_1 _ _ _ _ _ _ _ _ _ _ _ _ _ _ hp⟩
  · cases h
def TQ1_30 : Tab := TQ1_29.add 45 F_impl_PeriodOf_1
theorem TQ1_30_ok : TQ1_30.Ok Tryd.prog := TQ1_29_ok.add ok_impl_PeriodOf_1
theorem eq_spec_PeriodOf (wr : List UInt8) (ww : Int) (wh : Int) (wc : List UInt8) (wx : Int) (wy : Int) (wd : Int) (K : V → Prop) : VC_spec_PeriodOf wr ww wh wc wx wy wd K = vbody Tryd.prog (vin Tryd.prog TQ1_30 annTQ1 3) TQ1_30.looks (annTQ1 15) 15 [.agg [.str wr, .int .i64 ww, .int .i64 wh, .str wc, .int .i64 wx, .int .i64 wy, .int .i64 wd]] [] (fun v _ => K v) := by kernel_rfl
theorem ok_spec_PeriodOf : OK Tryd.prog 15 F_spec_PeriodOf.spec := (vbody_ok (vin_ok TQ1_30_ok annTQ1 3) TQ1_30_ok.looks _ _).ofF fun args m p R h hp => by
  unfold F_spec_PeriodOf at h
  split at h
  · injection h with h; injection h with h1 h2; subst h1; subst h2
    exact ⟨rfl, (congrArg At (eq_spec_PeriodOf _ _ _ _ _ _ _ _)).mp ⟨vc_spec_PeriodOf _ _ _ _ _ _ _ hp⟩⟩
  · cases h
def TQ1_31 : Tab := TQ1_30.add 15 F_spec_PeriodOf
theorem TQ1_31_ok : TQ1_31.Ok Tryd.prog := TQ1_30_ok.add ok_spec_PeriodOf
theorem eq_impl_PeriodOf (wr : List UInt8) (ww : Int) (wh : Int) (wc : List UInt8) (wx : Int) (wy : Int) (wd : Int) (K : V → Prop) : VC_impl_PeriodOf wr ww wh wc wx wy wd K = vbody Tryd.prog (vin Tryd.prog TQ1_31 annTQ1 3) TQ1_31.looks (annTQ1 17) 17 [.agg [.str wr, .int .i64 ww, .int .i64 wh, .str wc, .int .i64 wx, .int .i64 wy, .int .i64 wd]] [] (fun v _ => K v) := by kernel_rfl
theorem ok_impl_PeriodOf : OK Tryd.prog 17 F_impl_PeriodOf.spec := (vbody_ok (vin_ok TQ1_31_ok annTQ1 3) TQ1_31_ok.looks _ _).ofF fun args m p R h hp => by
  unfold F_impl_PeriodOf at h
  split at h
  · injection h with h; injection h with h1 h2; subst h1; subst h2
    exact ⟨rfl, (congrArg At (eq_impl_PeriodOf _ _ _ _ _ _ _ _)).mp ⟨vc_impl_PeriodOf _ _ _ _ _ _ _ hp⟩⟩
  · cases h
def TQ1_32 : Tab := TQ1_31.add 17 F_impl_PeriodOf
theorem TQ1_32_ok : TQ1_32.Ok Tryd.prog := TQ1_31_ok.add ok_impl_PeriodOf
theorem eq_impl_AntPeriod_1 (wr : List UInt8) (ww : Int) (wh : Int) (wc : List UInt8) (wx : Int) (wy : Int) (wd : Int) (zr : List UInt8) (zw : Int) (zh : Int) (zc : List UInt8) (zx : Int) (zy : Int) (zd : Int) (K : V → List Blk → Prop) : VC_impl_AntPeriod_1 wr ww wh wc wx wy wd zr zw zh zc zx zy zd K = vbody Tryd.prog (vin Tryd.prog TQ1_32 annTQ1 3) TQ1_32.looks (annTQ1 47) 47 [.agg [.str wr, .int .i64 ww, .int .i64 wh, .str wc, .int .i64 wx, .int .i64 wy, .int .i64 wd], .ptr 0 0] [⟨.vals [.str zr, .int .i64 zw, .int .i64 zh, .str zc, .int .i64 zx, .int .i64 zy, .int .i64 zd], 27, .box⟩] (K) := by kernel_rfl
theorem ok_impl_AntPeriod_1 : OK Tryd.prog 47 F_impl_AntPeriod_1.spec := (vbody_ok (vin_ok TQ1_32_ok annTQ1 3) TQ1_32_ok.looks _ _).ofFM fun args m p R h hp => by
  unfold F_impl_AntPeriod_1 at h
  split at h
  · injection h with h; injection h with h1 h2; subst h1; subst h2
    exact (congrArg At (eq_impl_AntPeriod_1 _ _ _ _ _ _ _ _ _ _ _ _ _ _ _)).mp ⟨vc_impl_AntPeriod_1 _ _ _ _ _ _ _ _ _ _ _ _ _ _ hp⟩
  · cases h
def TQ1_33 : Tab := TQ1_32.add 47 F_impl_AntPeriod_1
theorem TQ1_33_ok : TQ1_33.Ok Tryd.prog := TQ1_32_ok.add ok_impl_AntPeriod_1
theorem eq_impl_FirstReturn_1 (wr : List UInt8) (ww : Int) (wh : Int) (wc : List UInt8) (wx : Int) (wy : Int) (wd : Int) (zr : List UInt8) (zw : Int) (zh : Int) (zc : List UInt8) (zx : Int) (zy : Int) (zd : Int) (K : V → List Blk → Prop) : VC_impl_FirstReturn_1 wr ww wh wc wx wy wd zr zw zh zc zx zy zd K = vbody Tryd.prog (vin Tryd.prog TQ1_33 annTQ1 3) TQ1_33.looks (annTQ1 48) 48 [.agg [.str wr, .int .i64 ww, .int .i64 wh, .str wc, .int .i64 wx, .int .i64 wy, .int .i64 wd], .ptr 0 0] [⟨.vals [.str zr, .int .i64 zw, .int .i64 zh, .str zc, .int .i64 zx, .int .i64 zy, .int .i64 zd], 27, .box⟩] (K) := by kernel_rfl
theorem ok_impl_FirstReturn_1 : OK Tryd.prog 48 F_impl_FirstReturn_1.spec := (vbody_ok (vin_ok TQ1_33_ok annTQ1 3) TQ1_33_ok.looks _ _).ofFM fun args m p R h hp => by
  unfold F_impl_FirstReturn_1 at h
  split at h
  · injection h with h; injection h with h1 h2; subst h1; subst h2
    exact (congrArg At (eq_impl_FirstReturn_1 _ _ _ _ _ _ _ _ _ _ _ _ _ _ _)).mp ⟨vc_impl_FirstReturn_1 _ _ _ _ _ _ _ _ _ _ _ _ _ _ hp⟩
  · cases h
def TQ1_34 : Tab := TQ1_33.add 48 F_impl_FirstReturn_1
theorem TQ1_34_ok : TQ1_34.Ok Tryd.prog := TQ1_33_ok.add ok_impl_FirstReturn_1
theorem eq_impl_StepsBetween_1 (wr : List UInt8) (ww : Int) (wh : Int) (wc : List UInt8) (wx : Int) (wy : Int) (wd : Int) (zr : List UInt8) (zw : Int) (zh : Int) (zc : List UInt8) (zx : Int) (zy : Int) (zd : Int) (K : V → List Blk → Prop) : VC_impl_StepsBetween_1 wr ww wh wc wx wy wd zr zw zh zc zx zy zd K = vbody Tryd.prog (vin Tryd.prog TQ1_34 annTQ1 3) TQ1_34.looks (annTQ1 50) 50 [.agg [.str wr, .int .i64 ww, .int .i64 wh, .str wc, .int .i64 wx, .int .i64 wy, .int .i64 wd], .ptr 0 0] [⟨.vals [.str zr, .int .i64 zw, .int .i64 zh, .str zc, .int .i64 zx, .int .i64 zy, .int .i64 zd], 27, .box⟩] (K) := by kernel_rfl
theorem ok_impl_StepsBetween_1 : OK Tryd.prog 50 F_impl_StepsBetween_1.spec := (vbody_ok (vin_ok TQ1_34_ok annTQ1 3) TQ1_34_ok.looks _ _).ofFM fun args m p R h hp => by
  unfold F_impl_StepsBetween_1 at h
  split at h
  · injection h with h; injection h with h1 h2; subst h1; subst h2
    exact (congrArg At (eq_impl_StepsBetween_1 _ _ _ _ _ _ _ _ _ _ _ _ _ _ _)).mp ⟨vc_impl_StepsBetween_1 _ _ _ _ _ _ _ _ _ _ _ _ _ _ hp⟩
  · cases h
def TQ1_35 : Tab := TQ1_34.add 50 F_impl_StepsBetween_1
theorem TQ1_35_ok : TQ1_35.Ok Tryd.prog := TQ1_34_ok.add ok_impl_StepsBetween_1
theorem eq_spec_AntPeriod (wr : List UInt8) (ww : Int) (wh : Int) (wc : List UInt8) (wx : Int) (wy : Int) (wd : Int) (K : V → Prop) : VC_spec_AntPeriod wr ww wh wc wx wy wd K = vbody Tryd.prog (vin Tryd.prog TQ1_35 annTQ1 3) TQ1_35.looks (annTQ1 18) 18 [.agg [.str wr, .int .i64 ww, .int .i64 wh, .str wc, .int .i64 wx, .int .i64 wy, .int .i64 wd]] [] (fun v _ => K v) := by kernel_rfl
theorem ok_spec_AntPeriod : OK Tryd.prog 18 F_spec_AntPeriod.spec := (vbody_ok (vin_ok TQ1_35_ok annTQ1 3) TQ1_35_ok.looks _ _).ofF fun args m p R h hp => by
  unfold F_spec_AntPeriod at h
  split at h
  · injection h with h; injection h with h1 h2; subst h1; subst h2
    exact ⟨rfl, (congrArg At (eq_spec_AntPeriod _ _ _ _ _ _ _ _)).mp ⟨vc_spec_AntPeriod _ _ _ _ _ _ _ hp⟩⟩
  · cases h
def TQ1_36 : Tab := TQ1_35.add 18 F_spec_AntPeriod
theorem TQ1_36_ok : TQ1_36.Ok Tryd.prog := TQ1_35_ok.add ok_spec_AntPeriod
theorem eq_impl_AntPeriod (wr : List UInt8) (ww : Int) (wh : Int) (wc : List UInt8) (wx : Int) (wy : Int) (wd : Int) (K : V → Prop) : VC_impl_AntPeriod wr ww wh wc wx wy wd K = vbody Tryd.prog (vin Tryd.prog TQ1_36 annTQ1 3) TQ1_36.looks (annTQ1 19) 19 [.agg [.str wr, .int .i64 ww, .int .i64 wh, .str wc, .int .i64 wx, .int .i64 wy, .int .i64 wd]] [] (fun v _ => K v) := by kernel_rfl
theorem ok_impl_AntPeriod : OK Tryd.prog 19 F_impl_AntPeriod.spec := (vbody_ok (vin_ok TQ1_36_ok annTQ1 3) TQ1_36_ok.looks _ _).ofF fun args m p R h hp => by
  unfold F_impl_AntPeriod at h
  split at h
  · injection h with h; injection h with h1 h2; subst h1; subst h2
    exact ⟨rfl, (congrArg At (eq_impl_AntPeriod _ _ _ _ _ _ _ _)).mp ⟨vc_impl_AntPeriod _ _ _ _ _ _ _ hp⟩⟩
  · cases h
def TQ1_37 : Tab := TQ1_36.add 19 F_impl_AntPeriod
theorem TQ1_37_ok : TQ1_37.Ok Tryd.prog := TQ1_36_ok.add ok_impl_AntPeriod
theorem eq_spec_FirstReturn (wr : List UInt8) (ww : Int) (wh : Int) (wc : List UInt8) (wx : Int) (wy : Int) (wd : Int) (K : V → Prop) : VC_spec_FirstReturn wr ww wh wc wx wy wd K = vbody Tryd.prog (vin Tryd.prog TQ1_37 annTQ1 3) TQ1_37.looks (annTQ1 20) 20 [.agg [.str wr, .int .i64 ww, .int .i64 wh, .str wc, .int .i64 wx, .int .i64 wy, .int .i64 wd]] [] (fun v _ => K v) := by kernel_rfl
theorem ok_spec_FirstReturn : OK Tryd.prog 20 F_spec_FirstReturn.spec := (vbody_ok (vin_ok TQ1_37_ok annTQ1 3) TQ1_37_ok.looks _ _).ofF fun args m p R h hp => by
  unfold F_spec_FirstReturn at h
  split at h
  · injection h with h; injection h with h1 h2; subst h1; subst h2
    exact ⟨rfl, (congrArg At (eq_spec_FirstReturn _ _ _ _ _ _ _ _)).mp ⟨vc_spec_FirstReturn _ _ _ _ _ _ _ hp⟩⟩
  · cases h
def TQ1_38 : Tab := TQ1_37.add 20 F_spec_FirstReturn
theorem TQ1_38_ok : TQ1_38.Ok Tryd.prog := TQ1_37_ok.add ok_spec_FirstReturn
theorem eq_impl_FirstReturn (wr : List UInt8) (ww : Int) (wh : Int) (wc : List UInt8) (wx : Int) (wy : Int) (wd : Int) (K : V → Prop) : VC_impl_FirstReturn wr ww wh wc wx wy wd K = vbody Tryd.prog (vin Tryd.prog TQ1_38 annTQ1 3) TQ1_38.looks (annTQ1 21) 21 [.agg [.str wr, .int .i64 ww, .int .i64 wh, .str wc, .int .i64 wx, .int .i64 wy, .int .i64 wd]] [] (fun v _ => K v) := by kernel_rfl
theorem ok_impl_FirstReturn : OK Tryd.prog 21 F_impl_FirstReturn.spec := (vbody_ok (vin_ok TQ1_38_ok annTQ1 3) TQ1_38_ok.looks _ _).ofF fun args m p R h hp => by
  unfold F_impl_FirstReturn at h
  split at h
  · injection h with h; injection h with h1 h2; subst h1; subst h2
    exact ⟨rfl, (congrArg At (eq_impl_FirstReturn _ _ _ _ _ _ _ _)).mp ⟨vc_impl_FirstReturn _ _ _ _ _ _ _ hp⟩⟩
  · cases h
def TQ1_39 : Tab := TQ1_38.add 21 F_impl_FirstReturn
theorem TQ1_39_ok : TQ1_39.Ok Tryd.prog := TQ1_38_ok.add ok_impl_FirstReturn
theorem eq_spec_StepsBetween (wr : List UInt8) (ww : Int) (wh : Int) (wc : List UInt8) (wx : Int) (wy : Int) (wd : Int) (vr : List UInt8) (vw : Int) (vh : Int) (vc : List UInt8) (vx : Int) (vy : Int) (vd : Int) (K : V → Prop) : VC_spec_StepsBetween wr ww wh wc wx wy wd vr vw vh vc vx vy vd K = vbody Tryd.prog (vin Tryd.prog TQ1_39 annTQ1 3) TQ1_39.looks (annTQ1 22) 22 [.agg [.str wr, .int .i64 ww, .int .i64 wh, .str wc, .int .i64 wx, .int .i64 wy, .int .i64 wd], .agg [.str vr, .int .i64 vw, .int .i64 vh, .str vc, .int .i64 vx, .int .i64 vy, .int .i64 vd]] [] (fun v _ => K v) := by kernel_rfl
theorem ok_spec_StepsBetween : OK Tryd.prog 22 F_spec_StepsBetween.spec := (vbody_ok (vin_ok TQ1_39_ok annTQ1 3) TQ1_39_ok.looks _ _).ofF fun args m p R h hp => by
  unfold F_spec_StepsBetween at h
  split at h
  · injection h with h; injection h with h1 h2; subst h1; subst h2
    exact ⟨rfl, (congrArg At (eq_spec_StepsBetween _ _ _ _ _ _ _ _ _ _ _ _ _ _ _)).mp ⟨vc_spec_StepsBetween _ _ _ _ _ _ _ _ _ _ _ _ _ _ hp⟩⟩
  · cases h
def TQ1_40 : Tab := TQ1_39.add 22 F_spec_StepsBetween
theorem TQ1_40_ok : TQ1_40.Ok Tryd.prog := TQ1_39_ok.add ok_spec_StepsBetween
theorem eq_impl_StepsBetween (wr : List UInt8) (ww : Int) (wh : Int) (wc : List UInt8) (wx : Int) (wy : Int) (wd : Int) (vr : List UInt8) (vw : Int) (vh : Int) (vc : List UInt8) (vx : Int) (vy : Int) (vd : Int) (K : V → Prop) : VC_impl_StepsBetween wr ww wh wc wx wy wd vr vw vh vc vx vy vd K = vbody Tryd.prog (vin Tryd.prog TQ1_40 annTQ1 3) TQ1_40.looks (annTQ1 23) 23 [.agg [.str wr, .int .i64 ww, .int .i64 wh, .str wc, .int .i64 wx, .int .i64 wy, .int .i64 wd], .agg [.str vr, .int .i64 vw, .int .i64 vh, .str vc, .int .i64 vx, .int .i64 vy, .int .i64 vd]] [] (fun v _ => K v) := by kernel_rfl
theorem ok_impl_StepsBetween : OK Tryd.prog 23 F_impl_StepsBetween.spec := (vbody_ok (vin_ok TQ1_40_ok annTQ1 3) TQ1_40_ok.looks _ _).ofF fun args m p R h hp => by
  unfold F_impl_StepsBetween at h
  split at h
  · injection h with h; injection h with h1 h2; subst h1; subst h2
    exact ⟨rfl, (congrArg At (eq_impl_StepsBetween _ _ _ _ _ _ _ _ _ _ _ _ _ _ _)).mp ⟨vc_impl_StepsBetween _ _ _ _ _ _ _ _ _ _ _ _ _ _ hp⟩⟩
  · cases h
def TQ1_41 : Tab := TQ1_40.add 23 F_impl_StepsBetween
theorem TQ1_41_ok : TQ1_41.Ok Tryd.prog := TQ1_40_ok.add ok_impl_StepsBetween
def TQ1 : Tab := TQ1_41
theorem TQ1_ok : TQ1.Ok Tryd.prog := TQ1_41_ok
end Go.Proofs.YtlechboepjmmhabDoor
