/- The contracts of this chapter. -/
import Derived.Test.YtickpjdnncpnmaaDoorPDDoor
import Derived.Test.YtickpjdnncpnmaaDoorW9Lib
import Derived.Test.YtickpjdnncpnmaaDoorPVLib
import Derived.Test.YtickpjdnncpnmaaDoorProg
import Derived.Test.YtickpjdnncpnmaaDoorPMPf
import Derived.KernelRfl
namespace Go.Proofs.YtickpjdnncpnmaaDoor
open Go Go.Vi
set_option linter.unusedVariables false
def annTPM : FuncId -> Nat -> St -> Option Ann := fun f => if f = 103 then ann_spec_woRule else if f = 107 then ann_impl_IsRule else if f = 86 then ann_spec_woGood else if f = 109 then ann_impl_areColours else if f = 50 then ann_laws_eqClueS else if f = 51 then ann_laws_markClueS else if f = 61 then ann_laws_heldClueS else if f = 46 then ann_laws_toClueS else if f = 104 then ann_spec_pzPower else if f = 88 then ann_impl_CountBoards else if f = 113 then ann_impl_led else if f = 112 then ann_impl_sumOf else if f = 87 then ann_spec_pzValue else if f = 91 then ann_impl_clueMaker_2 else if f = 36 then ann_spec_MakePuzzle else if f = 38 then ann_impl_MakePuzzle else (fun _ _ => none)
def TPM_0 : Tab := Tab.none
theorem TPM_0_ok : TPM_0.Ok Tryd.prog := Tab.none_ok
theorem eq_spec_l1In (n : Int) (lo : Int) (hi : Int) (K : V -> Prop) : VC_spec_l1In n lo hi K = vbody Tryd.prog (vin Tryd.prog TPM_0 annTPM 3) TPM_0.looks (annTPM 63) 63 [.int .i64 n, .int .i64 lo, .int .i64 hi] [] (fun v _ => K v) := by kernel_rfl
theorem ok_spec_l1In : OK Tryd.prog 63 F_spec_l1In.spec := (vbody_ok (vin_ok TPM_0_ok annTPM 3) TPM_0_ok.looks _ _).ofF fun args m p R h hp => by
 unfold F_spec_l1In at h
 split at h
 ·injection h with h; injection h with h1 h2; subst h1; subst h2
  exact ⟨rfl, (congrArg At (eq_spec_l1In _ _ _ _)).mp ⟨vc_spec_l1In _ _ _ hp⟩⟩
 ·cases h
def TPM_1 : Tab := TPM_0.add 63 F_spec_l1In
theorem TPM_1_ok : TPM_1.Ok Tryd.prog := TPM_0_ok.add ok_spec_l1In
theorem eq_impl_within (n : Int) (lo : Int) (hi : Int) (K : V -> Prop) : VC_impl_within n lo hi K = vbody Tryd.prog (vin Tryd.prog TPM_1 annTPM 3) TPM_1.looks (annTPM 67) 67 [.int .i64 n, .int .i64 lo, .int .i64 hi] [] (fun v _ => K v) := by kernel_rfl
theorem ok_impl_within : OK Tryd.prog 67 F_impl_within.spec := (vbody_ok (vin_ok TPM_1_ok annTPM 3) TPM_1_ok.looks _ _).ofF fun args m p R h hp => by
 unfold F_impl_within at h
 split at h
 ·injection h with h; injection h with h1 h2; subst h1; subst h2
  exact ⟨rfl, (congrArg At (eq_impl_within _ _ _ _)).mp ⟨vc_impl_within _ _ _ hp⟩⟩
 ·cases h
def TPM_2 : Tab := TPM_1.add 67 F_impl_within
theorem TPM_2_ok : TPM_2.Ok Tryd.prog := TPM_1_ok.add ok_impl_within
theorem eq_impl_digit (b : Int) (K : V -> Prop) : VC_impl_digit b K = vbody Tryd.prog (vin Tryd.prog TPM_2 annTPM 3) TPM_2.looks (annTPM 77) 77 [.int .u8 b] [] (fun v _ => K v) := by kernel_rfl
theorem ok_impl_digit : OK Tryd.prog 77 F_impl_digit.spec := (vbody_ok (vin_ok TPM_2_ok annTPM 3) TPM_2_ok.looks _ _).ofF fun args m p R h hp => by
 unfold F_impl_digit at h
 split at h
 ·injection h with h; injection h with h1 h2; subst h1; subst h2
  exact ⟨rfl, (congrArg At (eq_impl_digit _ _)).mp ⟨vc_impl_digit _ hp⟩⟩
 ·cases h
def TPM_3 : Tab := TPM_2.add 77 F_impl_digit
theorem TPM_3_ok : TPM_3.Ok Tryd.prog := TPM_2_ok.add ok_impl_digit
theorem eq_spec_woRule (s : List UInt8) (K : V -> Prop) : VC_spec_woRule s K = vbody Tryd.prog (vin Tryd.prog TPM_3 annTPM 3) TPM_3.looks (annTPM 103) 103 [.str s] [] (fun v _ => K v) := by kernel_rfl
theorem ok_spec_woRule : OK Tryd.prog 103 F_spec_woRule.spec := (vbody_ok (vin_ok TPM_3_ok annTPM 3) TPM_3_ok.looks _ _).ofF fun args m p R h hp => by
 unfold F_spec_woRule at h
 split at h
 ·injection h with h; injection h with h1 h2; subst h1; subst h2
  exact ⟨rfl, (congrArg At (eq_spec_woRule _ _)).mp ⟨vc_spec_woRule _ hp⟩⟩
 ·cases h
def TPM_4 : Tab := TPM_3.add 103 F_spec_woRule
theorem TPM_4_ok : TPM_4.Ok Tryd.prog := TPM_3_ok.add ok_spec_woRule
theorem eq_impl_IsRule (s : List UInt8) (K : V -> Prop) : VC_impl_IsRule s K = vbody Tryd.prog (vin Tryd.prog TPM_4 annTPM 3) TPM_4.looks (annTPM 107) 107 [.str s] [] (fun v _ => K v) := by kernel_rfl
theorem ok_impl_IsRule : OK Tryd.prog 107 F_impl_IsRule.spec := (vbody_ok (vin_ok TPM_4_ok annTPM 3) TPM_4_ok.looks _ _).ofF fun args m p R h hp => by
 unfold F_impl_IsRule at h
 split at h
 ·injection h with h; injection h with h1 h2; subst h1; subst h2
  exact ⟨rfl, (congrArg At (eq_impl_IsRule _ _)).mp ⟨vc_impl_IsRule _ hp⟩⟩
 ·cases h
def TPM_5 : Tab := TPM_4.add 107 F_impl_IsRule
theorem TPM_5_ok : TPM_5.Ok Tryd.prog := TPM_4_ok.add ok_impl_IsRule
theorem eq_spec_woGood (wr : List UInt8) (ww : Int) (wh : Int) (wc : List UInt8) (wx : Int) (wy : Int) (wd : Int) (K : V -> Prop) : VC_spec_woGood wr ww wh wc wx wy wd K = vbody Tryd.prog (vin Tryd.prog TPM_5 annTPM 3) TPM_5.looks (annTPM 86) 86 [.agg [.str wr, .int .i64 ww, .int .i64 wh, .str wc, .int .i64 wx, .int .i64 wy, .int .i64 wd]] [] (fun v _ => K v) := by kernel_rfl
theorem ok_spec_woGood : OK Tryd.prog 86 F_spec_woGood.spec := (vbody_ok (vin_ok TPM_5_ok annTPM 3) TPM_5_ok.looks _ _).ofF fun args m p R h hp => by
 unfold F_spec_woGood at h
 split at h
 ·injection h with h; injection h with h1 h2; subst h1; subst h2
  exact ⟨rfl, (congrArg At (eq_spec_woGood _ _ _ _ _ _ _ _)).mp ⟨vc_spec_woGood _ _ _ _ _ _ _ hp⟩⟩
 ·cases h
def TPM_6 : Tab := TPM_5.add 86 F_spec_woGood
theorem TPM_6_ok : TPM_6.Ok Tryd.prog := TPM_5_ok.add ok_spec_woGood
theorem eq_impl_areColours (s : List UInt8) (n : Int) (K : V -> Prop) : VC_impl_areColours s n K = vbody Tryd.prog (vin Tryd.prog TPM_6 annTPM 3) TPM_6.looks (annTPM 109) 109 [.str s, .int .i64 n] [] (fun v _ => K v) := by kernel_rfl
theorem ok_impl_areColours : OK Tryd.prog 109 F_impl_areColours.spec := (vbody_ok (vin_ok TPM_6_ok annTPM 3) TPM_6_ok.looks _ _).ofF fun args m p R h hp => by
 unfold F_impl_areColours at h
 split at h
 ·injection h with h; injection h with h1 h2; subst h1; subst h2
  exact ⟨rfl, (congrArg At (eq_impl_areColours _ _ _)).mp ⟨vc_impl_areColours _ _ hp⟩⟩
 ·cases h
def TPM_7 : Tab := TPM_6.add 109 F_impl_areColours
theorem TPM_7_ok : TPM_7.Ok Tryd.prog := TPM_6_ok.add ok_impl_areColours
theorem eq_impl_IsWorld (wr : List UInt8) (ww : Int) (wh : Int) (wc : List UInt8) (wx : Int) (wy : Int) (wd : Int) (K : V -> Prop) : VC_impl_IsWorld wr ww wh wc wx wy wd K = vbody Tryd.prog (vin Tryd.prog TPM_7 annTPM 4) TPM_7.looks (annTPM 89) 89 [.agg [.str wr, .int .i64 ww, .int .i64 wh, .str wc, .int .i64 wx, .int .i64 wy, .int .i64 wd]] [] (fun v _ => K v) := by kernel_rfl
theorem ok_impl_IsWorld : OK Tryd.prog 89 F_impl_IsWorld.spec := (vbody_ok (vin_ok TPM_7_ok annTPM 4) TPM_7_ok.looks _ _).ofF fun args m p R h hp => by
 unfold F_impl_IsWorld at h
 split at h
 ·injection h with h; injection h with h1 h2; subst h1; subst h2
  exact ⟨rfl, (congrArg At (eq_impl_IsWorld _ _ _ _ _ _ _ _)).mp ⟨vc_impl_IsWorld _ _ _ _ _ _ _ hp⟩⟩
 ·cases h
def TPM_8 : Tab := TPM_7.add 89 F_impl_IsWorld
theorem TPM_8_ok : TPM_8.Ok Tryd.prog := TPM_7_ok.add ok_impl_IsWorld
theorem eq_spec_woColour (wr : List UInt8) (ww : Int) (wh : Int) (wc : List UInt8) (wx : Int) (wy : Int) (wd : Int) (x : Int) (y : Int) (K : V -> Prop) : VC_spec_woColour wr ww wh wc wx wy wd x y K = vbody Tryd.prog (vin Tryd.prog TPM_8 annTPM 3) TPM_8.looks (annTPM 125) 125 [.agg [.str wr, .int .i64 ww, .int .i64 wh, .str wc, .int .i64 wx, .int .i64 wy, .int .i64 wd], .int .i64 x, .int .i64 y] [] (fun v _ => K v) := by kernel_rfl
theorem ok_spec_woColour : OK Tryd.prog 125 F_spec_woColour.spec := (vbody_ok (vin_ok TPM_8_ok annTPM 3) TPM_8_ok.looks _ _).ofF fun args m p R h hp => by
 unfold F_spec_woColour at h
 split at h
 ·injection h with h; injection h with h1 h2; subst h1; subst h2
  exact ⟨rfl, (congrArg At (eq_spec_woColour _ _ _ _ _ _ _ _ _ _)).mp ⟨vc_spec_woColour _ _ _ _ _ _ _ _ _ hp⟩⟩
 ·cases h
def TPM_9 : Tab := TPM_8.add 125 F_spec_woColour
theorem TPM_9_ok : TPM_9.Ok Tryd.prog := TPM_8_ok.add ok_spec_woColour
theorem eq_impl_board_colour (wr : List UInt8) (ww : Int) (wh : Int) (wc : List UInt8) (wx : Int) (wy : Int) (wd : Int) (x : Int) (y : Int) (K : V -> Prop) : VC_impl_board_colour wr ww wh wc wx wy wd x y K = vbody Tryd.prog (vin Tryd.prog TPM_9 annTPM 3) TPM_9.looks (annTPM 130) 130 [.agg [.str wr, .int .i64 ww, .int .i64 wh, .str wc, .int .i64 wx, .int .i64 wy, .int .i64 wd], .int .i64 x, .int .i64 y] [] (fun v _ => K v) := by kernel_rfl
theorem ok_impl_board_colour : OK Tryd.prog 130 F_impl_board_colour.spec := (vbody_ok (vin_ok TPM_9_ok annTPM 3) TPM_9_ok.looks _ _).ofF fun args m p R h hp => by
 unfold F_impl_board_colour at h
 split at h
 ·injection h with h; injection h with h1 h2; subst h1; subst h2
  exact ⟨rfl, (congrArg At (eq_impl_board_colour _ _ _ _ _ _ _ _ _ _)).mp ⟨vc_impl_board_colour _ _ _ _ _ _ _ _ _ hp⟩⟩
 ·cases h
def TPM_10 : Tab := TPM_9.add 130 F_impl_board_colour
theorem TPM_10_ok : TPM_10.Ok Tryd.prog := TPM_9_ok.add ok_impl_board_colour
theorem eq_laws_szWorld (wr : List UInt8) (ww : Int) (wh : Int) (wc : List UInt8) (wx : Int) (wy : Int) (wd : Int) (left : Int) (K : V -> Prop) : VC_laws_szWorld wr ww wh wc wx wy wd left K = vbody Tryd.prog (vin Tryd.prog TPM_10 annTPM 3) TPM_10.looks (annTPM 35) 35 [.agg [.str wr, .int .i64 ww, .int .i64 wh, .str wc, .int .i64 wx, .int .i64 wy, .int .i64 wd], .int .i64 left] [] (fun v _ => K v) := by kernel_rfl
theorem ok_laws_szWorld : OK Tryd.prog 35 F_laws_szWorld.spec := (vbody_ok (vin_ok TPM_10_ok annTPM 3) TPM_10_ok.looks _ _).ofF fun args m p R h hp => by
 unfold F_laws_szWorld at h
 split at h
 ·injection h with h; injection h with h1 h2; subst h1; subst h2
  exact ⟨rfl, (congrArg At (eq_laws_szWorld _ _ _ _ _ _ _ _ _)).mp ⟨vc_laws_szWorld _ _ _ _ _ _ _ _ hp⟩⟩
 ·cases h
def TPM_11 : Tab := TPM_10.add 35 F_laws_szWorld
theorem TPM_11_ok : TPM_11.Ok Tryd.prog := TPM_10_ok.add ok_laws_szWorld
theorem ok_strconv_formatBase10 : OK Tryd.prog 141 F_strconv_formatBase10.spec := Go.Proofs.YtickpjdnncpnmaaDoor.never_ok _
def TPM_12 : Tab := TPM_11.add 141 F_strconv_formatBase10
theorem TPM_12_ok : TPM_12.Ok Tryd.prog := TPM_11_ok.add ok_strconv_formatBase10
theorem ok_strconv_formatBits : OK Tryd.prog 142 F_strconv_formatBits.spec := Go.Proofs.YtickpjdnncpnmaaDoor.never_ok _
def TPM_13 : Tab := TPM_12.add 142 F_strconv_formatBits
theorem TPM_13_ok : TPM_13.Ok Tryd.prog := TPM_12_ok.add ok_strconv_formatBits
theorem ok_strconv_numDigits : OK Tryd.prog 140 F_strconv_numDigits.spec := Go.Proofs.YtickpjdnncpnmaaDoor.never_ok _
def TPM_14 : Tab := TPM_13.add 140 F_strconv_numDigits
theorem TPM_14_ok : TPM_14.Ok Tryd.prog := TPM_13_ok.add ok_strconv_numDigits
theorem eq_spec_l1Num (n : Int) (K : V -> Prop) : VC_spec_l1Num n K = vbody Tryd.prog (vin Tryd.prog TPM_14 annTPM 0) TPM_14.looks (annTPM 93) 93 [.int .i64 n] [] (fun v _ => K v) := by kernel_rfl
theorem ok_spec_l1Num : OK Tryd.prog 93 F_spec_l1Num.spec := (vbody_ok (vin_ok TPM_14_ok annTPM 0) TPM_14_ok.looks _ _).ofF fun args m p R h hp => by
 unfold F_spec_l1Num at h
 split at h
 ·injection h with h; injection h with h1 h2; subst h1; subst h2
  exact ⟨rfl, (congrArg At (eq_spec_l1Num _ _)).mp ⟨vc_spec_l1Num _ hp⟩⟩
 ·cases h
def TPM_15 : Tab := TPM_14.add 93 F_spec_l1Num
theorem TPM_15_ok : TPM_15.Ok Tryd.prog := TPM_14_ok.add ok_spec_l1Num
theorem eq_strconv_FormatInt (n : Int) (b : Int) (K : V -> Prop) : VC_strconv_FormatInt n b K = vbody Tryd.prog (vin Tryd.prog TPM_15 annTPM 3) TPM_15.looks (annTPM 118) 118 [.int .i64 n, .int .i64 b] [] (fun v _ => K v) := by kernel_rfl
theorem ok_strconv_FormatInt : OK Tryd.prog 118 F_strconv_FormatInt.spec := (vbody_ok (vin_ok TPM_15_ok annTPM 3) TPM_15_ok.looks _ _).ofF fun args m p R h hp => by
 unfold F_strconv_FormatInt at h
 split at h
 ·injection h with h; injection h with h1 h2; subst h1; subst h2
  exact ⟨rfl, (congrArg At (eq_strconv_FormatInt _ _ _)).mp ⟨vc_strconv_FormatInt _ _ hp⟩⟩
 ·cases h
def TPM_16 : Tab := TPM_15.add 118 F_strconv_FormatInt
theorem TPM_16_ok : TPM_16.Ok Tryd.prog := TPM_15_ok.add ok_strconv_FormatInt
theorem eq_strconv_Itoa (n : Int) (K : V -> Prop) : VC_strconv_Itoa n K = vbody Tryd.prog (vin Tryd.prog TPM_16 annTPM 3) TPM_16.looks (annTPM 72) 72 [.int .i64 n] [] (fun v _ => K v) := by kernel_rfl
theorem ok_strconv_Itoa : OK Tryd.prog 72 F_strconv_Itoa.spec := (vbody_ok (vin_ok TPM_16_ok annTPM 3) TPM_16_ok.looks _ _).ofF fun args m p R h hp => by
 unfold F_strconv_Itoa at h
 split at h
 ·injection h with h; injection h with h1 h2; subst h1; subst h2
  exact ⟨rfl, (congrArg At (eq_strconv_Itoa _ _)).mp ⟨vc_strconv_Itoa _ hp⟩⟩
 ·cases h
def TPM_17 : Tab := TPM_16.add 72 F_strconv_Itoa
theorem TPM_17_ok : TPM_17.Ok Tryd.prog := TPM_16_ok.add ok_strconv_Itoa
theorem eq_spec_l1Mod (n : Int) (m : Int) (K : V -> Prop) : VC_spec_l1Mod n m K = vbody Tryd.prog (vin Tryd.prog TPM_17 annTPM 3) TPM_17.looks (annTPM 152) 152 [.int .i64 n, .int .i64 m] [] (fun v _ => K v) := by kernel_rfl
theorem ok_spec_l1Mod : OK Tryd.prog 152 F_spec_l1Mod.spec := (vbody_ok (vin_ok TPM_17_ok annTPM 3) TPM_17_ok.looks _ _).ofF fun args m p R h hp => by
 unfold F_spec_l1Mod at h
 split at h
 ·injection h with h; injection h with h1 h2; subst h1; subst h2
  exact ⟨rfl, (congrArg At (eq_spec_l1Mod _ _ _)).mp ⟨vc_spec_l1Mod _ _ hp⟩⟩
 ·cases h
def TPM_18 : Tab := TPM_17.add 152 F_spec_l1Mod
theorem TPM_18_ok : TPM_18.Ok Tryd.prog := TPM_17_ok.add ok_spec_l1Mod
theorem eq_spec_woTurn (b : Int) (K : V -> Prop) : VC_spec_woTurn b K = vbody Tryd.prog (vin Tryd.prog TPM_18 annTPM 3) TPM_18.looks (annTPM 126) 126 [.int .u8 b] [] (fun v _ => K v) := by kernel_rfl
theorem ok_spec_woTurn : OK Tryd.prog 126 F_spec_woTurn.spec := (vbody_ok (vin_ok TPM_18_ok annTPM 3) TPM_18_ok.looks _ _).ofF fun args m p R h hp => by
 unfold F_spec_woTurn at h
 split at h
 ·injection h with h; injection h with h1 h2; subst h1; subst h2
  exact ⟨rfl, (congrArg At (eq_spec_woTurn _ _)).mp ⟨vc_spec_woTurn _ hp⟩⟩
 ·cases h
def TPM_19 : Tab := TPM_18.add 126 F_spec_woTurn
theorem TPM_19_ok : TPM_19.Ok Tryd.prog := TPM_18_ok.add ok_spec_woTurn
theorem eq_impl_quarters (b : Int) (K : V -> Prop) : VC_impl_quarters b K = vbody Tryd.prog (vin Tryd.prog TPM_19 annTPM 3) TPM_19.looks (annTPM 132) 132 [.int .u8 b] [] (fun v _ => K v) := by kernel_rfl
theorem ok_impl_quarters : OK Tryd.prog 132 F_impl_quarters.spec := (vbody_ok (vin_ok TPM_19_ok annTPM 3) TPM_19_ok.looks _ _).ofF fun args m p R h hp => by
 unfold F_impl_quarters at h
 split at h
 ·injection h with h; injection h with h1 h2; subst h1; subst h2
  exact ⟨rfl, (congrArg At (eq_impl_quarters _ _)).mp ⟨vc_impl_quarters _ hp⟩⟩
 ·cases h
def TPM_20 : Tab := TPM_19.add 132 F_impl_quarters
theorem TPM_20_ok : TPM_20.Ok Tryd.prog := TPM_19_ok.add ok_impl_quarters
theorem eq_impl_direction (d : Int) (K : V -> Prop) : VC_impl_direction d K = vbody Tryd.prog (vin Tryd.prog TPM_20 annTPM 3) TPM_20.looks (annTPM 153) 153 [.int .i64 d] [] (fun v _ => K v) := by kernel_rfl
theorem ok_impl_direction : OK Tryd.prog 153 F_impl_direction.spec := (vbody_ok (vin_ok TPM_20_ok annTPM 3) TPM_20_ok.looks _ _).ofF fun args m p R h hp => by
 unfold F_impl_direction at h
 split at h
 ·injection h with h; injection h with h1 h2; subst h1; subst h2
  exact ⟨rfl, (congrArg At (eq_impl_direction _ _)).mp ⟨vc_impl_direction _ hp⟩⟩
 ·cases h
def TPM_21 : Tab := TPM_20.add 153 F_impl_direction
theorem TPM_21_ok : TPM_21.Ok Tryd.prog := TPM_20_ok.add ok_impl_direction
theorem eq_impl_board_sign (wr : List UInt8) (ww : Int) (wh : Int) (wc : List UInt8) (wx : Int) (wy : Int) (wd : Int) (K : V -> Prop) : VC_impl_board_sign wr ww wh wc wx wy wd K = vbody Tryd.prog (vin Tryd.prog TPM_21 annTPM 3) TPM_21.looks (annTPM 133) 133 [.agg [.str wr, .int .i64 ww, .int .i64 wh, .str wc, .int .i64 wx, .int .i64 wy, .int .i64 wd]] [] (fun v _ => K v) := by kernel_rfl
theorem ok_impl_board_sign : OK Tryd.prog 133 F_impl_board_sign.spec := (vbody_ok (vin_ok TPM_21_ok annTPM 3) TPM_21_ok.looks _ _).ofF fun args m p R h hp => by
 unfold F_impl_board_sign at h
 split at h
 ·injection h with h; injection h with h1 h2; subst h1; subst h2
  exact ⟨rfl, (congrArg At (eq_impl_board_sign _ _ _ _ _ _ _ _)).mp ⟨vc_impl_board_sign _ _ _ _ _ _ _ hp⟩⟩
 ·cases h
def TPM_22 : Tab := TPM_21.add 133 F_impl_board_sign
theorem TPM_22_ok : TPM_22.Ok Tryd.prog := TPM_21_ok.add ok_impl_board_sign
theorem eq_impl_board_painted (wr : List UInt8) (ww : Int) (wh : Int) (wc : List UInt8) (wx : Int) (wy : Int) (wd : Int) (x : Int) (y : Int) (k : Int) (K : V -> Prop) : VC_impl_board_painted wr ww wh wc wx wy wd x y k K = vbody Tryd.prog (vin Tryd.prog TPM_22 annTPM 3) TPM_22.looks (annTPM 134) 134 [.agg [.str wr, .int .i64 ww, .int .i64 wh, .str wc, .int .i64 wx, .int .i64 wy, .int .i64 wd], .int .i64 x, .int .i64 y, .int .i64 k] [] (fun v _ => K v) := by kernel_rfl
theorem ok_impl_board_painted : OK Tryd.prog 134 F_impl_board_painted.spec := (vbody_ok (vin_ok TPM_22_ok annTPM 3) TPM_22_ok.looks _ _).ofF fun args m p R h hp => by
 unfold F_impl_board_painted at h
 split at h
 ·injection h with h; injection h with h1 h2; subst h1; subst h2
  exact ⟨rfl, (congrArg At (eq_impl_board_painted _ _ _ _ _ _ _ _ _ _ _)).mp ⟨vc_impl_board_painted _ _ _ _ _ _ _ _ _ _ hp⟩⟩
 ·cases h
def TPM_23 : Tab := TPM_22.add 134 F_impl_board_painted
theorem TPM_23_ok : TPM_23.Ok Tryd.prog := TPM_22_ok.add ok_impl_board_painted
theorem eq_impl_board_turned (wr : List UInt8) (ww : Int) (wh : Int) (wc : List UInt8) (wx : Int) (wy : Int) (wd : Int) (q : Int) (K : V -> Prop) : VC_impl_board_turned wr ww wh wc wx wy wd q K = vbody Tryd.prog (vin Tryd.prog TPM_23 annTPM 3) TPM_23.looks (annTPM 131) 131 [.agg [.str wr, .int .i64 ww, .int .i64 wh, .str wc, .int .i64 wx, .int .i64 wy, .int .i64 wd], .int .i64 q] [] (fun v _ => K v) := by kernel_rfl
theorem ok_impl_board_turned : OK Tryd.prog 131 F_impl_board_turned.spec := (vbody_ok (vin_ok TPM_23_ok annTPM 3) TPM_23_ok.looks _ _).ofF fun args m p R h hp => by
 unfold F_impl_board_turned at h
 split at h
 ·injection h with h; injection h with h1 h2; subst h1; subst h2
  exact ⟨rfl, (congrArg At (eq_impl_board_turned _ _ _ _ _ _ _ _ _)).mp ⟨vc_impl_board_turned _ _ _ _ _ _ _ _ hp⟩⟩
 ·cases h
def TPM_24 : Tab := TPM_23.add 131 F_impl_board_turned
theorem TPM_24_ok : TPM_24.Ok Tryd.prog := TPM_23_ok.add ok_impl_board_turned
theorem eq_impl_board_moved (wr : List UInt8) (ww : Int) (wh : Int) (wc : List UInt8) (wx : Int) (wy : Int) (wd : Int) (k : Int) (K : V -> Prop) : VC_impl_board_moved wr ww wh wc wx wy wd k K = vbody Tryd.prog (vin Tryd.prog TPM_24 annTPM 3) TPM_24.looks (annTPM 135) 135 [.agg [.str wr, .int .i64 ww, .int .i64 wh, .str wc, .int .i64 wx, .int .i64 wy, .int .i64 wd], .int .i64 k] [] (fun v _ => K v) := by kernel_rfl
theorem ok_impl_board_moved : OK Tryd.prog 135 F_impl_board_moved.spec := (vbody_ok (vin_ok TPM_24_ok annTPM 3) TPM_24_ok.looks _ _).ofF fun args m p R h hp => by
 unfold F_impl_board_moved at h
 split at h
 ·injection h with h; injection h with h1 h2; subst h1; subst h2
  exact ⟨rfl, (congrArg At (eq_impl_board_moved _ _ _ _ _ _ _ _ _)).mp ⟨vc_impl_board_moved _ _ _ _ _ _ _ _ hp⟩⟩
 ·cases h
def TPM_25 : Tab := TPM_24.add 135 F_impl_board_moved
theorem TPM_25_ok : TPM_25.Ok Tryd.prog := TPM_24_ok.add ok_impl_board_moved
theorem eq_spec_woPaint (x : Int) (y : Int) (k : Int) (wr : List UInt8) (ww : Int) (wh : Int) (wc : List UInt8) (wx : Int) (wy : Int) (wd : Int) (e : TypeId) (K : V -> List Blk -> Prop) : VC_spec_woPaint x y k wr ww wh wc wx wy wd e K = vbody Tryd.prog (vin Tryd.prog TPM_25 annTPM 3) TPM_25.looks (annTPM 127) 127 [.ptr 0 0, .int .i64 x, .int .i64 y, .int .i64 k] [⟨.vals [.str wr, .int .i64 ww, .int .i64 wh, .str wc, .int .i64 wx, .int .i64 wy, .int .i64 wd], e, .box⟩] (K) := by kernel_rfl
theorem ok_spec_woPaint : OK Tryd.prog 127 F_spec_woPaint.spec := (vbody_ok (vin_ok TPM_25_ok annTPM 3) TPM_25_ok.looks _ _).ofG fun args m p R M h hp => by
 unfold F_spec_woPaint at h
 split at h
 ·injection h with h; injection h with h1 h2; injection h2 with h2 h3; subst h1; subst h2; subst h3
  exact (congrArg At (eq_spec_woPaint _ _ _ _ _ _ _ _ _ _ _ _)).mp ⟨vc_spec_woPaint _ _ _ _ _ _ _ _ _ _ _ hp⟩
 ·cases h
def TPM_26 : Tab := TPM_25.addG 127 F_spec_woPaint
theorem TPM_26_ok : TPM_26.Ok Tryd.prog := TPM_25_ok.addG ok_spec_woPaint
theorem eq_spec_woGo (k : Int) (wr : List UInt8) (ww : Int) (wh : Int) (wc : List UInt8) (wx : Int) (wy : Int) (wd : Int) (e : TypeId) (K : V -> List Blk -> Prop) : VC_spec_woGo k wr ww wh wc wx wy wd e K = vbody Tryd.prog (vin Tryd.prog TPM_26 annTPM 3) TPM_26.looks (annTPM 128) 128 [.ptr 0 0, .int .i64 k] [⟨.vals [.str wr, .int .i64 ww, .int .i64 wh, .str wc, .int .i64 wx, .int .i64 wy, .int .i64 wd], e, .box⟩] (K) := by kernel_rfl
theorem ok_spec_woGo : OK Tryd.prog 128 F_spec_woGo.spec := (vbody_ok (vin_ok TPM_26_ok annTPM 3) TPM_26_ok.looks _ _).ofG fun args m p R M h hp => by
 unfold F_spec_woGo at h
 split at h
 ·injection h with h; injection h with h1 h2; injection h2 with h2 h3; subst h1; subst h2; subst h3
  exact (congrArg At (eq_spec_woGo _ _ _ _ _ _ _ _ _ _)).mp ⟨vc_spec_woGo _ _ _ _ _ _ _ _ _ hp⟩
 ·cases h
def TPM_27 : Tab := TPM_26.addG 128 F_spec_woGo
theorem TPM_27_ok : TPM_27.Ok Tryd.prog := TPM_26_ok.addG ok_spec_woGo
theorem eq_spec_woStep (wr : List UInt8) (ww : Int) (wh : Int) (wc : List UInt8) (wx : Int) (wy : Int) (wd : Int) (K : V -> Prop) : VC_spec_woStep wr ww wh wc wx wy wd K = vbody Tryd.prog (vin Tryd.prog TPM_27 annTPM 4) TPM_27.looks (annTPM 106) 106 [.agg [.str wr, .int .i64 ww, .int .i64 wh, .str wc, .int .i64 wx, .int .i64 wy, .int .i64 wd]] [] (fun v _ => K v) := by kernel_rfl
theorem ok_spec_woStep : OK Tryd.prog 106 F_spec_woStep.spec := (vbody_ok (vin_ok TPM_27_ok annTPM 4) TPM_27_ok.looks _ _).ofF fun args m p R h hp => by
 unfold F_spec_woStep at h
 split at h
 ·injection h with h; injection h with h1 h2; subst h1; subst h2
  exact ⟨rfl, (congrArg At (eq_spec_woStep _ _ _ _ _ _ _ _)).mp ⟨vc_spec_woStep _ _ _ _ _ _ _ hp⟩⟩
 ·cases h
def TPM_28 : Tab := TPM_27.add 106 F_spec_woStep
theorem TPM_28_ok : TPM_28.Ok Tryd.prog := TPM_27_ok.add ok_spec_woStep
theorem eq_impl_board_forth (wr : List UInt8) (ww : Int) (wh : Int) (wc : List UInt8) (wx : Int) (wy : Int) (wd : Int) (K : V -> Prop) : VC_impl_board_forth wr ww wh wc wx wy wd K = vbody Tryd.prog (vin Tryd.prog TPM_28 annTPM 4) TPM_28.looks (annTPM 114) 114 [.agg [.str wr, .int .i64 ww, .int .i64 wh, .str wc, .int .i64 wx, .int .i64 wy, .int .i64 wd]] [] (fun v _ => K v) := by kernel_rfl
theorem ok_impl_board_forth : OK Tryd.prog 114 F_impl_board_forth.spec := (vbody_ok (vin_ok TPM_28_ok annTPM 4) TPM_28_ok.looks _ _).ofF fun args m p R h hp => by
 unfold F_impl_board_forth at h
 split at h
 ·injection h with h; injection h with h1 h2; subst h1; subst h2
  exact ⟨rfl, (congrArg At (eq_impl_board_forth _ _ _ _ _ _ _ _)).mp ⟨vc_impl_board_forth _ _ _ _ _ _ _ hp⟩⟩
 ·cases h
def TPM_29 : Tab := TPM_28.add 114 F_impl_board_forth
theorem TPM_29_ok : TPM_29.Ok Tryd.prog := TPM_28_ok.add ok_impl_board_forth
theorem eq_laws_eqClue (ax : Int) (ay : Int) (ak : Int) (bx : Int) (by_ : Int) (bk : Int) (K : V -> Prop) : VC_laws_eqClue ax ay ak bx by_ bk K = vbody Tryd.prog (vin Tryd.prog TPM_29 annTPM 3) TPM_29.looks (annTPM 85) 85 [.agg [.int .i64 ax, .int .i64 ay, .int .i64 ak], .agg [.int .i64 bx, .int .i64 by_, .int .i64 bk]] [] (fun v _ => K v) := by kernel_rfl
theorem ok_laws_eqClue : OK Tryd.prog 85 F_laws_eqClue.spec := (vbody_ok (vin_ok TPM_29_ok annTPM 3) TPM_29_ok.looks _ _).ofF fun args m p R h hp => by
 unfold F_laws_eqClue at h
 split at h
 ·injection h with h; injection h with h1 h2; subst h1; subst h2
  exact ⟨rfl, (congrArg At (eq_laws_eqClue _ _ _ _ _ _ _)).mp ⟨vc_laws_eqClue _ _ _ _ _ _ hp⟩⟩
 ·cases h
def TPM_30 : Tab := TPM_29.add 85 F_laws_eqClue
theorem TPM_30_ok : TPM_30.Ok Tryd.prog := TPM_29_ok.add ok_laws_eqClue
theorem eq_laws_eqClueS  (n : Nat) (m : Nat) (a : List Int) (b : List Int) (K : V -> List Blk -> Prop) : VC_laws_eqClueS  n m a b K = vbody Tryd.prog (vin Tryd.prog TPM_30 annTPM 3) TPM_30.looks (annTPM 50) 50 [.row 0 n, .row 1 m] [⟨.ints .i64 a, 83, .rows 3⟩, ⟨.ints .i64 b, 83, .rows 3⟩] (K) := by kernel_rfl
theorem ok_laws_eqClueS : OK Tryd.prog 50 F_laws_eqClueS.spec := (vbody_ok (vin_ok TPM_30_ok annTPM 3) TPM_30_ok.looks _ _).ofFM fun args m p R h hp => by
 unfold F_laws_eqClueS at h
 split at h
 ·injection h with h; injection h with h1 h2; subst h1; subst h2
  exact (congrArg At (eq_laws_eqClueS _ _ _ _ _)).mp ⟨vc_laws_eqClueS _ _ _ _ hp⟩
 ·cases h
def TPM_31 : Tab := TPM_30.add 50 F_laws_eqClueS
theorem TPM_31_ok : TPM_31.Ok Tryd.prog := TPM_30_ok.add ok_laws_eqClueS
theorem eq_laws_eqPuzzle  (ar : List UInt8) (aw : Int) (ah : Int) (cr : List UInt8) (cw : Int) (ch : Int) (n : Nat) (m : Nat) (a : List Int) (b : List Int) (K : V -> List Blk -> Prop) : VC_laws_eqPuzzle  ar aw ah cr cw ch n m a b K = vbody Tryd.prog (vin Tryd.prog TPM_31 annTPM 3) TPM_31.looks (annTPM 17) 17 [.agg [.str ar, .int .i64 aw, .int .i64 ah, .row 0 n], .agg [.str cr, .int .i64 cw, .int .i64 ch, .row 1 m]] [⟨.ints .i64 a, 83, .rows 3⟩, ⟨.ints .i64 b, 83, .rows 3⟩] (K) := by kernel_rfl
theorem ok_laws_eqPuzzle : OK Tryd.prog 17 F_laws_eqPuzzle.spec := (vbody_ok (vin_ok TPM_31_ok annTPM 3) TPM_31_ok.looks _ _).ofFM fun args m p R h hp => by
 unfold F_laws_eqPuzzle at h
 split at h
 ·injection h with h; injection h with h1 h2; subst h1; subst h2
  exact (congrArg At (eq_laws_eqPuzzle _ _ _ _ _ _ _ _ _ _ _)).mp ⟨vc_laws_eqPuzzle _ _ _ _ _ _ _ _ _ _ hp⟩
 ·cases h
def TPM_32 : Tab := TPM_31.add 17 F_laws_eqPuzzle
theorem TPM_32_ok : TPM_32.Ok Tryd.prog := TPM_31_ok.add ok_laws_eqPuzzle
theorem eq_laws_markClueS (k : Int) (n : Nat) (a : List Int) (K : V -> List Blk -> Prop) : VC_laws_markClueS k n a K = vbody Tryd.prog (vin Tryd.prog TPM_32 annTPM 3) TPM_32.looks (annTPM 51) 51 [.row 0 n, .int .i64 k] [⟨.ints .i64 a, 83, .rows 3⟩] (K) := by kernel_rfl
theorem ok_laws_markClueS : OK Tryd.prog 51 F_laws_markClueS.spec := (vbody_ok (vin_ok TPM_32_ok annTPM 3) TPM_32_ok.looks _ _).ofG fun args m p R M h hp => by
 unfold F_laws_markClueS at h
 split at h
 ·injection h with h; injection h with h1 h2; injection h2 with h2 h3; subst h1; subst h2; subst h3
  exact (congrArg At (eq_laws_markClueS _ _ _ _)).mp ⟨vc_laws_markClueS _ _ _ hp⟩
 ·cases h
def TPM_33 : Tab := TPM_32.addG 51 F_laws_markClueS
theorem TPM_33_ok : TPM_33.Ok Tryd.prog := TPM_32_ok.addG ok_laws_markClueS
theorem eq_laws_heldClueS (k : Int) (n : Nat) (a : List Int) (K : V -> List Blk -> Prop) : VC_laws_heldClueS k n a K = vbody Tryd.prog (vin Tryd.prog TPM_33 annTPM 3) TPM_33.looks (annTPM 61) 61 [.row 0 n, .int .i64 k] [⟨.ints .i64 a, 83, .rows 3⟩] (K) := by kernel_rfl
theorem ok_laws_heldClueS : OK Tryd.prog 61 F_laws_heldClueS.spec := (vbody_ok (vin_ok TPM_33_ok annTPM 3) TPM_33_ok.looks _ _).ofFM fun args m p R h hp => by
 unfold F_laws_heldClueS at h
 split at h
 ·injection h with h; injection h with h1 h2; subst h1; subst h2
  exact (congrArg At (eq_laws_heldClueS _ _ _ _)).mp ⟨vc_laws_heldClueS _ _ _ hp⟩
 ·cases h
def TPM_34 : Tab := TPM_33.add 61 F_laws_heldClueS
theorem TPM_34_ok : TPM_34.Ok Tryd.prog := TPM_33_ok.add ok_laws_heldClueS
theorem eq_laws_markPuzzle (k : Int) (pr : List UInt8) (pw : Int) (ph : Int) (n : Nat) (a : List Int) (K : V -> List Blk -> Prop) : VC_laws_markPuzzle k pr pw ph n a K = vbody Tryd.prog (vin Tryd.prog TPM_34 annTPM 3) TPM_34.looks (annTPM 18) 18 [.agg [.str pr, .int .i64 pw, .int .i64 ph, .row 0 n], .int .i64 k] [⟨.ints .i64 a, 83, .rows 3⟩] (K) := by kernel_rfl
theorem ok_laws_markPuzzle : OK Tryd.prog 18 F_laws_markPuzzle.spec := (vbody_ok (vin_ok TPM_34_ok annTPM 3) TPM_34_ok.looks _ _).ofG fun args m p R M h hp => by
 unfold F_laws_markPuzzle at h
 split at h
 ·injection h with h; injection h with h1 h2; injection h2 with h2 h3; subst h1; subst h2; subst h3
  exact (congrArg At (eq_laws_markPuzzle _ _ _ _ _ _ _)).mp ⟨vc_laws_markPuzzle _ _ _ _ _ _ hp⟩
 ·cases h
def TPM_35 : Tab := TPM_34.addG 18 F_laws_markPuzzle
theorem TPM_35_ok : TPM_35.Ok Tryd.prog := TPM_34_ok.addG ok_laws_markPuzzle
theorem eq_laws_heldPuzzle (k : Int) (pr : List UInt8) (pw : Int) (ph : Int) (n : Nat) (a : List Int) (K : V -> List Blk -> Prop) : VC_laws_heldPuzzle k pr pw ph n a K = vbody Tryd.prog (vin Tryd.prog TPM_35 annTPM 3) TPM_35.looks (annTPM 34) 34 [.agg [.str pr, .int .i64 pw, .int .i64 ph, .row 0 n], .int .i64 k] [⟨.ints .i64 a, 83, .rows 3⟩] (K) := by kernel_rfl
theorem ok_laws_heldPuzzle : OK Tryd.prog 34 F_laws_heldPuzzle.spec := (vbody_ok (vin_ok TPM_35_ok annTPM 3) TPM_35_ok.looks _ _).ofFM fun args m p R h hp => by
 unfold F_laws_heldPuzzle at h
 split at h
 ·injection h with h; injection h with h1 h2; subst h1; subst h2
  exact (congrArg At (eq_laws_heldPuzzle _ _ _ _ _ _ _)).mp ⟨vc_laws_heldPuzzle _ _ _ _ _ _ hp⟩
 ·cases h
def TPM_36 : Tab := TPM_35.add 34 F_laws_heldPuzzle
theorem TPM_36_ok : TPM_36.Ok Tryd.prog := TPM_35_ok.add ok_laws_heldPuzzle
theorem eq_laws_szClueS (left : Int) (n : Nat) (a : List Int) (K : V -> List Blk -> Prop) : VC_laws_szClueS left n a K = vbody Tryd.prog (vin Tryd.prog TPM_36 annTPM 3) TPM_36.looks (annTPM 43) 43 [.row 0 n, .int .i64 left] [⟨.ints .i64 a, 99, .arg 3⟩] (K) := by kernel_rfl
theorem ok_laws_szClueS : OK Tryd.prog 43 F_laws_szClueS.spec := (vbody_ok (vin_ok TPM_36_ok annTPM 3) TPM_36_ok.looks _ _).ofFM fun args m p R h hp => by
 unfold F_laws_szClueS at h
 split at h
 ·injection h with h; injection h with h1 h2; subst h1; subst h2
  exact (congrArg At (eq_laws_szClueS _ _ _ _)).mp ⟨vc_laws_szClueS _ _ _ hp⟩
 ·cases h
def TPM_37 : Tab := TPM_36.add 43 F_laws_szClueS
theorem TPM_37_ok : TPM_37.Ok Tryd.prog := TPM_36_ok.add ok_laws_szClueS
theorem eq_laws_szPuzzle (left : Int) (pr : List UInt8) (pw : Int) (ph : Int) (n : Nat) (a : List Int) (K : V -> List Blk -> Prop) : VC_laws_szPuzzle left pr pw ph n a K = vbody Tryd.prog (vin Tryd.prog TPM_37 annTPM 3) TPM_37.looks (annTPM 12) 12 [.agg [.str pr, .int .i64 pw, .int .i64 ph, .row 0 n], .int .i64 left] [⟨.ints .i64 a, 99, .arg 3⟩] (K) := by kernel_rfl
theorem ok_laws_szPuzzle : OK Tryd.prog 12 F_laws_szPuzzle.spec := (vbody_ok (vin_ok TPM_37_ok annTPM 3) TPM_37_ok.looks _ _).ofFM fun args m p R h hp => by
 unfold F_laws_szPuzzle at h
 split at h
 ·injection h with h; injection h with h1 h2; subst h1; subst h2
  exact (congrArg At (eq_laws_szPuzzle _ _ _ _ _ _ _)).mp ⟨vc_laws_szPuzzle _ _ _ _ _ _ hp⟩
 ·cases h
def TPM_38 : Tab := TPM_37.add 12 F_laws_szPuzzle
theorem TPM_38_ok : TPM_38.Ok Tryd.prog := TPM_37_ok.add ok_laws_szPuzzle
theorem eq_laws_toClue (ax : Int) (ay : Int) (ak : Int) (K : V -> Prop) : VC_laws_toClue ax ay ak K = vbody Tryd.prog (vin Tryd.prog TPM_38 annTPM 3) TPM_38.looks (annTPM 81) 81 [.agg [.int .i64 ax, .int .i64 ay, .int .i64 ak]] [] (fun v _ => K v) := by kernel_rfl
theorem ok_laws_toClue : OK Tryd.prog 81 F_laws_toClue.spec := (vbody_ok (vin_ok TPM_38_ok annTPM 3) TPM_38_ok.looks _ _).ofF fun args m p R h hp => by
 unfold F_laws_toClue at h
 split at h
 ·injection h with h; injection h with h1 h2; subst h1; subst h2
  exact ⟨rfl, (congrArg At (eq_laws_toClue _ _ _ _)).mp ⟨vc_laws_toClue _ _ _ hp⟩⟩
 ·cases h
def TPM_39 : Tab := TPM_38.add 81 F_laws_toClue
theorem TPM_39_ok : TPM_39.Ok Tryd.prog := TPM_38_ok.add ok_laws_toClue
theorem eq_laws_toClueS  (n : Nat) (a : List Int) (K : V -> List Blk -> Prop) : VC_laws_toClueS  n a K = vbody Tryd.prog (vin Tryd.prog TPM_39 annTPM 3) TPM_39.looks (annTPM 46) 46 [.row 0 n] [⟨.ints .i64 a, 99, .arg 3⟩] (K) := by kernel_rfl
theorem ok_laws_toClueS : OK Tryd.prog 46 F_laws_toClueS.spec := (vbody_ok (vin_ok TPM_39_ok annTPM 3) TPM_39_ok.looks _ _).ofG fun args m p R M h hp => by
 unfold F_laws_toClueS at h
 split at h
 ·injection h with h; injection h with h1 h2; injection h2 with h2 h3; subst h1; subst h2; subst h3
  exact (congrArg At (eq_laws_toClueS _ _ _)).mp ⟨vc_laws_toClueS _ _ hp⟩
 ·cases h
def TPM_40 : Tab := TPM_39.addG 46 F_laws_toClueS
theorem TPM_40_ok : TPM_40.Ok Tryd.prog := TPM_39_ok.addG ok_laws_toClueS
theorem eq_laws_toPuzzle  (pr : List UInt8) (pw : Int) (ph : Int) (n : Nat) (a : List Int) (K : V -> List Blk -> Prop) : VC_laws_toPuzzle  pr pw ph n a K = vbody Tryd.prog (vin Tryd.prog TPM_40 annTPM 3) TPM_40.looks (annTPM 14) 14 [.agg [.str pr, .int .i64 pw, .int .i64 ph, .row 0 n]] [⟨.ints .i64 a, 99, .arg 3⟩] (K) := by kernel_rfl
theorem ok_laws_toPuzzle : OK Tryd.prog 14 F_laws_toPuzzle.spec := (vbody_ok (vin_ok TPM_40_ok annTPM 3) TPM_40_ok.looks _ _).ofG fun args m p R M h hp => by
 unfold F_laws_toPuzzle at h
 split at h
 ·injection h with h; injection h with h1 h2; injection h2 with h2 h3; subst h1; subst h2; subst h3
  exact (congrArg At (eq_laws_toPuzzle _ _ _ _ _ _)).mp ⟨vc_laws_toPuzzle _ _ _ _ _ hp⟩
 ·cases h
def TPM_41 : Tab := TPM_40.addG 14 F_laws_toPuzzle
theorem TPM_41_ok : TPM_41.Ok Tryd.prog := TPM_40_ok.addG ok_laws_toPuzzle
theorem ok_impl_areClues : OK Tryd.prog 94 F_impl_areClues.spec := Go.Proofs.YtickpjdnncpnmaaDoor.PD.ok_areClues
def TPM_42 : Tab := TPM_41.add 94 F_impl_areClues
theorem TPM_42_ok : TPM_42.Ok Tryd.prog := TPM_41_ok.add ok_impl_areClues
theorem eq_spec_pzPower (s : List UInt8) (n : Int) (K : V -> Prop) : VC_spec_pzPower s n K = vbody Tryd.prog (vin Tryd.prog TPM_42 annTPM 3) TPM_42.looks (annTPM 104) 104 [.str s, .int .i64 n] [] (fun v _ => K v) := by kernel_rfl
theorem ok_spec_pzPower : OK Tryd.prog 104 F_spec_pzPower.spec := (vbody_ok (vin_ok TPM_42_ok annTPM 3) TPM_42_ok.looks _ _).ofF fun args m p R h hp => by
 unfold F_spec_pzPower at h
 split at h
 ·injection h with h; injection h with h1 h2; subst h1; subst h2
  exact ⟨rfl, (congrArg At (eq_spec_pzPower _ _ _)).mp ⟨vc_spec_pzPower _ _ hp⟩⟩
 ·cases h
def TPM_43 : Tab := TPM_42.add 104 F_spec_pzPower
theorem TPM_43_ok : TPM_43.Ok Tryd.prog := TPM_42_ok.add ok_spec_pzPower
theorem eq_spec_pzSize (s : List UInt8) (w : Int) (h : Int) (K : V -> Prop) : VC_spec_pzSize s w h K = vbody Tryd.prog (vin Tryd.prog TPM_43 annTPM 3) TPM_43.looks (annTPM 78) 78 [.str s, .int .i64 w, .int .i64 h] [] (fun v _ => K v) := by kernel_rfl
theorem ok_spec_pzSize : OK Tryd.prog 78 F_spec_pzSize.spec := (vbody_ok (vin_ok TPM_43_ok annTPM 3) TPM_43_ok.looks _ _).ofF fun args m p R h hp => by
 unfold F_spec_pzSize at h
 split at h
 ·injection h with h; injection h with h1 h2; subst h1; subst h2
  exact ⟨rfl, (congrArg At (eq_spec_pzSize _ _ _ _)).mp ⟨vc_spec_pzSize _ _ _ hp⟩⟩
 ·cases h
def TPM_44 : Tab := TPM_43.add 78 F_spec_pzSize
theorem TPM_44_ok : TPM_44.Ok Tryd.prog := TPM_43_ok.add ok_spec_pzSize
theorem eq_impl_isSize (w : Int) (h : Int) (K : V -> Prop) : VC_impl_isSize w h K = vbody Tryd.prog (vin Tryd.prog TPM_44 annTPM 3) TPM_44.looks (annTPM 108) 108 [.int .i64 w, .int .i64 h] [] (fun v _ => K v) := by kernel_rfl
theorem ok_impl_isSize : OK Tryd.prog 108 F_impl_isSize.spec := (vbody_ok (vin_ok TPM_44_ok annTPM 3) TPM_44_ok.looks _ _).ofF fun args m p R h hp => by
 unfold F_impl_isSize at h
 split at h
 ·injection h with h; injection h with h1 h2; subst h1; subst h2
  exact ⟨rfl, (congrArg At (eq_impl_isSize _ _ _)).mp ⟨vc_impl_isSize _ _ hp⟩⟩
 ·cases h
def TPM_45 : Tab := TPM_44.add 108 F_impl_isSize
theorem TPM_45_ok : TPM_45.Ok Tryd.prog := TPM_44_ok.add ok_impl_isSize
theorem eq_impl_CountBoards (s : List UInt8) (w : Int) (h : Int) (K : V -> Prop) : VC_impl_CountBoards s w h K = vbody Tryd.prog (vin Tryd.prog TPM_45 annTPM 3) TPM_45.looks (annTPM 88) 88 [.str s, .int .i64 w, .int .i64 h] [] (fun v _ => K v) := by kernel_rfl
theorem ok_impl_CountBoards : OK Tryd.prog 88 F_impl_CountBoards.spec := (vbody_ok (vin_ok TPM_45_ok annTPM 3) TPM_45_ok.looks _ _).ofF fun args m p R h hp => by
 unfold F_impl_CountBoards at h
 split at h
 ·injection h with h; injection h with h1 h2; subst h1; subst h2
  exact ⟨rfl, (congrArg At (eq_impl_CountBoards _ _ _ _)).mp ⟨vc_impl_CountBoards _ _ _ hp⟩⟩
 ·cases h
def TPM_46 : Tab := TPM_45.add 88 F_impl_CountBoards
theorem TPM_46_ok : TPM_46.Ok Tryd.prog := TPM_45_ok.add ok_impl_CountBoards
theorem eq_spec_pzClue (s : List UInt8) (cells : Int) (cx : Int) (cy : Int) (ck : Int) (K : V -> Prop) : VC_spec_pzClue s cells cx cy ck K = vbody Tryd.prog (vin Tryd.prog TPM_46 annTPM 3) TPM_46.looks (annTPM 79) 79 [.str s, .int .i64 cells, .agg [.int .i64 cx, .int .i64 cy, .int .i64 ck]] [] (fun v _ => K v) := by kernel_rfl
theorem ok_spec_pzClue : OK Tryd.prog 79 F_spec_pzClue.spec := (vbody_ok (vin_ok TPM_46_ok annTPM 3) TPM_46_ok.looks _ _).ofF fun args m p R h hp => by
 unfold F_spec_pzClue at h
 split at h
 ·injection h with h; injection h with h1 h2; subst h1; subst h2
  exact ⟨rfl, (congrArg At (eq_spec_pzClue _ _ _ _ _ _)).mp ⟨vc_spec_pzClue _ _ _ _ _ hp⟩⟩
 ·cases h
def TPM_47 : Tab := TPM_46.add 79 F_spec_pzClue
theorem TPM_47_ok : TPM_47.Ok Tryd.prog := TPM_46_ok.add ok_spec_pzClue
theorem eq_impl_led (wr : List UInt8) (ww : Int) (wh : Int) (wc : List UInt8) (wx : Int) (wy : Int) (wd : Int) (s : Int) (K : V -> Prop) : VC_impl_led wr ww wh wc wx wy wd s K = vbody Tryd.prog (vin Tryd.prog TPM_47 annTPM 3) TPM_47.looks (annTPM 113) 113 [.agg [.str wr, .int .i64 ww, .int .i64 wh, .str wc, .int .i64 wx, .int .i64 wy, .int .i64 wd], .int .i64 s, .fn 114 []] [] (fun v _ => K v) := by kernel_rfl
theorem ok_impl_led : OK Tryd.prog 113 F_impl_led.spec := (vbody_ok (vin_ok TPM_47_ok annTPM 3) TPM_47_ok.looks _ _).ofF fun args m p R h hp => by
 unfold F_impl_led at h
 split at h
 ·injection h with h; injection h with h1 h2; subst h1; subst h2
  exact ⟨rfl, (congrArg At (eq_impl_led _ _ _ _ _ _ _ _ _)).mp ⟨vc_impl_led _ _ _ _ _ _ _ _ hp⟩⟩
 ·cases h
def TPM_48 : Tab := TPM_47.add 113 F_impl_led
theorem TPM_48_ok : TPM_48.Ok Tryd.prog := TPM_47_ok.add ok_impl_led
theorem eq_impl_sumOf (s : List UInt8) (K : V -> Prop) : VC_impl_sumOf s K = vbody Tryd.prog (vin Tryd.prog TPM_48 annTPM 3) TPM_48.looks (annTPM 112) 112 [.str s] [] (fun v _ => K v) := by kernel_rfl
theorem ok_impl_sumOf : OK Tryd.prog 112 F_impl_sumOf.spec := (vbody_ok (vin_ok TPM_48_ok annTPM 3) TPM_48_ok.looks _ _).ofF fun args m p R h hp => by
 unfold F_impl_sumOf at h
 split at h
 ·injection h with h; injection h with h1 h2; subst h1; subst h2
  exact ⟨rfl, (congrArg At (eq_impl_sumOf _ _)).mp ⟨vc_impl_sumOf _ hp⟩⟩
 ·cases h
def TPM_49 : Tab := TPM_48.add 112 F_impl_sumOf
theorem TPM_49_ok : TPM_49.Ok Tryd.prog := TPM_48_ok.add ok_impl_sumOf
theorem ok_strings_Count : OK Tryd.prog 115 F_strings_Count.spec := Go.Proofs.YtickpjdnncpnmaaDoor.libCount
def TPM_50 : Tab := TPM_49.add 115 F_strings_Count
theorem TPM_50_ok : TPM_50.Ok Tryd.prog := TPM_49_ok.add ok_strings_Count
theorem eq_spec_pzValue (k : Int) (a : Int) (wr : List UInt8) (ww : Int) (wh : Int) (wc : List UInt8) (wx : Int) (wy : Int) (wd : Int) (K : V -> Prop) : VC_spec_pzValue k a wr ww wh wc wx wy wd K = vbody Tryd.prog (vin Tryd.prog TPM_50 annTPM 3) TPM_50.looks (annTPM 87) 87 [.int .i64 k, .int .i64 a, .agg [.str wr, .int .i64 ww, .int .i64 wh, .str wc, .int .i64 wx, .int .i64 wy, .int .i64 wd]] [] (fun v _ => K v) := by kernel_rfl
theorem ok_spec_pzValue : OK Tryd.prog 87 F_spec_pzValue.spec := (vbody_ok (vin_ok TPM_50_ok annTPM 3) TPM_50_ok.looks _ _).ofF fun args m p R h hp => by
 unfold F_spec_pzValue at h
 split at h
 ·injection h with h; injection h with h1 h2; subst h1; subst h2
  exact ⟨rfl, (congrArg At (eq_spec_pzValue _ _ _ _ _ _ _ _ _ _)).mp ⟨vc_spec_pzValue _ _ _ _ _ _ _ _ _ hp⟩⟩
 ·cases h
def TPM_51 : Tab := TPM_50.add 87 F_spec_pzValue
theorem TPM_51_ok : TPM_51.Ok Tryd.prog := TPM_50_ok.add ok_spec_pzValue
theorem eq_spec_pzFits (cx : Int) (cy : Int) (ck : Int) (wr : List UInt8) (ww : Int) (wh : Int) (wc : List UInt8) (wx : Int) (wy : Int) (wd : Int) (K : V -> Prop) : VC_spec_pzFits cx cy ck wr ww wh wc wx wy wd K = vbody Tryd.prog (vin Tryd.prog TPM_51 annTPM 3) TPM_51.looks (annTPM 105) 105 [.agg [.int .i64 cx, .int .i64 cy, .int .i64 ck], .agg [.str wr, .int .i64 ww, .int .i64 wh, .str wc, .int .i64 wx, .int .i64 wy, .int .i64 wd]] [] (fun v _ => K v) := by kernel_rfl
theorem ok_spec_pzFits : OK Tryd.prog 105 F_spec_pzFits.spec := (vbody_ok (vin_ok TPM_51_ok annTPM 3) TPM_51_ok.looks _ _).ofF fun args m p R h hp => by
 unfold F_spec_pzFits at h
 split at h
 ·injection h with h; injection h with h1 h2; subst h1; subst h2
  exact ⟨rfl, (congrArg At (eq_spec_pzFits _ _ _ _ _ _ _ _ _ _ _)).mp ⟨vc_spec_pzFits _ _ _ _ _ _ _ _ _ _ hp⟩⟩
 ·cases h
def TPM_52 : Tab := TPM_51.add 105 F_spec_pzFits
theorem TPM_52_ok : TPM_52.Ok Tryd.prog := TPM_51_ok.add ok_spec_pzFits
theorem eq_impl_clueFrom (wr : List UInt8) (ww : Int) (wh : Int) (wc : List UInt8) (wx : Int) (wy : Int) (wd : Int) (k : Int) (a : Int) (K : V -> Prop) : VC_impl_clueFrom wr ww wh wc wx wy wd k a K = vbody Tryd.prog (vin Tryd.prog TPM_52 annTPM 3) TPM_52.looks (annTPM 92) 92 [.agg [.str wr, .int .i64 ww, .int .i64 wh, .str wc, .int .i64 wx, .int .i64 wy, .int .i64 wd], .int .i64 k, .int .i64 a] [] (fun v _ => K v) := by kernel_rfl
theorem ok_impl_clueFrom : OK Tryd.prog 92 F_impl_clueFrom.spec := (vbody_ok (vin_ok TPM_52_ok annTPM 3) TPM_52_ok.looks _ _).ofF fun args m p R h hp => by
 unfold F_impl_clueFrom at h
 split at h
 ·injection h with h; injection h with h1 h2; subst h1; subst h2
  exact ⟨rfl, (congrArg At (eq_impl_clueFrom _ _ _ _ _ _ _ _ _ _)).mp ⟨vc_impl_clueFrom _ _ _ _ _ _ _ _ _ hp⟩⟩
 ·cases h
def TPM_53 : Tab := TPM_52.add 92 F_impl_clueFrom
theorem TPM_53_ok : TPM_53.Ok Tryd.prog := TPM_52_ok.add ok_impl_clueFrom
theorem eq_impl_doesFit (cx : Int) (cy : Int) (ck : Int) (wr : List UInt8) (ww : Int) (wh : Int) (wc : List UInt8) (wx : Int) (wy : Int) (wd : Int) (K : V -> Prop) : VC_impl_doesFit cx cy ck wr ww wh wc wx wy wd K = vbody Tryd.prog (vin Tryd.prog TPM_53 annTPM 3) TPM_53.looks (annTPM 83) 83 [.agg [.int .i64 cx, .int .i64 cy, .int .i64 ck], .agg [.str wr, .int .i64 ww, .int .i64 wh, .str wc, .int .i64 wx, .int .i64 wy, .int .i64 wd]] [] (fun v _ => K v) := by kernel_rfl
theorem ok_impl_doesFit : OK Tryd.prog 83 F_impl_doesFit.spec := (vbody_ok (vin_ok TPM_53_ok annTPM 3) TPM_53_ok.looks _ _).ofF fun args m p R h hp => by
 unfold F_impl_doesFit at h
 split at h
 ·injection h with h; injection h with h1 h2; subst h1; subst h2
  exact ⟨rfl, (congrArg At (eq_impl_doesFit _ _ _ _ _ _ _ _ _ _ _)).mp ⟨vc_impl_doesFit _ _ _ _ _ _ _ _ _ _ hp⟩⟩
 ·cases h
def TPM_54 : Tab := TPM_53.add 83 F_impl_doesFit
theorem TPM_54_ok : TPM_54.Ok Tryd.prog := TPM_53_ok.add ok_impl_doesFit
theorem eq_spec_pzHidden (wr : List UInt8) (ww : Int) (wh : Int) (wc : List UInt8) (wx : Int) (wy : Int) (wd : Int) (K : V -> Prop) : VC_spec_pzHidden wr ww wh wc wx wy wd K = vbody Tryd.prog (vin Tryd.prog TPM_54 annTPM 3) TPM_54.looks (annTPM 62) 62 [.agg [.str wr, .int .i64 ww, .int .i64 wh, .str wc, .int .i64 wx, .int .i64 wy, .int .i64 wd]] [] (fun v _ => K v) := by kernel_rfl
theorem ok_spec_pzHidden : OK Tryd.prog 62 F_spec_pzHidden.spec := (vbody_ok (vin_ok TPM_54_ok annTPM 3) TPM_54_ok.looks _ _).ofF fun args m p R h hp => by
 unfold F_spec_pzHidden at h
 split at h
 ·injection h with h; injection h with h1 h2; subst h1; subst h2
  exact ⟨rfl, (congrArg At (eq_spec_pzHidden _ _ _ _ _ _ _ _)).mp ⟨vc_spec_pzHidden _ _ _ _ _ _ _ hp⟩⟩
 ·cases h
def TPM_55 : Tab := TPM_54.add 62 F_spec_pzHidden
theorem TPM_55_ok : TPM_55.Ok Tryd.prog := TPM_54_ok.add ok_spec_pzHidden
theorem eq_impl_isHidden (wr : List UInt8) (ww : Int) (wh : Int) (wc : List UInt8) (wx : Int) (wy : Int) (wd : Int) (K : V -> Prop) : VC_impl_isHidden wr ww wh wc wx wy wd K = vbody Tryd.prog (vin Tryd.prog TPM_55 annTPM 3) TPM_55.looks (annTPM 66) 66 [.agg [.str wr, .int .i64 ww, .int .i64 wh, .str wc, .int .i64 wx, .int .i64 wy, .int .i64 wd]] [] (fun v _ => K v) := by kernel_rfl
theorem ok_impl_isHidden : OK Tryd.prog 66 F_impl_isHidden.spec := (vbody_ok (vin_ok TPM_55_ok annTPM 3) TPM_55_ok.looks _ _).ofF fun args m p R h hp => by
 unfold F_impl_isHidden at h
 split at h
 ·injection h with h; injection h with h1 h2; subst h1; subst h2
  exact ⟨rfl, (congrArg At (eq_impl_isHidden _ _ _ _ _ _ _ _)).mp ⟨vc_impl_isHidden _ _ _ _ _ _ _ hp⟩⟩
 ·cases h
def TPM_56 : Tab := TPM_55.add 66 F_impl_isHidden
theorem TPM_56_ok : TPM_56.Ok Tryd.prog := TPM_55_ok.add ok_impl_isHidden
theorem eq_spec_pzNext (z : Int) (K : V -> Prop) : VC_spec_pzNext z K = vbody Tryd.prog (vin Tryd.prog TPM_56 annTPM 3) TPM_56.looks (annTPM 64) 64 [.int .i64 z] [] (fun v _ => K v) := by kernel_rfl
theorem ok_spec_pzNext : OK Tryd.prog 64 F_spec_pzNext.spec := (vbody_ok (vin_ok TPM_56_ok annTPM 3) TPM_56_ok.looks _ _).ofF fun args m p R h hp => by
 unfold F_spec_pzNext at h
 split at h
 ·injection h with h; injection h with h1 h2; subst h1; subst h2
  exact ⟨rfl, (congrArg At (eq_spec_pzNext _ _)).mp ⟨vc_spec_pzNext _ hp⟩⟩
 ·cases h
def TPM_57 : Tab := TPM_56.add 64 F_spec_pzNext
theorem TPM_57_ok : TPM_57.Ok Tryd.prog := TPM_56_ok.add ok_spec_pzNext
theorem eq_spec_pzOf (k : Int) (a : Int) (wr : List UInt8) (ww : Int) (wh : Int) (wc : List UInt8) (wx : Int) (wy : Int) (wd : Int) (K : V -> Prop) : VC_spec_pzOf k a wr ww wh wc wx wy wd K = vbody Tryd.prog (vin Tryd.prog TPM_57 annTPM 3) TPM_57.looks (annTPM 65) 65 [.int .i64 k, .int .i64 a, .agg [.str wr, .int .i64 ww, .int .i64 wh, .str wc, .int .i64 wx, .int .i64 wy, .int .i64 wd]] [] (fun v _ => K v) := by kernel_rfl
theorem ok_spec_pzOf : OK Tryd.prog 65 F_spec_pzOf.spec := (vbody_ok (vin_ok TPM_57_ok annTPM 3) TPM_57_ok.looks _ _).ofF fun args m p R h hp => by
 unfold F_spec_pzOf at h
 split at h
 ·injection h with h; injection h with h1 h2; subst h1; subst h2
  exact ⟨rfl, (congrArg At (eq_spec_pzOf _ _ _ _ _ _ _ _ _ _)).mp ⟨vc_spec_pzOf _ _ _ _ _ _ _ _ _ hp⟩⟩
 ·cases h
def TPM_58 : Tab := TPM_57.add 65 F_spec_pzOf
theorem TPM_58_ok : TPM_58.Ok Tryd.prog := TPM_57_ok.add ok_spec_pzOf
theorem eq_impl_clueMaker_1 (c : Int) (z : Int) (K : V -> List Blk -> Prop) : VC_impl_clueMaker_1 c z K = vbody Tryd.prog (vin Tryd.prog TPM_58 annTPM 3) TPM_58.looks (annTPM 90) 90 [.int .i64 c, .ptr 0 0] [⟨.vals [.int .i64 z], 3, .box⟩] (K) := by kernel_rfl
theorem ok_impl_clueMaker_1 : OK Tryd.prog 90 F_impl_clueMaker_1.spec := (vbody_ok (vin_ok TPM_58_ok annTPM 3) TPM_58_ok.looks _ _).ofG fun args m p R M h hp => by
 unfold F_impl_clueMaker_1 at h
 split at h
 ·injection h with h; injection h with h1 h2; injection h2 with h2 h3; subst h1; subst h2; subst h3
  exact (congrArg At (eq_impl_clueMaker_1 _ _ _)).mp ⟨vc_impl_clueMaker_1 _ _ hp⟩
 ·cases h
def TPM_59 : Tab := TPM_58.addG 90 F_impl_clueMaker_1
theorem TPM_59_ok : TPM_59.Ok Tryd.prog := TPM_58_ok.addG ok_impl_clueMaker_1
theorem eq_impl_clueMaker_2  (wr : List UInt8) (ww : Int) (wh : Int) (wc : List UInt8) (wx : Int) (wy : Int) (wd : Int) (z : Int) (K : V -> List Blk -> Prop) : VC_impl_clueMaker_2  wr ww wh wc wx wy wd z K = vbody Tryd.prog (vin Tryd.prog TPM_59 annTPM 3) TPM_59.looks (annTPM 91) 91 [.ptr 0 0, .ptr 1 0] [⟨.vals [.fn 90 [2]], 81, .box⟩, ⟨.vals [.str wr, .int .i64 ww, .int .i64 wh, .str wc, .int .i64 wx, .int .i64 wy, .int .i64 wd], 53, .box⟩, ⟨.vals [.int .i64 z], 3, .box⟩] (K) := by kernel_rfl
theorem ok_impl_clueMaker_2 : OK Tryd.prog 91 F_impl_clueMaker_2.spec := (vbody_ok (vin_ok TPM_59_ok annTPM 3) TPM_59_ok.looks _ _).ofG fun args m p R M h hp => by
 unfold F_impl_clueMaker_2 at h
 split at h
 ·injection h with h; injection h with h1 h2; injection h2 with h2 h3; subst h1; subst h2; subst h3
  exact (congrArg At (eq_impl_clueMaker_2 _ _ _ _ _ _ _ _ _)).mp ⟨vc_impl_clueMaker_2 _ _ _ _ _ _ _ _ hp⟩
 ·cases h
def TPM_60 : Tab := TPM_59.addG 91 F_impl_clueMaker_2
theorem TPM_60_ok : TPM_60.Ok Tryd.prog := TPM_59_ok.addG ok_impl_clueMaker_2
theorem eq_spec_MakePuzzle (wr : List UInt8) (ww : Int) (wh : Int) (wc : List UInt8) (wx : Int) (wy : Int) (wd : Int) (c : Int) (s : Int) (K : V -> List Blk -> Prop) : VC_spec_MakePuzzle wr ww wh wc wx wy wd c s K = vbody Tryd.prog (vin Tryd.prog TPM_60 annTPM 3) TPM_60.looks (annTPM 36) 36 [.agg [.str wr, .int .i64 ww, .int .i64 wh, .str wc, .int .i64 wx, .int .i64 wy, .int .i64 wd], .int .i64 c, .int .i64 s] [] (K) := by kernel_rfl
theorem ok_spec_MakePuzzle : OK Tryd.prog 36 F_spec_MakePuzzle.spec := (vbody_ok (vin_ok TPM_60_ok annTPM 3) TPM_60_ok.looks _ _).ofG fun args m p R M h hp => by
 unfold F_spec_MakePuzzle at h
 split at h
 ·injection h with h; injection h with h1 h2; injection h2 with h2 h3; subst h1; subst h2; subst h3
  exact (congrArg At (eq_spec_MakePuzzle _ _ _ _ _ _ _ _ _ _)).mp ⟨vc_spec_MakePuzzle _ _ _ _ _ _ _ _ _ hp⟩
 ·cases h
def TPM_61 : Tab := TPM_60.addG 36 F_spec_MakePuzzle
theorem TPM_61_ok : TPM_61.Ok Tryd.prog := TPM_60_ok.addG ok_spec_MakePuzzle
theorem eq_impl_MakePuzzle (wr : List UInt8) (ww : Int) (wh : Int) (wc : List UInt8) (wx : Int) (wy : Int) (wd : Int) (c : Int) (s : Int) (K : V -> List Blk -> Prop) : VC_impl_MakePuzzle wr ww wh wc wx wy wd c s K = vbody Tryd.prog (vin Tryd.prog TPM_61 annTPM 3) TPM_61.looks (annTPM 38) 38 [.agg [.str wr, .int .i64 ww, .int .i64 wh, .str wc, .int .i64 wx, .int .i64 wy, .int .i64 wd], .int .i64 c, .int .i64 s] [] (K) := by kernel_rfl
theorem ok_impl_MakePuzzle : OK Tryd.prog 38 F_impl_MakePuzzle.spec := (vbody_ok (vin_ok TPM_61_ok annTPM 3) TPM_61_ok.looks _ _).ofG fun args m p R M h hp => by
 unfold F_impl_MakePuzzle at h
 split at h
 ·injection h with h; injection h with h1 h2; injection h2 with h2 h3; subst h1; subst h2; subst h3
  exact (congrArg At (eq_impl_MakePuzzle _ _ _ _ _ _ _ _ _ _)).mp ⟨vc_impl_MakePuzzle _ _ _ _ _ _ _ _ _ hp⟩
 ·cases h
def TPM_62 : Tab := TPM_61.addG 38 F_impl_MakePuzzle
theorem TPM_62_ok : TPM_62.Ok Tryd.prog := TPM_61_ok.addG ok_impl_MakePuzzle
def TPM : Tab := TPM_62
theorem TPM_ok : TPM.Ok Tryd.prog := TPM_62_ok
end Go.Proofs.YtickpjdnncpnmaaDoor
