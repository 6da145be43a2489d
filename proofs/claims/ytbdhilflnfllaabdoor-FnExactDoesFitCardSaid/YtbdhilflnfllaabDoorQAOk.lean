/- The contracts of this chapter. -/
import Derived.Test.YtbdhilflnfllaabDoorPDDoor
import Derived.Test.YtbdhilflnfllaabDoorW9Lib
import Derived.Test.YtbdhilflnfllaabDoorPVLib
import Derived.Test.YtbdhilflnfllaabDoorProg
import Derived.Test.YtbdhilflnfllaabDoorQAPf
import Derived.KernelRfl
namespace Go.Proofs.YtbdhilflnfllaabDoor
open Go Go.Vi
set_option linter.unusedVariables false
def annTQA : FuncId → Nat → St → Option Ann := fun f => if f = 69 then ann_spec_woRule else if f = 54 then ann_impl_IsRule else if f = 49 then ann_spec_woGood else if f = 73 then ann_impl_areColours else if f = 70 then ann_spec_pzPower else if f = 52 then ann_impl_CountBoards else if f = 80 then ann_impl_led else if f = 79 then ann_impl_sumOf else if f = 51 then ann_spec_pzValue else (fun _ _ => none)
def TQA_0 : Tab := Tab.none
theorem TQA_0_ok : TQA_0.Ok Tryd.prog := Tab.none_ok
theorem eq_spec_l1In (n : Int) (lo : Int) (hi : Int) (K : V → Prop) : VC_spec_l1In n lo hi K = vbody Tryd.prog (vin Tryd.prog TQA_0 annTQA 3) TQA_0.looks (annTQA 29) 29 [.int .i64 n, .int .i64 lo, .int .i64 hi] [] (fun v _ => K v) := by kernel_rfl
theorem ok_spec_l1In : OK Tryd.prog 29 F_spec_l1In.spec := (vbody_ok (vin_ok TQA_0_ok annTQA 3) TQA_0_ok.looks _ _).ofF fun args m p R h hp => by
  unfold F_spec_l1In at h
  split at h
  · injection h with h; injection h with h1 h2; subst h1; subst h2
    exact ⟨rfl, (congrArg At (eq_spec_l1In _ _ _ _)).mp ⟨vc_spec_l1In _ _ _ hp⟩⟩
  · cases h
def TQA_1 : Tab := TQA_0.add 29 F_spec_l1In
theorem TQA_1_ok : TQA_1.Ok Tryd.prog := TQA_0_ok.add ok_spec_l1In
theorem eq_impl_within (n : Int) (lo : Int) (hi : Int) (K : V → Prop) : VC_impl_within n lo hi K = vbody Tryd.prog (vin Tryd.prog TQA_1 annTQA 3) TQA_1.looks (annTQA 32) 32 [.int .i64 n, .int .i64 lo, .int .i64 hi] [] (fun v _ => K v) := by kernel_rfl
theorem ok_impl_within : OK Tryd.prog 32 F_impl_within.spec := (vbody_ok (vin_ok TQA_1_ok annTQA 3) TQA_1_ok.looks _ _).ofF fun args m p R h hp => by
  unfold F_impl_within at h
  split at h
  · injection h with h; injection h with h1 h2; subst h1; subst h2
    exact ⟨rfl, (congrArg At (eq_impl_within _ _ _ _)).mp ⟨vc_impl_within _ _ _ hp⟩⟩
  · cases h
def TQA_2 : Tab := TQA_1.add 32 F_impl_within
theorem TQA_2_ok : TQA_2.Ok Tryd.prog := TQA_1_ok.add ok_impl_within
theorem eq_impl_digit (b : Int) (K : V → Prop) : VC_impl_digit b K = vbody Tryd.prog (vin Tryd.prog TQA_2 annTQA 3) TQA_2.looks (annTQA 48) 48 [.int .u8 b] [] (fun v _ => K v) := by kernel_rfl
theorem ok_impl_digit : OK Tryd.prog 48 F_impl_digit.spec := (vbody_ok (vin_ok TQA_2_ok annTQA 3) TQA_2_ok.looks _ _).ofF fun args m p R h hp => by
  unfold F_impl_digit at h
  split at h
  · injection h with h; injection h with h1 h2; subst h1; subst h2
    exact ⟨rfl, (congrArg At (eq_impl_digit _ _)).mp ⟨vc_impl_digit _ hp⟩⟩
  · cases h
def TQA_3 : Tab := TQA_2.add 48 F_impl_digit
theorem TQA_3_ok : TQA_3.Ok Tryd.prog := TQA_2_ok.add ok_impl_digit
theorem eq_spec_woRule (s : List UInt8) (K : V → Prop) : VC_spec_woRule s K = vbody Tryd.prog (vin Tryd.prog TQA_3 annTQA 3) TQA_3.looks (annTQA 69) 69 [.str s] [] (fun v _ => K v) := by kernel_rfl
theorem ok_spec_woRule : OK Tryd.prog 69 F_spec_woRule.spec := (vbody_ok (vin_ok TQA_3_ok annTQA 3) TQA_3_ok.looks _ _).ofF fun args m p R h hp => by
  unfold F_spec_woRule at h
  split at h
  · injection h with h; injection h with h1 h2; subst h1; subst h2
    exact ⟨rfl, (congrArg At (eq_spec_woRule _ _)).mp ⟨vc_spec_woRule _ hp⟩⟩
  · cases h
def TQA_4 : Tab := TQA_3.add 69 F_spec_woRule
theorem TQA_4_ok : TQA_4.Ok Tryd.prog := TQA_3_ok.add ok_spec_woRule
theorem eq_impl_IsRule (s : List UInt8) (K : V → Prop) : VC_impl_IsRule s K = vbody Tryd.prog (vin Tryd.prog TQA_4 annTQA 3) TQA_4.looks (annTQA 54) 54 [.str s] [] (fun v _ => K v) := by kernel_rfl
theorem ok_impl_IsRule : OK Tryd.prog 54 F_impl_IsRule.spec := (vbody_ok (vin_ok TQA_4_ok annTQA 3) TQA_4_ok.looks _ _).ofF fun args m p R h hp => by
  unfold F_impl_IsRule at h
  split at h
  · injection h with h; injection h with h1 h2; subst h1; subst h2
    exact ⟨rfl, (congrArg At (eq_impl_IsRule _ _)).mp ⟨vc_impl_IsRule _ hp⟩⟩
  · cases h
def TQA_5 : Tab := TQA_4.add 54 F_impl_IsRule
theorem TQA_5_ok : TQA_5.Ok Tryd.prog := TQA_4_ok.add ok_impl_IsRule
theorem eq_spec_woGood (wr : List UInt8) (ww : Int) (wh : Int) (wc : List UInt8) (wx : Int) (wy : Int) (wd : Int) (K : V → Prop) : VC_spec_woGood wr ww wh wc wx wy wd K = vbody Tryd.prog (vin Tryd.prog TQA_5 annTQA 3) TQA_5.looks (annTQA 49) 49 [.agg [.str wr, .int .i64 ww, .int .i64 wh, .str wc, .int .i64 wx, .int .i64 wy, .int .i64 wd]] [] (fun v _ => K v) := by kernel_rfl
theorem ok_spec_woGood : OK Tryd.prog 49 F_spec_woGood.spec := (vbody_ok (vin_ok TQA_5_ok annTQA 3) TQA_5_ok.looks _ _).ofF fun args m p R h hp => by
  unfold F_spec_woGood at h
  split at h
  · injection h with h; injection h with h1 h2; subst h1; subst h2
    exact ⟨rfl, (congrArg At (eq_spec_woGood _ _ _ _ _ _ _ _)).mp ⟨vc_spec_woGood _ _ _ _ _ _ _ hp⟩⟩
  · cases h
def TQA_6 : Tab := TQA_5.add 49 F_spec_woGood
theorem TQA_6_ok : TQA_6.Ok Tryd.prog := TQA_5_ok.add ok_spec_woGood
theorem eq_impl_areColours (s : List UInt8) (n : Int) (K : V → Prop) : VC_impl_areColours s n K = vbody Tryd.prog (vin Tryd.prog TQA_6 annTQA 3) TQA_6.looks (annTQA 73) 73 [.str s, .int .i64 n] [] (fun v _ => K v) := by kernel_rfl
theorem ok_impl_areColours : OK Tryd.prog 73 F_impl_areColours.spec := (vbody_ok (vin_ok TQA_6_ok annTQA 3) TQA_6_ok.looks _ _).ofF fun args m p R h hp => by
  unfold F_impl_areColours at h
  split at h
  · injection h with h; injection h with h1 h2; subst h1; subst h2
    exact ⟨rfl, (congrArg At (eq_impl_areColours _ _ _)).mp ⟨vc_impl_areColours _ _ hp⟩⟩
  · cases h
def TQA_7 : Tab := TQA_6.add 73 F_impl_areColours
theorem TQA_7_ok : TQA_7.Ok Tryd.prog := TQA_6_ok.add ok_impl_areColours
theorem eq_impl_IsWorld (wr : List UInt8) (ww : Int) (wh : Int) (wc : List UInt8) (wx : Int) (wy : Int) (wd : Int) (K : V → Prop) : VC_impl_IsWorld wr ww wh wc wx wy wd K = vbody Tryd.prog (vin Tryd.prog TQA_7 annTQA 4) TQA_7.looks (annTQA 53) 53 [.agg [.str wr, .int .i64 ww, .int .i64 wh, .str wc, .int .i64 wx, .int .i64 wy, .int .i64 wd]] [] (fun v _ => K v) := by kernel_rfl
theorem ok_impl_IsWorld : OK Tryd.prog 53 F_impl_IsWorld.spec := (vbody_ok (vin_ok TQA_7_ok annTQA 4) TQA_7_ok.looks _ _).ofF fun args m p R h hp => by
  unfold F_impl_IsWorld at h
  split at h
  · injection h with h; injection h with h1 h2; subst h1; subst h2
    exact ⟨rfl, (congrArg At (eq_impl_IsWorld _ _ _ _ _ _ _ _)).mp ⟨vc_impl_IsWorld _ _ _ _ _ _ _ hp⟩⟩
  · cases h
def TQA_8 : Tab := TQA_7.add 53 F_impl_IsWorld
theorem TQA_8_ok : TQA_8.Ok Tryd.prog := TQA_7_ok.add ok_impl_IsWorld
theorem eq_spec_woColour (wr : List UInt8) (ww : Int) (wh : Int) (wc : List UInt8) (wx : Int) (wy : Int) (wd : Int) (x : Int) (y : Int) (K : V → Prop) : VC_spec_woColour wr ww wh wc wx wy wd x y K = vbody Tryd.prog (vin Tryd.prog TQA_8 annTQA 3) TQA_8.looks (annTQA 90) 90 [.agg [.str wr, .int .i64 ww, .int .i64 wh, .str wc, .int .i64 wx, .int .i64 wy, .int .i64 wd], .int .i64 x, .int .i64 y] [] (fun v _ => K v) := by kernel_rfl
theorem ok_spec_woColour : OK Tryd.prog 90 F_spec_woColour.spec := (vbody_ok (vin_ok TQA_8_ok annTQA 3) TQA_8_ok.looks _ _).ofF fun args m p R h hp => by
  unfold F_spec_woColour at h
  split at h
  · injection h with h; injection h with h1 h2; subst h1; subst h2
    exact ⟨rfl, (congrArg At (eq_spec_woColour _ _ _ _ _ _ _ _ _ _)).mp ⟨vc_spec_woColour _ _ _ _ _ _ _ _ _ hp⟩⟩
  · cases h
def TQA_9 : Tab := TQA_8.add 90 F_spec_woColour
theorem TQA_9_ok : TQA_9.Ok Tryd.prog := TQA_8_ok.add ok_spec_woColour
theorem eq_impl_board_colour (wr : List UInt8) (ww : Int) (wh : Int) (wc : List UInt8) (wx : Int) (wy : Int) (wd : Int) (x : Int) (y : Int) (K : V → Prop) : VC_impl_board_colour wr ww wh wc wx wy wd x y K = vbody Tryd.prog (vin Tryd.prog TQA_9 annTQA 3) TQA_9.looks (annTQA 95) 95 [.agg [.str wr, .int .i64 ww, .int .i64 wh, .str wc, .int .i64 wx, .int .i64 wy, .int .i64 wd], .int .i64 x, .int .i64 y] [] (fun v _ => K v) := by kernel_rfl
theorem ok_impl_board_colour : OK Tryd.prog 95 F_impl_board_colour.spec := (vbody_ok (vin_ok TQA_9_ok annTQA 3) TQA_9_ok.looks _ _).ofF fun args m p R h hp => by
  unfold F_impl_board_colour at h
  split at h
  · injection h with h; injection h with h1 h2; subst h1; subst h2
    exact ⟨rfl, (congrArg At (eq_impl_board_colour _ _ _ _ _ _ _ _ _ _)).mp ⟨vc_impl_board_colour _ _ _ _ _ _ _ _ _ hp⟩⟩
  · cases h
def TQA_10 : Tab := TQA_9.add 95 F_impl_board_colour
theorem TQA_10_ok : TQA_10.Ok Tryd.prog := TQA_9_ok.add ok_impl_board_colour
theorem eq_laws_szWorld (wr : List UInt8) (ww : Int) (wh : Int) (wc : List UInt8) (wx : Int) (wy : Int) (wd : Int) (left : Int) (K : V → Prop) : VC_laws_szWorld wr ww wh wc wx wy wd left K = vbody Tryd.prog (vin Tryd.prog TQA_10 annTQA 3) TQA_10.looks (annTQA 7) 7 [.agg [.str wr, .int .i64 ww, .int .i64 wh, .str wc, .int .i64 wx, .int .i64 wy, .int .i64 wd], .int .i64 left] [] (fun v _ => K v) := by kernel_rfl
theorem ok_laws_szWorld : OK Tryd.prog 7 F_laws_szWorld.spec := (vbody_ok (vin_ok TQA_10_ok annTQA 3) TQA_10_ok.looks _ _).ofF fun args m p R h hp => by
  unfold F_laws_szWorld at h
  split at h
  · injection h with h; injection h with h1 h2; subst h1; subst h2
    exact ⟨rfl, (congrArg At (eq_laws_szWorld _ _ _ _ _ _ _ _ _)).mp ⟨vc_laws_szWorld _ _ _ _ _ _ _ _ hp⟩⟩
  · cases h
def TQA_11 : Tab := TQA_10.add 7 F_laws_szWorld
theorem TQA_11_ok : TQA_11.Ok Tryd.prog := TQA_10_ok.add ok_laws_szWorld
theorem ok_strconv_formatBase10 : OK Tryd.prog 105 F_strconv_formatBase10.spec := Go.Proofs.YtbdhilflnfllaabDoor.never_ok _
def TQA_12 : Tab := TQA_11.add 105 F_strconv_formatBase10
theorem TQA_12_ok : TQA_12.Ok Tryd.prog := TQA_11_ok.add ok_strconv_formatBase10
theorem ok_strconv_formatBits : OK Tryd.prog 106 F_strconv_formatBits.spec := Go.Proofs.YtbdhilflnfllaabDoor.never_ok _
def TQA_13 : Tab := TQA_12.add 106 F_strconv_formatBits
theorem TQA_13_ok : TQA_13.Ok Tryd.prog := TQA_12_ok.add ok_strconv_formatBits
theorem ok_strconv_numDigits : OK Tryd.prog 104 F_strconv_numDigits.spec := Go.Proofs.YtbdhilflnfllaabDoor.never_ok _
def TQA_14 : Tab := TQA_13.add 104 F_strconv_numDigits
theorem TQA_14_ok : TQA_14.Ok Tryd.prog := TQA_13_ok.add ok_strconv_numDigits
theorem eq_spec_l1Num (n : Int) (K : V → Prop) : VC_spec_l1Num n K = vbody Tryd.prog (vin Tryd.prog TQA_14 annTQA 0) TQA_14.looks (annTQA 60) 60 [.int .i64 n] [] (fun v _ => K v) := by kernel_rfl
theorem ok_spec_l1Num : OK Tryd.prog 60 F_spec_l1Num.spec := (vbody_ok (vin_ok TQA_14_ok annTQA 0) TQA_14_ok.looks _ _).ofF fun args m p R h hp => by
  unfold F_spec_l1Num at h
  split at h
  · injection h with h; injection h with h1 h2; subst h1; subst h2
    exact ⟨rfl, (congrArg At (eq_spec_l1Num _ _)).mp ⟨vc_spec_l1Num _ hp⟩⟩
  · cases h
def TQA_15 : Tab := TQA_14.add 60 F_spec_l1Num
theorem TQA_15_ok : TQA_15.Ok Tryd.prog := TQA_14_ok.add ok_spec_l1Num
theorem eq_strconv_FormatInt (n : Int) (b : Int) (K : V → Prop) : VC_strconv_FormatInt n b K = vbody Tryd.prog (vin Tryd.prog TQA_15 annTQA 3) TQA_15.looks (annTQA 83) 83 [.int .i64 n, .int .i64 b] [] (fun v _ => K v) := by kernel_rfl
theorem ok_strconv_FormatInt : OK Tryd.prog 83 F_strconv_FormatInt.spec := (vbody_ok (vin_ok TQA_15_ok annTQA 3) TQA_15_ok.looks _ _).ofF fun args m p R h hp => by
  unfold F_strconv_FormatInt at h
  split at h
  · injection h with h; injection h with h1 h2; subst h1; subst h2
    exact ⟨rfl, (congrArg At (eq_strconv_FormatInt _ _ _)).mp ⟨vc_strconv_FormatInt _ _ hp⟩⟩
  · cases h
def TQA_16 : Tab := TQA_15.add 83 F_strconv_FormatInt
theorem TQA_16_ok : TQA_16.Ok Tryd.prog := TQA_15_ok.add ok_strconv_FormatInt
theorem eq_strconv_Itoa (n : Int) (K : V → Prop) : VC_strconv_Itoa n K = vbody Tryd.prog (vin Tryd.prog TQA_16 annTQA 3) TQA_16.looks (annTQA 43) 43 [.int .i64 n] [] (fun v _ => K v) := by kernel_rfl
theorem ok_strconv_Itoa : OK Tryd.prog 43 F_strconv_Itoa.spec := (vbody_ok (vin_ok TQA_16_ok annTQA 3) TQA_16_ok.looks _ _).ofF fun args m p R h hp => by
  unfold F_strconv_Itoa at h
  split at h
  · injection h with h; injection h with h1 h2; subst h1; subst h2
    exact ⟨rfl, (congrArg At (eq_strconv_Itoa _ _)).mp ⟨vc_strconv_Itoa _ hp⟩⟩
  · cases h
def TQA_17 : Tab := TQA_16.add 43 F_strconv_Itoa
theorem TQA_17_ok : TQA_17.Ok Tryd.prog := TQA_16_ok.add ok_strconv_Itoa
theorem eq_spec_l1Mod (n : Int) (m : Int) (K : V → Prop) : VC_spec_l1Mod n m K = vbody Tryd.prog (vin Tryd.prog TQA_17 annTQA 3) TQA_17.looks (annTQA 116) 116 [.int .i64 n, .int .i64 m] [] (fun v _ => K v) := by kernel_rfl
theorem ok_spec_l1Mod : OK Tryd.prog 116 F_spec_l1Mod.spec := (vbody_ok (vin_ok TQA_17_ok annTQA 3) TQA_17_ok.looks _ _).ofF fun args m p R h hp => by
  unfold F_spec_l1Mod at h
  split at h
  · injection h with h; injection h with h1 h2; subst h1; subst h2
    exact ⟨rfl, (congrArg At (eq_spec_l1Mod _ _ _)).mp ⟨vc_spec_l1Mod _ _ hp⟩⟩
  · cases h
def TQA_18 : Tab := TQA_17.add 116 F_spec_l1Mod
theorem TQA_18_ok : TQA_18.Ok Tryd.prog := TQA_17_ok.add ok_spec_l1Mod
theorem eq_spec_woTurn (b : Int) (K : V → Prop) : VC_spec_woTurn b K = vbody Tryd.prog (vin Tryd.prog TQA_18 annTQA 3) TQA_18.looks (annTQA 91) 91 [.int .u8 b] [] (fun v _ => K v) := by kernel_rfl
theorem ok_spec_woTurn : OK Tryd.prog 91 F_spec_woTurn.spec := (vbody_ok (vin_ok TQA_18_ok annTQA 3) TQA_18_ok.looks _ _).ofF fun args m p R h hp => by
  unfold F_spec_woTurn at h
  split at h
  · injection h with h; injection h with h1 h2; subst h1; subst h2
    exact ⟨rfl, (congrArg At (eq_spec_woTurn _ _)).mp ⟨vc_spec_woTurn _ hp⟩⟩
  · cases h
def TQA_19 : Tab := TQA_18.add 91 F_spec_woTurn
theorem TQA_19_ok : TQA_19.Ok Tryd.prog := TQA_18_ok.add ok_spec_woTurn
theorem eq_impl_quarters (b : Int) (K : V → Prop) : VC_impl_quarters b K = vbody Tryd.prog (vin Tryd.prog TQA_19 annTQA 3) TQA_19.looks (annTQA 97) 97 [.int .u8 b] [] (fun v _ => K v) := by kernel_rfl
theorem ok_impl_quarters : OK Tryd.prog 97 F_impl_quarters.spec := (vbody_ok (vin_ok TQA_19_ok annTQA 3) TQA_19_ok.looks _ _).ofF fun args m p R h hp => by
  unfold F_impl_quarters at h
  split at h
  · injection h with h; injection h with h1 h2; subst h1; subst h2
    exact ⟨rfl, (congrArg At (eq_impl_quarters _ _)).mp ⟨vc_impl_quarters _ hp⟩⟩
  · cases h
def TQA_20 : Tab := TQA_19.add 97 F_impl_quarters
theorem TQA_20_ok : TQA_20.Ok Tryd.prog := TQA_19_ok.add ok_impl_quarters
theorem eq_impl_direction (d : Int) (K : V → Prop) : VC_impl_direction d K = vbody Tryd.prog (vin Tryd.prog TQA_20 annTQA 3) TQA_20.looks (annTQA 117) 117 [.int .i64 d] [] (fun v _ => K v) := by kernel_rfl
theorem ok_impl_direction : OK Tryd.prog 117 F_impl_direction.spec := (vbody_ok (vin_ok TQA_20_ok annTQA 3) TQA_20_ok.looks _ _).ofF fun args m p R h hp => by
  unfold F_impl_direction at h
  split at h
  · injection h with h; injection h with h1 h2; subst h1; subst h2
    exact ⟨rfl, (congrArg At (eq_impl_direction _ _)).mp ⟨vc_impl_direction _ hp⟩⟩
  · cases h
def TQA_21 : Tab := TQA_20.add 117 F_impl_direction
theorem TQA_21_ok : TQA_21.Ok Tryd.prog := TQA_20_ok.add ok_impl_direction
theorem eq_impl_board_sign (wr : List UInt8) (ww : Int) (wh : Int) (wc : List UInt8) (wx : Int) (wy : Int) (wd : Int) (K : V → Prop) : VC_impl_board_sign wr ww wh wc wx wy wd K = vbody Tryd.prog (vin Tryd.prog TQA_21 annTQA 3) TQA_21.looks (annTQA 98) 98 [.agg [.str wr, .int .i64 ww, .int .i64 wh, .str wc, .int .i64 wx, .int .i64 wy, .int .i64 wd]] [] (fun v _ => K v) := by kernel_rfl
theorem ok_impl_board_sign : OK Tryd.prog 98 F_impl_board_sign.spec := (vbody_ok (vin_ok TQA_21_ok annTQA 3) TQA_21_ok.looks _ _).ofF fun args m p R h hp => by
  unfold F_impl_board_sign at h
  split at h
  · injection h with h; injection h with h1 h2; subst h1; subst h2
    exact ⟨rfl, (congrArg At (eq_impl_board_sign _ _ _ _ _ _ _ _)).mp ⟨vc_impl_board_sign _ _ _ _ _ _ _ hp⟩⟩
  · cases h
def TQA_22 : Tab := TQA_21.add 98 F_impl_board_sign
theorem TQA_22_ok : TQA_22.Ok Tryd.prog := TQA_21_ok.add ok_impl_board_sign
theorem eq_impl_board_painted (wr : List UInt8) (ww : Int) (wh : Int) (wc : List UInt8) (wx : Int) (wy : Int) (wd : Int) (x : Int) (y : Int) (k : Int) (K : V → Prop) : VC_impl_board_painted wr ww wh wc wx wy wd x y k K = vbody Tryd.prog (vin Tryd.prog TQA_22 annTQA 3) TQA_22.looks (annTQA 99) 99 [.agg [.str wr, .int .i64 ww, .int .i64 wh, .str wc, .int .i64 wx, .int .i64 wy, .int .i64 wd], .int .i64 x, .int .i64 y, .int .i64 k] [] (fun v _ => K v) := by kernel_rfl
theorem ok_impl_board_painted : OK Tryd.prog 99 F_impl_board_painted.spec := (vbody_ok (vin_ok TQA_22_ok annTQA 3) TQA_22_ok.looks _ _).ofF fun args m p R h hp => by
  unfold F_impl_board_painted at h
  split at h
  · injection h with h; injection h with h1 h2; subst h1; subst h2
    exact ⟨rfl, (congrArg At (eq_impl_board_painted _ _ _ _ _ _ _ _ _ _ _)).mp ⟨vc_impl_board_painted _ _ _ _ _ _ _ _ _ _ hp⟩⟩
  · cases h
def TQA_23 : Tab := TQA_22.add 99 F_impl_board_painted
theorem TQA_23_ok : TQA_23.Ok Tryd.prog := TQA_22_ok.add ok_impl_board_painted
theorem eq_impl_board_turned (wr : List UInt8) (ww : Int) (wh : Int) (wc : List UInt8) (wx : Int) (wy : Int) (wd : Int) (q : Int) (K : V → Prop) : VC_impl_board_turned wr ww wh wc wx wy wd q K = vbody Tryd.prog (vin Tryd.prog TQA_23 annTQA 3) TQA_23.looks (annTQA 96) 96 [.agg [.str wr, .int .i64 ww, .int .i64 wh, .str wc, .int .i64 wx, .int .i64 wy, .int .i64 wd], .int .i64 q] [] (fun v _ => K v) := by kernel_rfl
theorem ok_impl_board_turned : OK Tryd.prog 96 F_impl_board_turned.spec := (vbody_ok (vin_ok TQA_23_ok annTQA 3) TQA_23_ok.looks _ _).ofF fun args m p R h hp => by
  unfold F_impl_board_turned at h
  split at h
  · injection h with h; injection h with h1 h2; subst h1; subst h2
    exact ⟨rfl, (congrArg At (eq_impl_board_turned _ _ _ _ _ _ _ _ _)).mp ⟨vc_impl_board_turned _ _ _ _ _ _ _ _ hp⟩⟩
  · cases h
def TQA_24 : Tab := TQA_23.add 96 F_impl_board_turned
theorem TQA_24_ok : TQA_24.Ok Tryd.prog := TQA_23_ok.add ok_impl_board_turned
theorem eq_impl_board_moved (wr : List UInt8) (ww : Int) (wh : Int) (wc : List UInt8) (wx : Int) (wy : Int) (wd : Int) (k : Int) (K : V → Prop) : VC_impl_board_moved wr ww wh wc wx wy wd k K = vbody Tryd.prog (vin Tryd.prog TQA_24 annTQA 3) TQA_24.looks (annTQA 100) 100 [.agg [.str wr, .int .i64 ww, .int .i64 wh, .str wc, .int .i64 wx, .int .i64 wy, .int .i64 wd], .int .i64 k] [] (fun v _ => K v) := by kernel_rfl
theorem ok_impl_board_moved : OK Tryd.prog 100 F_impl_board_moved.spec := (vbody_ok (vin_ok TQA_24_ok annTQA 3) TQA_24_ok.looks _ _).ofF fun args m p R h hp => by
  unfold F_impl_board_moved at h
  split at h
  · injection h with h; injection h with h1 h2; subst h1; subst h2
    exact ⟨rfl, (congrArg At (eq_impl_board_moved _ _ _ _ _ _ _ _ _)).mp ⟨vc_impl_board_moved _ _ _ _ _ _ _ _ hp⟩⟩
  · cases h
def TQA_25 : Tab := TQA_24.add 100 F_impl_board_moved
theorem TQA_25_ok : TQA_25.Ok Tryd.prog := TQA_24_ok.add ok_impl_board_moved
theorem eq_spec_woPaint (x : Int) (y : Int) (k : Int) (wr : List UInt8) (ww : Int) (wh : Int) (wc : List UInt8) (wx : Int) (wy : Int) (wd : Int) (e : TypeId) (K : V → List Blk → Prop) : VC_spec_woPaint x y k wr ww wh wc wx wy wd e K = vbody Tryd.prog (vin Tryd.prog TQA_25 annTQA 3) TQA_25.looks (annTQA 92) 92 [.ptr 0 0, .int .i64 x, .int .i64 y, .int .i64 k] [⟨.vals [.str wr, .int .i64 ww, .int .i64 wh, .str wc, .int .i64 wx, .int .i64 wy, .int .i64 wd], e, .box⟩] (K) := by kernel_rfl
theorem ok_spec_woPaint : OK Tryd.prog 92 F_spec_woPaint.spec := (vbody_ok (vin_ok TQA_25_ok annTQA 3) TQA_25_ok.looks _ _).ofG fun args m p R M h hp => by
  unfold F_spec_woPaint at h
  split at h
  · injection h with h; injection h with h1 h2; injection h2 with h2 h3; subst h1; subst h2; subst h3
    exact (congrArg At (eq_spec_woPaint _ _ _ _ _ _ _ _ _ _ _ _)).mp ⟨vc_spec_woPaint _ _ _ _ _ _ _ _ _ _ _ hp⟩
  · cases h
def TQA_26 : Tab := TQA_25.addG 92 F_spec_woPaint
theorem TQA_26_ok : TQA_26.Ok Tryd.prog := TQA_25_ok.addG ok_spec_woPaint
theorem eq_spec_woGo (k : Int) (wr : List UInt8) (ww : Int) (wh : Int) (wc : List UInt8) (wx : Int) (wy : Int) (wd : Int) (e : TypeId) (K : V → List Blk → Prop) : VC_spec_woGo k wr ww wh wc wx wy wd e K = vbody Tryd.prog (vin Tryd.prog TQA_26 annTQA 3) TQA_26.looks (annTQA 93) 93 [.ptr 0 0, .int .i64 k] [⟨.vals [.str wr, .int .i64 ww, .int .i64 wh, .str wc, .int .i64 wx, .int .i64 wy, .int .i64 wd], e, .box⟩] (K) := by kernel_rfl
theorem ok_spec_woGo : OK Tryd.prog 93 F_spec_woGo.spec := (vbody_ok (vin_ok TQA_26_ok annTQA 3) TQA_26_ok.looks _ _).ofG fun args m p R M h hp => by
  unfold F_spec_woGo at h
  split at h
  · injection h with h; injection h with h1 h2; injection h2 with h2 h3; subst h1; subst h2; subst h3
    exact (congrArg At (eq_spec_woGo _ _ _ _ _ _ _ _ _ _)).mp ⟨vc_spec_woGo _ _ _ _ _ _ _ _ _ hp⟩
  · cases h
def TQA_27 : Tab := TQA_26.addG 93 F_spec_woGo
theorem TQA_27_ok : TQA_27.Ok Tryd.prog := TQA_26_ok.addG ok_spec_woGo
theorem eq_spec_woStep (wr : List UInt8) (ww : Int) (wh : Int) (wc : List UInt8) (wx : Int) (wy : Int) (wd : Int) (K : V → Prop) : VC_spec_woStep wr ww wh wc wx wy wd K = vbody Tryd.prog (vin Tryd.prog TQA_27 annTQA 4) TQA_27.looks (annTQA 71) 71 [.agg [.str wr, .int .i64 ww, .int .i64 wh, .str wc, .int .i64 wx, .int .i64 wy, .int .i64 wd]] [] (fun v _ => K v) := by kernel_rfl
theorem ok_spec_woStep : OK Tryd.prog 71 F_spec_woStep.spec := (vbody_ok (vin_ok TQA_27_ok annTQA 4) TQA_27_ok.looks _ _).ofF fun args m p R h hp => by
  unfold F_spec_woStep at h
  split at h
  · injection h with h; injection h with h1 h2; subst h1; subst h2
    exact ⟨rfl, (congrArg At (eq_spec_woStep _ _ _ _ _ _ _ _)).mp ⟨vc_spec_woStep _ _ _ _ _ _ _ hp⟩⟩
  · cases h
def TQA_28 : Tab := TQA_27.add 71 F_spec_woStep
theorem TQA_28_ok : TQA_28.Ok Tryd.prog := TQA_27_ok.add ok_spec_woStep
theorem eq_impl_board_forth (wr : List UInt8) (ww : Int) (wh : Int) (wc : List UInt8) (wx : Int) (wy : Int) (wd : Int) (K : V → Prop) : VC_impl_board_forth wr ww wh wc wx wy wd K = vbody Tryd.prog (vin Tryd.prog TQA_28 annTQA 4) TQA_28.looks (annTQA 81) 81 [.agg [.str wr, .int .i64 ww, .int .i64 wh, .str wc, .int .i64 wx, .int .i64 wy, .int .i64 wd]] [] (fun v _ => K v) := by kernel_rfl
theorem ok_impl_board_forth : OK Tryd.prog 81 F_impl_board_forth.spec := (vbody_ok (vin_ok TQA_28_ok annTQA 4) TQA_28_ok.looks _ _).ofF fun args m p R h hp => by
  unfold F_impl_board_forth at h
  split at h
  · injection h with h; injection h with h1 h2; subst h1; subst h2
    exact ⟨rfl, (congrArg At (eq_impl_board_forth _ _ _ _ _ _ _ _)).mp ⟨vc_impl_board_forth _ _ _ _ _ _ _ hp⟩⟩
  · cases h
def TQA_29 : Tab := TQA_28.add 81 F_impl_board_forth
theorem TQA_29_ok : TQA_29.Ok Tryd.prog := TQA_28_ok.add ok_impl_board_forth
theorem eq_laws_toClue (ax : Int) (ay : Int) (ak : Int) (K : V → Prop) : VC_laws_toClue ax ay ak K = vbody Tryd.prog (vin Tryd.prog TQA_29 annTQA 3) TQA_29.looks (annTQA 9) 9 [.agg [.int .i64 ax, .int .i64 ay, .int .i64 ak]] [] (fun v _ => K v) := by kernel_rfl
theorem ok_laws_toClue : OK Tryd.prog 9 F_laws_toClue.spec := (vbody_ok (vin_ok TQA_29_ok annTQA 3) TQA_29_ok.looks _ _).ofF fun args m p R h hp => by
  unfold F_laws_toClue at h
  split at h
  · injection h with h; injection h with h1 h2; subst h1; subst h2
    exact ⟨rfl, (congrArg At (eq_laws_toClue _ _ _ _)).mp ⟨vc_laws_toClue _ _ _ hp⟩⟩
  · cases h
def TQA_30 : Tab := TQA_29.add 9 F_laws_toClue
theorem TQA_30_ok : TQA_30.Ok Tryd.prog := TQA_29_ok.add ok_laws_toClue
theorem ok_impl_areClues : OK Tryd.prog 55 F_impl_areClues.spec := Go.Proofs.YtbdhilflnfllaabDoor.PD.ok_areClues
def TQA_31 : Tab := TQA_30.add 55 F_impl_areClues
theorem TQA_31_ok : TQA_31.Ok Tryd.prog := TQA_30_ok.add ok_impl_areClues
theorem eq_spec_pzPower (s : List UInt8) (n : Int) (K : V → Prop) : VC_spec_pzPower s n K = vbody Tryd.prog (vin Tryd.prog TQA_31 annTQA 3) TQA_31.looks (annTQA 70) 70 [.str s, .int .i64 n] [] (fun v _ => K v) := by kernel_rfl
theorem ok_spec_pzPower : OK Tryd.prog 70 F_spec_pzPower.spec := (vbody_ok (vin_ok TQA_31_ok annTQA 3) TQA_31_ok.looks _ _).ofF fun args m p R h hp => by
  unfold F_spec_pzPower at h
  split at h
  · injection h with h; injection h with h1 h2; subst h1; subst h2
    exact ⟨rfl, (congrArg At (eq_spec_pzPower _ _ _)).mp ⟨vc_spec_pzPower _ _ hp⟩⟩
  · cases h
def TQA_32 : Tab := TQA_31.add 70 F_spec_pzPower
theorem TQA_32_ok : TQA_32.Ok Tryd.prog := TQA_31_ok.add ok_spec_pzPower
theorem eq_spec_pzSize (s : List UInt8) (w : Int) (h : Int) (K : V → Prop) : VC_spec_pzSize s w h K = vbody Tryd.prog (vin Tryd.prog TQA_32 annTQA 3) TQA_32.looks (annTQA 50) 50 [.str s, .int .i64 w, .int .i64 h] [] (fun v _ => K v) := by kernel_rfl
theorem ok_spec_pzSize : OK Tryd.prog 50 F_spec_pzSize.spec := (vbody_ok (vin_ok TQA_32_ok annTQA 3) TQA_32_ok.looks _ _).ofF fun args m p R h hp => by
  unfold F_spec_pzSize at h
  split at h
  · injection h with h; injection h with h1 h2; subst h1; subst h2
    exact ⟨rfl, (congrArg At (eq_spec_pzSize _ _ _ _)).mp ⟨vc_spec_pzSize _ _ _ hp⟩⟩
  · cases h
def TQA_33 : Tab := TQA_32.add 50 F_spec_pzSize
theorem TQA_33_ok : TQA_33.Ok Tryd.prog := TQA_32_ok.add ok_spec_pzSize
theorem eq_impl_isSize (w : Int) (h : Int) (K : V → Prop) : VC_impl_isSize w h K = vbody Tryd.prog (vin Tryd.prog TQA_33 annTQA 3) TQA_33.looks (annTQA 72) 72 [.int .i64 w, .int .i64 h] [] (fun v _ => K v) := by kernel_rfl
theorem ok_impl_isSize : OK Tryd.prog 72 F_impl_isSize.spec := (vbody_ok (vin_ok TQA_33_ok annTQA 3) TQA_33_ok.looks _ _).ofF fun args m p R h hp => by
  unfold F_impl_isSize at h
  split at h
  · injection h with h; injection h with h1 h2; subst h1; subst h2
    exact ⟨rfl, (congrArg At (eq_impl_isSize _ _ _)).mp ⟨vc_impl_isSize _ _ hp⟩⟩
  · cases h
def TQA_34 : Tab := TQA_33.add 72 F_impl_isSize
theorem TQA_34_ok : TQA_34.Ok Tryd.prog := TQA_33_ok.add ok_impl_isSize
theorem eq_impl_CountBoards (s : List UInt8) (w : Int) (h : Int) (K : V → Prop) : VC_impl_CountBoards s w h K = vbody Tryd.prog (vin Tryd.prog TQA_34 annTQA 3) TQA_34.looks (annTQA 52) 52 [.str s, .int .i64 w, .int .i64 h] [] (fun v _ => K v) := by kernel_rfl
theorem ok_impl_CountBoards : OK Tryd.prog 52 F_impl_CountBoards.spec := (vbody_ok (vin_ok TQA_34_ok annTQA 3) TQA_34_ok.looks _ _).ofF fun args m p R h hp => by
  unfold F_impl_CountBoards at h
  split at h
  · injection h with h; injection h with h1 h2; subst h1; subst h2
    exact ⟨rfl, (congrArg At (eq_impl_CountBoards _ _ _ _)).mp ⟨vc_impl_CountBoards _ _ _ hp⟩⟩
  · cases h
def TQA_35 : Tab := TQA_34.add 52 F_impl_CountBoards
theorem TQA_35_ok : TQA_35.Ok Tryd.prog := TQA_34_ok.add ok_impl_CountBoards
theorem eq_spec_pzClue (s : List UInt8) (cells : Int) (cx : Int) (cy : Int) (ck : Int) (K : V → Prop) : VC_spec_pzClue s cells cx cy ck K = vbody Tryd.prog (vin Tryd.prog TQA_35 annTQA 3) TQA_35.looks (annTQA 24) 24 [.str s, .int .i64 cells, .agg [.int .i64 cx, .int .i64 cy, .int .i64 ck]] [] (fun v _ => K v) := by kernel_rfl
theorem ok_spec_pzClue : OK Tryd.prog 24 F_spec_pzClue.spec := (vbody_ok (vin_ok TQA_35_ok annTQA 3) TQA_35_ok.looks _ _).ofF fun args m p R h hp => by
  unfold F_spec_pzClue at h
  split at h
  · injection h with h; injection h with h1 h2; subst h1; subst h2
    exact ⟨rfl, (congrArg At (eq_spec_pzClue _ _ _ _ _ _)).mp ⟨vc_spec_pzClue _ _ _ _ _ hp⟩⟩
  · cases h
def TQA_36 : Tab := TQA_35.add 24 F_spec_pzClue
theorem TQA_36_ok : TQA_36.Ok Tryd.prog := TQA_35_ok.add ok_spec_pzClue
theorem eq_impl_IsClue (s : List UInt8) (cells : Int) (cx : Int) (cy : Int) (ck : Int) (K : V → Prop) : VC_impl_IsClue s cells cx cy ck K = vbody Tryd.prog (vin Tryd.prog TQA_36 annTQA 3) TQA_36.looks (annTQA 27) 27 [.str s, .int .i64 cells, .agg [.int .i64 cx, .int .i64 cy, .int .i64 ck]] [] (fun v _ => K v) := by kernel_rfl
theorem ok_impl_IsClue : OK Tryd.prog 27 F_impl_IsClue.spec := (vbody_ok (vin_ok TQA_36_ok annTQA 3) TQA_36_ok.looks _ _).ofF fun args m p R h hp => by
  unfold F_impl_IsClue at h
  split at h
  · injection h with h; injection h with h1 h2; subst h1; subst h2
    exact ⟨rfl, (congrArg At (eq_impl_IsClue _ _ _ _ _ _)).mp ⟨vc_impl_IsClue _ _ _ _ _ hp⟩⟩
  · cases h
def TQA_37 : Tab := TQA_36.add 27 F_impl_IsClue
theorem TQA_37_ok : TQA_37.Ok Tryd.prog := TQA_36_ok.add ok_impl_IsClue
theorem eq_impl_led (wr : List UInt8) (ww : Int) (wh : Int) (wc : List UInt8) (wx : Int) (wy : Int) (wd : Int) (s : Int) (K : V → Prop) : VC_impl_led wr ww wh wc wx wy wd s K = vbody Tryd.prog (vin Tryd.prog TQA_37 annTQA 3) TQA_37.looks (annTQA 80) 80 [.agg [.str wr, .int .i64 ww, .int .i64 wh, .str wc, .int .i64 wx, .int .i64 wy, .int .i64 wd], .int .i64 s, .fn 81 []] [] (fun v _ => K v) := by kernel_rfl
theorem ok_impl_led : OK Tryd.prog 80 F_impl_led.spec := (vbody_ok (vin_ok TQA_37_ok annTQA 3) TQA_37_ok.looks _ _).ofF fun args m p R h hp => by
  unfold F_impl_led at h
  split at h
  · injection h with h; injection h with h1 h2; subst h1; subst h2
    exact ⟨rfl, (congrArg At (eq_impl_led _ _ _ _ _ _ _ _ _)).mp ⟨vc_impl_led _ _ _ _ _ _ _ _ hp⟩⟩
  · cases h
def TQA_38 : Tab := TQA_37.add 80 F_impl_led
theorem TQA_38_ok : TQA_38.Ok Tryd.prog := TQA_37_ok.add ok_impl_led
theorem eq_impl_sumOf (s : List UInt8) (K : V → Prop) : VC_impl_sumOf s K = vbody Tryd.prog (vin Tryd.prog TQA_38 annTQA 3) TQA_38.looks (annTQA 79) 79 [.str s] [] (fun v _ => K v) := by kernel_rfl
theorem ok_impl_sumOf : OK Tryd.prog 79 F_impl_sumOf.spec := (vbody_ok (vin_ok TQA_38_ok annTQA 3) TQA_38_ok.looks _ _).ofF fun args m p R h hp => by
  unfold F_impl_sumOf at h
  split at h
  · injection h with h; injection h with h1 h2; subst h1; subst h2
    exact ⟨rfl, (congrArg At (eq_impl_sumOf _ _)).mp ⟨vc_impl_sumOf _ hp⟩⟩
  · cases h
def TQA_39 : Tab := TQA_38.add 79 F_impl_sumOf
theorem TQA_39_ok : TQA_39.Ok Tryd.prog := TQA_38_ok.add ok_impl_sumOf
theorem ok_strings_Count : OK Tryd.prog 82 F_strings_Count.spec := Go.Proofs.YtbdhilflnfllaabDoor.libCount
def TQA_40 : Tab := TQA_39.add 82 F_strings_Count
theorem TQA_40_ok : TQA_40.Ok Tryd.prog := TQA_39_ok.add ok_strings_Count
theorem eq_spec_pzValue (k : Int) (a : Int) (wr : List UInt8) (ww : Int) (wh : Int) (wc : List UInt8) (wx : Int) (wy : Int) (wd : Int) (K : V → Prop) : VC_spec_pzValue k a wr ww wh wc wx wy wd K = vbody Tryd.prog (vin Tryd.prog TQA_40 annTQA 3) TQA_40.looks (annTQA 51) 51 [.int .i64 k, .int .i64 a, .agg [.str wr, .int .i64 ww, .int .i64 wh, .str wc, .int .i64 wx, .int .i64 wy, .int .i64 wd]] [] (fun v _ => K v) := by kernel_rfl
theorem ok_spec_pzValue : OK Tryd.prog 51 F_spec_pzValue.spec := (vbody_ok (vin_ok TQA_40_ok annTQA 3) TQA_40_ok.looks _ _).ofF fun args m p R h hp => by
  unfold F_spec_pzValue at h
  split at h
  · injection h with h; injection h with h1 h2; subst h1; subst h2
    exact ⟨rfl, (congrArg At (eq_spec_pzValue _ _ _ _ _ _ _ _ _ _)).mp ⟨vc_spec_pzValue _ _ _ _ _ _ _ _ _ hp⟩⟩
  · cases h
def TQA_41 : Tab := TQA_40.add 51 F_spec_pzValue
theorem TQA_41_ok : TQA_41.Ok Tryd.prog := TQA_40_ok.add ok_spec_pzValue
theorem eq_spec_pzFits (cx : Int) (cy : Int) (ck : Int) (wr : List UInt8) (ww : Int) (wh : Int) (wc : List UInt8) (wx : Int) (wy : Int) (wd : Int) (K : V → Prop) : VC_spec_pzFits cx cy ck wr ww wh wc wx wy wd K = vbody Tryd.prog (vin Tryd.prog TQA_41 annTQA 3) TQA_41.looks (annTQA 25) 25 [.agg [.int .i64 cx, .int .i64 cy, .int .i64 ck], .agg [.str wr, .int .i64 ww, .int .i64 wh, .str wc, .int .i64 wx, .int .i64 wy, .int .i64 wd]] [] (fun v _ => K v) := by kernel_rfl
theorem ok_spec_pzFits : OK Tryd.prog 25 F_spec_pzFits.spec := (vbody_ok (vin_ok TQA_41_ok annTQA 3) TQA_41_ok.looks _ _).ofF fun args m p R h hp => by
  unfold F_spec_pzFits at h
  split at h
  · injection h with h; injection h with h1 h2; subst h1; subst h2
    exact ⟨rfl, (congrArg At (eq_spec_pzFits _ _ _ _ _ _ _ _ _ _ _)).mp ⟨vc_spec_pzFits _ _ _ _ _ _ _ _ _ _ hp⟩⟩
  · cases h
def TQA_42 : Tab := TQA_41.add 25 F_spec_pzFits
theorem TQA_42_ok : TQA_42.Ok Tryd.prog := TQA_41_ok.add ok_spec_pzFits
theorem eq_impl_clueFrom (wr : List UInt8) (ww : Int) (wh : Int) (wc : List UInt8) (wx : Int) (wy : Int) (wd : Int) (k : Int) (a : Int) (K : V → Prop) : VC_impl_clueFrom wr ww wh wc wx wy wd k a K = vbody Tryd.prog (vin Tryd.prog TQA_42 annTQA 3) TQA_42.looks (annTQA 56) 56 [.agg [.str wr, .int .i64 ww, .int .i64 wh, .str wc, .int .i64 wx, .int .i64 wy, .int .i64 wd], .int .i64 k, .int .i64 a] [] (fun v _ => K v) := by kernel_rfl
theorem ok_impl_clueFrom : OK Tryd.prog 56 F_impl_clueFrom.spec := (vbody_ok (vin_ok TQA_42_ok annTQA 3) TQA_42_ok.looks _ _).ofF fun args m p R h hp => by
  unfold F_impl_clueFrom at h
  split at h
  · injection h with h; injection h with h1 h2; subst h1; subst h2
    exact ⟨rfl, (congrArg At (eq_impl_clueFrom _ _ _ _ _ _ _ _ _ _)).mp ⟨vc_impl_clueFrom _ _ _ _ _ _ _ _ _ hp⟩⟩
  · cases h
def TQA_43 : Tab := TQA_42.add 56 F_impl_clueFrom
theorem TQA_43_ok : TQA_43.Ok Tryd.prog := TQA_42_ok.add ok_impl_clueFrom
theorem eq_impl_doesFit (cx : Int) (cy : Int) (ck : Int) (wr : List UInt8) (ww : Int) (wh : Int) (wc : List UInt8) (wx : Int) (wy : Int) (wd : Int) (K : V → Prop) : VC_impl_doesFit cx cy ck wr ww wh wc wx wy wd K = vbody Tryd.prog (vin Tryd.prog TQA_43 annTQA 3) TQA_43.looks (annTQA 28) 28 [.agg [.int .i64 cx, .int .i64 cy, .int .i64 ck], .agg [.str wr, .int .i64 ww, .int .i64 wh, .str wc, .int .i64 wx, .int .i64 wy, .int .i64 wd]] [] (fun v _ => K v) := by kernel_rfl
theorem ok_impl_doesFit : OK Tryd.prog 28 F_impl_doesFit.spec := (vbody_ok (vin_ok TQA_43_ok annTQA 3) TQA_43_ok.looks _ _).ofF fun args m p R h hp => by
  unfold F_impl_doesFit at h
  split at h
  · injection h with h; injection h with h1 h2; subst h1; subst h2
    exact ⟨rfl, (congrArg At (eq_impl_doesFit _ _ _ _ _ _ _ _ _ _ _)).mp ⟨vc_impl_doesFit _ _ _ _ _ _ _ _ _ _ hp⟩⟩
  · cases h
def TQA_44 : Tab := TQA_43.add 28 F_impl_doesFit
theorem TQA_44_ok : TQA_44.Ok Tryd.prog := TQA_43_ok.add ok_impl_doesFit
theorem eq_spec_pzHidden (wr : List UInt8) (ww : Int) (wh : Int) (wc : List UInt8) (wx : Int) (wy : Int) (wd : Int) (K : V → Prop) : VC_spec_pzHidden wr ww wh wc wx wy wd K = vbody Tryd.prog (vin Tryd.prog TQA_44 annTQA 3) TQA_44.looks (annTQA 23) 23 [.agg [.str wr, .int .i64 ww, .int .i64 wh, .str wc, .int .i64 wx, .int .i64 wy, .int .i64 wd]] [] (fun v _ => K v) := by kernel_rfl
theorem ok_spec_pzHidden : OK Tryd.prog 23 F_spec_pzHidden.spec := (vbody_ok (vin_ok TQA_44_ok annTQA 3) TQA_44_ok.looks _ _).ofF fun args m p R h hp => by
  unfold F_spec_pzHidden at h
  split at h
  · injection h with h; injection h with h1 h2; subst h1; subst h2
    exact ⟨rfl, (congrArg At (eq_spec_pzHidden _ _ _ _ _ _ _ _)).mp ⟨vc_spec_pzHidden _ _ _ _ _ _ _ hp⟩⟩
  · cases h
def TQA_45 : Tab := TQA_44.add 23 F_spec_pzHidden
theorem TQA_45_ok : TQA_45.Ok Tryd.prog := TQA_44_ok.add ok_spec_pzHidden
theorem eq_impl_isHidden (wr : List UInt8) (ww : Int) (wh : Int) (wc : List UInt8) (wx : Int) (wy : Int) (wd : Int) (K : V → Prop) : VC_impl_isHidden wr ww wh wc wx wy wd K = vbody Tryd.prog (vin Tryd.prog TQA_45 annTQA 3) TQA_45.looks (annTQA 26) 26 [.agg [.str wr, .int .i64 ww, .int .i64 wh, .str wc, .int .i64 wx, .int .i64 wy, .int .i64 wd]] [] (fun v _ => K v) := by kernel_rfl
theorem ok_impl_isHidden : OK Tryd.prog 26 F_impl_isHidden.spec := (vbody_ok (vin_ok TQA_45_ok annTQA 3) TQA_45_ok.looks _ _).ofF fun args m p R h hp => by
  unfold F_impl_isHidden at h
  split at h
  · injection h with h; injection h with h1 h2; subst h1; subst h2
    exact ⟨rfl, (congrArg At (eq_impl_isHidden _ _ _ _ _ _ _ _)).mp ⟨vc_impl_isHidden _ _ _ _ _ _ _ hp⟩⟩
  · cases h
def TQA_46 : Tab := TQA_45.add 26 F_impl_isHidden
theorem TQA_46_ok : TQA_46.Ok Tryd.prog := TQA_45_ok.add ok_impl_isHidden
theorem eq_spec_DoesFit (cx : Int) (cy : Int) (ck : Int) (wr : List UInt8) (ww : Int) (wh : Int) (wc : List UInt8) (wx : Int) (wy : Int) (wd : Int) (K : V → Prop) : VC_spec_DoesFit cx cy ck wr ww wh wc wx wy wd K = vbody Tryd.prog (vin Tryd.prog TQA_46 annTQA 3) TQA_46.looks (annTQA 8) 8 [.agg [.int .i64 cx, .int .i64 cy, .int .i64 ck], .agg [.str wr, .int .i64 ww, .int .i64 wh, .str wc, .int .i64 wx, .int .i64 wy, .int .i64 wd]] [] (fun v _ => K v) := by kernel_rfl
theorem ok_spec_DoesFit : OK Tryd.prog 8 F_spec_DoesFit.spec := (vbody_ok (vin_ok TQA_46_ok annTQA 3) TQA_46_ok.looks _ _).ofF fun args m p R h hp => by
  unfold F_spec_DoesFit at h
  split at h
  · injection h with h; injection h with h1 h2; subst h1; subst h2
    exact ⟨rfl, (congrArg At (eq_spec_DoesFit _ _ _ _ _ _ _ _ _ _ _)).mp ⟨vc_spec_DoesFit _ _ _ _ _ _ _ _ _ _ hp⟩⟩
  · cases h
def TQA_47 : Tab := TQA_46.add 8 F_spec_DoesFit
theorem TQA_47_ok : TQA_47.Ok Tryd.prog := TQA_46_ok.add ok_spec_DoesFit
theorem eq_impl_DoesFit (cx : Int) (cy : Int) (ck : Int) (wr : List UInt8) (ww : Int) (wh : Int) (wc : List UInt8) (wx : Int) (wy : Int) (wd : Int) (K : V → Prop) : VC_impl_DoesFit cx cy ck wr ww wh wc wx wy wd K = vbody Tryd.prog (vin Tryd.prog TQA_47 annTQA 3) TQA_47.looks (annTQA 11) 11 [.agg [.int .i64 cx, .int .i64 cy, .int .i64 ck], .agg [.str wr, .int .i64 ww, .int .i64 wh, .str wc, .int .i64 wx, .int .i64 wy, .int .i64 wd]] [] (fun v _ => K v) := by kernel_rfl
theorem ok_impl_DoesFit : OK Tryd.prog 11 F_impl_DoesFit.spec := (vbody_ok (vin_ok TQA_47_ok annTQA 3) TQA_47_ok.looks _ _).ofF fun args m p R h hp => by
  unfold F_impl_DoesFit at h
  split at h
  · injection h with h; injection h with h1 h2; subst h1; subst h2
    exact ⟨rfl, (congrArg At (eq_impl_DoesFit _ _ _ _ _ _ _ _ _ _ _)).mp ⟨vc_impl_DoesFit _ _ _ _ _ _ _ _ _ _ hp⟩⟩
  · cases h
def TQA_48 : Tab := TQA_47.add 11 F_impl_DoesFit
theorem TQA_48_ok : TQA_48.Ok Tryd.prog := TQA_47_ok.add ok_impl_DoesFit
def TQA : Tab := TQA_48
theorem TQA_ok : TQA.Ok Tryd.prog := TQA_48_ok
end Go.Proofs.YtbdhilflnfllaabDoor
