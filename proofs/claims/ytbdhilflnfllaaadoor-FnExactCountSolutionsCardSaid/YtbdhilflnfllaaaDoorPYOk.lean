/- The contracts of this chapter. -/
import Derived.Test.YtbdhilflnfllaaaDoorPDDoor
import Derived.Test.YtbdhilflnfllaaaDoorW9Lib
import Derived.Test.YtbdhilflnfllaaaDoorPVLib
import Derived.Test.YtbdhilflnfllaaaDoorProg
import Derived.Test.YtbdhilflnfllaaaDoorPYPf
import Derived.KernelRfl
namespace Go.Proofs.YtbdhilflnfllaaaDoor
open Go Go.Vi
set_option linter.unusedVariables false
def annTPY : FuncId → Nat → St → Option Ann := fun f => if f = 69 then ann_spec_woRule else if f = 79 then ann_impl_IsRule else if f = 48 then ann_laws_eqClueS else if f = 49 then ann_laws_markClueS else if f = 59 then ann_laws_heldClueS else if f = 44 then ann_laws_toClueS else if f = 71 then ann_spec_pzPower else if f = 74 then ann_impl_CountBoards else if f = 42 then ann_spec_pzGood else if f = 58 then ann_impl_withClues else if f = 86 then ann_impl_led else if f = 85 then ann_impl_sumOf else if f = 78 then ann_spec_pzValue else if f = 65 then ann_impl_allCells else if f = 45 then ann_impl_candidatesOf else if f = 46 then ann_impl_fitAll else if f = 62 then ann_spec_pzLook else (fun _ _ => none)
def TPY_0 : Tab := Tab.none
theorem TPY_0_ok : TPY_0.Ok Tryd.prog := Tab.none_ok
theorem eq_spec_l1In (n : Int) (lo : Int) (hi : Int) (K : V → Prop) : VC_spec_l1In n lo hi K = vbody Tryd.prog (vin Tryd.prog TPY_0 annTPY 3) TPY_0.looks (annTPY 70) 70 [.int .i64 n, .int .i64 lo, .int .i64 hi] [] (fun v _ => K v) := by kernel_rfl
theorem ok_spec_l1In : OK Tryd.prog 70 F_spec_l1In.spec := (vbody_ok (vin_ok TPY_0_ok annTPY 3) TPY_0_ok.looks _ _).ofF fun args m p R h hp => by
  unfold F_spec_l1In at h
  split at h
  · injection h with h; injection h with h1 h2; subst h1; subst h2
    exact ⟨rfl, (congrArg At (eq_spec_l1In _ _ _ _)).mp ⟨vc_spec_l1In _ _ _ hp⟩⟩
  · cases h
def TPY_1 : Tab := TPY_0.add 70 F_spec_l1In
theorem TPY_1_ok : TPY_1.Ok Tryd.prog := TPY_0_ok.add ok_spec_l1In
theorem eq_impl_within (n : Int) (lo : Int) (hi : Int) (K : V → Prop) : VC_impl_within n lo hi K = vbody Tryd.prog (vin Tryd.prog TPY_1 annTPY 3) TPY_1.looks (annTPY 90) 90 [.int .i64 n, .int .i64 lo, .int .i64 hi] [] (fun v _ => K v) := by kernel_rfl
theorem ok_impl_within : OK Tryd.prog 90 F_impl_within.spec := (vbody_ok (vin_ok TPY_1_ok annTPY 3) TPY_1_ok.looks _ _).ofF fun args m p R h hp => by
  unfold F_impl_within at h
  split at h
  · injection h with h; injection h with h1 h2; subst h1; subst h2
    exact ⟨rfl, (congrArg At (eq_impl_within _ _ _ _)).mp ⟨vc_impl_within _ _ _ hp⟩⟩
  · cases h
def TPY_2 : Tab := TPY_1.add 90 F_impl_within
theorem TPY_2_ok : TPY_2.Ok Tryd.prog := TPY_1_ok.add ok_impl_within
theorem eq_impl_digit (b : Int) (K : V → Prop) : VC_impl_digit b K = vbody Tryd.prog (vin Tryd.prog TPY_2 annTPY 3) TPY_2.looks (annTPY 84) 84 [.int .u8 b] [] (fun v _ => K v) := by kernel_rfl
theorem ok_impl_digit : OK Tryd.prog 84 F_impl_digit.spec := (vbody_ok (vin_ok TPY_2_ok annTPY 3) TPY_2_ok.looks _ _).ofF fun args m p R h hp => by
  unfold F_impl_digit at h
  split at h
  · injection h with h; injection h with h1 h2; subst h1; subst h2
    exact ⟨rfl, (congrArg At (eq_impl_digit _ _)).mp ⟨vc_impl_digit _ hp⟩⟩
  · cases h
def TPY_3 : Tab := TPY_2.add 84 F_impl_digit
theorem TPY_3_ok : TPY_3.Ok Tryd.prog := TPY_2_ok.add ok_impl_digit
theorem eq_spec_woRule (s : List UInt8) (K : V → Prop) : VC_spec_woRule s K = vbody Tryd.prog (vin Tryd.prog TPY_3 annTPY 3) TPY_3.looks (annTPY 69) 69 [.str s] [] (fun v _ => K v) := by kernel_rfl
theorem ok_spec_woRule : OK Tryd.prog 69 F_spec_woRule.spec := (vbody_ok (vin_ok TPY_3_ok annTPY 3) TPY_3_ok.looks _ _).ofF fun args m p R h hp => by
  unfold F_spec_woRule at h
  split at h
  · injection h with h; injection h with h1 h2; subst h1; subst h2
    exact ⟨rfl, (congrArg At (eq_spec_woRule _ _)).mp ⟨vc_spec_woRule _ hp⟩⟩
  · cases h
def TPY_4 : Tab := TPY_3.add 69 F_spec_woRule
theorem TPY_4_ok : TPY_4.Ok Tryd.prog := TPY_3_ok.add ok_spec_woRule
theorem eq_impl_IsRule (s : List UInt8) (K : V → Prop) : VC_impl_IsRule s K = vbody Tryd.prog (vin Tryd.prog TPY_4 annTPY 3) TPY_4.looks (annTPY 79) 79 [.str s] [] (fun v _ => K v) := by kernel_rfl
theorem ok_impl_IsRule : OK Tryd.prog 79 F_impl_IsRule.spec := (vbody_ok (vin_ok TPY_4_ok annTPY 3) TPY_4_ok.looks _ _).ofF fun args m p R h hp => by
  unfold F_impl_IsRule at h
  split at h
  · injection h with h; injection h with h1 h2; subst h1; subst h2
    exact ⟨rfl, (congrArg At (eq_impl_IsRule _ _)).mp ⟨vc_impl_IsRule _ hp⟩⟩
  · cases h
def TPY_5 : Tab := TPY_4.add 79 F_impl_IsRule
theorem TPY_5_ok : TPY_5.Ok Tryd.prog := TPY_4_ok.add ok_impl_IsRule
theorem eq_spec_woColour (wr : List UInt8) (ww : Int) (wh : Int) (wc : List UInt8) (wx : Int) (wy : Int) (wd : Int) (x : Int) (y : Int) (K : V → Prop) : VC_spec_woColour wr ww wh wc wx wy wd x y K = vbody Tryd.prog (vin Tryd.prog TPY_5 annTPY 3) TPY_5.looks (annTPY 103) 103 [.agg [.str wr, .int .i64 ww, .int .i64 wh, .str wc, .int .i64 wx, .int .i64 wy, .int .i64 wd], .int .i64 x, .int .i64 y] [] (fun v _ => K v) := by kernel_rfl
theorem ok_spec_woColour : OK Tryd.prog 103 F_spec_woColour.spec := (vbody_ok (vin_ok TPY_5_ok annTPY 3) TPY_5_ok.looks _ _).ofF fun args m p R h hp => by
  unfold F_spec_woColour at h
  split at h
  · injection h with h; injection h with h1 h2; subst h1; subst h2
    exact ⟨rfl, (congrArg At (eq_spec_woColour _ _ _ _ _ _ _ _ _ _)).mp ⟨vc_spec_woColour _ _ _ _ _ _ _ _ _ hp⟩⟩
  · cases h
def TPY_6 : Tab := TPY_5.add 103 F_spec_woColour
theorem TPY_6_ok : TPY_6.Ok Tryd.prog := TPY_5_ok.add ok_spec_woColour
theorem eq_impl_board_colour (wr : List UInt8) (ww : Int) (wh : Int) (wc : List UInt8) (wx : Int) (wy : Int) (wd : Int) (x : Int) (y : Int) (K : V → Prop) : VC_impl_board_colour wr ww wh wc wx wy wd x y K = vbody Tryd.prog (vin Tryd.prog TPY_6 annTPY 3) TPY_6.looks (annTPY 94) 94 [.agg [.str wr, .int .i64 ww, .int .i64 wh, .str wc, .int .i64 wx, .int .i64 wy, .int .i64 wd], .int .i64 x, .int .i64 y] [] (fun v _ => K v) := by kernel_rfl
theorem ok_impl_board_colour : OK Tryd.prog 94 F_impl_board_colour.spec := (vbody_ok (vin_ok TPY_6_ok annTPY 3) TPY_6_ok.looks _ _).ofF fun args m p R h hp => by
  unfold F_impl_board_colour at h
  split at h
  · injection h with h; injection h with h1 h2; subst h1; subst h2
    exact ⟨rfl, (congrArg At (eq_impl_board_colour _ _ _ _ _ _ _ _ _ _)).mp ⟨vc_impl_board_colour _ _ _ _ _ _ _ _ _ hp⟩⟩
  · cases h
def TPY_7 : Tab := TPY_6.add 94 F_impl_board_colour
theorem TPY_7_ok : TPY_7.Ok Tryd.prog := TPY_6_ok.add ok_impl_board_colour
theorem ok_strconv_formatBase10 : OK Tryd.prog 109 F_strconv_formatBase10.spec := Go.Proofs.YtbdhilflnfllaaaDoor.never_ok _
def TPY_8 : Tab := TPY_7.add 109 F_strconv_formatBase10
theorem TPY_8_ok : TPY_8.Ok Tryd.prog := TPY_7_ok.add ok_strconv_formatBase10
theorem ok_strconv_formatBits : OK Tryd.prog 110 F_strconv_formatBits.spec := Go.Proofs.YtbdhilflnfllaaaDoor.never_ok _
def TPY_9 : Tab := TPY_8.add 110 F_strconv_formatBits
theorem TPY_9_ok : TPY_9.Ok Tryd.prog := TPY_8_ok.add ok_strconv_formatBits
theorem ok_strconv_numDigits : OK Tryd.prog 108 F_strconv_numDigits.spec := Go.Proofs.YtbdhilflnfllaaaDoor.never_ok _
def TPY_10 : Tab := TPY_9.add 108 F_strconv_numDigits
theorem TPY_10_ok : TPY_10.Ok Tryd.prog := TPY_9_ok.add ok_strconv_numDigits
theorem eq_spec_l1Num (n : Int) (K : V → Prop) : VC_spec_l1Num n K = vbody Tryd.prog (vin Tryd.prog TPY_10 annTPY 0) TPY_10.looks (annTPY 73) 73 [.int .i64 n] [] (fun v _ => K v) := by kernel_rfl
theorem ok_spec_l1Num : OK Tryd.prog 73 F_spec_l1Num.spec := (vbody_ok (vin_ok TPY_10_ok annTPY 0) TPY_10_ok.looks _ _).ofF fun args m p R h hp => by
  unfold F_spec_l1Num at h
  split at h
  · injection h with h; injection h with h1 h2; subst h1; subst h2
    exact ⟨rfl, (congrArg At (eq_spec_l1Num _ _)).mp ⟨vc_spec_l1Num _ hp⟩⟩
  · cases h
def TPY_11 : Tab := TPY_10.add 73 F_spec_l1Num
theorem TPY_11_ok : TPY_11.Ok Tryd.prog := TPY_10_ok.add ok_spec_l1Num
theorem eq_strconv_FormatInt (n : Int) (b : Int) (K : V → Prop) : VC_strconv_FormatInt n b K = vbody Tryd.prog (vin Tryd.prog TPY_11 annTPY 3) TPY_11.looks (annTPY 93) 93 [.int .i64 n, .int .i64 b] [] (fun v _ => K v) := by kernel_rfl
theorem ok_strconv_FormatInt : OK Tryd.prog 93 F_strconv_FormatInt.spec := (vbody_ok (vin_ok TPY_11_ok annTPY 3) TPY_11_ok.looks _ _).ofF fun args m p R h hp => by
  unfold F_strconv_FormatInt at h
  split at h
  · injection h with h; injection h with h1 h2; subst h1; subst h2
    exact ⟨rfl, (congrArg At (eq_strconv_FormatInt _ _ _)).mp ⟨vc_strconv_FormatInt _ _ hp⟩⟩
  · cases h
def TPY_12 : Tab := TPY_11.add 93 F_strconv_FormatInt
theorem TPY_12_ok : TPY_12.Ok Tryd.prog := TPY_11_ok.add ok_strconv_FormatInt
theorem eq_strconv_Itoa (n : Int) (K : V → Prop) : VC_strconv_Itoa n K = vbody Tryd.prog (vin Tryd.prog TPY_12 annTPY 3) TPY_12.looks (annTPY 76) 76 [.int .i64 n] [] (fun v _ => K v) := by kernel_rfl
theorem ok_strconv_Itoa : OK Tryd.prog 76 F_strconv_Itoa.spec := (vbody_ok (vin_ok TPY_12_ok annTPY 3) TPY_12_ok.looks _ _).ofF fun args m p R h hp => by
  unfold F_strconv_Itoa at h
  split at h
  · injection h with h; injection h with h1 h2; subst h1; subst h2
    exact ⟨rfl, (congrArg At (eq_strconv_Itoa _ _)).mp ⟨vc_strconv_Itoa _ hp⟩⟩
  · cases h
def TPY_13 : Tab := TPY_12.add 76 F_strconv_Itoa
theorem TPY_13_ok : TPY_13.Ok Tryd.prog := TPY_12_ok.add ok_strconv_Itoa
theorem eq_spec_l1Mod (n : Int) (m : Int) (K : V → Prop) : VC_spec_l1Mod n m K = vbody Tryd.prog (vin Tryd.prog TPY_13 annTPY 3) TPY_13.looks (annTPY 113) 113 [.int .i64 n, .int .i64 m] [] (fun v _ => K v) := by kernel_rfl
theorem ok_spec_l1Mod : OK Tryd.prog 113 F_spec_l1Mod.spec := (vbody_ok (vin_ok TPY_13_ok annTPY 3) TPY_13_ok.looks _ _).ofF fun args m p R h hp => by
  unfold F_spec_l1Mod at h
  split at h
  · injection h with h; injection h with h1 h2; subst h1; subst h2
    exact ⟨rfl, (congrArg At (eq_spec_l1Mod _ _ _)).mp ⟨vc_spec_l1Mod _ _ hp⟩⟩
  · cases h
def TPY_14 : Tab := TPY_13.add 113 F_spec_l1Mod
theorem TPY_14_ok : TPY_14.Ok Tryd.prog := TPY_13_ok.add ok_spec_l1Mod
theorem eq_spec_woTurn (b : Int) (K : V → Prop) : VC_spec_woTurn b K = vbody Tryd.prog (vin Tryd.prog TPY_14 annTPY 3) TPY_14.looks (annTPY 104) 104 [.int .u8 b] [] (fun v _ => K v) := by kernel_rfl
theorem ok_spec_woTurn : OK Tryd.prog 104 F_spec_woTurn.spec := (vbody_ok (vin_ok TPY_14_ok annTPY 3) TPY_14_ok.looks _ _).ofF fun args m p R h hp => by
  unfold F_spec_woTurn at h
  split at h
  · injection h with h; injection h with h1 h2; subst h1; subst h2
    exact ⟨rfl, (congrArg At (eq_spec_woTurn _ _)).mp ⟨vc_spec_woTurn _ hp⟩⟩
  · cases h
def TPY_15 : Tab := TPY_14.add 104 F_spec_woTurn
theorem TPY_15_ok : TPY_15.Ok Tryd.prog := TPY_14_ok.add ok_spec_woTurn
theorem eq_impl_quarters (b : Int) (K : V → Prop) : VC_impl_quarters b K = vbody Tryd.prog (vin Tryd.prog TPY_15 annTPY 3) TPY_15.looks (annTPY 96) 96 [.int .u8 b] [] (fun v _ => K v) := by kernel_rfl
theorem ok_impl_quarters : OK Tryd.prog 96 F_impl_quarters.spec := (vbody_ok (vin_ok TPY_15_ok annTPY 3) TPY_15_ok.looks _ _).ofF fun args m p R h hp => by
  unfold F_impl_quarters at h
  split at h
  · injection h with h; injection h with h1 h2; subst h1; subst h2
    exact ⟨rfl, (congrArg At (eq_impl_quarters _ _)).mp ⟨vc_impl_quarters _ hp⟩⟩
  · cases h
def TPY_16 : Tab := TPY_15.add 96 F_impl_quarters
theorem TPY_16_ok : TPY_16.Ok Tryd.prog := TPY_15_ok.add ok_impl_quarters
theorem eq_impl_direction (d : Int) (K : V → Prop) : VC_impl_direction d K = vbody Tryd.prog (vin Tryd.prog TPY_16 annTPY 3) TPY_16.looks (annTPY 111) 111 [.int .i64 d] [] (fun v _ => K v) := by kernel_rfl
theorem ok_impl_direction : OK Tryd.prog 111 F_impl_direction.spec := (vbody_ok (vin_ok TPY_16_ok annTPY 3) TPY_16_ok.looks _ _).ofF fun args m p R h hp => by
  unfold F_impl_direction at h
  split at h
  · injection h with h; injection h with h1 h2; subst h1; subst h2
    exact ⟨rfl, (congrArg At (eq_impl_direction _ _)).mp ⟨vc_impl_direction _ hp⟩⟩
  · cases h
def TPY_17 : Tab := TPY_16.add 111 F_impl_direction
theorem TPY_17_ok : TPY_17.Ok Tryd.prog := TPY_16_ok.add ok_impl_direction
theorem eq_impl_board_sign (wr : List UInt8) (ww : Int) (wh : Int) (wc : List UInt8) (wx : Int) (wy : Int) (wd : Int) (K : V → Prop) : VC_impl_board_sign wr ww wh wc wx wy wd K = vbody Tryd.prog (vin Tryd.prog TPY_17 annTPY 3) TPY_17.looks (annTPY 97) 97 [.agg [.str wr, .int .i64 ww, .int .i64 wh, .str wc, .int .i64 wx, .int .i64 wy, .int .i64 wd]] [] (fun v _ => K v) := by kernel_rfl
theorem ok_impl_board_sign : OK Tryd.prog 97 F_impl_board_sign.spec := (vbody_ok (vin_ok TPY_17_ok annTPY 3) TPY_17_ok.looks _ _).ofF fun args m p R h hp => by
  unfold F_impl_board_sign at h
  split at h
  · injection h with h; injection h with h1 h2; subst h1; subst h2
    exact ⟨rfl, (congrArg At (eq_impl_board_sign _ _ _ _ _ _ _ _)).mp ⟨vc_impl_board_sign _ _ _ _ _ _ _ hp⟩⟩
  · cases h
def TPY_18 : Tab := TPY_17.add 97 F_impl_board_sign
theorem TPY_18_ok : TPY_18.Ok Tryd.prog := TPY_17_ok.add ok_impl_board_sign
theorem eq_impl_board_painted (wr : List UInt8) (ww : Int) (wh : Int) (wc : List UInt8) (wx : Int) (wy : Int) (wd : Int) (x : Int) (y : Int) (k : Int) (K : V → Prop) : VC_impl_board_painted wr ww wh wc wx wy wd x y k K = vbody Tryd.prog (vin Tryd.prog TPY_18 annTPY 3) TPY_18.looks (annTPY 98) 98 [.agg [.str wr, .int .i64 ww, .int .i64 wh, .str wc, .int .i64 wx, .int .i64 wy, .int .i64 wd], .int .i64 x, .int .i64 y, .int .i64 k] [] (fun v _ => K v) := by kernel_rfl
theorem ok_impl_board_painted : OK Tryd.prog 98 F_impl_board_painted.spec := (vbody_ok (vin_ok TPY_18_ok annTPY 3) TPY_18_ok.looks _ _).ofF fun args m p R h hp => by
  unfold F_impl_board_painted at h
  split at h
  · injection h with h; injection h with h1 h2; subst h1; subst h2
    exact ⟨rfl, (congrArg At (eq_impl_board_painted _ _ _ _ _ _ _ _ _ _ _)).mp ⟨vc_impl_board_painted _ _ _ _ _ _ _ _ _ _ hp⟩⟩
  · cases h
def TPY_19 : Tab := TPY_18.add 98 F_impl_board_painted
theorem TPY_19_ok : TPY_19.Ok Tryd.prog := TPY_18_ok.add ok_impl_board_painted
theorem eq_impl_board_turned (wr : List UInt8) (ww : Int) (wh : Int) (wc : List UInt8) (wx : Int) (wy : Int) (wd : Int) (q : Int) (K : V → Prop) : VC_impl_board_turned wr ww wh wc wx wy wd q K = vbody Tryd.prog (vin Tryd.prog TPY_19 annTPY 3) TPY_19.looks (annTPY 95) 95 [.agg [.str wr, .int .i64 ww, .int .i64 wh, .str wc, .int .i64 wx, .int .i64 wy, .int .i64 wd], .int .i64 q] [] (fun v _ => K v) := by kernel_rfl
theorem ok_impl_board_turned : OK Tryd.prog 95 F_impl_board_turned.spec := (vbody_ok (vin_ok TPY_19_ok annTPY 3) TPY_19_ok.looks _ _).ofF fun args m p R h hp => by
  unfold F_impl_board_turned at h
  split at h
  · injection h with h; injection h with h1 h2; subst h1; subst h2
    exact ⟨rfl, (congrArg At (eq_impl_board_turned _ _ _ _ _ _ _ _ _)).mp ⟨vc_impl_board_turned _ _ _ _ _ _ _ _ hp⟩⟩
  · cases h
def TPY_20 : Tab := TPY_19.add 95 F_impl_board_turned
theorem TPY_20_ok : TPY_20.Ok Tryd.prog := TPY_19_ok.add ok_impl_board_turned
theorem eq_impl_board_moved (wr : List UInt8) (ww : Int) (wh : Int) (wc : List UInt8) (wx : Int) (wy : Int) (wd : Int) (k : Int) (K : V → Prop) : VC_impl_board_moved wr ww wh wc wx wy wd k K = vbody Tryd.prog (vin Tryd.prog TPY_20 annTPY 3) TPY_20.looks (annTPY 99) 99 [.agg [.str wr, .int .i64 ww, .int .i64 wh, .str wc, .int .i64 wx, .int .i64 wy, .int .i64 wd], .int .i64 k] [] (fun v _ => K v) := by kernel_rfl
theorem ok_impl_board_moved : OK Tryd.prog 99 F_impl_board_moved.spec := (vbody_ok (vin_ok TPY_20_ok annTPY 3) TPY_20_ok.looks _ _).ofF fun args m p R h hp => by
  unfold F_impl_board_moved at h
  split at h
  · injection h with h; injection h with h1 h2; subst h1; subst h2
    exact ⟨rfl, (congrArg At (eq_impl_board_moved _ _ _ _ _ _ _ _ _)).mp ⟨vc_impl_board_moved _ _ _ _ _ _ _ _ hp⟩⟩
  · cases h
def TPY_21 : Tab := TPY_20.add 99 F_impl_board_moved
theorem TPY_21_ok : TPY_21.Ok Tryd.prog := TPY_20_ok.add ok_impl_board_moved
theorem eq_spec_woPaint (x : Int) (y : Int) (k : Int) (wr : List UInt8) (ww : Int) (wh : Int) (wc : List UInt8) (wx : Int) (wy : Int) (wd : Int) (e : TypeId) (K : V → List Blk → Prop) : VC_spec_woPaint x y k wr ww wh wc wx wy wd e K = vbody Tryd.prog (vin Tryd.prog TPY_21 annTPY 3) TPY_21.looks (annTPY 105) 105 [.ptr 0 0, .int .i64 x, .int .i64 y, .int .i64 k] [⟨.vals [.str wr, .int .i64 ww, .int .i64 wh, .str wc, .int .i64 wx, .int .i64 wy, .int .i64 wd], e, .box⟩] (K) := by kernel_rfl
theorem ok_spec_woPaint : OK Tryd.prog 105 F_spec_woPaint.spec := (vbody_ok (vin_ok TPY_21_ok annTPY 3) TPY_21_ok.looks _ _).ofG fun args m p R M h hp => by
  unfold F_spec_woPaint at h
  split at h
  · injection h with h; injection h with h1 h2; injection h2 with h2 h3; subst h1; subst h2; subst h3
    exact (congrArg At (eq_spec_woPaint _ _ _ _ _ _ _ _ _ _ _ _)).mp ⟨vc_spec_woPaint _ _ _ _ _ _ _ _ _ _ _ hp⟩
  · cases h
def TPY_22 : Tab := TPY_21.addG 105 F_spec_woPaint
theorem TPY_22_ok : TPY_22.Ok Tryd.prog := TPY_21_ok.addG ok_spec_woPaint
theorem eq_spec_woGo (k : Int) (wr : List UInt8) (ww : Int) (wh : Int) (wc : List UInt8) (wx : Int) (wy : Int) (wd : Int) (e : TypeId) (K : V → List Blk → Prop) : VC_spec_woGo k wr ww wh wc wx wy wd e K = vbody Tryd.prog (vin Tryd.prog TPY_22 annTPY 3) TPY_22.looks (annTPY 106) 106 [.ptr 0 0, .int .i64 k] [⟨.vals [.str wr, .int .i64 ww, .int .i64 wh, .str wc, .int .i64 wx, .int .i64 wy, .int .i64 wd], e, .box⟩] (K) := by kernel_rfl
theorem ok_spec_woGo : OK Tryd.prog 106 F_spec_woGo.spec := (vbody_ok (vin_ok TPY_22_ok annTPY 3) TPY_22_ok.looks _ _).ofG fun args m p R M h hp => by
  unfold F_spec_woGo at h
  split at h
  · injection h with h; injection h with h1 h2; injection h2 with h2 h3; subst h1; subst h2; subst h3
    exact (congrArg At (eq_spec_woGo _ _ _ _ _ _ _ _ _ _)).mp ⟨vc_spec_woGo _ _ _ _ _ _ _ _ _ hp⟩
  · cases h
def TPY_23 : Tab := TPY_22.addG 106 F_spec_woGo
theorem TPY_23_ok : TPY_23.Ok Tryd.prog := TPY_22_ok.addG ok_spec_woGo
theorem eq_spec_woStep (wr : List UInt8) (ww : Int) (wh : Int) (wc : List UInt8) (wx : Int) (wy : Int) (wd : Int) (K : V → Prop) : VC_spec_woStep wr ww wh wc wx wy wd K = vbody Tryd.prog (vin Tryd.prog TPY_23 annTPY 4) TPY_23.looks (annTPY 89) 89 [.agg [.str wr, .int .i64 ww, .int .i64 wh, .str wc, .int .i64 wx, .int .i64 wy, .int .i64 wd]] [] (fun v _ => K v) := by kernel_rfl
theorem ok_spec_woStep : OK Tryd.prog 89 F_spec_woStep.spec := (vbody_ok (vin_ok TPY_23_ok annTPY 4) TPY_23_ok.looks _ _).ofF fun args m p R h hp => by
  unfold F_spec_woStep at h
  split at h
  · injection h with h; injection h with h1 h2; subst h1; subst h2
    exact ⟨rfl, (congrArg At (eq_spec_woStep _ _ _ _ _ _ _ _)).mp ⟨vc_spec_woStep _ _ _ _ _ _ _ hp⟩⟩
  · cases h
def TPY_24 : Tab := TPY_23.add 89 F_spec_woStep
theorem TPY_24_ok : TPY_24.Ok Tryd.prog := TPY_23_ok.add ok_spec_woStep
theorem eq_impl_board_forth (wr : List UInt8) (ww : Int) (wh : Int) (wc : List UInt8) (wx : Int) (wy : Int) (wd : Int) (K : V → Prop) : VC_impl_board_forth wr ww wh wc wx wy wd K = vbody Tryd.prog (vin Tryd.prog TPY_24 annTPY 4) TPY_24.looks (annTPY 87) 87 [.agg [.str wr, .int .i64 ww, .int .i64 wh, .str wc, .int .i64 wx, .int .i64 wy, .int .i64 wd]] [] (fun v _ => K v) := by kernel_rfl
theorem ok_impl_board_forth : OK Tryd.prog 87 F_impl_board_forth.spec := (vbody_ok (vin_ok TPY_24_ok annTPY 4) TPY_24_ok.looks _ _).ofF fun args m p R h hp => by
  unfold F_impl_board_forth at h
  split at h
  · injection h with h; injection h with h1 h2; subst h1; subst h2
    exact ⟨rfl, (congrArg At (eq_impl_board_forth _ _ _ _ _ _ _ _)).mp ⟨vc_impl_board_forth _ _ _ _ _ _ _ hp⟩⟩
  · cases h
def TPY_25 : Tab := TPY_24.add 87 F_impl_board_forth
theorem TPY_25_ok : TPY_25.Ok Tryd.prog := TPY_24_ok.add ok_impl_board_forth
theorem eq_laws_eqClue (ax : Int) (ay : Int) (ak : Int) (bx : Int) (by_ : Int) (bk : Int) (K : V → Prop) : VC_laws_eqClue ax ay ak bx by_ bk K = vbody Tryd.prog (vin Tryd.prog TPY_25 annTPY 3) TPY_25.looks (annTPY 68) 68 [.agg [.int .i64 ax, .int .i64 ay, .int .i64 ak], .agg [.int .i64 bx, .int .i64 by_, .int .i64 bk]] [] (fun v _ => K v) := by kernel_rfl
theorem ok_laws_eqClue : OK Tryd.prog 68 F_laws_eqClue.spec := (vbody_ok (vin_ok TPY_25_ok annTPY 3) TPY_25_ok.looks _ _).ofF fun args m p R h hp => by
  unfold F_laws_eqClue at h
  split at h
  · injection h with h; injection h with h1 h2; subst h1; subst h2
    exact ⟨rfl, (congrArg At (eq_laws_eqClue _ _ _ _ _ _ _)).mp ⟨vc_laws_eqClue _ _ _ _ _ _ hp⟩⟩
  · cases h
def TPY_26 : Tab := TPY_25.add 68 F_laws_eqClue
theorem TPY_26_ok : TPY_26.Ok Tryd.prog := TPY_25_ok.add ok_laws_eqClue
theorem eq_laws_eqClueS  (n : Nat) (m : Nat) (a : List Int) (b : List Int) (K : V → List Blk → Prop) : VC_laws_eqClueS  n m a b K = vbody Tryd.prog (vin Tryd.prog TPY_26 annTPY 3) TPY_26.looks (annTPY 48) 48 [.row 0 n, .row 1 m] [⟨.ints .i64 a, 74, .rows 3⟩, ⟨.ints .i64 b, 74, .rows 3⟩] (K) := by kernel_rfl
theorem ok_laws_eqClueS : OK Tryd.prog 48 F_laws_eqClueS.spec := (vbody_ok (vin_ok TPY_26_ok annTPY 3) TPY_26_ok.looks _ _).ofFM fun args m p R h hp => by
  unfold F_laws_eqClueS at h
  split at h
  · injection h with h; injection h with h1 h2; subst h1; subst h2
    exact (congrArg At (eq_laws_eqClueS _ _ _ _ _)).mp ⟨vc_laws_eqClueS _ _ _ _ hp⟩
  · cases h
def TPY_27 : Tab := TPY_26.add 48 F_laws_eqClueS
theorem TPY_27_ok : TPY_27.Ok Tryd.prog := TPY_26_ok.add ok_laws_eqClueS
theorem eq_laws_eqPuzzle  (ar : List UInt8) (aw : Int) (ah : Int) (cr : List UInt8) (cw : Int) (ch : Int) (n : Nat) (m : Nat) (a : List Int) (b : List Int) (K : V → List Blk → Prop) : VC_laws_eqPuzzle  ar aw ah cr cw ch n m a b K = vbody Tryd.prog (vin Tryd.prog TPY_27 annTPY 3) TPY_27.looks (annTPY 17) 17 [.agg [.str ar, .int .i64 aw, .int .i64 ah, .row 0 n], .agg [.str cr, .int .i64 cw, .int .i64 ch, .row 1 m]] [⟨.ints .i64 a, 74, .rows 3⟩, ⟨.ints .i64 b, 74, .rows 3⟩] (K) := by kernel_rfl
theorem ok_laws_eqPuzzle : OK Tryd.prog 17 F_laws_eqPuzzle.spec := (vbody_ok (vin_ok TPY_27_ok annTPY 3) TPY_27_ok.looks _ _).ofFM fun args m p R h hp => by
  unfold F_laws_eqPuzzle at h
  split at h
  · injection h with h; injection h with h1 h2; subst h1; subst h2
    exact (congrArg At (eq_laws_eqPuzzle _ _ _ _ _ _ _ _ _ _ _)).mp ⟨vc_laws_eqPuzzle _ _ _ _ _ _ _ _ _ _ hp⟩
  · cases h
def TPY_28 : Tab := TPY_27.add 17 F_laws_eqPuzzle
theorem TPY_28_ok : TPY_28.Ok Tryd.prog := TPY_27_ok.add ok_laws_eqPuzzle
theorem eq_laws_markClueS (k : Int) (n : Nat) (a : List Int) (K : V → List Blk → Prop) : VC_laws_markClueS k n a K = vbody Tryd.prog (vin Tryd.prog TPY_28 annTPY 3) TPY_28.looks (annTPY 49) 49 [.row 0 n, .int .i64 k] [⟨.ints .i64 a, 74, .rows 3⟩] (K) := by kernel_rfl
theorem ok_laws_markClueS : OK Tryd.prog 49 F_laws_markClueS.spec := (vbody_ok (vin_ok TPY_28_ok annTPY 3) TPY_28_ok.looks _ _).ofG fun args m p R M h hp => by
  unfold F_laws_markClueS at h
  split at h
  · injection h with h; injection h with h1 h2; injection h2 with h2 h3; subst h1; subst h2; subst h3
    exact (congrArg At (eq_laws_markClueS _ _ _ _)).mp ⟨vc_laws_markClueS _ _ _ hp⟩
  · cases h
def TPY_29 : Tab := TPY_28.addG 49 F_laws_markClueS
theorem TPY_29_ok : TPY_29.Ok Tryd.prog := TPY_28_ok.addG ok_laws_markClueS
theorem eq_laws_heldClueS (k : Int) (n : Nat) (a : List Int) (K : V → List Blk → Prop) : VC_laws_heldClueS k n a K = vbody Tryd.prog (vin Tryd.prog TPY_29 annTPY 3) TPY_29.looks (annTPY 59) 59 [.row 0 n, .int .i64 k] [⟨.ints .i64 a, 74, .rows 3⟩] (K) := by kernel_rfl
theorem ok_laws_heldClueS : OK Tryd.prog 59 F_laws_heldClueS.spec := (vbody_ok (vin_ok TPY_29_ok annTPY 3) TPY_29_ok.looks _ _).ofFM fun args m p R h hp => by
  unfold F_laws_heldClueS at h
  split at h
  · injection h with h; injection h with h1 h2; subst h1; subst h2
    exact (congrArg At (eq_laws_heldClueS _ _ _ _)).mp ⟨vc_laws_heldClueS _ _ _ hp⟩
  · cases h
def TPY_30 : Tab := TPY_29.add 59 F_laws_heldClueS
theorem TPY_30_ok : TPY_30.Ok Tryd.prog := TPY_29_ok.add ok_laws_heldClueS
theorem eq_laws_markPuzzle (k : Int) (pr : List UInt8) (pw : Int) (ph : Int) (n : Nat) (a : List Int) (K : V → List Blk → Prop) : VC_laws_markPuzzle k pr pw ph n a K = vbody Tryd.prog (vin Tryd.prog TPY_30 annTPY 3) TPY_30.looks (annTPY 18) 18 [.agg [.str pr, .int .i64 pw, .int .i64 ph, .row 0 n], .int .i64 k] [⟨.ints .i64 a, 74, .rows 3⟩] (K) := by kernel_rfl
theorem ok_laws_markPuzzle : OK Tryd.prog 18 F_laws_markPuzzle.spec := (vbody_ok (vin_ok TPY_30_ok annTPY 3) TPY_30_ok.looks _ _).ofG fun args m p R M h hp => by
  unfold F_laws_markPuzzle at h
  split at h
  · injection h with h; injection h with h1 h2; injection h2 with h2 h3; subst h1; subst h2; subst h3
    exact (congrArg At (eq_laws_markPuzzle _ _ _ _ _ _ _)).mp ⟨vc_laws_markPuzzle _ _ _ _ _ _ hp⟩
  · cases h
def TPY_31 : Tab := TPY_30.addG 18 F_laws_markPuzzle
theorem TPY_31_ok : TPY_31.Ok Tryd.prog := TPY_30_ok.addG ok_laws_markPuzzle
theorem eq_laws_heldPuzzle (k : Int) (pr : List UInt8) (pw : Int) (ph : Int) (n : Nat) (a : List Int) (K : V → List Blk → Prop) : VC_laws_heldPuzzle k pr pw ph n a K = vbody Tryd.prog (vin Tryd.prog TPY_31 annTPY 3) TPY_31.looks (annTPY 40) 40 [.agg [.str pr, .int .i64 pw, .int .i64 ph, .row 0 n], .int .i64 k] [⟨.ints .i64 a, 74, .rows 3⟩] (K) := by kernel_rfl
theorem ok_laws_heldPuzzle : OK Tryd.prog 40 F_laws_heldPuzzle.spec := (vbody_ok (vin_ok TPY_31_ok annTPY 3) TPY_31_ok.looks _ _).ofFM fun args m p R h hp => by
  unfold F_laws_heldPuzzle at h
  split at h
  · injection h with h; injection h with h1 h2; subst h1; subst h2
    exact (congrArg At (eq_laws_heldPuzzle _ _ _ _ _ _ _)).mp ⟨vc_laws_heldPuzzle _ _ _ _ _ _ hp⟩
  · cases h
def TPY_32 : Tab := TPY_31.add 40 F_laws_heldPuzzle
theorem TPY_32_ok : TPY_32.Ok Tryd.prog := TPY_31_ok.add ok_laws_heldPuzzle
theorem eq_laws_szClueS (left : Int) (n : Nat) (a : List Int) (K : V → List Blk → Prop) : VC_laws_szClueS left n a K = vbody Tryd.prog (vin Tryd.prog TPY_32 annTPY 3) TPY_32.looks (annTPY 41) 41 [.row 0 n, .int .i64 left] [⟨.ints .i64 a, 79, .arg 3⟩] (K) := by kernel_rfl
theorem ok_laws_szClueS : OK Tryd.prog 41 F_laws_szClueS.spec := (vbody_ok (vin_ok TPY_32_ok annTPY 3) TPY_32_ok.looks _ _).ofFM fun args m p R h hp => by
  unfold F_laws_szClueS at h
  split at h
  · injection h with h; injection h with h1 h2; subst h1; subst h2
    exact (congrArg At (eq_laws_szClueS _ _ _ _)).mp ⟨vc_laws_szClueS _ _ _ hp⟩
  · cases h
def TPY_33 : Tab := TPY_32.add 41 F_laws_szClueS
theorem TPY_33_ok : TPY_33.Ok Tryd.prog := TPY_32_ok.add ok_laws_szClueS
theorem eq_laws_szPuzzle (left : Int) (pr : List UInt8) (pw : Int) (ph : Int) (n : Nat) (a : List Int) (K : V → List Blk → Prop) : VC_laws_szPuzzle left pr pw ph n a K = vbody Tryd.prog (vin Tryd.prog TPY_33 annTPY 3) TPY_33.looks (annTPY 12) 12 [.agg [.str pr, .int .i64 pw, .int .i64 ph, .row 0 n], .int .i64 left] [⟨.ints .i64 a, 79, .arg 3⟩] (K) := by kernel_rfl
theorem ok_laws_szPuzzle : OK Tryd.prog 12 F_laws_szPuzzle.spec := (vbody_ok (vin_ok TPY_33_ok annTPY 3) TPY_33_ok.looks _ _).ofFM fun args m p R h hp => by
  unfold F_laws_szPuzzle at h
  split at h
  · injection h with h; injection h with h1 h2; subst h1; subst h2
    exact (congrArg At (eq_laws_szPuzzle _ _ _ _ _ _ _)).mp ⟨vc_laws_szPuzzle _ _ _ _ _ _ hp⟩
  · cases h
def TPY_34 : Tab := TPY_33.add 12 F_laws_szPuzzle
theorem TPY_34_ok : TPY_34.Ok Tryd.prog := TPY_33_ok.add ok_laws_szPuzzle
theorem eq_laws_toClue (ax : Int) (ay : Int) (ak : Int) (K : V → Prop) : VC_laws_toClue ax ay ak K = vbody Tryd.prog (vin Tryd.prog TPY_34 annTPY 3) TPY_34.looks (annTPY 63) 63 [.agg [.int .i64 ax, .int .i64 ay, .int .i64 ak]] [] (fun v _ => K v) := by kernel_rfl
theorem ok_laws_toClue : OK Tryd.prog 63 F_laws_toClue.spec := (vbody_ok (vin_ok TPY_34_ok annTPY 3) TPY_34_ok.looks _ _).ofF fun args m p R h hp => by
  unfold F_laws_toClue at h
  split at h
  · injection h with h; injection h with h1 h2; subst h1; subst h2
    exact ⟨rfl, (congrArg At (eq_laws_toClue _ _ _ _)).mp ⟨vc_laws_toClue _ _ _ hp⟩⟩
  · cases h
def TPY_35 : Tab := TPY_34.add 63 F_laws_toClue
theorem TPY_35_ok : TPY_35.Ok Tryd.prog := TPY_34_ok.add ok_laws_toClue
theorem eq_laws_toClueS  (n : Nat) (a : List Int) (K : V → List Blk → Prop) : VC_laws_toClueS  n a K = vbody Tryd.prog (vin Tryd.prog TPY_35 annTPY 3) TPY_35.looks (annTPY 44) 44 [.row 0 n] [⟨.ints .i64 a, 79, .arg 3⟩] (K) := by kernel_rfl
theorem ok_laws_toClueS : OK Tryd.prog 44 F_laws_toClueS.spec := (vbody_ok (vin_ok TPY_35_ok annTPY 3) TPY_35_ok.looks _ _).ofG fun args m p R M h hp => by
  unfold F_laws_toClueS at h
  split at h
  · injection h with h; injection h with h1 h2; injection h2 with h2 h3; subst h1; subst h2; subst h3
    exact (congrArg At (eq_laws_toClueS _ _ _)).mp ⟨vc_laws_toClueS _ _ hp⟩
  · cases h
def TPY_36 : Tab := TPY_35.addG 44 F_laws_toClueS
theorem TPY_36_ok : TPY_36.Ok Tryd.prog := TPY_35_ok.addG ok_laws_toClueS
theorem eq_laws_toPuzzle  (pr : List UInt8) (pw : Int) (ph : Int) (n : Nat) (a : List Int) (K : V → List Blk → Prop) : VC_laws_toPuzzle  pr pw ph n a K = vbody Tryd.prog (vin Tryd.prog TPY_36 annTPY 3) TPY_36.looks (annTPY 14) 14 [.agg [.str pr, .int .i64 pw, .int .i64 ph, .row 0 n]] [⟨.ints .i64 a, 79, .arg 3⟩] (K) := by kernel_rfl
theorem ok_laws_toPuzzle : OK Tryd.prog 14 F_laws_toPuzzle.spec := (vbody_ok (vin_ok TPY_36_ok annTPY 3) TPY_36_ok.looks _ _).ofG fun args m p R M h hp => by
  unfold F_laws_toPuzzle at h
  split at h
  · injection h with h; injection h with h1 h2; injection h2 with h2 h3; subst h1; subst h2; subst h3
    exact (congrArg At (eq_laws_toPuzzle _ _ _ _ _ _)).mp ⟨vc_laws_toPuzzle _ _ _ _ _ hp⟩
  · cases h
def TPY_37 : Tab := TPY_36.addG 14 F_laws_toPuzzle
theorem TPY_37_ok : TPY_37.Ok Tryd.prog := TPY_36_ok.addG ok_laws_toPuzzle
theorem ok_impl_areClues : OK Tryd.prog 75 F_impl_areClues.spec := Go.Proofs.YtbdhilflnfllaaaDoor.PD.ok_areClues
def TPY_38 : Tab := TPY_37.add 75 F_impl_areClues
theorem TPY_38_ok : TPY_38.Ok Tryd.prog := TPY_37_ok.add ok_impl_areClues
theorem eq_spec_pzPower (s : List UInt8) (n : Int) (K : V → Prop) : VC_spec_pzPower s n K = vbody Tryd.prog (vin Tryd.prog TPY_38 annTPY 3) TPY_38.looks (annTPY 71) 71 [.str s, .int .i64 n] [] (fun v _ => K v) := by kernel_rfl
theorem ok_spec_pzPower : OK Tryd.prog 71 F_spec_pzPower.spec := (vbody_ok (vin_ok TPY_38_ok annTPY 3) TPY_38_ok.looks _ _).ofF fun args m p R h hp => by
  unfold F_spec_pzPower at h
  split at h
  · injection h with h; injection h with h1 h2; subst h1; subst h2
    exact ⟨rfl, (congrArg At (eq_spec_pzPower _ _ _)).mp ⟨vc_spec_pzPower _ _ hp⟩⟩
  · cases h
def TPY_39 : Tab := TPY_38.add 71 F_spec_pzPower
theorem TPY_39_ok : TPY_39.Ok Tryd.prog := TPY_38_ok.add ok_spec_pzPower
theorem eq_spec_pzSize (s : List UInt8) (w : Int) (h : Int) (K : V → Prop) : VC_spec_pzSize s w h K = vbody Tryd.prog (vin Tryd.prog TPY_39 annTPY 3) TPY_39.looks (annTPY 60) 60 [.str s, .int .i64 w, .int .i64 h] [] (fun v _ => K v) := by kernel_rfl
theorem ok_spec_pzSize : OK Tryd.prog 60 F_spec_pzSize.spec := (vbody_ok (vin_ok TPY_39_ok annTPY 3) TPY_39_ok.looks _ _).ofF fun args m p R h hp => by
  unfold F_spec_pzSize at h
  split at h
  · injection h with h; injection h with h1 h2; subst h1; subst h2
    exact ⟨rfl, (congrArg At (eq_spec_pzSize _ _ _ _)).mp ⟨vc_spec_pzSize _ _ _ hp⟩⟩
  · cases h
def TPY_40 : Tab := TPY_39.add 60 F_spec_pzSize
theorem TPY_40_ok : TPY_40.Ok Tryd.prog := TPY_39_ok.add ok_spec_pzSize
theorem eq_impl_isSize (w : Int) (h : Int) (K : V → Prop) : VC_impl_isSize w h K = vbody Tryd.prog (vin Tryd.prog TPY_40 annTPY 3) TPY_40.looks (annTPY 80) 80 [.int .i64 w, .int .i64 h] [] (fun v _ => K v) := by kernel_rfl
theorem ok_impl_isSize : OK Tryd.prog 80 F_impl_isSize.spec := (vbody_ok (vin_ok TPY_40_ok annTPY 3) TPY_40_ok.looks _ _).ofF fun args m p R h hp => by
  unfold F_impl_isSize at h
  split at h
  · injection h with h; injection h with h1 h2; subst h1; subst h2
    exact ⟨rfl, (congrArg At (eq_impl_isSize _ _ _)).mp ⟨vc_impl_isSize _ _ hp⟩⟩
  · cases h
def TPY_41 : Tab := TPY_40.add 80 F_impl_isSize
theorem TPY_41_ok : TPY_41.Ok Tryd.prog := TPY_40_ok.add ok_impl_isSize
theorem eq_impl_CountBoards (s : List UInt8) (w : Int) (h : Int) (K : V → Prop) : VC_impl_CountBoards s w h K = vbody Tryd.prog (vin Tryd.prog TPY_41 annTPY 3) TPY_41.looks (annTPY 74) 74 [.str s, .int .i64 w, .int .i64 h] [] (fun v _ => K v) := by kernel_rfl
theorem ok_impl_CountBoards : OK Tryd.prog 74 F_impl_CountBoards.spec := (vbody_ok (vin_ok TPY_41_ok annTPY 3) TPY_41_ok.looks _ _).ofF fun args m p R h hp => by
  unfold F_impl_CountBoards at h
  split at h
  · injection h with h; injection h with h1 h2; subst h1; subst h2
    exact ⟨rfl, (congrArg At (eq_impl_CountBoards _ _ _ _)).mp ⟨vc_impl_CountBoards _ _ _ hp⟩⟩
  · cases h
def TPY_42 : Tab := TPY_41.add 74 F_impl_CountBoards
theorem TPY_42_ok : TPY_42.Ok Tryd.prog := TPY_41_ok.add ok_impl_CountBoards
theorem eq_spec_pzClue (s : List UInt8) (cells : Int) (cx : Int) (cy : Int) (ck : Int) (K : V → Prop) : VC_spec_pzClue s cells cx cy ck K = vbody Tryd.prog (vin Tryd.prog TPY_42 annTPY 3) TPY_42.looks (annTPY 61) 61 [.str s, .int .i64 cells, .agg [.int .i64 cx, .int .i64 cy, .int .i64 ck]] [] (fun v _ => K v) := by kernel_rfl
theorem ok_spec_pzClue : OK Tryd.prog 61 F_spec_pzClue.spec := (vbody_ok (vin_ok TPY_42_ok annTPY 3) TPY_42_ok.looks _ _).ofF fun args m p R h hp => by
  unfold F_spec_pzClue at h
  split at h
  · injection h with h; injection h with h1 h2; subst h1; subst h2
    exact ⟨rfl, (congrArg At (eq_spec_pzClue _ _ _ _ _ _)).mp ⟨vc_spec_pzClue _ _ _ _ _ hp⟩⟩
  · cases h
def TPY_43 : Tab := TPY_42.add 61 F_spec_pzClue
theorem TPY_43_ok : TPY_43.Ok Tryd.prog := TPY_42_ok.add ok_spec_pzClue
theorem eq_spec_pzGood  (pr : List UInt8) (pw : Int) (ph : Int) (n : Nat) (a : List Int) (K : V → List Blk → Prop) : VC_spec_pzGood  pr pw ph n a K = vbody Tryd.prog (vin Tryd.prog TPY_43 annTPY 3) TPY_43.looks (annTPY 42) 42 [.agg [.str pr, .int .i64 pw, .int .i64 ph, .row 0 n]] [⟨.ints .i64 a, 74, .rows 3⟩] (K) := by kernel_rfl
theorem ok_spec_pzGood : OK Tryd.prog 42 F_spec_pzGood.spec := (vbody_ok (vin_ok TPY_43_ok annTPY 3) TPY_43_ok.looks _ _).ofFM fun args m p R h hp => by
  unfold F_spec_pzGood at h
  split at h
  · injection h with h; injection h with h1 h2; subst h1; subst h2
    exact (congrArg At (eq_spec_pzGood _ _ _ _ _ _)).mp ⟨vc_spec_pzGood _ _ _ _ _ hp⟩
  · cases h
def TPY_44 : Tab := TPY_43.add 42 F_spec_pzGood
theorem TPY_44_ok : TPY_44.Ok Tryd.prog := TPY_43_ok.add ok_spec_pzGood
theorem eq_impl_IsPuzzle  (pr : List UInt8) (pw : Int) (ph : Int) (n : Nat) (a : List Int) (K : V → List Blk → Prop) : VC_impl_IsPuzzle  pr pw ph n a K = vbody Tryd.prog (vin Tryd.prog TPY_44 annTPY 3) TPY_44.looks (annTPY 64) 64 [.agg [.str pr, .int .i64 pw, .int .i64 ph, .row 0 n]] [⟨.ints .i64 a, 74, .rows 3⟩] (K) := by kernel_rfl
theorem ok_impl_IsPuzzle : OK Tryd.prog 64 F_impl_IsPuzzle.spec := (vbody_ok (vin_ok TPY_44_ok annTPY 3) TPY_44_ok.looks _ _).ofFM fun args m p R h hp => by
  unfold F_impl_IsPuzzle at h
  split at h
  · injection h with h; injection h with h1 h2; subst h1; subst h2
    exact (congrArg At (eq_impl_IsPuzzle _ _ _ _ _ _)).mp ⟨vc_impl_IsPuzzle _ _ _ _ _ hp⟩
  · cases h
def TPY_45 : Tab := TPY_44.add 64 F_impl_IsPuzzle
theorem TPY_45_ok : TPY_45.Ok Tryd.prog := TPY_44_ok.add ok_impl_IsPuzzle
theorem eq_impl_firstClues (n : Int) (K : V → Prop) : VC_impl_firstClues n K = vbody Tryd.prog (vin Tryd.prog TPY_45 annTPY 3) TPY_45.looks (annTPY 56) 56 [.int .i64 n] [] (fun v _ => K v) := by kernel_rfl
theorem ok_impl_firstClues : OK Tryd.prog 56 F_impl_firstClues.spec := (vbody_ok (vin_ok TPY_45_ok annTPY 3) TPY_45_ok.looks _ _).ofF fun args m p R h hp => by
  unfold F_impl_firstClues at h
  split at h
  · injection h with h; injection h with h1 h2; subst h1; subst h2
    exact ⟨rfl, (congrArg At (eq_impl_firstClues _ _)).mp ⟨vc_impl_firstClues _ hp⟩⟩
  · cases h
def TPY_46 : Tab := TPY_45.add 56 F_impl_firstClues
theorem TPY_46_ok : TPY_46.Ok Tryd.prog := TPY_45_ok.add ok_impl_firstClues
theorem eq_impl_oneClue (n : Int) (K : V → Prop) : VC_impl_oneClue n K = vbody Tryd.prog (vin Tryd.prog TPY_46 annTPY 3) TPY_46.looks (annTPY 57) 57 [.int .i64 n] [] (fun v _ => K v) := by kernel_rfl
theorem ok_impl_oneClue : OK Tryd.prog 57 F_impl_oneClue.spec := (vbody_ok (vin_ok TPY_46_ok annTPY 3) TPY_46_ok.looks _ _).ofF fun args m p R h hp => by
  unfold F_impl_oneClue at h
  split at h
  · injection h with h; injection h with h1 h2; subst h1; subst h2
    exact ⟨rfl, (congrArg At (eq_impl_oneClue _ _)).mp ⟨vc_impl_oneClue _ hp⟩⟩
  · cases h
def TPY_47 : Tab := TPY_46.add 57 F_impl_oneClue
theorem TPY_47_ok : TPY_47.Ok Tryd.prog := TPY_46_ok.add ok_impl_oneClue
theorem eq_impl_clueSet_hasAll (s : Int) (o : Int) (K : V → Prop) : VC_impl_clueSet_hasAll s o K = vbody Tryd.prog (vin Tryd.prog TPY_47 annTPY 3) TPY_47.looks (annTPY 67) 67 [.int .u64 s, .int .u64 o] [] (fun v _ => K v) := by kernel_rfl
theorem ok_impl_clueSet_hasAll : OK Tryd.prog 67 F_impl_clueSet_hasAll.spec := (vbody_ok (vin_ok TPY_47_ok annTPY 3) TPY_47_ok.looks _ _).ofF fun args m p R h hp => by
  unfold F_impl_clueSet_hasAll at h
  split at h
  · injection h with h; injection h with h1 h2; subst h1; subst h2
    exact ⟨rfl, (congrArg At (eq_impl_clueSet_hasAll _ _ _)).mp ⟨vc_impl_clueSet_hasAll _ _ hp⟩⟩
  · cases h
def TPY_48 : Tab := TPY_47.add 67 F_impl_clueSet_hasAll
theorem TPY_48_ok : TPY_48.Ok Tryd.prog := TPY_47_ok.add ok_impl_clueSet_hasAll
theorem eq_impl_clueSet_without (s : Int) (n : Int) (K : V → Prop) : VC_impl_clueSet_without s n K = vbody Tryd.prog (vin Tryd.prog TPY_48 annTPY 3) TPY_48.looks (annTPY 55) 55 [.int .u64 s, .int .i64 n] [] (fun v _ => K v) := by kernel_rfl
theorem ok_impl_clueSet_without : OK Tryd.prog 55 F_impl_clueSet_without.spec := (vbody_ok (vin_ok TPY_48_ok annTPY 3) TPY_48_ok.looks _ _).ofF fun args m p R h hp => by
  unfold F_impl_clueSet_without at h
  split at h
  · injection h with h; injection h with h1 h2; subst h1; subst h2
    exact ⟨rfl, (congrArg At (eq_impl_clueSet_without _ _ _)).mp ⟨vc_impl_clueSet_without _ _ hp⟩⟩
  · cases h
def TPY_49 : Tab := TPY_48.add 55 F_impl_clueSet_without
theorem TPY_49_ok : TPY_49.Ok Tryd.prog := TPY_48_ok.add ok_impl_clueSet_without
theorem eq_impl_allClues  (pr : List UInt8) (pw : Int) (ph : Int) (n : Nat) (a : List Int) (K : V → List Blk → Prop) : VC_impl_allClues  pr pw ph n a K = vbody Tryd.prog (vin Tryd.prog TPY_49 annTPY 3) TPY_49.looks (annTPY 47) 47 [.agg [.str pr, .int .i64 pw, .int .i64 ph, .row 0 n]] [⟨.ints .i64 a, 74, .rows 3⟩] (K) := by kernel_rfl
theorem ok_impl_allClues : OK Tryd.prog 47 F_impl_allClues.spec := (vbody_ok (vin_ok TPY_49_ok annTPY 3) TPY_49_ok.looks _ _).ofFM fun args m p R h hp => by
  unfold F_impl_allClues at h
  split at h
  · injection h with h; injection h with h1 h2; subst h1; subst h2
    exact (congrArg At (eq_impl_allClues _ _ _ _ _ _)).mp ⟨vc_impl_allClues _ _ _ _ _ hp⟩
  · cases h
def TPY_50 : Tab := TPY_49.add 47 F_impl_allClues
theorem TPY_50_ok : TPY_50.Ok Tryd.prog := TPY_49_ok.add ok_impl_allClues
theorem eq_impl_withClues (m : Int) (pr : List UInt8) (pw : Int) (ph : Int) (n : Nat) (a : List Int) (K : V → List Blk → Prop) : VC_impl_withClues m pr pw ph n a K = vbody Tryd.prog (vin Tryd.prog TPY_50 annTPY 3) TPY_50.looks (annTPY 58) 58 [.agg [.str pr, .int .i64 pw, .int .i64 ph, .row 0 n], .int .u64 m] [⟨.ints .i64 a, 74, .rows 3⟩] (K) := by kernel_rfl
theorem ok_impl_withClues : OK Tryd.prog 58 F_impl_withClues.spec := (vbody_ok (vin_ok TPY_50_ok annTPY 3) TPY_50_ok.looks _ _).ofG fun args m p R M h hp => by
  unfold F_impl_withClues at h
  split at h
  · injection h with h; injection h with h1 h2; injection h2 with h2 h3; subst h1; subst h2; subst h3
    exact (congrArg At (eq_impl_withClues _ _ _ _ _ _ _)).mp ⟨vc_impl_withClues _ _ _ _ _ _ hp⟩
  · cases h
def TPY_51 : Tab := TPY_50.addG 58 F_impl_withClues
theorem TPY_51_ok : TPY_51.Ok Tryd.prog := TPY_50_ok.addG ok_impl_withClues
theorem eq_spec_pzWithout (k : Int) (n : Nat) (a : List Int) (K : V → List Blk → Prop) : VC_spec_pzWithout k n a K = vbody Tryd.prog (vin Tryd.prog TPY_51 annTPY 3) TPY_51.looks (annTPY 53) 53 [.row 0 n, .int .i64 k] [⟨.ints .i64 a, 74, .rows 3⟩] (K) := by kernel_rfl
theorem ok_spec_pzWithout : OK Tryd.prog 53 F_spec_pzWithout.spec := (vbody_ok (vin_ok TPY_51_ok annTPY 3) TPY_51_ok.looks _ _).ofG fun args m p R M h hp => by
  unfold F_spec_pzWithout at h
  split at h
  · injection h with h; injection h with h1 h2; injection h2 with h2 h3; subst h1; subst h2; subst h3
    exact (congrArg At (eq_spec_pzWithout _ _ _ _)).mp ⟨vc_spec_pzWithout _ _ _ hp⟩
  · cases h
def TPY_52 : Tab := TPY_51.addG 53 F_spec_pzWithout
theorem TPY_52_ok : TPY_52.Ok Tryd.prog := TPY_51_ok.addG ok_spec_pzWithout
theorem eq_impl_led (wr : List UInt8) (ww : Int) (wh : Int) (wc : List UInt8) (wx : Int) (wy : Int) (wd : Int) (s : Int) (K : V → Prop) : VC_impl_led wr ww wh wc wx wy wd s K = vbody Tryd.prog (vin Tryd.prog TPY_52 annTPY 3) TPY_52.looks (annTPY 86) 86 [.agg [.str wr, .int .i64 ww, .int .i64 wh, .str wc, .int .i64 wx, .int .i64 wy, .int .i64 wd], .int .i64 s, .fn 87 []] [] (fun v _ => K v) := by kernel_rfl
theorem ok_impl_led : OK Tryd.prog 86 F_impl_led.spec := (vbody_ok (vin_ok TPY_52_ok annTPY 3) TPY_52_ok.looks _ _).ofF fun args m p R h hp => by
  unfold F_impl_led at h
  split at h
  · injection h with h; injection h with h1 h2; subst h1; subst h2
    exact ⟨rfl, (congrArg At (eq_impl_led _ _ _ _ _ _ _ _ _)).mp ⟨vc_impl_led _ _ _ _ _ _ _ _ hp⟩⟩
  · cases h
def TPY_53 : Tab := TPY_52.add 86 F_impl_led
theorem TPY_53_ok : TPY_53.Ok Tryd.prog := TPY_52_ok.add ok_impl_led
theorem eq_impl_sumOf (s : List UInt8) (K : V → Prop) : VC_impl_sumOf s K = vbody Tryd.prog (vin Tryd.prog TPY_53 annTPY 3) TPY_53.looks (annTPY 85) 85 [.str s] [] (fun v _ => K v) := by kernel_rfl
theorem ok_impl_sumOf : OK Tryd.prog 85 F_impl_sumOf.spec := (vbody_ok (vin_ok TPY_53_ok annTPY 3) TPY_53_ok.looks _ _).ofF fun args m p R h hp => by
  unfold F_impl_sumOf at h
  split at h
  · injection h with h; injection h with h1 h2; subst h1; subst h2
    exact ⟨rfl, (congrArg At (eq_impl_sumOf _ _)).mp ⟨vc_impl_sumOf _ hp⟩⟩
  · cases h
def TPY_54 : Tab := TPY_53.add 85 F_impl_sumOf
theorem TPY_54_ok : TPY_54.Ok Tryd.prog := TPY_53_ok.add ok_impl_sumOf
theorem ok_strings_Count : OK Tryd.prog 88 F_strings_Count.spec := Go.Proofs.YtbdhilflnfllaaaDoor.libCount
def TPY_55 : Tab := TPY_54.add 88 F_strings_Count
theorem TPY_55_ok : TPY_55.Ok Tryd.prog := TPY_54_ok.add ok_strings_Count
theorem eq_spec_pzValue (k : Int) (a : Int) (wr : List UInt8) (ww : Int) (wh : Int) (wc : List UInt8) (wx : Int) (wy : Int) (wd : Int) (K : V → Prop) : VC_spec_pzValue k a wr ww wh wc wx wy wd K = vbody Tryd.prog (vin Tryd.prog TPY_55 annTPY 3) TPY_55.looks (annTPY 78) 78 [.int .i64 k, .int .i64 a, .agg [.str wr, .int .i64 ww, .int .i64 wh, .str wc, .int .i64 wx, .int .i64 wy, .int .i64 wd]] [] (fun v _ => K v) := by kernel_rfl
theorem ok_spec_pzValue : OK Tryd.prog 78 F_spec_pzValue.spec := (vbody_ok (vin_ok TPY_55_ok annTPY 3) TPY_55_ok.looks _ _).ofF fun args m p R h hp => by
  unfold F_spec_pzValue at h
  split at h
  · injection h with h; injection h with h1 h2; subst h1; subst h2
    exact ⟨rfl, (congrArg At (eq_spec_pzValue _ _ _ _ _ _ _ _ _ _)).mp ⟨vc_spec_pzValue _ _ _ _ _ _ _ _ _ hp⟩⟩
  · cases h
def TPY_56 : Tab := TPY_55.add 78 F_spec_pzValue
theorem TPY_56_ok : TPY_56.Ok Tryd.prog := TPY_55_ok.add ok_spec_pzValue
theorem eq_spec_pzFits (cx : Int) (cy : Int) (ck : Int) (wr : List UInt8) (ww : Int) (wh : Int) (wc : List UInt8) (wx : Int) (wy : Int) (wd : Int) (K : V → Prop) : VC_spec_pzFits cx cy ck wr ww wh wc wx wy wd K = vbody Tryd.prog (vin Tryd.prog TPY_56 annTPY 3) TPY_56.looks (annTPY 72) 72 [.agg [.int .i64 cx, .int .i64 cy, .int .i64 ck], .agg [.str wr, .int .i64 ww, .int .i64 wh, .str wc, .int .i64 wx, .int .i64 wy, .int .i64 wd]] [] (fun v _ => K v) := by kernel_rfl
theorem ok_spec_pzFits : OK Tryd.prog 72 F_spec_pzFits.spec := (vbody_ok (vin_ok TPY_56_ok annTPY 3) TPY_56_ok.looks _ _).ofF fun args m p R h hp => by
  unfold F_spec_pzFits at h
  split at h
  · injection h with h; injection h with h1 h2; subst h1; subst h2
    exact ⟨rfl, (congrArg At (eq_spec_pzFits _ _ _ _ _ _ _ _ _ _ _)).mp ⟨vc_spec_pzFits _ _ _ _ _ _ _ _ _ _ hp⟩⟩
  · cases h
def TPY_57 : Tab := TPY_56.add 72 F_spec_pzFits
theorem TPY_57_ok : TPY_57.Ok Tryd.prog := TPY_56_ok.add ok_spec_pzFits
theorem eq_impl_clueFrom (wr : List UInt8) (ww : Int) (wh : Int) (wc : List UInt8) (wx : Int) (wy : Int) (wd : Int) (k : Int) (a : Int) (K : V → Prop) : VC_impl_clueFrom wr ww wh wc wx wy wd k a K = vbody Tryd.prog (vin Tryd.prog TPY_57 annTPY 3) TPY_57.looks (annTPY 77) 77 [.agg [.str wr, .int .i64 ww, .int .i64 wh, .str wc, .int .i64 wx, .int .i64 wy, .int .i64 wd], .int .i64 k, .int .i64 a] [] (fun v _ => K v) := by kernel_rfl
theorem ok_impl_clueFrom : OK Tryd.prog 77 F_impl_clueFrom.spec := (vbody_ok (vin_ok TPY_57_ok annTPY 3) TPY_57_ok.looks _ _).ofF fun args m p R h hp => by
  unfold F_impl_clueFrom at h
  split at h
  · injection h with h; injection h with h1 h2; subst h1; subst h2
    exact ⟨rfl, (congrArg At (eq_impl_clueFrom _ _ _ _ _ _ _ _ _ _)).mp ⟨vc_impl_clueFrom _ _ _ _ _ _ _ _ _ hp⟩⟩
  · cases h
def TPY_58 : Tab := TPY_57.add 77 F_impl_clueFrom
theorem TPY_58_ok : TPY_58.Ok Tryd.prog := TPY_57_ok.add ok_impl_clueFrom
theorem eq_impl_doesFit (cx : Int) (cy : Int) (ck : Int) (wr : List UInt8) (ww : Int) (wh : Int) (wc : List UInt8) (wx : Int) (wy : Int) (wd : Int) (K : V → Prop) : VC_impl_doesFit cx cy ck wr ww wh wc wx wy wd K = vbody Tryd.prog (vin Tryd.prog TPY_58 annTPY 3) TPY_58.looks (annTPY 66) 66 [.agg [.int .i64 cx, .int .i64 cy, .int .i64 ck], .agg [.str wr, .int .i64 ww, .int .i64 wh, .str wc, .int .i64 wx, .int .i64 wy, .int .i64 wd]] [] (fun v _ => K v) := by kernel_rfl
theorem ok_impl_doesFit : OK Tryd.prog 66 F_impl_doesFit.spec := (vbody_ok (vin_ok TPY_58_ok annTPY 3) TPY_58_ok.looks _ _).ofF fun args m p R h hp => by
  unfold F_impl_doesFit at h
  split at h
  · injection h with h; injection h with h1 h2; subst h1; subst h2
    exact ⟨rfl, (congrArg At (eq_impl_doesFit _ _ _ _ _ _ _ _ _ _ _)).mp ⟨vc_impl_doesFit _ _ _ _ _ _ _ _ _ _ hp⟩⟩
  · cases h
def TPY_59 : Tab := TPY_58.add 66 F_impl_doesFit
theorem TPY_59_ok : TPY_59.Ok Tryd.prog := TPY_58_ok.add ok_impl_doesFit
theorem eq_impl_allCells (c : Int) (n : Int) (K : V → List Blk → Prop) : VC_impl_allCells c n K = vbody Tryd.prog (vin Tryd.prog TPY_59 annTPY 3) TPY_59.looks (annTPY 65) 65 [.int .i64 c, .int .i64 n] [] (K) := by kernel_rfl
theorem ok_impl_allCells : OK Tryd.prog 65 F_impl_allCells.spec := (vbody_ok (vin_ok TPY_59_ok annTPY 3) TPY_59_ok.looks _ _).ofG fun args m p R M h hp => by
  unfold F_impl_allCells at h
  split at h
  · injection h with h; injection h with h1 h2; injection h2 with h2 h3; subst h1; subst h2; subst h3
    exact (congrArg At (eq_impl_allCells _ _ _)).mp ⟨vc_impl_allCells _ _ hp⟩
  · cases h
def TPY_60 : Tab := TPY_59.addG 65 F_impl_allCells
theorem TPY_60_ok : TPY_60.Ok Tryd.prog := TPY_59_ok.addG ok_impl_allCells
theorem eq_impl_candidatesOf  (pr : List UInt8) (pw : Int) (ph : Int) (n : Nat) (a : List Int) (K : V → List Blk → Prop) : VC_impl_candidatesOf  pr pw ph n a K = vbody Tryd.prog (vin Tryd.prog TPY_60 annTPY 3) TPY_60.looks (annTPY 45) 45 [.agg [.str pr, .int .i64 pw, .int .i64 ph, .row 0 n]] [⟨.ints .i64 a, 74, .rows 3⟩] (K) := by kernel_rfl
theorem ok_impl_candidatesOf : OK Tryd.prog 45 F_impl_candidatesOf.spec := (vbody_ok (vin_ok TPY_60_ok annTPY 3) TPY_60_ok.looks _ _).ofG fun args m p R M h hp => by
  unfold F_impl_candidatesOf at h
  split at h
  · injection h with h; injection h with h1 h2; injection h2 with h2 h3; subst h1; subst h2; subst h3
    exact (congrArg At (eq_impl_candidatesOf _ _ _ _ _ _)).mp ⟨vc_impl_candidatesOf _ _ _ _ _ hp⟩
  · cases h
def TPY_61 : Tab := TPY_60.addG 45 F_impl_candidatesOf
theorem TPY_61_ok : TPY_61.Ok Tryd.prog := TPY_60_ok.addG ok_impl_candidatesOf
theorem eq_impl_fitAll (s : Int) (n : Nat) (l : List Sc) (K : V → List Blk → Prop) : VC_impl_fitAll s n l K = vbody Tryd.prog (vin Tryd.prog TPY_61 annTPY 3) TPY_61.looks (annTPY 46) 46 [.row 0 n, .int .u64 s] [⟨.recs [.str, .int .u64] (l), 84, .rows 2⟩] (K) := by kernel_rfl
theorem ok_impl_fitAll : OK Tryd.prog 46 F_impl_fitAll.spec := (vbody_ok (vin_ok TPY_61_ok annTPY 3) TPY_61_ok.looks _ _).ofG fun args m p R M h hp => by
  unfold F_impl_fitAll at h
  split at h
  · injection h with h; injection h with h1 h2; injection h2 with h2 h3; subst h1; subst h2; subst h3
    exact (congrArg At (eq_impl_fitAll _ _ _ _)).mp ⟨vc_impl_fitAll _ _ _ hp⟩
  · cases h
def TPY_62 : Tab := TPY_61.addG 46 F_impl_fitAll
theorem TPY_62_ok : TPY_62.Ok Tryd.prog := TPY_61_ok.addG ok_impl_fitAll
theorem eq_impl_countFit (s : Int) (n : Nat) (l : List Sc) (K : V → List Blk → Prop) : VC_impl_countFit s n l K = vbody Tryd.prog (vin Tryd.prog TPY_62 annTPY 3) TPY_62.looks (annTPY 54) 54 [.row 0 n, .int .u64 s] [⟨.recs [.str, .int .u64] (l), 84, .rows 2⟩] (K) := by kernel_rfl
theorem ok_impl_countFit : OK Tryd.prog 54 F_impl_countFit.spec := (vbody_ok (vin_ok TPY_62_ok annTPY 3) TPY_62_ok.looks _ _).ofFM fun args m p R h hp => by
  unfold F_impl_countFit at h
  split at h
  · injection h with h; injection h with h1 h2; subst h1; subst h2
    exact (congrArg At (eq_impl_countFit _ _ _ _)).mp ⟨vc_impl_countFit _ _ _ hp⟩
  · cases h
def TPY_63 : Tab := TPY_62.add 54 F_impl_countFit
theorem TPY_63_ok : TPY_63.Ok Tryd.prog := TPY_62_ok.add ok_impl_countFit
theorem eq_impl_Solutions  (pr : List UInt8) (pw : Int) (ph : Int) (n : Nat) (a : List Int) (K : V → List Blk → Prop) : VC_impl_Solutions  pr pw ph n a K = vbody Tryd.prog (vin Tryd.prog TPY_63 annTPY 3) TPY_63.looks (annTPY 15) 15 [.agg [.str pr, .int .i64 pw, .int .i64 ph, .row 0 n]] [⟨.ints .i64 a, 74, .rows 3⟩] (K) := by kernel_rfl
theorem ok_impl_Solutions : OK Tryd.prog 15 F_impl_Solutions.spec := (vbody_ok (vin_ok TPY_63_ok annTPY 3) TPY_63_ok.looks _ _).ofG fun args m p R M h hp => by
  unfold F_impl_Solutions at h
  split at h
  · injection h with h; injection h with h1 h2; injection h2 with h2 h3; subst h1; subst h2; subst h3
    exact (congrArg At (eq_impl_Solutions _ _ _ _ _ _)).mp ⟨vc_impl_Solutions _ _ _ _ _ hp⟩
  · cases h
def TPY_64 : Tab := TPY_63.addG 15 F_impl_Solutions
theorem TPY_64_ok : TPY_64.Ok Tryd.prog := TPY_63_ok.addG ok_impl_Solutions
theorem eq_spec_pzLook (b : List UInt8) (pr : List UInt8) (pw : Int) (ph : Int) (n : Nat) (a : List Int) (m : Nat) (l : List (List UInt8)) (mm : Nat) (K : V → List Blk → Prop) : VC_spec_pzLook b pr pw ph n a m l mm K = vbody Tryd.prog (vin Tryd.prog (TPY_64.addG 62 (F_spec_pzLook mm)) annTPY 3) (TPY_64.addG 62 (F_spec_pzLook mm)).looks (annTPY 62) 62 [.agg [.str pr, .int .i64 pw, .int .i64 ph, .row 0 n], .str b, .ptr 1 0] [⟨.ints .i64 a, 74, .rows 3⟩, ⟨.vals [.row 2 m], 26, .box⟩, ⟨.strs (l), 9, .row⟩] (K) := by kernel_rfl
theorem eq_spec_pzLook_2 (b : List UInt8) (pr : List UInt8) (pw : Int) (ph : Int) (n : Nat) (a : List Int) (mm : Nat) (K : V → List Blk → Prop) : VC_spec_pzLook_2 b pr pw ph n a mm K = vbody Tryd.prog (vin Tryd.prog (TPY_64.addG 62 (F_spec_pzLook mm)) annTPY 3) (TPY_64.addG 62 (F_spec_pzLook mm)).looks (annTPY 62) 62 [.agg [.str pr, .int .i64 pw, .int .i64 ph, .row 0 n], .str b, .ptr 1 0] [⟨.ints .i64 a, 74, .rows 3⟩, ⟨.vals [.raw (.slice none 0 0)], 26, .box⟩] (K) := by kernel_rfl
theorem ok_spec_pzLook : ∀ mm : Nat, OK Tryd.prog 62 (F_spec_pzLook mm).spec
  | 0 => (vbody_ok (vin_ok TPY_64_ok annTPY 3) TPY_64_ok.looks (annTPY 62) _).ofG fun args m p R M h hp => by
    unfold F_spec_pzLook at h
    split at h
    · injection h with h; injection h with h1 h2; injection h2 with h2 h3; subst h1; subst h2; subst h3
      exact absurd hp.1 (Nat.not_lt_zero _)
    · injection h with h; injection h with h1 h2; injection h2 with h2 h3; subst h1; subst h2; subst h3
      exact absurd hp.1 (Nat.not_lt_zero _)
    · cases h
  | mm + 1 => (vbody_ok (vin_ok (TPY_64_ok.addG (ok_spec_pzLook mm)) annTPY 3) (TPY_64_ok.addG (ok_spec_pzLook mm)).looks _ _).ofG fun args m p R M h hp => by
    unfold F_spec_pzLook at h
    split at h
    · injection h with h; injection h with h1 h2; injection h2 with h2 h3; subst h1; subst h2; subst h3
      exact (congrArg At (eq_spec_pzLook _ _ _ _ _ _ _ _ mm _)).mp ⟨vc_spec_pzLook _ _ _ _ _ _ _ _ mm hp⟩
    · injection h with h; injection h with h1 h2; injection h2 with h2 h3; subst h1; subst h2; subst h3
      exact (congrArg At (eq_spec_pzLook_2 _ _ _ _ _ _ mm _)).mp ⟨vc_spec_pzLook_2 _ _ _ _ _ _ mm hp⟩
    · cases h
def TPY_65 : Tab := TPY_64.addG 62 (F_spec_pzLook 11)
theorem TPY_65_ok : TPY_65.Ok Tryd.prog := TPY_64_ok.addG (ok_spec_pzLook 11)
theorem eq_spec_pzAll  (pr : List UInt8) (pw : Int) (ph : Int) (n : Nat) (a : List Int) (K : V → List Blk → Prop) : VC_spec_pzAll  pr pw ph n a K = vbody Tryd.prog (vin Tryd.prog TPY_65 annTPY 3) TPY_65.looks (annTPY 43) 43 [.agg [.str pr, .int .i64 pw, .int .i64 ph, .row 0 n]] [⟨.ints .i64 a, 74, .rows 3⟩] (K) := by kernel_rfl
theorem ok_spec_pzAll : OK Tryd.prog 43 F_spec_pzAll.spec := (vbody_ok (vin_ok TPY_65_ok annTPY 3) TPY_65_ok.looks _ _).ofG fun args m p R M h hp => by
  unfold F_spec_pzAll at h
  split at h
  · injection h with h; injection h with h1 h2; injection h2 with h2 h3; subst h1; subst h2; subst h3
    exact (congrArg At (eq_spec_pzAll _ _ _ _ _ _)).mp ⟨vc_spec_pzAll _ _ _ _ _ hp⟩
  · cases h
def TPY_66 : Tab := TPY_65.addG 43 F_spec_pzAll
theorem TPY_66_ok : TPY_66.Ok Tryd.prog := TPY_65_ok.addG ok_spec_pzAll
theorem eq_spec_CountSolutions  (pr : List UInt8) (pw : Int) (ph : Int) (n : Nat) (a : List Int) (K : V → List Blk → Prop) : VC_spec_CountSolutions  pr pw ph n a K = vbody Tryd.prog (vin Tryd.prog TPY_66 annTPY 3) TPY_66.looks (annTPY 21) 21 [.agg [.str pr, .int .i64 pw, .int .i64 ph, .row 0 n]] [⟨.ints .i64 a, 74, .rows 3⟩] (K) := by kernel_rfl
theorem ok_spec_CountSolutions : OK Tryd.prog 21 F_spec_CountSolutions.spec := (vbody_ok (vin_ok TPY_66_ok annTPY 3) TPY_66_ok.looks _ _).ofFM fun args m p R h hp => by
  unfold F_spec_CountSolutions at h
  split at h
  · injection h with h; injection h with h1 h2; subst h1; subst h2
    exact (congrArg At (eq_spec_CountSolutions _ _ _ _ _ _)).mp ⟨vc_spec_CountSolutions _ _ _ _ _ hp⟩
  · cases h
def TPY_67 : Tab := TPY_66.add 21 F_spec_CountSolutions
theorem TPY_67_ok : TPY_67.Ok Tryd.prog := TPY_66_ok.add ok_spec_CountSolutions
theorem eq_impl_CountSolutions  (pr : List UInt8) (pw : Int) (ph : Int) (n : Nat) (a : List Int) (K : V → List Blk → Prop) : VC_impl_CountSolutions  pr pw ph n a K = vbody Tryd.prog (vin Tryd.prog TPY_67 annTPY 3) TPY_67.looks (annTPY 22) 22 [.agg [.str pr, .int .i64 pw, .int .i64 ph, .row 0 n]] [⟨.ints .i64 a, 74, .rows 3⟩] (K) := by kernel_rfl
theorem ok_impl_CountSolutions : OK Tryd.prog 22 F_impl_CountSolutions.spec := (vbody_ok (vin_ok TPY_67_ok annTPY 3) TPY_67_ok.looks _ _).ofFM fun args m p R h hp => by
  unfold F_impl_CountSolutions at h
  split at h
  · injection h with h; injection h with h1 h2; subst h1; subst h2
    exact (congrArg At (eq_impl_CountSolutions _ _ _ _ _ _)).mp ⟨vc_impl_CountSolutions _ _ _ _ _ hp⟩
  · cases h
def TPY_68 : Tab := TPY_67.add 22 F_impl_CountSolutions
theorem TPY_68_ok : TPY_68.Ok Tryd.prog := TPY_67_ok.add ok_impl_CountSolutions
theorem eq_spec_FirstSolution  (pr : List UInt8) (pw : Int) (ph : Int) (n : Nat) (a : List Int) (K : V → List Blk → Prop) : VC_spec_FirstSolution  pr pw ph n a K = vbody Tryd.prog (vin Tryd.prog TPY_68 annTPY 3) TPY_68.looks (annTPY 23) 23 [.agg [.str pr, .int .i64 pw, .int .i64 ph, .row 0 n]] [⟨.ints .i64 a, 74, .rows 3⟩] (K) := by kernel_rfl
theorem ok_spec_FirstSolution : OK Tryd.prog 23 F_spec_FirstSolution.spec := (vbody_ok (vin_ok TPY_68_ok annTPY 3) TPY_68_ok.looks _ _).ofFM fun args m p R h hp => by
  unfold F_spec_FirstSolution at h
  split at h
  · injection h with h; injection h with h1 h2; subst h1; subst h2
    exact (congrArg At (eq_spec_FirstSolution _ _ _ _ _ _)).mp ⟨vc_spec_FirstSolution _ _ _ _ _ hp⟩
  · cases h
def TPY_69 : Tab := TPY_68.add 23 F_spec_FirstSolution
theorem TPY_69_ok : TPY_69.Ok Tryd.prog := TPY_68_ok.add ok_spec_FirstSolution
theorem eq_impl_FirstSolution  (pr : List UInt8) (pw : Int) (ph : Int) (n : Nat) (a : List Int) (K : V → List Blk → Prop) : VC_impl_FirstSolution  pr pw ph n a K = vbody Tryd.prog (vin Tryd.prog TPY_69 annTPY 3) TPY_69.looks (annTPY 24) 24 [.agg [.str pr, .int .i64 pw, .int .i64 ph, .row 0 n]] [⟨.ints .i64 a, 74, .rows 3⟩] (K) := by kernel_rfl
theorem ok_impl_FirstSolution : OK Tryd.prog 24 F_impl_FirstSolution.spec := (vbody_ok (vin_ok TPY_69_ok annTPY 3) TPY_69_ok.looks _ _).ofFM fun args m p R h hp => by
  unfold F_impl_FirstSolution at h
  split at h
  · injection h with h; injection h with h1 h2; subst h1; subst h2
    exact (congrArg At (eq_impl_FirstSolution _ _ _ _ _ _)).mp ⟨vc_impl_FirstSolution _ _ _ _ _ hp⟩
  · cases h
def TPY_70 : Tab := TPY_69.add 24 F_impl_FirstSolution
theorem TPY_70_ok : TPY_70.Ok Tryd.prog := TPY_69_ok.add ok_impl_FirstSolution
def TPY : Tab := TPY_70
theorem TPY_ok : TPY.Ok Tryd.prog := TPY_70_ok
end Go.Proofs.YtbdhilflnfllaaaDoor
