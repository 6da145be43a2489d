/- The contracts of this chapter. -/
import Derived.Test.YtickpjdnncpnmaaDoorPDDoor
import Derived.Test.YtickpjdnncpnmaaDoorW9Lib
import Derived.Test.YtickpjdnncpnmaaDoorPVLib
import Derived.Test.YtickpjdnncpnmaaDoorProg
import Derived.Test.YtickpjdnncpnmaaDoorPHPf
import Derived.KernelRfl
namespace Go.Proofs.YtickpjdnncpnmaaDoor
open Go Go.Vi
set_option linter.unusedVariables false
def annTPH : FuncId -> Nat -> St -> Option Ann := fun f => if f = 103 then ann_spec_woRule else if f = 107 then ann_impl_IsRule else if f = 50 then ann_laws_eqClueS else if f = 51 then ann_laws_markClueS else if f = 61 then ann_laws_heldClueS else if f = 46 then ann_laws_toClueS else if f = 104 then ann_spec_pzPower else if f = 88 then ann_impl_CountBoards else if f = 44 then ann_spec_pzGood else if f = 60 then ann_impl_withClues else if f = 113 then ann_impl_led else if f = 112 then ann_impl_sumOf else if f = 87 then ann_spec_pzValue else if f = 82 then ann_impl_allCells else if f = 47 then ann_impl_candidatesOf else if f = 48 then ann_impl_fitAll else if f = 80 then ann_spec_pzLook else if f = 32 then ann_spec_HarderPuzzle else if f = 33 then ann_impl_HarderPuzzle else (fun _ _ => none)
def TPH_0 : Tab := Tab.none
theorem TPH_0_ok : TPH_0.Ok Tryd.prog := Tab.none_ok
theorem eq_spec_l1In (n : Int) (lo : Int) (hi : Int) (K : V -> Prop) : VC_spec_l1In n lo hi K = vbody Tryd.prog (vin Tryd.prog TPH_0 annTPH 3) TPH_0.looks (annTPH 63) 63 [.int .i64 n, .int .i64 lo, .int .i64 hi] [] (fun v _ => K v) := by kernel_rfl
theorem ok_spec_l1In : OK Tryd.prog 63 F_spec_l1In.spec := (vbody_ok (vin_ok TPH_0_ok annTPH 3) TPH_0_ok.looks _ _).ofF fun args m p R h hp => by
 unfold F_spec_l1In at h
 split at h
 ·injection h with h; injection h with h1 h2; subst h1; subst h2
  exact ⟨rfl, (congrArg At (eq_spec_l1In _ _ _ _)).mp ⟨vc_spec_l1In _ _ _ hp⟩⟩
 ·cases h
def TPH_1 : Tab := TPH_0.add 63 F_spec_l1In
theorem TPH_1_ok : TPH_1.Ok Tryd.prog := TPH_0_ok.add ok_spec_l1In
theorem eq_impl_within (n : Int) (lo : Int) (hi : Int) (K : V -> Prop) : VC_impl_within n lo hi K = vbody Tryd.prog (vin Tryd.prog TPH_1 annTPH 3) TPH_1.looks (annTPH 67) 67 [.int .i64 n, .int .i64 lo, .int .i64 hi] [] (fun v _ => K v) := by kernel_rfl
theorem ok_impl_within : OK Tryd.prog 67 F_impl_within.spec := (vbody_ok (vin_ok TPH_1_ok annTPH 3) TPH_1_ok.looks _ _).ofF fun args m p R h hp => by
 unfold F_impl_within at h
 split at h
 ·injection h with h; injection h with h1 h2; subst h1; subst h2
  exact ⟨rfl, (congrArg At (eq_impl_within _ _ _ _)).mp ⟨vc_impl_within _ _ _ hp⟩⟩
 ·cases h
def TPH_2 : Tab := TPH_1.add 67 F_impl_within
theorem TPH_2_ok : TPH_2.Ok Tryd.prog := TPH_1_ok.add ok_impl_within
theorem eq_impl_digit (b : Int) (K : V -> Prop) : VC_impl_digit b K = vbody Tryd.prog (vin Tryd.prog TPH_2 annTPH 3) TPH_2.looks (annTPH 77) 77 [.int .u8 b] [] (fun v _ => K v) := by kernel_rfl
theorem ok_impl_digit : OK Tryd.prog 77 F_impl_digit.spec := (vbody_ok (vin_ok TPH_2_ok annTPH 3) TPH_2_ok.looks _ _).ofF fun args m p R h hp => by
 unfold F_impl_digit at h
 split at h
 ·injection h with h; injection h with h1 h2; subst h1; subst h2
  exact ⟨rfl, (congrArg At (eq_impl_digit _ _)).mp ⟨vc_impl_digit _ hp⟩⟩
 ·cases h
def TPH_3 : Tab := TPH_2.add 77 F_impl_digit
theorem TPH_3_ok : TPH_3.Ok Tryd.prog := TPH_2_ok.add ok_impl_digit
theorem eq_spec_woRule (s : List UInt8) (K : V -> Prop) : VC_spec_woRule s K = vbody Tryd.prog (vin Tryd.prog TPH_3 annTPH 3) TPH_3.looks (annTPH 103) 103 [.str s] [] (fun v _ => K v) := by kernel_rfl
theorem ok_spec_woRule : OK Tryd.prog 103 F_spec_woRule.spec := (vbody_ok (vin_ok TPH_3_ok annTPH 3) TPH_3_ok.looks _ _).ofF fun args m p R h hp => by
 unfold F_spec_woRule at h
 split at h
 ·injection h with h; injection h with h1 h2; subst h1; subst h2
  exact ⟨rfl, (congrArg At (eq_spec_woRule _ _)).mp ⟨vc_spec_woRule _ hp⟩⟩
 ·cases h
def TPH_4 : Tab := TPH_3.add 103 F_spec_woRule
theorem TPH_4_ok : TPH_4.Ok Tryd.prog := TPH_3_ok.add ok_spec_woRule
theorem eq_impl_IsRule (s : List UInt8) (K : V -> Prop) : VC_impl_IsRule s K = vbody Tryd.prog (vin Tryd.prog TPH_4 annTPH 3) TPH_4.looks (annTPH 107) 107 [.str s] [] (fun v _ => K v) := by kernel_rfl
theorem ok_impl_IsRule : OK Tryd.prog 107 F_impl_IsRule.spec := (vbody_ok (vin_ok TPH_4_ok annTPH 3) TPH_4_ok.looks _ _).ofF fun args m p R h hp => by
 unfold F_impl_IsRule at h
 split at h
 ·injection h with h; injection h with h1 h2; subst h1; subst h2
  exact ⟨rfl, (congrArg At (eq_impl_IsRule _ _)).mp ⟨vc_impl_IsRule _ hp⟩⟩
 ·cases h
def TPH_5 : Tab := TPH_4.add 107 F_impl_IsRule
theorem TPH_5_ok : TPH_5.Ok Tryd.prog := TPH_4_ok.add ok_impl_IsRule
theorem eq_spec_woColour (wr : List UInt8) (ww : Int) (wh : Int) (wc : List UInt8) (wx : Int) (wy : Int) (wd : Int) (x : Int) (y : Int) (K : V -> Prop) : VC_spec_woColour wr ww wh wc wx wy wd x y K = vbody Tryd.prog (vin Tryd.prog TPH_5 annTPH 3) TPH_5.looks (annTPH 125) 125 [.agg [.str wr, .int .i64 ww, .int .i64 wh, .str wc, .int .i64 wx, .int .i64 wy, .int .i64 wd], .int .i64 x, .int .i64 y] [] (fun v _ => K v) := by kernel_rfl
theorem ok_spec_woColour : OK Tryd.prog 125 F_spec_woColour.spec := (vbody_ok (vin_ok TPH_5_ok annTPH 3) TPH_5_ok.looks _ _).ofF fun args m p R h hp => by
 unfold F_spec_woColour at h
 split at h
 ·injection h with h; injection h with h1 h2; subst h1; subst h2
  exact ⟨rfl, (congrArg At (eq_spec_woColour _ _ _ _ _ _ _ _ _ _)).mp ⟨vc_spec_woColour _ _ _ _ _ _ _ _ _ hp⟩⟩
 ·cases h
def TPH_6 : Tab := TPH_5.add 125 F_spec_woColour
theorem TPH_6_ok : TPH_6.Ok Tryd.prog := TPH_5_ok.add ok_spec_woColour
theorem eq_impl_board_colour (wr : List UInt8) (ww : Int) (wh : Int) (wc : List UInt8) (wx : Int) (wy : Int) (wd : Int) (x : Int) (y : Int) (K : V -> Prop) : VC_impl_board_colour wr ww wh wc wx wy wd x y K = vbody Tryd.prog (vin Tryd.prog TPH_6 annTPH 3) TPH_6.looks (annTPH 130) 130 [.agg [.str wr, .int .i64 ww, .int .i64 wh, .str wc, .int .i64 wx, .int .i64 wy, .int .i64 wd], .int .i64 x, .int .i64 y] [] (fun v _ => K v) := by kernel_rfl
theorem ok_impl_board_colour : OK Tryd.prog 130 F_impl_board_colour.spec := (vbody_ok (vin_ok TPH_6_ok annTPH 3) TPH_6_ok.looks _ _).ofF fun args m p R h hp => by
 unfold F_impl_board_colour at h
 split at h
 ·injection h with h; injection h with h1 h2; subst h1; subst h2
  exact ⟨rfl, (congrArg At (eq_impl_board_colour _ _ _ _ _ _ _ _ _ _)).mp ⟨vc_impl_board_colour _ _ _ _ _ _ _ _ _ hp⟩⟩
 ·cases h
def TPH_7 : Tab := TPH_6.add 130 F_impl_board_colour
theorem TPH_7_ok : TPH_7.Ok Tryd.prog := TPH_6_ok.add ok_impl_board_colour
theorem ok_strconv_formatBase10 : OK Tryd.prog 141 F_strconv_formatBase10.spec := Go.Proofs.YtickpjdnncpnmaaDoor.never_ok _
def TPH_8 : Tab := TPH_7.add 141 F_strconv_formatBase10
theorem TPH_8_ok : TPH_8.Ok Tryd.prog := TPH_7_ok.add ok_strconv_formatBase10
theorem ok_strconv_formatBits : OK Tryd.prog 142 F_strconv_formatBits.spec := Go.Proofs.YtickpjdnncpnmaaDoor.never_ok _
def TPH_9 : Tab := TPH_8.add 142 F_strconv_formatBits
theorem TPH_9_ok : TPH_9.Ok Tryd.prog := TPH_8_ok.add ok_strconv_formatBits
theorem ok_strconv_numDigits : OK Tryd.prog 140 F_strconv_numDigits.spec := Go.Proofs.YtickpjdnncpnmaaDoor.never_ok _
def TPH_10 : Tab := TPH_9.add 140 F_strconv_numDigits
theorem TPH_10_ok : TPH_10.Ok Tryd.prog := TPH_9_ok.add ok_strconv_numDigits
theorem eq_spec_l1Num (n : Int) (K : V -> Prop) : VC_spec_l1Num n K = vbody Tryd.prog (vin Tryd.prog TPH_10 annTPH 0) TPH_10.looks (annTPH 93) 93 [.int .i64 n] [] (fun v _ => K v) := by kernel_rfl
theorem ok_spec_l1Num : OK Tryd.prog 93 F_spec_l1Num.spec := (vbody_ok (vin_ok TPH_10_ok annTPH 0) TPH_10_ok.looks _ _).ofF fun args m p R h hp => by
 unfold F_spec_l1Num at h
 split at h
 ·injection h with h; injection h with h1 h2; subst h1; subst h2
  exact ⟨rfl, (congrArg At (eq_spec_l1Num _ _)).mp ⟨vc_spec_l1Num _ hp⟩⟩
 ·cases h
def TPH_11 : Tab := TPH_10.add 93 F_spec_l1Num
theorem TPH_11_ok : TPH_11.Ok Tryd.prog := TPH_10_ok.add ok_spec_l1Num
theorem eq_strconv_FormatInt (n : Int) (b : Int) (K : V -> Prop) : VC_strconv_FormatInt n b K = vbody Tryd.prog (vin Tryd.prog TPH_11 annTPH 3) TPH_11.looks (annTPH 118) 118 [.int .i64 n, .int .i64 b] [] (fun v _ => K v) := by kernel_rfl
theorem ok_strconv_FormatInt : OK Tryd.prog 118 F_strconv_FormatInt.spec := (vbody_ok (vin_ok TPH_11_ok annTPH 3) TPH_11_ok.looks _ _).ofF fun args m p R h hp => by
 unfold F_strconv_FormatInt at h
 split at h
 ·injection h with h; injection h with h1 h2; subst h1; subst h2
  exact ⟨rfl, (congrArg At (eq_strconv_FormatInt _ _ _)).mp ⟨vc_strconv_FormatInt _ _ hp⟩⟩
 ·cases h
def TPH_12 : Tab := TPH_11.add 118 F_strconv_FormatInt
theorem TPH_12_ok : TPH_12.Ok Tryd.prog := TPH_11_ok.add ok_strconv_FormatInt
theorem eq_strconv_Itoa (n : Int) (K : V -> Prop) : VC_strconv_Itoa n K = vbody Tryd.prog (vin Tryd.prog TPH_12 annTPH 3) TPH_12.looks (annTPH 72) 72 [.int .i64 n] [] (fun v _ => K v) := by kernel_rfl
theorem ok_strconv_Itoa : OK Tryd.prog 72 F_strconv_Itoa.spec := (vbody_ok (vin_ok TPH_12_ok annTPH 3) TPH_12_ok.looks _ _).ofF fun args m p R h hp => by
 unfold F_strconv_Itoa at h
 split at h
 ·injection h with h; injection h with h1 h2; subst h1; subst h2
  exact ⟨rfl, (congrArg At (eq_strconv_Itoa _ _)).mp ⟨vc_strconv_Itoa _ hp⟩⟩
 ·cases h
def TPH_13 : Tab := TPH_12.add 72 F_strconv_Itoa
theorem TPH_13_ok : TPH_13.Ok Tryd.prog := TPH_12_ok.add ok_strconv_Itoa
theorem eq_spec_l1Mod (n : Int) (m : Int) (K : V -> Prop) : VC_spec_l1Mod n m K = vbody Tryd.prog (vin Tryd.prog TPH_13 annTPH 3) TPH_13.looks (annTPH 152) 152 [.int .i64 n, .int .i64 m] [] (fun v _ => K v) := by kernel_rfl
theorem ok_spec_l1Mod : OK Tryd.prog 152 F_spec_l1Mod.spec := (vbody_ok (vin_ok TPH_13_ok annTPH 3) TPH_13_ok.looks _ _).ofF fun args m p R h hp => by
 unfold F_spec_l1Mod at h
 split at h
 ·injection h with h; injection h with h1 h2; subst h1; subst h2
  exact ⟨rfl, (congrArg At (eq_spec_l1Mod _ _ _)).mp ⟨vc_spec_l1Mod _ _ hp⟩⟩
 ·cases h
def TPH_14 : Tab := TPH_13.add 152 F_spec_l1Mod
theorem TPH_14_ok : TPH_14.Ok Tryd.prog := TPH_13_ok.add ok_spec_l1Mod
theorem eq_spec_woTurn (b : Int) (K : V -> Prop) : VC_spec_woTurn b K = vbody Tryd.prog (vin Tryd.prog TPH_14 annTPH 3) TPH_14.looks (annTPH 126) 126 [.int .u8 b] [] (fun v _ => K v) := by kernel_rfl
theorem ok_spec_woTurn : OK Tryd.prog 126 F_spec_woTurn.spec := (vbody_ok (vin_ok TPH_14_ok annTPH 3) TPH_14_ok.looks _ _).ofF fun args m p R h hp => by
 unfold F_spec_woTurn at h
 split at h
 ·injection h with h; injection h with h1 h2; subst h1; subst h2
  exact ⟨rfl, (congrArg At (eq_spec_woTurn _ _)).mp ⟨vc_spec_woTurn _ hp⟩⟩
 ·cases h
def TPH_15 : Tab := TPH_14.add 126 F_spec_woTurn
theorem TPH_15_ok : TPH_15.Ok Tryd.prog := TPH_14_ok.add ok_spec_woTurn
theorem eq_impl_quarters (b : Int) (K : V -> Prop) : VC_impl_quarters b K = vbody Tryd.prog (vin Tryd.prog TPH_15 annTPH 3) TPH_15.looks (annTPH 132) 132 [.int .u8 b] [] (fun v _ => K v) := by kernel_rfl
theorem ok_impl_quarters : OK Tryd.prog 132 F_impl_quarters.spec := (vbody_ok (vin_ok TPH_15_ok annTPH 3) TPH_15_ok.looks _ _).ofF fun args m p R h hp => by
 unfold F_impl_quarters at h
 split at h
 ·injection h with h; injection h with h1 h2; subst h1; subst h2
  exact ⟨rfl, (congrArg At (eq_impl_quarters _ _)).mp ⟨vc_impl_quarters _ hp⟩⟩
 ·cases h
def TPH_16 : Tab := TPH_15.add 132 F_impl_quarters
theorem TPH_16_ok : TPH_16.Ok Tryd.prog := TPH_15_ok.add ok_impl_quarters
theorem eq_impl_direction (d : Int) (K : V -> Prop) : VC_impl_direction d K = vbody Tryd.prog (vin Tryd.prog TPH_16 annTPH 3) TPH_16.looks (annTPH 153) 153 [.int .i64 d] [] (fun v _ => K v) := by kernel_rfl
theorem ok_impl_direction : OK Tryd.prog 153 F_impl_direction.spec := (vbody_ok (vin_ok TPH_16_ok annTPH 3) TPH_16_ok.looks _ _).ofF fun args m p R h hp => by
 unfold F_impl_direction at h
 split at h
 ·injection h with h; injection h with h1 h2; subst h1; subst h2
  exact ⟨rfl, (congrArg At (eq_impl_direction _ _)).mp ⟨vc_impl_direction _ hp⟩⟩
 ·cases h
def TPH_17 : Tab := TPH_16.add 153 F_impl_direction
theorem TPH_17_ok : TPH_17.Ok Tryd.prog := TPH_16_ok.add ok_impl_direction
theorem eq_impl_board_sign (wr : List UInt8) (ww : Int) (wh : Int) (wc : List UInt8) (wx : Int) (wy : Int) (wd : Int) (K : V -> Prop) : VC_impl_board_sign wr ww wh wc wx wy wd K = vbody Tryd.prog (vin Tryd.prog TPH_17 annTPH 3) TPH_17.looks (annTPH 133) 133 [.agg [.str wr, .int .i64 ww, .int .i64 wh, .str wc, .int .i64 wx, .int .i64 wy, .int .i64 wd]] [] (fun v _ => K v) := by kernel_rfl
theorem ok_impl_board_sign : OK Tryd.prog 133 F_impl_board_sign.spec := (vbody_ok (vin_ok TPH_17_ok annTPH 3) TPH_17_ok.looks _ _).ofF fun args m p R h hp => by
 unfold F_impl_board_sign at h
 split at h
 ·injection h with h; injection h with h1 h2; subst h1; subst h2
  exact ⟨rfl, (congrArg At (eq_impl_board_sign _ _ _ _ _ _ _ _)).mp ⟨vc_impl_board_sign _ _ _ _ _ _ _ hp⟩⟩
 ·cases h
def TPH_18 : Tab := TPH_17.add 133 F_impl_board_sign
theorem TPH_18_ok : TPH_18.Ok Tryd.prog := TPH_17_ok.add ok_impl_board_sign
theorem eq_impl_board_painted (wr : List UInt8) (ww : Int) (wh : Int) (wc : List UInt8) (wx : Int) (wy : Int) (wd : Int) (x : Int) (y : Int) (k : Int) (K : V -> Prop) : VC_impl_board_painted wr ww wh wc wx wy wd x y k K = vbody Tryd.prog (vin Tryd.prog TPH_18 annTPH 3) TPH_18.looks (annTPH 134) 134 [.agg [.str wr, .int .i64 ww, .int .i64 wh, .str wc, .int .i64 wx, .int .i64 wy, .int .i64 wd], .int .i64 x, .int .i64 y, .int .i64 k] [] (fun v _ => K v) := by kernel_rfl
theorem ok_impl_board_painted : OK Tryd.prog 134 F_impl_board_painted.spec := (vbody_ok (vin_ok TPH_18_ok annTPH 3) TPH_18_ok.looks _ _).ofF fun args m p R h hp => by
 unfold F_impl_board_painted at h
 split at h
 ·injection h with h; injection h with h1 h2; subst h1; subst h2
  exact ⟨rfl, (congrArg At (eq_impl_board_painted _ _ _ _ _ _ _ _ _ _ _)).mp ⟨vc_impl_board_painted _ _ _ _ _ _ _ _ _ _ hp⟩⟩
 ·cases h
def TPH_19 : Tab := TPH_18.add 134 F_impl_board_painted
theorem TPH_19_ok : TPH_19.Ok Tryd.prog := TPH_18_ok.add ok_impl_board_painted
theorem eq_impl_board_turned (wr : List UInt8) (ww : Int) (wh : Int) (wc : List UInt8) (wx : Int) (wy : Int) (wd : Int) (q : Int) (K : V -> Prop) : VC_impl_board_turned wr ww wh wc wx wy wd q K = vbody Tryd.prog (vin Tryd.prog TPH_19 annTPH 3) TPH_19.looks (annTPH 131) 131 [.agg [.str wr, .int .i64 ww, .int .i64 wh, .str wc, .int .i64 wx, .int .i64 wy, .int .i64 wd], .int .i64 q] [] (fun v _ => K v) := by kernel_rfl
theorem ok_impl_board_turned : OK Tryd.prog 131 F_impl_board_turned.spec := (vbody_ok (vin_ok TPH_19_ok annTPH 3) TPH_19_ok.looks _ _).ofF fun args m p R h hp => by
 unfold F_impl_board_turned at h
 split at h
 ·injection h with h; injection h with h1 h2; subst h1; subst h2
  exact ⟨rfl, (congrArg At (eq_impl_board_turned _ _ _ _ _ _ _ _ _)).mp ⟨vc_impl_board_turned _ _ _ _ _ _ _ _ hp⟩⟩
 ·cases h
def TPH_20 : Tab := TPH_19.add 131 F_impl_board_turned
theorem TPH_20_ok : TPH_20.Ok Tryd.prog := TPH_19_ok.add ok_impl_board_turned
theorem eq_impl_board_moved (wr : List UInt8) (ww : Int) (wh : Int) (wc : List UInt8) (wx : Int) (wy : Int) (wd : Int) (k : Int) (K : V -> Prop) : VC_impl_board_moved wr ww wh wc wx wy wd k K = vbody Tryd.prog (vin Tryd.prog TPH_20 annTPH 3) TPH_20.looks (annTPH 135) 135 [.agg [.str wr, .int .i64 ww, .int .i64 wh, .str wc, .int .i64 wx, .int .i64 wy, .int .i64 wd], .int .i64 k] [] (fun v _ => K v) := by kernel_rfl
theorem ok_impl_board_moved : OK Tryd.prog 135 F_impl_board_moved.spec := (vbody_ok (vin_ok TPH_20_ok annTPH 3) TPH_20_ok.looks _ _).ofF fun args m p R h hp => by
 unfold F_impl_board_moved at h
 split at h
 ·injection h with h; injection h with h1 h2; subst h1; subst h2
  exact ⟨rfl, (congrArg At (eq_impl_board_moved _ _ _ _ _ _ _ _ _)).mp ⟨vc_impl_board_moved _ _ _ _ _ _ _ _ hp⟩⟩
 ·cases h
def TPH_21 : Tab := TPH_20.add 135 F_impl_board_moved
theorem TPH_21_ok : TPH_21.Ok Tryd.prog := TPH_20_ok.add ok_impl_board_moved
theorem eq_spec_woPaint (x : Int) (y : Int) (k : Int) (wr : List UInt8) (ww : Int) (wh : Int) (wc : List UInt8) (wx : Int) (wy : Int) (wd : Int) (e : TypeId) (K : V -> List Blk -> Prop) : VC_spec_woPaint x y k wr ww wh wc wx wy wd e K = vbody Tryd.prog (vin Tryd.prog TPH_21 annTPH 3) TPH_21.looks (annTPH 127) 127 [.ptr 0 0, .int .i64 x, .int .i64 y, .int .i64 k] [⟨.vals [.str wr, .int .i64 ww, .int .i64 wh, .str wc, .int .i64 wx, .int .i64 wy, .int .i64 wd], e, .box⟩] (K) := by kernel_rfl
theorem ok_spec_woPaint : OK Tryd.prog 127 F_spec_woPaint.spec := (vbody_ok (vin_ok TPH_21_ok annTPH 3) TPH_21_ok.looks _ _).ofG fun args m p R M h hp => by
 unfold F_spec_woPaint at h
 split at h
 ·injection h with h; injection h with h1 h2; injection h2 with h2 h3; subst h1; subst h2; subst h3
  exact (congrArg At (eq_spec_woPaint _ _ _ _ _ _ _ _ _ _ _ _)).mp ⟨vc_spec_woPaint _ _ _ _ _ _ _ _ _ _ _ hp⟩
 ·cases h
def TPH_22 : Tab := TPH_21.addG 127 F_spec_woPaint
theorem TPH_22_ok : TPH_22.Ok Tryd.prog := TPH_21_ok.addG ok_spec_woPaint
theorem eq_spec_woGo (k : Int) (wr : List UInt8) (ww : Int) (wh : Int) (wc : List UInt8) (wx : Int) (wy : Int) (wd : Int) (e : TypeId) (K : V -> List Blk -> Prop) : VC_spec_woGo k wr ww wh wc wx wy wd e K = vbody Tryd.prog (vin Tryd.prog TPH_22 annTPH 3) TPH_22.looks (annTPH 128) 128 [.ptr 0 0, .int .i64 k] [⟨.vals [.str wr, .int .i64 ww, .int .i64 wh, .str wc, .int .i64 wx, .int .i64 wy, .int .i64 wd], e, .box⟩] (K) := by kernel_rfl
theorem ok_spec_woGo : OK Tryd.prog 128 F_spec_woGo.spec := (vbody_ok (vin_ok TPH_22_ok annTPH 3) TPH_22_ok.looks _ _).ofG fun args m p R M h hp => by
 unfold F_spec_woGo at h
 split at h
 ·injection h with h; injection h with h1 h2; injection h2 with h2 h3; subst h1; subst h2; subst h3
  exact (congrArg At (eq_spec_woGo _ _ _ _ _ _ _ _ _ _)).mp ⟨vc_spec_woGo _ _ _ _ _ _ _ _ _ hp⟩
 ·cases h
def TPH_23 : Tab := TPH_22.addG 128 F_spec_woGo
theorem TPH_23_ok : TPH_23.Ok Tryd.prog := TPH_22_ok.addG ok_spec_woGo
theorem eq_spec_woStep (wr : List UInt8) (ww : Int) (wh : Int) (wc : List UInt8) (wx : Int) (wy : Int) (wd : Int) (K : V -> Prop) : VC_spec_woStep wr ww wh wc wx wy wd K = vbody Tryd.prog (vin Tryd.prog TPH_23 annTPH 4) TPH_23.looks (annTPH 106) 106 [.agg [.str wr, .int .i64 ww, .int .i64 wh, .str wc, .int .i64 wx, .int .i64 wy, .int .i64 wd]] [] (fun v _ => K v) := by kernel_rfl
theorem ok_spec_woStep : OK Tryd.prog 106 F_spec_woStep.spec := (vbody_ok (vin_ok TPH_23_ok annTPH 4) TPH_23_ok.looks _ _).ofF fun args m p R h hp => by
 unfold F_spec_woStep at h
 split at h
 ·injection h with h; injection h with h1 h2; subst h1; subst h2
  exact ⟨rfl, (congrArg At (eq_spec_woStep _ _ _ _ _ _ _ _)).mp ⟨vc_spec_woStep _ _ _ _ _ _ _ hp⟩⟩
 ·cases h
def TPH_24 : Tab := TPH_23.add 106 F_spec_woStep
theorem TPH_24_ok : TPH_24.Ok Tryd.prog := TPH_23_ok.add ok_spec_woStep
theorem eq_impl_board_forth (wr : List UInt8) (ww : Int) (wh : Int) (wc : List UInt8) (wx : Int) (wy : Int) (wd : Int) (K : V -> Prop) : VC_impl_board_forth wr ww wh wc wx wy wd K = vbody Tryd.prog (vin Tryd.prog TPH_24 annTPH 4) TPH_24.looks (annTPH 114) 114 [.agg [.str wr, .int .i64 ww, .int .i64 wh, .str wc, .int .i64 wx, .int .i64 wy, .int .i64 wd]] [] (fun v _ => K v) := by kernel_rfl
theorem ok_impl_board_forth : OK Tryd.prog 114 F_impl_board_forth.spec := (vbody_ok (vin_ok TPH_24_ok annTPH 4) TPH_24_ok.looks _ _).ofF fun args m p R h hp => by
 unfold F_impl_board_forth at h
 split at h
 ·injection h with h; injection h with h1 h2; subst h1; subst h2
  exact ⟨rfl, (congrArg At (eq_impl_board_forth _ _ _ _ _ _ _ _)).mp ⟨vc_impl_board_forth _ _ _ _ _ _ _ hp⟩⟩
 ·cases h
def TPH_25 : Tab := TPH_24.add 114 F_impl_board_forth
theorem TPH_25_ok : TPH_25.Ok Tryd.prog := TPH_24_ok.add ok_impl_board_forth
theorem eq_laws_eqClue (ax : Int) (ay : Int) (ak : Int) (bx : Int) (by_ : Int) (bk : Int) (K : V -> Prop) : VC_laws_eqClue ax ay ak bx by_ bk K = vbody Tryd.prog (vin Tryd.prog TPH_25 annTPH 3) TPH_25.looks (annTPH 85) 85 [.agg [.int .i64 ax, .int .i64 ay, .int .i64 ak], .agg [.int .i64 bx, .int .i64 by_, .int .i64 bk]] [] (fun v _ => K v) := by kernel_rfl
theorem ok_laws_eqClue : OK Tryd.prog 85 F_laws_eqClue.spec := (vbody_ok (vin_ok TPH_25_ok annTPH 3) TPH_25_ok.looks _ _).ofF fun args m p R h hp => by
 unfold F_laws_eqClue at h
 split at h
 ·injection h with h; injection h with h1 h2; subst h1; subst h2
  exact ⟨rfl, (congrArg At (eq_laws_eqClue _ _ _ _ _ _ _)).mp ⟨vc_laws_eqClue _ _ _ _ _ _ hp⟩⟩
 ·cases h
def TPH_26 : Tab := TPH_25.add 85 F_laws_eqClue
theorem TPH_26_ok : TPH_26.Ok Tryd.prog := TPH_25_ok.add ok_laws_eqClue
theorem eq_laws_eqClueS  (n : Nat) (m : Nat) (a : List Int) (b : List Int) (K : V -> List Blk -> Prop) : VC_laws_eqClueS  n m a b K = vbody Tryd.prog (vin Tryd.prog TPH_26 annTPH 3) TPH_26.looks (annTPH 50) 50 [.row 0 n, .row 1 m] [⟨.ints .i64 a, 83, .rows 3⟩, ⟨.ints .i64 b, 83, .rows 3⟩] (K) := by kernel_rfl
theorem ok_laws_eqClueS : OK Tryd.prog 50 F_laws_eqClueS.spec := (vbody_ok (vin_ok TPH_26_ok annTPH 3) TPH_26_ok.looks _ _).ofFM fun args m p R h hp => by
 unfold F_laws_eqClueS at h
 split at h
 ·injection h with h; injection h with h1 h2; subst h1; subst h2
  exact (congrArg At (eq_laws_eqClueS _ _ _ _ _)).mp ⟨vc_laws_eqClueS _ _ _ _ hp⟩
 ·cases h
def TPH_27 : Tab := TPH_26.add 50 F_laws_eqClueS
theorem TPH_27_ok : TPH_27.Ok Tryd.prog := TPH_26_ok.add ok_laws_eqClueS
theorem eq_laws_eqPuzzle  (ar : List UInt8) (aw : Int) (ah : Int) (cr : List UInt8) (cw : Int) (ch : Int) (n : Nat) (m : Nat) (a : List Int) (b : List Int) (K : V -> List Blk -> Prop) : VC_laws_eqPuzzle  ar aw ah cr cw ch n m a b K = vbody Tryd.prog (vin Tryd.prog TPH_27 annTPH 3) TPH_27.looks (annTPH 17) 17 [.agg [.str ar, .int .i64 aw, .int .i64 ah, .row 0 n], .agg [.str cr, .int .i64 cw, .int .i64 ch, .row 1 m]] [⟨.ints .i64 a, 83, .rows 3⟩, ⟨.ints .i64 b, 83, .rows 3⟩] (K) := by kernel_rfl
theorem ok_laws_eqPuzzle : OK Tryd.prog 17 F_laws_eqPuzzle.spec := (vbody_ok (vin_ok TPH_27_ok annTPH 3) TPH_27_ok.looks _ _).ofFM fun args m p R h hp => by
 unfold F_laws_eqPuzzle at h
 split at h
 ·injection h with h; injection h with h1 h2; subst h1; subst h2
  exact (congrArg At (eq_laws_eqPuzzle _ _ _ _ _ _ _ _ _ _ _)).mp ⟨vc_laws_eqPuzzle _ _ _ _ _ _ _ _ _ _ hp⟩
 ·cases h
def TPH_28 : Tab := TPH_27.add 17 F_laws_eqPuzzle
theorem TPH_28_ok : TPH_28.Ok Tryd.prog := TPH_27_ok.add ok_laws_eqPuzzle
theorem eq_laws_markClueS (k : Int) (n : Nat) (a : List Int) (K : V -> List Blk -> Prop) : VC_laws_markClueS k n a K = vbody Tryd.prog (vin Tryd.prog TPH_28 annTPH 3) TPH_28.looks (annTPH 51) 51 [.row 0 n, .int .i64 k] [⟨.ints .i64 a, 83, .rows 3⟩] (K) := by kernel_rfl
theorem ok_laws_markClueS : OK Tryd.prog 51 F_laws_markClueS.spec := (vbody_ok (vin_ok TPH_28_ok annTPH 3) TPH_28_ok.looks _ _).ofG fun args m p R M h hp => by
 unfold F_laws_markClueS at h
 split at h
 ·injection h with h; injection h with h1 h2; injection h2 with h2 h3; subst h1; subst h2; subst h3
  exact (congrArg At (eq_laws_markClueS _ _ _ _)).mp ⟨vc_laws_markClueS _ _ _ hp⟩
 ·cases h
def TPH_29 : Tab := TPH_28.addG 51 F_laws_markClueS
theorem TPH_29_ok : TPH_29.Ok Tryd.prog := TPH_28_ok.addG ok_laws_markClueS
theorem eq_laws_heldClueS (k : Int) (n : Nat) (a : List Int) (K : V -> List Blk -> Prop) : VC_laws_heldClueS k n a K = vbody Tryd.prog (vin Tryd.prog TPH_29 annTPH 3) TPH_29.looks (annTPH 61) 61 [.row 0 n, .int .i64 k] [⟨.ints .i64 a, 83, .rows 3⟩] (K) := by kernel_rfl
theorem ok_laws_heldClueS : OK Tryd.prog 61 F_laws_heldClueS.spec := (vbody_ok (vin_ok TPH_29_ok annTPH 3) TPH_29_ok.looks _ _).ofFM fun args m p R h hp => by
 unfold F_laws_heldClueS at h
 split at h
 ·injection h with h; injection h with h1 h2; subst h1; subst h2
  exact (congrArg At (eq_laws_heldClueS _ _ _ _)).mp ⟨vc_laws_heldClueS _ _ _ hp⟩
 ·cases h
def TPH_30 : Tab := TPH_29.add 61 F_laws_heldClueS
theorem TPH_30_ok : TPH_30.Ok Tryd.prog := TPH_29_ok.add ok_laws_heldClueS
theorem eq_laws_markPuzzle (k : Int) (pr : List UInt8) (pw : Int) (ph : Int) (n : Nat) (a : List Int) (K : V -> List Blk -> Prop) : VC_laws_markPuzzle k pr pw ph n a K = vbody Tryd.prog (vin Tryd.prog TPH_30 annTPH 3) TPH_30.looks (annTPH 18) 18 [.agg [.str pr, .int .i64 pw, .int .i64 ph, .row 0 n], .int .i64 k] [⟨.ints .i64 a, 83, .rows 3⟩] (K) := by kernel_rfl
theorem ok_laws_markPuzzle : OK Tryd.prog 18 F_laws_markPuzzle.spec := (vbody_ok (vin_ok TPH_30_ok annTPH 3) TPH_30_ok.looks _ _).ofG fun args m p R M h hp => by
 unfold F_laws_markPuzzle at h
 split at h
 ·injection h with h; injection h with h1 h2; injection h2 with h2 h3; subst h1; subst h2; subst h3
  exact (congrArg At (eq_laws_markPuzzle _ _ _ _ _ _ _)).mp ⟨vc_laws_markPuzzle _ _ _ _ _ _ hp⟩
 ·cases h
def TPH_31 : Tab := TPH_30.addG 18 F_laws_markPuzzle
theorem TPH_31_ok : TPH_31.Ok Tryd.prog := TPH_30_ok.addG ok_laws_markPuzzle
theorem eq_laws_heldPuzzle (k : Int) (pr : List UInt8) (pw : Int) (ph : Int) (n : Nat) (a : List Int) (K : V -> List Blk -> Prop) : VC_laws_heldPuzzle k pr pw ph n a K = vbody Tryd.prog (vin Tryd.prog TPH_31 annTPH 3) TPH_31.looks (annTPH 34) 34 [.agg [.str pr, .int .i64 pw, .int .i64 ph, .row 0 n], .int .i64 k] [⟨.ints .i64 a, 83, .rows 3⟩] (K) := by kernel_rfl
theorem ok_laws_heldPuzzle : OK Tryd.prog 34 F_laws_heldPuzzle.spec := (vbody_ok (vin_ok TPH_31_ok annTPH 3) TPH_31_ok.looks _ _).ofFM fun args m p R h hp => by
 unfold F_laws_heldPuzzle at h
 split at h
 ·injection h with h; injection h with h1 h2; subst h1; subst h2
  exact (congrArg At (eq_laws_heldPuzzle _ _ _ _ _ _ _)).mp ⟨vc_laws_heldPuzzle _ _ _ _ _ _ hp⟩
 ·cases h
def TPH_32 : Tab := TPH_31.add 34 F_laws_heldPuzzle
theorem TPH_32_ok : TPH_32.Ok Tryd.prog := TPH_31_ok.add ok_laws_heldPuzzle
theorem eq_laws_szClueS (left : Int) (n : Nat) (a : List Int) (K : V -> List Blk -> Prop) : VC_laws_szClueS left n a K = vbody Tryd.prog (vin Tryd.prog TPH_32 annTPH 3) TPH_32.looks (annTPH 43) 43 [.row 0 n, .int .i64 left] [⟨.ints .i64 a, 99, .arg 3⟩] (K) := by kernel_rfl
theorem ok_laws_szClueS : OK Tryd.prog 43 F_laws_szClueS.spec := (vbody_ok (vin_ok TPH_32_ok annTPH 3) TPH_32_ok.looks _ _).ofFM fun args m p R h hp => by
 unfold F_laws_szClueS at h
 split at h
 ·injection h with h; injection h with h1 h2; subst h1; subst h2
  exact (congrArg At (eq_laws_szClueS _ _ _ _)).mp ⟨vc_laws_szClueS _ _ _ hp⟩
 ·cases h
def TPH_33 : Tab := TPH_32.add 43 F_laws_szClueS
theorem TPH_33_ok : TPH_33.Ok Tryd.prog := TPH_32_ok.add ok_laws_szClueS
theorem eq_laws_szPuzzle (left : Int) (pr : List UInt8) (pw : Int) (ph : Int) (n : Nat) (a : List Int) (K : V -> List Blk -> Prop) : VC_laws_szPuzzle left pr pw ph n a K = vbody Tryd.prog (vin Tryd.prog TPH_33 annTPH 3) TPH_33.looks (annTPH 12) 12 [.agg [.str pr, .int .i64 pw, .int .i64 ph, .row 0 n], .int .i64 left] [⟨.ints .i64 a, 99, .arg 3⟩] (K) := by kernel_rfl
theorem ok_laws_szPuzzle : OK Tryd.prog 12 F_laws_szPuzzle.spec := (vbody_ok (vin_ok TPH_33_ok annTPH 3) TPH_33_ok.looks _ _).ofFM fun args m p R h hp => by
 unfold F_laws_szPuzzle at h
 split at h
 ·injection h with h; injection h with h1 h2; subst h1; subst h2
  exact (congrArg At (eq_laws_szPuzzle _ _ _ _ _ _ _)).mp ⟨vc_laws_szPuzzle _ _ _ _ _ _ hp⟩
 ·cases h
def TPH_34 : Tab := TPH_33.add 12 F_laws_szPuzzle
theorem TPH_34_ok : TPH_34.Ok Tryd.prog := TPH_33_ok.add ok_laws_szPuzzle
theorem eq_laws_toClue (ax : Int) (ay : Int) (ak : Int) (K : V -> Prop) : VC_laws_toClue ax ay ak K = vbody Tryd.prog (vin Tryd.prog TPH_34 annTPH 3) TPH_34.looks (annTPH 81) 81 [.agg [.int .i64 ax, .int .i64 ay, .int .i64 ak]] [] (fun v _ => K v) := by kernel_rfl
theorem ok_laws_toClue : OK Tryd.prog 81 F_laws_toClue.spec := (vbody_ok (vin_ok TPH_34_ok annTPH 3) TPH_34_ok.looks _ _).ofF fun args m p R h hp => by
 unfold F_laws_toClue at h
 split at h
 ·injection h with h; injection h with h1 h2; subst h1; subst h2
  exact ⟨rfl, (congrArg At (eq_laws_toClue _ _ _ _)).mp ⟨vc_laws_toClue _ _ _ hp⟩⟩
 ·cases h
def TPH_35 : Tab := TPH_34.add 81 F_laws_toClue
theorem TPH_35_ok : TPH_35.Ok Tryd.prog := TPH_34_ok.add ok_laws_toClue
theorem eq_laws_toClueS  (n : Nat) (a : List Int) (K : V -> List Blk -> Prop) : VC_laws_toClueS  n a K = vbody Tryd.prog (vin Tryd.prog TPH_35 annTPH 3) TPH_35.looks (annTPH 46) 46 [.row 0 n] [⟨.ints .i64 a, 99, .arg 3⟩] (K) := by kernel_rfl
theorem ok_laws_toClueS : OK Tryd.prog 46 F_laws_toClueS.spec := (vbody_ok (vin_ok TPH_35_ok annTPH 3) TPH_35_ok.looks _ _).ofG fun args m p R M h hp => by
 unfold F_laws_toClueS at h
 split at h
 ·injection h with h; injection h with h1 h2; injection h2 with h2 h3; subst h1; subst h2; subst h3
  exact (congrArg At (eq_laws_toClueS _ _ _)).mp ⟨vc_laws_toClueS _ _ hp⟩
 ·cases h
def TPH_36 : Tab := TPH_35.addG 46 F_laws_toClueS
theorem TPH_36_ok : TPH_36.Ok Tryd.prog := TPH_35_ok.addG ok_laws_toClueS
theorem eq_laws_toPuzzle  (pr : List UInt8) (pw : Int) (ph : Int) (n : Nat) (a : List Int) (K : V -> List Blk -> Prop) : VC_laws_toPuzzle  pr pw ph n a K = vbody Tryd.prog (vin Tryd.prog TPH_36 annTPH 3) TPH_36.looks (annTPH 14) 14 [.agg [.str pr, .int .i64 pw, .int .i64 ph, .row 0 n]] [⟨.ints .i64 a, 99, .arg 3⟩] (K) := by kernel_rfl
theorem ok_laws_toPuzzle : OK Tryd.prog 14 F_laws_toPuzzle.spec := (vbody_ok (vin_ok TPH_36_ok annTPH 3) TPH_36_ok.looks _ _).ofG fun args m p R M h hp => by
 unfold F_laws_toPuzzle at h
 split at h
 ·injection h with h; injection h with h1 h2; injection h2 with h2 h3; subst h1; subst h2; subst h3
  exact (congrArg At (eq_laws_toPuzzle _ _ _ _ _ _)).mp ⟨vc_laws_toPuzzle _ _ _ _ _ hp⟩
 ·cases h
def TPH_37 : Tab := TPH_36.addG 14 F_laws_toPuzzle
theorem TPH_37_ok : TPH_37.Ok Tryd.prog := TPH_36_ok.addG ok_laws_toPuzzle
theorem ok_impl_areClues : OK Tryd.prog 94 F_impl_areClues.spec := Go.Proofs.YtickpjdnncpnmaaDoor.PD.ok_areClues
def TPH_38 : Tab := TPH_37.add 94 F_impl_areClues
theorem TPH_38_ok : TPH_38.Ok Tryd.prog := TPH_37_ok.add ok_impl_areClues
theorem eq_spec_pzPower (s : List UInt8) (n : Int) (K : V -> Prop) : VC_spec_pzPower s n K = vbody Tryd.prog (vin Tryd.prog TPH_38 annTPH 3) TPH_38.looks (annTPH 104) 104 [.str s, .int .i64 n] [] (fun v _ => K v) := by kernel_rfl
theorem ok_spec_pzPower : OK Tryd.prog 104 F_spec_pzPower.spec := (vbody_ok (vin_ok TPH_38_ok annTPH 3) TPH_38_ok.looks _ _).ofF fun args m p R h hp => by
 unfold F_spec_pzPower at h
 split at h
 ·injection h with h; injection h with h1 h2; subst h1; subst h2
  exact ⟨rfl, (congrArg At (eq_spec_pzPower _ _ _)).mp ⟨vc_spec_pzPower _ _ hp⟩⟩
 ·cases h
def TPH_39 : Tab := TPH_38.add 104 F_spec_pzPower
theorem TPH_39_ok : TPH_39.Ok Tryd.prog := TPH_38_ok.add ok_spec_pzPower
theorem eq_spec_pzSize (s : List UInt8) (w : Int) (h : Int) (K : V -> Prop) : VC_spec_pzSize s w h K = vbody Tryd.prog (vin Tryd.prog TPH_39 annTPH 3) TPH_39.looks (annTPH 78) 78 [.str s, .int .i64 w, .int .i64 h] [] (fun v _ => K v) := by kernel_rfl
theorem ok_spec_pzSize : OK Tryd.prog 78 F_spec_pzSize.spec := (vbody_ok (vin_ok TPH_39_ok annTPH 3) TPH_39_ok.looks _ _).ofF fun args m p R h hp => by
 unfold F_spec_pzSize at h
 split at h
 ·injection h with h; injection h with h1 h2; subst h1; subst h2
  exact ⟨rfl, (congrArg At (eq_spec_pzSize _ _ _ _)).mp ⟨vc_spec_pzSize _ _ _ hp⟩⟩
 ·cases h
def TPH_40 : Tab := TPH_39.add 78 F_spec_pzSize
theorem TPH_40_ok : TPH_40.Ok Tryd.prog := TPH_39_ok.add ok_spec_pzSize
theorem eq_impl_isSize (w : Int) (h : Int) (K : V -> Prop) : VC_impl_isSize w h K = vbody Tryd.prog (vin Tryd.prog TPH_40 annTPH 3) TPH_40.looks (annTPH 108) 108 [.int .i64 w, .int .i64 h] [] (fun v _ => K v) := by kernel_rfl
theorem ok_impl_isSize : OK Tryd.prog 108 F_impl_isSize.spec := (vbody_ok (vin_ok TPH_40_ok annTPH 3) TPH_40_ok.looks _ _).ofF fun args m p R h hp => by
 unfold F_impl_isSize at h
 split at h
 ·injection h with h; injection h with h1 h2; subst h1; subst h2
  exact ⟨rfl, (congrArg At (eq_impl_isSize _ _ _)).mp ⟨vc_impl_isSize _ _ hp⟩⟩
 ·cases h
def TPH_41 : Tab := TPH_40.add 108 F_impl_isSize
theorem TPH_41_ok : TPH_41.Ok Tryd.prog := TPH_40_ok.add ok_impl_isSize
theorem eq_impl_CountBoards (s : List UInt8) (w : Int) (h : Int) (K : V -> Prop) : VC_impl_CountBoards s w h K = vbody Tryd.prog (vin Tryd.prog TPH_41 annTPH 3) TPH_41.looks (annTPH 88) 88 [.str s, .int .i64 w, .int .i64 h] [] (fun v _ => K v) := by kernel_rfl
theorem ok_impl_CountBoards : OK Tryd.prog 88 F_impl_CountBoards.spec := (vbody_ok (vin_ok TPH_41_ok annTPH 3) TPH_41_ok.looks _ _).ofF fun args m p R h hp => by
 unfold F_impl_CountBoards at h
 split at h
 ·injection h with h; injection h with h1 h2; subst h1; subst h2
  exact ⟨rfl, (congrArg At (eq_impl_CountBoards _ _ _ _)).mp ⟨vc_impl_CountBoards _ _ _ hp⟩⟩
 ·cases h
def TPH_42 : Tab := TPH_41.add 88 F_impl_CountBoards
theorem TPH_42_ok : TPH_42.Ok Tryd.prog := TPH_41_ok.add ok_impl_CountBoards
theorem eq_spec_pzClue (s : List UInt8) (cells : Int) (cx : Int) (cy : Int) (ck : Int) (K : V -> Prop) : VC_spec_pzClue s cells cx cy ck K = vbody Tryd.prog (vin Tryd.prog TPH_42 annTPH 3) TPH_42.looks (annTPH 79) 79 [.str s, .int .i64 cells, .agg [.int .i64 cx, .int .i64 cy, .int .i64 ck]] [] (fun v _ => K v) := by kernel_rfl
theorem ok_spec_pzClue : OK Tryd.prog 79 F_spec_pzClue.spec := (vbody_ok (vin_ok TPH_42_ok annTPH 3) TPH_42_ok.looks _ _).ofF fun args m p R h hp => by
 unfold F_spec_pzClue at h
 split at h
 ·injection h with h; injection h with h1 h2; subst h1; subst h2
  exact ⟨rfl, (congrArg At (eq_spec_pzClue _ _ _ _ _ _)).mp ⟨vc_spec_pzClue _ _ _ _ _ hp⟩⟩
 ·cases h
def TPH_43 : Tab := TPH_42.add 79 F_spec_pzClue
theorem TPH_43_ok : TPH_43.Ok Tryd.prog := TPH_42_ok.add ok_spec_pzClue
theorem eq_spec_pzGood  (pr : List UInt8) (pw : Int) (ph : Int) (n : Nat) (a : List Int) (K : V -> List Blk -> Prop) : VC_spec_pzGood  pr pw ph n a K = vbody Tryd.prog (vin Tryd.prog TPH_43 annTPH 3) TPH_43.looks (annTPH 44) 44 [.agg [.str pr, .int .i64 pw, .int .i64 ph, .row 0 n]] [⟨.ints .i64 a, 83, .rows 3⟩] (K) := by kernel_rfl
theorem ok_spec_pzGood : OK Tryd.prog 44 F_spec_pzGood.spec := (vbody_ok (vin_ok TPH_43_ok annTPH 3) TPH_43_ok.looks _ _).ofFM fun args m p R h hp => by
 unfold F_spec_pzGood at h
 split at h
 ·injection h with h; injection h with h1 h2; subst h1; subst h2
  exact (congrArg At (eq_spec_pzGood _ _ _ _ _ _)).mp ⟨vc_spec_pzGood _ _ _ _ _ hp⟩
 ·cases h
def TPH_44 : Tab := TPH_43.add 44 F_spec_pzGood
theorem TPH_44_ok : TPH_44.Ok Tryd.prog := TPH_43_ok.add ok_spec_pzGood
theorem eq_impl_IsPuzzle  (pr : List UInt8) (pw : Int) (ph : Int) (n : Nat) (a : List Int) (K : V -> List Blk -> Prop) : VC_impl_IsPuzzle  pr pw ph n a K = vbody Tryd.prog (vin Tryd.prog TPH_44 annTPH 3) TPH_44.looks (annTPH 70) 70 [.agg [.str pr, .int .i64 pw, .int .i64 ph, .row 0 n]] [⟨.ints .i64 a, 83, .rows 3⟩] (K) := by kernel_rfl
theorem ok_impl_IsPuzzle : OK Tryd.prog 70 F_impl_IsPuzzle.spec := (vbody_ok (vin_ok TPH_44_ok annTPH 3) TPH_44_ok.looks _ _).ofFM fun args m p R h hp => by
 unfold F_impl_IsPuzzle at h
 split at h
 ·injection h with h; injection h with h1 h2; subst h1; subst h2
  exact (congrArg At (eq_impl_IsPuzzle _ _ _ _ _ _)).mp ⟨vc_impl_IsPuzzle _ _ _ _ _ hp⟩
 ·cases h
def TPH_45 : Tab := TPH_44.add 70 F_impl_IsPuzzle
theorem TPH_45_ok : TPH_45.Ok Tryd.prog := TPH_44_ok.add ok_impl_IsPuzzle
theorem eq_impl_oneClue (n : Int) (K : V -> Prop) : VC_impl_oneClue n K = vbody Tryd.prog (vin Tryd.prog TPH_45 annTPH 3) TPH_45.looks (annTPH 58) 58 [.int .i64 n] [] (fun v _ => K v) := by kernel_rfl
theorem ok_impl_oneClue : OK Tryd.prog 58 F_impl_oneClue.spec := (vbody_ok (vin_ok TPH_45_ok annTPH 3) TPH_45_ok.looks _ _).ofF fun args m p R h hp => by
 unfold F_impl_oneClue at h
 split at h
 ·injection h with h; injection h with h1 h2; subst h1; subst h2
  exact ⟨rfl, (congrArg At (eq_impl_oneClue _ _)).mp ⟨vc_impl_oneClue _ hp⟩⟩
 ·cases h
def TPH_46 : Tab := TPH_45.add 58 F_impl_oneClue
theorem TPH_46_ok : TPH_46.Ok Tryd.prog := TPH_45_ok.add ok_impl_oneClue
theorem eq_impl_clueSet_hasAll (s : Int) (o : Int) (K : V -> Prop) : VC_impl_clueSet_hasAll s o K = vbody Tryd.prog (vin Tryd.prog TPH_46 annTPH 3) TPH_46.looks (annTPH 84) 84 [.int .u64 s, .int .u64 o] [] (fun v _ => K v) := by kernel_rfl
theorem ok_impl_clueSet_hasAll : OK Tryd.prog 84 F_impl_clueSet_hasAll.spec := (vbody_ok (vin_ok TPH_46_ok annTPH 3) TPH_46_ok.looks _ _).ofF fun args m p R h hp => by
 unfold F_impl_clueSet_hasAll at h
 split at h
 ·injection h with h; injection h with h1 h2; subst h1; subst h2
  exact ⟨rfl, (congrArg At (eq_impl_clueSet_hasAll _ _ _)).mp ⟨vc_impl_clueSet_hasAll _ _ hp⟩⟩
 ·cases h
def TPH_47 : Tab := TPH_46.add 84 F_impl_clueSet_hasAll
theorem TPH_47_ok : TPH_47.Ok Tryd.prog := TPH_46_ok.add ok_impl_clueSet_hasAll
theorem eq_impl_clueSet_without (s : Int) (n : Int) (K : V -> Prop) : VC_impl_clueSet_without s n K = vbody Tryd.prog (vin Tryd.prog TPH_47 annTPH 3) TPH_47.looks (annTPH 56) 56 [.int .u64 s, .int .i64 n] [] (fun v _ => K v) := by kernel_rfl
theorem ok_impl_clueSet_without : OK Tryd.prog 56 F_impl_clueSet_without.spec := (vbody_ok (vin_ok TPH_47_ok annTPH 3) TPH_47_ok.looks _ _).ofF fun args m p R h hp => by
 unfold F_impl_clueSet_without at h
 split at h
 ·injection h with h; injection h with h1 h2; subst h1; subst h2
  exact ⟨rfl, (congrArg At (eq_impl_clueSet_without _ _ _)).mp ⟨vc_impl_clueSet_without _ _ hp⟩⟩
 ·cases h
def TPH_48 : Tab := TPH_47.add 56 F_impl_clueSet_without
theorem TPH_48_ok : TPH_48.Ok Tryd.prog := TPH_47_ok.add ok_impl_clueSet_without
theorem eq_impl_withClues (m : Int) (pr : List UInt8) (pw : Int) (ph : Int) (n : Nat) (a : List Int) (K : V -> List Blk -> Prop) : VC_impl_withClues m pr pw ph n a K = vbody Tryd.prog (vin Tryd.prog TPH_48 annTPH 3) TPH_48.looks (annTPH 60) 60 [.agg [.str pr, .int .i64 pw, .int .i64 ph, .row 0 n], .int .u64 m] [⟨.ints .i64 a, 83, .rows 3⟩] (K) := by kernel_rfl
theorem ok_impl_withClues : OK Tryd.prog 60 F_impl_withClues.spec := (vbody_ok (vin_ok TPH_48_ok annTPH 3) TPH_48_ok.looks _ _).ofG fun args m p R M h hp => by
 unfold F_impl_withClues at h
 split at h
 ·injection h with h; injection h with h1 h2; injection h2 with h2 h3; subst h1; subst h2; subst h3
  exact (congrArg At (eq_impl_withClues _ _ _ _ _ _ _)).mp ⟨vc_impl_withClues _ _ _ _ _ _ hp⟩
 ·cases h
def TPH_49 : Tab := TPH_48.addG 60 F_impl_withClues
theorem TPH_49_ok : TPH_49.Ok Tryd.prog := TPH_48_ok.addG ok_impl_withClues
theorem eq_spec_pzWithout (k : Int) (n : Nat) (a : List Int) (K : V -> List Blk -> Prop) : VC_spec_pzWithout k n a K = vbody Tryd.prog (vin Tryd.prog TPH_49 annTPH 3) TPH_49.looks (annTPH 54) 54 [.row 0 n, .int .i64 k] [⟨.ints .i64 a, 83, .rows 3⟩] (K) := by kernel_rfl
theorem ok_spec_pzWithout : OK Tryd.prog 54 F_spec_pzWithout.spec := (vbody_ok (vin_ok TPH_49_ok annTPH 3) TPH_49_ok.looks _ _).ofG fun args m p R M h hp => by
 unfold F_spec_pzWithout at h
 split at h
 ·injection h with h; injection h with h1 h2; injection h2 with h2 h3; subst h1; subst h2; subst h3
  exact (congrArg At (eq_spec_pzWithout _ _ _ _)).mp ⟨vc_spec_pzWithout _ _ _ hp⟩
 ·cases h
def TPH_50 : Tab := TPH_49.addG 54 F_spec_pzWithout
theorem TPH_50_ok : TPH_50.Ok Tryd.prog := TPH_49_ok.addG ok_spec_pzWithout
theorem eq_impl_led (wr : List UInt8) (ww : Int) (wh : Int) (wc : List UInt8) (wx : Int) (wy : Int) (wd : Int) (s : Int) (K : V -> Prop) : VC_impl_led wr ww wh wc wx wy wd s K = vbody Tryd.prog (vin Tryd.prog TPH_50 annTPH 3) TPH_50.looks (annTPH 113) 113 [.agg [.str wr, .int .i64 ww, .int .i64 wh, .str wc, .int .i64 wx, .int .i64 wy, .int .i64 wd], .int .i64 s, .fn 114 []] [] (fun v _ => K v) := by kernel_rfl
theorem ok_impl_led : OK Tryd.prog 113 F_impl_led.spec := (vbody_ok (vin_ok TPH_50_ok annTPH 3) TPH_50_ok.looks _ _).ofF fun args m p R h hp => by
 unfold F_impl_led at h
 split at h
 ·injection h with h; injection h with h1 h2; subst h1; subst h2
  exact ⟨rfl, (congrArg At (eq_impl_led _ _ _ _ _ _ _ _ _)).mp ⟨vc_impl_led _ _ _ _ _ _ _ _ hp⟩⟩
 ·cases h
def TPH_51 : Tab := TPH_50.add 113 F_impl_led
theorem TPH_51_ok : TPH_51.Ok Tryd.prog := TPH_50_ok.add ok_impl_led
theorem eq_impl_sumOf (s : List UInt8) (K : V -> Prop) : VC_impl_sumOf s K = vbody Tryd.prog (vin Tryd.prog TPH_51 annTPH 3) TPH_51.looks (annTPH 112) 112 [.str s] [] (fun v _ => K v) := by kernel_rfl
theorem ok_impl_sumOf : OK Tryd.prog 112 F_impl_sumOf.spec := (vbody_ok (vin_ok TPH_51_ok annTPH 3) TPH_51_ok.looks _ _).ofF fun args m p R h hp => by
 unfold F_impl_sumOf at h
 split at h
 ·injection h with h; injection h with h1 h2; subst h1; subst h2
  exact ⟨rfl, (congrArg At (eq_impl_sumOf _ _)).mp ⟨vc_impl_sumOf _ hp⟩⟩
 ·cases h
def TPH_52 : Tab := TPH_51.add 112 F_impl_sumOf
theorem TPH_52_ok : TPH_52.Ok Tryd.prog := TPH_51_ok.add ok_impl_sumOf
theorem ok_strings_Count : OK Tryd.prog 115 F_strings_Count.spec := Go.Proofs.YtickpjdnncpnmaaDoor.libCount
def TPH_53 : Tab := TPH_52.add 115 F_strings_Count
theorem TPH_53_ok : TPH_53.Ok Tryd.prog := TPH_52_ok.add ok_strings_Count
theorem eq_spec_pzValue (k : Int) (a : Int) (wr : List UInt8) (ww : Int) (wh : Int) (wc : List UInt8) (wx : Int) (wy : Int) (wd : Int) (K : V -> Prop) : VC_spec_pzValue k a wr ww wh wc wx wy wd K = vbody Tryd.prog (vin Tryd.prog TPH_53 annTPH 3) TPH_53.looks (annTPH 87) 87 [.int .i64 k, .int .i64 a, .agg [.str wr, .int .i64 ww, .int .i64 wh, .str wc, .int .i64 wx, .int .i64 wy, .int .i64 wd]] [] (fun v _ => K v) := by kernel_rfl
theorem ok_spec_pzValue : OK Tryd.prog 87 F_spec_pzValue.spec := (vbody_ok (vin_ok TPH_53_ok annTPH 3) TPH_53_ok.looks _ _).ofF fun args m p R h hp => by
 unfold F_spec_pzValue at h
 split at h
 ·injection h with h; injection h with h1 h2; subst h1; subst h2
  exact ⟨rfl, (congrArg At (eq_spec_pzValue _ _ _ _ _ _ _ _ _ _)).mp ⟨vc_spec_pzValue _ _ _ _ _ _ _ _ _ hp⟩⟩
 ·cases h
def TPH_54 : Tab := TPH_53.add 87 F_spec_pzValue
theorem TPH_54_ok : TPH_54.Ok Tryd.prog := TPH_53_ok.add ok_spec_pzValue
theorem eq_spec_pzFits (cx : Int) (cy : Int) (ck : Int) (wr : List UInt8) (ww : Int) (wh : Int) (wc : List UInt8) (wx : Int) (wy : Int) (wd : Int) (K : V -> Prop) : VC_spec_pzFits cx cy ck wr ww wh wc wx wy wd K = vbody Tryd.prog (vin Tryd.prog TPH_54 annTPH 3) TPH_54.looks (annTPH 105) 105 [.agg [.int .i64 cx, .int .i64 cy, .int .i64 ck], .agg [.str wr, .int .i64 ww, .int .i64 wh, .str wc, .int .i64 wx, .int .i64 wy, .int .i64 wd]] [] (fun v _ => K v) := by kernel_rfl
theorem ok_spec_pzFits : OK Tryd.prog 105 F_spec_pzFits.spec := (vbody_ok (vin_ok TPH_54_ok annTPH 3) TPH_54_ok.looks _ _).ofF fun args m p R h hp => by
 unfold F_spec_pzFits at h
 split at h
 ·injection h with h; injection h with h1 h2; subst h1; subst h2
  exact ⟨rfl, (congrArg At (eq_spec_pzFits _ _ _ _ _ _ _ _ _ _ _)).mp ⟨vc_spec_pzFits _ _ _ _ _ _ _ _ _ _ hp⟩⟩
 ·cases h
def TPH_55 : Tab := TPH_54.add 105 F_spec_pzFits
theorem TPH_55_ok : TPH_55.Ok Tryd.prog := TPH_54_ok.add ok_spec_pzFits
theorem eq_impl_clueFrom (wr : List UInt8) (ww : Int) (wh : Int) (wc : List UInt8) (wx : Int) (wy : Int) (wd : Int) (k : Int) (a : Int) (K : V -> Prop) : VC_impl_clueFrom wr ww wh wc wx wy wd k a K = vbody Tryd.prog (vin Tryd.prog TPH_55 annTPH 3) TPH_55.looks (annTPH 92) 92 [.agg [.str wr, .int .i64 ww, .int .i64 wh, .str wc, .int .i64 wx, .int .i64 wy, .int .i64 wd], .int .i64 k, .int .i64 a] [] (fun v _ => K v) := by kernel_rfl
theorem ok_impl_clueFrom : OK Tryd.prog 92 F_impl_clueFrom.spec := (vbody_ok (vin_ok TPH_55_ok annTPH 3) TPH_55_ok.looks _ _).ofF fun args m p R h hp => by
 unfold F_impl_clueFrom at h
 split at h
 ·injection h with h; injection h with h1 h2; subst h1; subst h2
  exact ⟨rfl, (congrArg At (eq_impl_clueFrom _ _ _ _ _ _ _ _ _ _)).mp ⟨vc_impl_clueFrom _ _ _ _ _ _ _ _ _ hp⟩⟩
 ·cases h
def TPH_56 : Tab := TPH_55.add 92 F_impl_clueFrom
theorem TPH_56_ok : TPH_56.Ok Tryd.prog := TPH_55_ok.add ok_impl_clueFrom
theorem eq_impl_doesFit (cx : Int) (cy : Int) (ck : Int) (wr : List UInt8) (ww : Int) (wh : Int) (wc : List UInt8) (wx : Int) (wy : Int) (wd : Int) (K : V -> Prop) : VC_impl_doesFit cx cy ck wr ww wh wc wx wy wd K = vbody Tryd.prog (vin Tryd.prog TPH_56 annTPH 3) TPH_56.looks (annTPH 83) 83 [.agg [.int .i64 cx, .int .i64 cy, .int .i64 ck], .agg [.str wr, .int .i64 ww, .int .i64 wh, .str wc, .int .i64 wx, .int .i64 wy, .int .i64 wd]] [] (fun v _ => K v) := by kernel_rfl
theorem ok_impl_doesFit : OK Tryd.prog 83 F_impl_doesFit.spec := (vbody_ok (vin_ok TPH_56_ok annTPH 3) TPH_56_ok.looks _ _).ofF fun args m p R h hp => by
 unfold F_impl_doesFit at h
 split at h
 ·injection h with h; injection h with h1 h2; subst h1; subst h2
  exact ⟨rfl, (congrArg At (eq_impl_doesFit _ _ _ _ _ _ _ _ _ _ _)).mp ⟨vc_impl_doesFit _ _ _ _ _ _ _ _ _ _ hp⟩⟩
 ·cases h
def TPH_57 : Tab := TPH_56.add 83 F_impl_doesFit
theorem TPH_57_ok : TPH_57.Ok Tryd.prog := TPH_56_ok.add ok_impl_doesFit
theorem eq_impl_allCells (c : Int) (n : Int) (K : V -> List Blk -> Prop) : VC_impl_allCells c n K = vbody Tryd.prog (vin Tryd.prog TPH_57 annTPH 3) TPH_57.looks (annTPH 82) 82 [.int .i64 c, .int .i64 n] [] (K) := by kernel_rfl
theorem ok_impl_allCells : OK Tryd.prog 82 F_impl_allCells.spec := (vbody_ok (vin_ok TPH_57_ok annTPH 3) TPH_57_ok.looks _ _).ofG fun args m p R M h hp => by
 unfold F_impl_allCells at h
 split at h
 ·injection h with h; injection h with h1 h2; injection h2 with h2 h3; subst h1; subst h2; subst h3
  exact (congrArg At (eq_impl_allCells _ _ _)).mp ⟨vc_impl_allCells _ _ hp⟩
 ·cases h
def TPH_58 : Tab := TPH_57.addG 82 F_impl_allCells
theorem TPH_58_ok : TPH_58.Ok Tryd.prog := TPH_57_ok.addG ok_impl_allCells
theorem eq_impl_candidatesOf  (pr : List UInt8) (pw : Int) (ph : Int) (n : Nat) (a : List Int) (K : V -> List Blk -> Prop) : VC_impl_candidatesOf  pr pw ph n a K = vbody Tryd.prog (vin Tryd.prog TPH_58 annTPH 3) TPH_58.looks (annTPH 47) 47 [.agg [.str pr, .int .i64 pw, .int .i64 ph, .row 0 n]] [⟨.ints .i64 a, 83, .rows 3⟩] (K) := by kernel_rfl
theorem ok_impl_candidatesOf : OK Tryd.prog 47 F_impl_candidatesOf.spec := (vbody_ok (vin_ok TPH_58_ok annTPH 3) TPH_58_ok.looks _ _).ofG fun args m p R M h hp => by
 unfold F_impl_candidatesOf at h
 split at h
 ·injection h with h; injection h with h1 h2; injection h2 with h2 h3; subst h1; subst h2; subst h3
  exact (congrArg At (eq_impl_candidatesOf _ _ _ _ _ _)).mp ⟨vc_impl_candidatesOf _ _ _ _ _ hp⟩
 ·cases h
def TPH_59 : Tab := TPH_58.addG 47 F_impl_candidatesOf
theorem TPH_59_ok : TPH_59.Ok Tryd.prog := TPH_58_ok.addG ok_impl_candidatesOf
theorem eq_impl_fitAll (s : Int) (n : Nat) (l : List Sc) (K : V -> List Blk -> Prop) : VC_impl_fitAll s n l K = vbody Tryd.prog (vin Tryd.prog TPH_59 annTPH 3) TPH_59.looks (annTPH 48) 48 [.row 0 n, .int .u64 s] [⟨.recs [.str, .int .u64] (l), 102, .rows 2⟩] (K) := by kernel_rfl
theorem ok_impl_fitAll : OK Tryd.prog 48 F_impl_fitAll.spec := (vbody_ok (vin_ok TPH_59_ok annTPH 3) TPH_59_ok.looks _ _).ofG fun args m p R M h hp => by
 unfold F_impl_fitAll at h
 split at h
 ·injection h with h; injection h with h1 h2; injection h2 with h2 h3; subst h1; subst h2; subst h3
  exact (congrArg At (eq_impl_fitAll _ _ _ _)).mp ⟨vc_impl_fitAll _ _ _ hp⟩
 ·cases h
def TPH_60 : Tab := TPH_59.addG 48 F_impl_fitAll
theorem TPH_60_ok : TPH_60.Ok Tryd.prog := TPH_59_ok.addG ok_impl_fitAll
theorem eq_impl_countFit (s : Int) (n : Nat) (l : List Sc) (K : V -> List Blk -> Prop) : VC_impl_countFit s n l K = vbody Tryd.prog (vin Tryd.prog TPH_60 annTPH 3) TPH_60.looks (annTPH 55) 55 [.row 0 n, .int .u64 s] [⟨.recs [.str, .int .u64] (l), 102, .rows 2⟩] (K) := by kernel_rfl
theorem ok_impl_countFit : OK Tryd.prog 55 F_impl_countFit.spec := (vbody_ok (vin_ok TPH_60_ok annTPH 3) TPH_60_ok.looks _ _).ofFM fun args m p R h hp => by
 unfold F_impl_countFit at h
 split at h
 ·injection h with h; injection h with h1 h2; subst h1; subst h2
  exact (congrArg At (eq_impl_countFit _ _ _ _)).mp ⟨vc_impl_countFit _ _ _ hp⟩
 ·cases h
def TPH_61 : Tab := TPH_60.add 55 F_impl_countFit
theorem TPH_61_ok : TPH_61.Ok Tryd.prog := TPH_60_ok.add ok_impl_countFit
theorem eq_spec_pzLook (b : List UInt8) (pr : List UInt8) (pw : Int) (ph : Int) (n : Nat) (a : List Int) (m : Nat) (l : List (List UInt8)) (mm : Nat) (K : V -> List Blk -> Prop) : VC_spec_pzLook b pr pw ph n a m l mm K = vbody Tryd.prog (vin Tryd.prog (TPH_61.addG 80 (F_spec_pzLook mm)) annTPH 3) (TPH_61.addG 80 (F_spec_pzLook mm)).looks (annTPH 80) 80 [.agg [.str pr, .int .i64 pw, .int .i64 ph, .row 0 n], .str b, .ptr 1 0] [⟨.ints .i64 a, 83, .rows 3⟩, ⟨.vals [.row 2 m], 26, .box⟩, ⟨.strs (l), 9, .row⟩] (K) := by kernel_rfl
theorem eq_spec_pzLook_2 (b : List UInt8) (pr : List UInt8) (pw : Int) (ph : Int) (n : Nat) (a : List Int) (mm : Nat) (K : V -> List Blk -> Prop) : VC_spec_pzLook_2 b pr pw ph n a mm K = vbody Tryd.prog (vin Tryd.prog (TPH_61.addG 80 (F_spec_pzLook mm)) annTPH 3) (TPH_61.addG 80 (F_spec_pzLook mm)).looks (annTPH 80) 80 [.agg [.str pr, .int .i64 pw, .int .i64 ph, .row 0 n], .str b, .ptr 1 0] [⟨.ints .i64 a, 83, .rows 3⟩, ⟨.vals [.raw (.slice none 0 0)], 26, .box⟩] (K) := by kernel_rfl
theorem eq_spec_pzLook_3 (b : List UInt8) (pr : List UInt8) (pw : Int) (ph : Int) (n : Nat) (a : List Int) (m : Nat) (l : List (List UInt8)) (mm : Nat) (K : V -> List Blk -> Prop) : VC_spec_pzLook_3 b pr pw ph n a m l mm K = vbody Tryd.prog (vin Tryd.prog (TPH_61.addG 80 (F_spec_pzLook mm)) annTPH 3) (TPH_61.addG 80 (F_spec_pzLook mm)).looks (annTPH 80) 80 [.agg [.str pr, .int .i64 pw, .int .i64 ph, .row 0 n], .str b, .ptr 1 0] [⟨.ints .i64 a, 83, .arg 3⟩, ⟨.vals [.row 2 m], 26, .box⟩, ⟨.strs (l), 9, .row⟩] (K) := by kernel_rfl
theorem eq_spec_pzLook_4 (b : List UInt8) (pr : List UInt8) (pw : Int) (ph : Int) (n : Nat) (a : List Int) (mm : Nat) (K : V -> List Blk -> Prop) : VC_spec_pzLook_4 b pr pw ph n a mm K = vbody Tryd.prog (vin Tryd.prog (TPH_61.addG 80 (F_spec_pzLook mm)) annTPH 3) (TPH_61.addG 80 (F_spec_pzLook mm)).looks (annTPH 80) 80 [.agg [.str pr, .int .i64 pw, .int .i64 ph, .row 0 n], .str b, .ptr 1 0] [⟨.ints .i64 a, 83, .arg 3⟩, ⟨.vals [.raw (.slice none 0 0)], 26, .box⟩] (K) := by kernel_rfl
theorem ok_spec_pzLook : ∀ mm : Nat, OK Tryd.prog 80 (F_spec_pzLook mm).spec
 | 0 => (vbody_ok (vin_ok TPH_61_ok annTPH 3) TPH_61_ok.looks (annTPH 80) _).ofG fun args m p R M h hp => by
  unfold F_spec_pzLook at h
  split at h
  ·injection h with h; injection h with h1 h2; injection h2 with h2 h3; subst h1; subst h2; subst h3
   exact absurd hp.1 (Nat.not_lt_zero _)
  ·injection h with h; injection h with h1 h2; injection h2 with h2 h3; subst h1; subst h2; subst h3
   exact absurd hp.1 (Nat.not_lt_zero _)
  ·injection h with h; injection h with h1 h2; injection h2 with h2 h3; subst h1; subst h2; subst h3
   exact absurd hp.1 (Nat.not_lt_zero _)
  ·injection h with h; injection h with h1 h2; injection h2 with h2 h3; subst h1; subst h2; subst h3
   exact absurd hp.1 (Nat.not_lt_zero _)
  ·cases h
 | mm + 1 => (vbody_ok (vin_ok (TPH_61_ok.addG (ok_spec_pzLook mm)) annTPH 3) (TPH_61_ok.addG (ok_spec_pzLook mm)).looks _ _).ofG fun args m p R M h hp => by
  unfold F_spec_pzLook at h
  split at h
  ·injection h with h; injection h with h1 h2; injection h2 with h2 h3; subst h1; subst h2; subst h3
   exact (congrArg At (eq_spec_pzLook _ _ _ _ _ _ _ _ mm _)).mp ⟨vc_spec_pzLook _ _ _ _ _ _ _ _ mm hp⟩
  ·injection h with h; injection h with h1 h2; injection h2 with h2 h3; subst h1; subst h2; subst h3
   exact (congrArg At (eq_spec_pzLook_2 _ _ _ _ _ _ mm _)).mp ⟨vc_spec_pzLook_2 _ _ _ _ _ _ mm hp⟩
  ·injection h with h; injection h with h1 h2; injection h2 with h2 h3; subst h1; subst h2; subst h3
   exact (congrArg At (eq_spec_pzLook_3 _ _ _ _ _ _ _ _ mm _)).mp ⟨vc_spec_pzLook_3 _ _ _ _ _ _ _ _ mm hp⟩
  ·injection h with h; injection h with h1 h2; injection h2 with h2 h3; subst h1; subst h2; subst h3
   exact (congrArg At (eq_spec_pzLook_4 _ _ _ _ _ _ mm _)).mp ⟨vc_spec_pzLook_4 _ _ _ _ _ _ mm hp⟩
  ·cases h
def TPH_62 : Tab := TPH_61.addG 80 (F_spec_pzLook 11)
theorem TPH_62_ok : TPH_62.Ok Tryd.prog := TPH_61_ok.addG (ok_spec_pzLook 11)
theorem eq_spec_pzAll  (pr : List UInt8) (pw : Int) (ph : Int) (n : Nat) (a : List Int) (K : V -> List Blk -> Prop) : VC_spec_pzAll  pr pw ph n a K = vbody Tryd.prog (vin Tryd.prog TPH_62 annTPH 3) TPH_62.looks (annTPH 45) 45 [.agg [.str pr, .int .i64 pw, .int .i64 ph, .row 0 n]] [⟨.ints .i64 a, 83, .rows 3⟩] (K) := by kernel_rfl
theorem eq_spec_pzAll_2  (pr : List UInt8) (pw : Int) (ph : Int) (n : Nat) (a : List Int) (K : V -> List Blk -> Prop) : VC_spec_pzAll_2  pr pw ph n a K = vbody Tryd.prog (vin Tryd.prog TPH_62 annTPH 3) TPH_62.looks (annTPH 45) 45 [.agg [.str pr, .int .i64 pw, .int .i64 ph, .row 0 n]] [⟨.ints .i64 a, 83, .arg 3⟩] (K) := by kernel_rfl
theorem ok_spec_pzAll : OK Tryd.prog 45 F_spec_pzAll.spec := (vbody_ok (vin_ok TPH_62_ok annTPH 3) TPH_62_ok.looks _ _).ofG fun args m p R M h hp => by
 unfold F_spec_pzAll at h
 split at h
 ·injection h with h; injection h with h1 h2; injection h2 with h2 h3; subst h1; subst h2; subst h3
  exact (congrArg At (eq_spec_pzAll _ _ _ _ _ _)).mp ⟨vc_spec_pzAll _ _ _ _ _ hp⟩
 ·injection h with h; injection h with h1 h2; injection h2 with h2 h3; subst h1; subst h2; subst h3
  exact (congrArg At (eq_spec_pzAll_2 _ _ _ _ _ _)).mp ⟨vc_spec_pzAll_2 _ _ _ _ _ hp⟩
 ·cases h
def TPH_63 : Tab := TPH_62.addG 45 F_spec_pzAll
theorem TPH_63_ok : TPH_63.Ok Tryd.prog := TPH_62_ok.addG ok_spec_pzAll
theorem eq_spec_HarderPuzzle  (pr : List UInt8) (pw : Int) (ph : Int) (n : Nat) (a : List Int) (K : V -> List Blk -> Prop) : VC_spec_HarderPuzzle  pr pw ph n a K = vbody Tryd.prog (vin Tryd.prog TPH_63 annTPH 3) TPH_63.looks (annTPH 32) 32 [.agg [.str pr, .int .i64 pw, .int .i64 ph, .row 0 n]] [⟨.ints .i64 a, 83, .rows 3⟩] (K) := by kernel_rfl
theorem ok_spec_HarderPuzzle : OK Tryd.prog 32 F_spec_HarderPuzzle.spec := (vbody_ok (vin_ok TPH_63_ok annTPH 3) TPH_63_ok.looks _ _).ofG fun args m p R M h hp => by
 unfold F_spec_HarderPuzzle at h
 split at h
 ·injection h with h; injection h with h1 h2; injection h2 with h2 h3; subst h1; subst h2; subst h3
  exact (congrArg At (eq_spec_HarderPuzzle _ _ _ _ _ _)).mp ⟨vc_spec_HarderPuzzle _ _ _ _ _ hp⟩
 ·cases h
def TPH_64 : Tab := TPH_63.addG 32 F_spec_HarderPuzzle
theorem TPH_64_ok : TPH_64.Ok Tryd.prog := TPH_63_ok.addG ok_spec_HarderPuzzle
theorem eq_impl_HarderPuzzle  (pr : List UInt8) (pw : Int) (ph : Int) (n : Nat) (a : List Int) (K : V -> List Blk -> Prop) : VC_impl_HarderPuzzle  pr pw ph n a K = vbody Tryd.prog (vin Tryd.prog TPH_64 annTPH 3) TPH_64.looks (annTPH 33) 33 [.agg [.str pr, .int .i64 pw, .int .i64 ph, .row 0 n]] [⟨.ints .i64 a, 83, .rows 3⟩] (K) := by kernel_rfl
theorem ok_impl_HarderPuzzle : OK Tryd.prog 33 F_impl_HarderPuzzle.spec := (vbody_ok (vin_ok TPH_64_ok annTPH 3) TPH_64_ok.looks _ _).ofG fun args m p R M h hp => by
 unfold F_impl_HarderPuzzle at h
 split at h
 ·injection h with h; injection h with h1 h2; injection h2 with h2 h3; subst h1; subst h2; subst h3
  exact (congrArg At (eq_impl_HarderPuzzle _ _ _ _ _ _)).mp ⟨vc_impl_HarderPuzzle _ _ _ _ _ hp⟩
 ·cases h
def TPH_65 : Tab := TPH_64.addG 33 F_impl_HarderPuzzle
theorem TPH_65_ok : TPH_65.Ok Tryd.prog := TPH_64_ok.addG ok_impl_HarderPuzzle
def TPH : Tab := TPH_65
theorem TPH_ok : TPH.Ok Tryd.prog := TPH_65_ok
end Go.Proofs.YtickpjdnncpnmaaDoor
