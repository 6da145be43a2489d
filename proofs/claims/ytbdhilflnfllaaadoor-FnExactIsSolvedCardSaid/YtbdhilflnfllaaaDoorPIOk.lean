/- The contracts of this chapter. -/
import Derived.Test.YtbdhilflnfllaaaDoorPDDoor
import Derived.Test.YtbdhilflnfllaaaDoorW9Lib
import Derived.Test.YtbdhilflnfllaaaDoorPVLib
import Derived.Test.YtbdhilflnfllaaaDoorProg
import Derived.Test.YtbdhilflnfllaaaDoorPIPf
import Derived.KernelRfl
namespace Go.Proofs.YtbdhilflnfllaaaDoor
open Go Go.Vi
set_option linter.unusedVariables false
def annTPI : FuncId → Nat → St → Option Ann := fun f => if f = 69 then ann_spec_woRule else if f = 79 then ann_impl_IsRule else if f = 48 then ann_laws_eqClueS else if f = 49 then ann_laws_markClueS else if f = 59 then ann_laws_heldClueS else if f = 44 then ann_laws_toClueS else if f = 71 then ann_spec_pzPower else if f = 74 then ann_impl_CountBoards else if f = 42 then ann_spec_pzGood else if f = 58 then ann_impl_withClues else if f = 86 then ann_impl_led else if f = 85 then ann_impl_sumOf else if f = 78 then ann_spec_pzValue else if f = 65 then ann_impl_allCells else if f = 45 then ann_impl_candidatesOf else if f = 46 then ann_impl_fitAll else if f = 62 then ann_spec_pzLook else (fun _ _ => none)
def TPI_0 : Tab := Tab.none
theorem TPI_0_ok : TPI_0.Ok Tryd.prog := Tab.none_ok
theorem eq_spec_l1In (n : Int) (lo : Int) (hi : Int) (K : V → Prop) : VC_spec_l1In n lo hi K = vbody Tryd.prog (vin Tryd.prog TPI_0 annTPI 3) TPI_0.looks (annTPI 70) 70 [.int .i64 n, .int .i64 lo, .int .i64 hi] [] (fun v _ => K v) := by kernel_rfl
theorem ok_spec_l1In : OK Tryd.prog 70 F_spec_l1In.spec := (vbody_ok (vin_ok TPI_0_ok annTPI 3) TPI_0_ok.looks _ _).ofF fun args m p R h hp => by
  unfold F_spec_l1In at h
  split at h
  · injection h with h; injection h with h1 h2; subst h1; subst h2
    exact ⟨rfl, (congrArg At (eq_spec_l1In _ _ _ _)).mp ⟨vc_spec_l1In _ _ _ hp⟩⟩
  · cases h
def TPI_1 : Tab := TPI_0.add 70 F_spec_l1In
theorem TPI_1_ok : TPI_1.Ok Tryd.prog := TPI_0_ok.add ok_spec_l1In
theorem eq_impl_within (n : Int) (lo : Int) (hi : Int) (K : V → Prop) : VC_impl_within n lo hi K = vbody Tryd.prog (vin Tryd.prog TPI_1 annTPI 3) TPI_1.looks (annTPI 90) 90 [.int .i64 n, .int .i64 lo, .int .i64 hi] [] (fun v _ => K v) := by kernel_rfl
theorem ok_impl_within : OK Tryd.prog 90 F_impl_within.spec := (vbody_ok (vin_ok TPI_1_ok annTPI 3) TPI_1_ok.looks _ _).ofF fun args m p R h hp => by
  unfold F_impl_within at h
  split at h
  · injection h with h; injection h with h1 h2; subst h1; subst h2
    exact ⟨rfl, (congrArg At (eq_impl_within _ _ _ _)).mp ⟨vc_impl_within _ _ _ hp⟩⟩
  · cases h
def TPI_2 : Tab := TPI_1.add 90 F_impl_within
theorem TPI_2_ok : TPI_2.Ok Tryd.prog := TPI_1_ok.add ok_impl_within
theorem eq_impl_digit (b : Int) (K : V → Prop) : VC_impl_digit b K = vbody Tryd.prog (vin Tryd.prog TPI_2 annTPI 3) TPI_2.looks (annTPI 84) 84 [.int .u8 b] [] (fun v _ => K v) := by kernel_rfl
theorem ok_impl_digit : OK Tryd.prog 84 F_impl_digit.spec := (vbody_ok (vin_ok TPI_2_ok annTPI 3) TPI_2_ok.looks _ _).ofF fun args m p R h hp => by
  unfold F_impl_digit at h
  split at h
  · injection h with h; injection h with h1 h2; subst h1; subst h2
    exact ⟨rfl, (congrArg At (eq_impl_digit _ _)).mp ⟨vc_impl_digit _ hp⟩⟩
  · cases h
def TPI_3 : Tab := TPI_2.add 84 F_impl_digit
theorem TPI_3_ok : TPI_3.Ok Tryd.prog := TPI_2_ok.add ok_impl_digit
theorem eq_spec_woRule (s : List UInt8) (K : V → Prop) : VC_spec_woRule s K = vbody Tryd.prog (vin Tryd.prog TPI_3 annTPI 3) TPI_3.looks (annTPI 69) 69 [.str s] [] (fun v _ => K v) := by kernel_rfl
theorem ok_spec_woRule : OK Tryd.prog 69 F_spec_woRule.spec := (vbody_ok (vin_ok TPI_3_ok annTPI 3) TPI_3_ok.looks _ _).ofF fun args m p R h hp => by
  unfold F_spec_woRule at h
  split at h
  · injection h with h; injection h with h1 h2; subst h1; subst h2
    exact ⟨rfl, (congrArg At (eq_spec_woRule _ _)).mp ⟨vc_spec_woRule _ hp⟩⟩
  · cases h
def TPI_4 : Tab := TPI_3.add 69 F_spec_woRule
theorem TPI_4_ok : TPI_4.Ok Tryd.prog := TPI_3_ok.add ok_spec_woRule
theorem eq_impl_IsRule (s : List UInt8) (K : V → Prop) : VC_impl_IsRule s K = vbody Tryd.prog (vin Tryd.prog TPI_4 annTPI 3) TPI_4.looks (annTPI 79) 79 [.str s] [] (fun v _ => K v) := by kernel_rfl
theorem ok_impl_IsRule : OK Tryd.prog 79 F_impl_IsRule.spec := (vbody_ok (vin_ok TPI_4_ok annTPI 3) TPI_4_ok.looks _ _).ofF fun args m p R h hp => by
  unfold F_impl_IsRule at h
  split at h
  · injection h with h; injection h with h1 h2; subst h1; subst h2
    exact ⟨rfl, (congrArg At (eq_impl_IsRule _ _)).mp ⟨vc_impl_IsRule _ hp⟩⟩
  · cases h
def TPI_5 : Tab := TPI_4.add 79 F_impl_IsRule
theorem TPI_5_ok : TPI_5.Ok Tryd.prog := TPI_4_ok.add ok_impl_IsRule
theorem eq_spec_woColour (wr : List UInt8) (ww : Int) (wh : Int) (wc : List UInt8) (wx : Int) (wy : Int) (wd : Int) (x : Int) (y : Int) (K : V → Prop) : VC_spec_woColour wr ww wh wc wx wy wd x y K = vbody Tryd.prog (vin Tryd.prog TPI_5 annTPI 3) TPI_5.looks (annTPI 103) 103 [.agg [.str wr, .int .i64 ww, .int .i64 wh, .str wc, .int .i64 wx, .int .i64 wy, .int .i64 wd], .int .i64 x, .int .i64 y] [] (fun v _ => K v) := by kernel_rfl
theorem ok_spec_woColour : OK Tryd.prog 103 F_spec_woColour.spec := (vbody_ok (vin_ok TPI_5_ok annTPI 3) TPI_5_ok.looks _ _).ofF fun args m p R h hp => by
  unfold F_spec_woColour at h
  split at h
  · injection h with h; injection h with h1 h2; subst h1; subst h2
    exact ⟨rfl, (congrArg At (eq_spec_woColour _ _ _ _ _ _ _ _ _ _)).mp ⟨vc_spec_woColour _ _ _ _ _ _ _ _ _ hp⟩⟩
  · cases h
def TPI_6 : Tab := TPI_5.add 103 F_spec_woColour
theorem TPI_6_ok : TPI_6.Ok Tryd.prog := TPI_5_ok.add ok_spec_woColour
theorem eq_impl_board_colour (wr : List UInt8) (ww : Int) (wh : Int) (wc : List UInt8) (wx : Int) (wy : Int) (wd : Int) (x : Int) (y : Int) (K : V → Prop) : VC_impl_board_colour wr ww wh wc wx wy wd x y K = vbody Tryd.prog (vin Tryd.prog TPI_6 annTPI 3) TPI_6.looks (annTPI 94) 94 [.agg [.str wr, .int .i64 ww, .int .i64 wh, .str wc, .int .i64 wx, .int .i64 wy, .int .i64 wd], .int .i64 x, .int .i64 y] [] (fun v _ => K v) := by kernel_rfl
theorem ok_impl_board_colour : OK Tryd.prog 94 F_impl_board_colour.spec := (vbody_ok (vin_ok TPI_6_ok annTPI 3) TPI_6_ok.looks _ _).ofF fun args m p R h hp => by
  unfold F_impl_board_colour at h
  split at h
  · injection h with h; injection h with h1 h2; subst h1; subst h2
    exact ⟨rfl, (congrArg At (eq_impl_board_colour _ _ _ _ _ _ _ _ _ _)).mp ⟨vc_impl_board_colour _ _ _ _ _ _ _ _ _ hp⟩⟩
  · cases h
def TPI_7 : Tab := TPI_6.add 94 F_impl_board_colour
theorem TPI_7_ok : TPI_7.Ok Tryd.prog := TPI_6_ok.add ok_impl_board_colour
theorem ok_strconv_formatBase10 : OK Tryd.prog 109 F_strconv_formatBase10.spec := Go.Proofs.YtbdhilflnfllaaaDoor.never_ok _
def TPI_8 : Tab := TPI_7.add 109 F_strconv_formatBase10
theorem TPI_8_ok : TPI_8.Ok Tryd.prog := TPI_7_ok.add ok_strconv_formatBase10
theorem ok_strconv_formatBits : OK Tryd.prog 110 F_strconv_formatBits.spec := Go.Proofs.YtbdhilflnfllaaaDoor.never_ok _
def TPI_9 : Tab := TPI_8.add 110 F_strconv_formatBits
theorem TPI_9_ok : TPI_9.Ok Tryd.prog := TPI_8_ok.add ok_strconv_formatBits
theorem ok_strconv_numDigits : OK Tryd.prog 108 F_strconv_numDigits.spec := Go.Proofs.YtbdhilflnfllaaaDoor.never_ok _
def TPI_10 : Tab := TPI_9.add 108 F_strconv_numDigits
theorem TPI_10_ok : TPI_10.Ok Tryd.prog := TPI_9_ok.add ok_strconv_numDigits
theorem eq_spec_l1Num (n : Int) (K : V → Prop) : VC_spec_l1Num n K = vbody Tryd.prog (vin Tryd.prog TPI_10 annTPI 0) TPI_10.looks (annTPI 73) 73 [.int .i64 n] [] (fun v _ => K v) := by kernel_rfl
theorem ok_spec_l1Num : OK Tryd.prog 73 F_spec_l1Num.spec := (vbody_ok (vin_ok TPI_10_ok annTPI 0) TPI_10_ok.looks _ _).ofF fun args m p R h hp => by
  unfold F_spec_l1Num at h
  split at h
  · injection h with h; injection h with h1 h2; subst h1; subst h2
    exact ⟨rfl, (congrArg At (eq_spec_l1Num _ _)).mp ⟨vc_spec_l1Num _ hp⟩⟩
  · cases h
def TPI_11 : Tab := TPI_10.add 73 F_spec_l1Num
theorem TPI_11_ok : TPI_11.Ok Tryd.prog := TPI_10_ok.add ok_spec_l1Num
theorem eq_strconv_FormatInt (n : Int) (b : Int) (K : V → Prop) : VC_strconv_FormatInt n b K = vbody Tryd.prog (vin Tryd.prog TPI_11 annTPI 3) TPI_11.looks (annTPI 93) 93 [.int .i64 n, .int .i64 b] [] (fun v _ => K v) := by kernel_rfl
theorem ok_strconv_FormatInt : OK Tryd.prog 93 F_strconv_FormatInt.spec := (vbody_ok (vin_ok TPI_11_ok annTPI 3) TPI_11_ok.looks _ _).ofF fun args m p R h hp => by
  unfold F_strconv_FormatInt at h
  split at h
  · injection h with h; injection h with h1 h2; subst h1; subst h2
    exact ⟨rfl, (congrArg At (eq_strconv_FormatInt _ _ _)).mp ⟨vc_strconv_FormatInt _ _ hp⟩⟩
  · cases h
def TPI_12 : Tab := TPI_11.add 93 F_strconv_FormatInt
theorem TPI_12_ok : TPI_12.Ok Tryd.prog := TPI_11_ok.add ok_strconv_FormatInt
theorem eq_strconv_Itoa (n : Int) (K : V → Prop) : VC_strconv_Itoa n K = vbody Tryd.prog (vin Tryd.prog TPI_12 annTPI 3) TPI_12.looks (annTPI 76) 76 [.int .i64 n] [] (fun v _ => K v) := by kernel_rfl
theorem ok_strconv_Itoa : OK Tryd.prog 76 F_strconv_Itoa.spec := (vbody_ok (vin_ok TPI_12_ok annTPI 3) TPI_12_ok.looks _ _).ofF fun args m p R h hp => by
  unfold F_strconv_Itoa at h
  split at h
  · injection h with h; injection h with h1 h2; subst h1; subst h2
    exact ⟨rfl, (congrArg At (eq_strconv_Itoa _ _)).mp ⟨vc_strconv_Itoa _ hp⟩⟩
  · cases h
def TPI_13 : Tab := TPI_12.add 76 F_strconv_Itoa
theorem TPI_13_ok : TPI_13.Ok Tryd.prog := TPI_12_ok.add ok_strconv_Itoa
theorem eq_spec_l1Mod (n : Int) (m : Int) (K : V → Prop) : VC_spec_l1Mod n m K = vbody Tryd.prog (vin Tryd.prog TPI_13 annTPI 3) TPI_13.looks (annTPI 113) 113 [.int .i64 n, .int .i64 m] [] (fun v _ => K v) := by kernel_rfl
theorem ok_spec_l1Mod : OK Tryd.prog 113 F_spec_l1Mod.spec := (vbody_ok (vin_ok TPI_13_ok annTPI 3) TPI_13_ok.looks _ _).ofF fun args m p R h hp => by
  unfold F_spec_l1Mod at h
  split at h
  · injection h with h; injection h with h1 h2; subst h1; subst h2
    exact ⟨rfl, (congrArg At (eq_spec_l1Mod _ _ _)).mp ⟨vc_spec_l1Mod _ _ hp⟩⟩
  · cases h
def TPI_14 : Tab := TPI_13.add 113 F_spec_l1Mod
theorem TPI_14_ok : TPI_14.Ok Tryd.prog := TPI_13_ok.add ok_spec_l1Mod
theorem eq_spec_woTurn (b : Int) (K : V → Prop) : VC_spec_woTurn b K = vbody Tryd.prog (vin Tryd.prog TPI_14 annTPI 3) TPI_14.looks (annTPI 104) 104 [.int .u8 b] [] (fun v _ => K v) := by kernel_rfl
theorem ok_spec_woTurn : OK Tryd.prog 104 F_spec_woTurn.spec := (vbody_ok (vin_ok TPI_14_ok annTPI 3) TPI_14_ok.looks _ _).ofF fun args m p R h hp => by
  unfold F_spec_woTurn at h
  split at h
  · injection h with h; injection h with h1 h2; subst h1; subst h2
    exact ⟨rfl, (congrArg At (eq_spec_woTurn _ _)).mp ⟨vc_spec_woTurn _ hp⟩⟩
  · cases h
def TPI_15 : Tab := TPI_14.add 104 F_spec_woTurn
theorem TPI_15_ok : TPI_15.Ok Tryd.prog := TPI_14_ok.add ok_spec_woTurn
theorem eq_impl_quarters (b : Int) (K : V → Prop) : VC_impl_quarters b K = vbody Tryd.prog (vin Tryd.prog TPI_15 annTPI 3) TPI_15.looks (annTPI 96) 96 [.int .u8 b] [] (fun v _ => K v) := by kernel_rfl
theorem ok_impl_quarters : OK Tryd.prog 96 F_impl_quarters.spec := (vbody_ok (vin_ok TPI_15_ok annTPI 3) TPI_15_ok.looks _ _).ofF fun args m p R h hp => by
  unfold F_impl_quarters at h
  split at h
  · injection h with h; injection h with h1 h2; subst h1; subst h2
    exact ⟨rfl, (congrArg At (eq_impl_quarters _ _)).mp ⟨vc_impl_quarters _ hp⟩⟩
  · cases h
def TPI_16 : Tab := TPI_15.add 96 F_impl_quarters
theorem TPI_16_ok : TPI_16.Ok Tryd.prog := TPI_15_ok.add ok_impl_quarters
theorem eq_impl_direction (d : Int) (K : V → Prop) : VC_impl_direction d K = vbody Tryd.prog (vin Tryd.prog TPI_16 annTPI 3) TPI_16.looks (annTPI 111) 111 [.int .i64 d] [] (fun v _ => K v) := by kernel_rfl
theorem ok_impl_direction : OK Tryd.prog 111 F_impl_direction.spec := (vbody_ok (vin_ok TPI_16_ok annTPI 3) TPI_16_ok.looks _ _).ofF fun args m p R h hp => by
  unfold F_impl_direction at h
  split at h
  · injection h with h; injection h with h1 h2; subst h1; subst h2
    exact ⟨rfl, (congrArg At (eq_impl_direction _ _)).mp ⟨vc_impl_direction _ hp⟩⟩
  · cases h
def TPI_17 : Tab := TPI_16.add 111 F_impl_direction
theorem TPI_17_ok : TPI_17.Ok Tryd.prog := TPI_16_ok.add ok_impl_direction
theorem eq_impl_board_sign (wr : List UInt8) (ww : Int) (wh : Int) (wc : List UInt8) (wx : Int) (wy : Int) (wd : Int) (K : V → Prop) : VC_impl_board_sign wr ww wh wc wx wy wd K = vbody Tryd.prog (vin Tryd.prog TPI_17 annTPI 3) TPI_17.looks (annTPI 97) 97 [.agg [.str wr, .int .i64 ww, .int .i64 wh, .str wc, .int .i64 wx, .int .i64 wy, .int .i64 wd]] [] (fun v _ => K v) := by kernel_rfl
theorem ok_impl_board_sign : OK Tryd.prog 97 F_impl_board_sign.spec := (vbody_ok (vin_ok TPI_17_ok annTPI 3) TPI_17_ok.looks _ _).ofF fun args m p R h hp => by
  unfold F_impl_board_sign at h
  split at h
  · injection h with h; injection h with h1 h2; subst h1; subst h2
    exact ⟨rfl, (congrArg At (eq_impl_board_sign _ _ _ _ _ _ _ _)).mp ⟨vc_impl_board_sign _ _ _ _ _ _ _ hp⟩⟩
  · cases h
def TPI_18 : Tab := TPI_17.add 97 F_impl_board_sign
theorem TPI_18_ok : TPI_18.Ok Tryd.prog := TPI_17_ok.add ok_impl_board_sign
theorem eq_impl_board_painted (wr : List UInt8) (ww : Int) (wh : Int) (wc : List UInt8) (wx : Int) (wy : Int) (wd : Int) (x : Int) (y : Int) (k : Int) (K : V → Prop) : VC_impl_board_painted wr ww wh wc wx wy wd x y k K = vbody Tryd.prog (vin Tryd.prog TPI_18 annTPI 3) TPI_18.looks (annTPI 98) 98 [.agg [.str wr, .int .i64 ww, .int .i64 wh, .str wc, .int .i64 wx, .int .i64 wy, .int .i64 wd], .int .i64 x, .int .i64 y, .int .i64 k] [] (fun v _ => K v) := by kernel_rfl
theorem ok_impl_board_painted : OK Tryd.prog 98 F_impl_board_painted.spec := (vbody_ok (vin_ok TPI_18_ok annTPI 3) TPI_18_ok.looks _ _).ofF fun args m p R h hp => by
  unfold F_impl_board_painted at h
  split at h
  · injection h with h; injection h with h1 h2; subst h1; subst h2
    exact ⟨rfl, (congrArg At (eq_impl_board_painted _ _ _ _ _ _ _ _ _ _ _)).mp ⟨vc_impl_board_painted _ _ _ _ _ _ _ _ _ _ hp⟩⟩
  · cases h
def TPI_19 : Tab := TPI_18.add 98 F_impl_board_painted
theorem TPI_19_ok : TPI_19.Ok Tryd.prog := TPI_18_ok.add ok_impl_board_painted
theorem eq_impl_board_turned (wr : List UInt8) (ww : Int) (wh : Int) (wc : List UInt8) (wx : Int) (wy : Int) (wd : Int) (q : Int) (K : V → Prop) : VC_impl_board_turned wr ww wh wc wx wy wd q K = vbody Tryd.prog (vin Tryd.prog TPI_19 annTPI 3) TPI_19.looks (annTPI 95) 95 [.agg [.str wr, .int .i64 ww, .int .i64 wh, .str wc, .int .i64 wx, .int .i64 wy, .int .i64 wd], .int .i64 q] [] (fun v _ => K v) := by kernel_rfl
theorem ok_impl_board_turned : OK Tryd.prog 95 F_impl_board_turned.spec := (vbody_ok (vin_ok TPI_19_ok annTPI 3) TPI_19_ok.looks _ _).ofF fun args m p R h hp => by
  unfold F_impl_board_turned at h
  split at h
  · injection h with h; injection h with h1 h2; subst h1; subst h2
    exact ⟨rfl, (congrArg At (eq_impl_board_turned _ _ _ _ _ _ _ _ _)).mp ⟨vc_impl_board_turned _ _ _ _ _ _ _ _ hp⟩⟩
  · cases h
def TPI_20 : Tab := TPI_19.add 95 F_impl_board_turned
theorem TPI_20_ok : TPI_20.Ok Tryd.prog := TPI_19_ok.add ok_impl_board_turned
theorem eq_impl_board_moved (wr : List UInt8) (ww : Int) (wh : Int) (wc : List UInt8) (wx : Int) (wy : Int) (wd : Int) (k : Int) (K : V → Prop) : VC_impl_board_moved wr ww wh wc wx wy wd k K = vbody Tryd.prog (vin Tryd.prog TPI_20 annTPI 3) TPI_20.looks (annTPI 99) 99 [.agg [.str wr, .int .i64 ww, .int .i64 wh, .str wc, .int .i64 wx, .int .i64 wy, .int .i64 wd], .int .i64 k] [] (fun v _ => K v) := by kernel_rfl
theorem ok_impl_board_moved : OK Tryd.prog 99 F_impl_board_moved.spec := (vbody_ok (vin_ok TPI_20_ok annTPI 3) TPI_20_ok.looks _ _).ofF fun args m p R h hp => by
  unfold F_impl_board_moved at h
  split at h
  · injection h with h; injection h with h1 h2; subst h1; subst h2
    exact ⟨rfl, (congrArg At (eq_impl_board_moved _ _ _ _ _ _ _ _ _)).mp ⟨vc_impl_board_moved _ _ _ _ _ _ _ _ hp⟩⟩
  · cases h
def TPI_21 : Tab := TPI_20.add 99 F_impl_board_moved
theorem TPI_21_ok : TPI_21.Ok Tryd.prog := TPI_20_ok.add ok_impl_board_moved
theorem eq_spec_woPaint (x : Int) (y : Int) (k : Int) (wr : List UInt8) (ww : Int) (wh : Int) (wc : List UInt8) (wx : Int) (wy : Int) (wd : Int) (e : TypeId) (K : V → List Blk → Prop) : VC_spec_woPaint x y k wr ww wh wc wx wy wd e K = vbody Tryd.prog (vin Tryd.prog TPI_21 annTPI 3) TPI_21.looks (annTPI 105) 105 [.ptr 0 0, .int .i64 x, .int .i64 y, .int .i64 k] [⟨.vals [.str wr, .int .i64 ww, .int .i64 wh, .str wc, .int .i64 wx, .int .i64 wy, .int .i64 wd], e, .box⟩] (K) := by kernel_rfl
theorem ok_spec_woPaint : OK Tryd.prog 105 F_spec_woPaint.spec := (vbody_ok (vin_ok TPI_21_ok annTPI 3) TPI_21_ok.looks _ _).ofG fun args m p R M h hp => by
  unfold F_spec_woPaint at h
  split at h
  · injection h with h; injection h with h1 h2; injection h2 with h2 h3; subst h1; subst h2; subst h3
    exact (congrArg At (eq_spec_woPaint _ _ _ _ _ _ _ _ _ _ _ _)).mp ⟨vc_spec_woPaint _ _ _ _ _ _ _ _ _ _ _ hp⟩
  · cases h
def TPI_22 : Tab := TPI_21.addG 105 F_spec_woPaint
theorem TPI_22_ok : TPI_22.Ok Tryd.prog := TPI_21_ok.addG ok_spec_woPaint
theorem eq_spec_woGo (k : Int) (wr : List UInt8) (ww : Int) (wh : Int) (wc : List UInt8) (wx : Int) (wy : Int) (wd : Int) (e : TypeId) (K : V → List Blk → Prop) : VC_spec_woGo k wr ww wh wc wx wy wd e K = vbody Tryd.prog (vin Tryd.prog TPI_22 annTPI 3) TPI_22.looks (annTPI 106) 106 [.ptr 0 0, .int .i64 k] [⟨.vals [.str wr, .int .i64 ww, .int .i64 wh, .str wc, .int .i64 wx, .int .i64 wy, .int .i64 wd], e, .box⟩] (K) := by kernel_rfl
theorem ok_spec_woGo : OK Tryd.prog 106 F_spec_woGo.spec := (vbody_ok (vin_ok TPI_22_ok annTPI 3) TPI_22_ok.looks _ _).ofG fun args m p R M h hp => by
  unfold F_spec_woGo at h
  split at h
  · injection h with h; injection h with h1 h2; injection h2 with h2 h3; subst h1; subst h2; subst h3
    exact (congrArg At (eq_spec_woGo _ _ _ _ _ _ _ _ _ _)).mp ⟨vc_spec_woGo _ _ _ _ _ _ _ _ _ hp⟩
  · cases h
def TPI_23 : Tab := TPI_22.addG 106 F_spec_woGo
theorem TPI_23_ok : TPI_23.Ok Tryd.prog := TPI_22_ok.addG ok_spec_woGo
theorem eq_spec_woStep (wr : List UInt8) (ww : Int) (wh : Int) (wc : List UInt8) (wx : Int) (wy : Int) (wd : Int) (K : V → Prop) : VC_spec_woStep wr ww wh wc wx wy wd K = vbody Tryd.prog (vin Tryd.prog TPI_23 annTPI 4) TPI_23.looks (annTPI 89) 89 [.agg [.str wr, .int .i64 ww, .int .i64 wh, .str wc, .int .i64 wx, .int .i64 wy, .int .i64 wd]] [] (fun v _ => K v) := by kernel_rfl
theorem ok_spec_woStep : OK Tryd.prog 89 F_spec_woStep.spec := (vbody_ok (vin_ok TPI_23_ok annTPI 4) TPI_23_ok.looks _ _).ofF fun args m p R h hp => by
  unfold F_spec_woStep at h
  split at h
  · injection h with h; injection h with h1 h2; subst h1; subst h2
    exact ⟨rfl, (congrArg At (eq_spec_woStep _ _ _ _ _ _ _ _)).mp ⟨vc_spec_woStep _ _ _ _ _ _ _ hp⟩⟩
  · cases h
def TPI_24 : Tab := TPI_23.add 89 F_spec_woStep
theorem TPI_24_ok : TPI_24.Ok Tryd.prog := TPI_23_ok.add ok_spec_woStep
theorem eq_impl_board_forth (wr : List UInt8) (ww : Int) (wh : Int) (wc : List UInt8) (wx : Int) (wy : Int) (wd : Int) (K : V → Prop) : VC_impl_board_forth wr ww wh wc wx wy wd K = vbody Tryd.prog (vin Tryd.prog TPI_24 annTPI 4) TPI_24.looks (annTPI 87) 87 [.agg [.str wr, .int .i64 ww, .int .i64 wh, .str wc, .int .i64 wx, .int .i64 wy, .int .i64 wd]] [] (fun v _ => K v) := by kernel_rfl
theorem ok_impl_board_forth : OK Tryd.prog 87 F_impl_board_forth.spec := (vbody_ok (vin_ok TPI_24_ok annTPI 4) TPI_24_ok.looks _ _).ofF fun args m p R h hp => by
  unfold F_impl_board_forth at h
  split at h
  · injection h with h; injection h with h1 h2; subst h1; subst h2
    exact ⟨rfl, (congrArg At (eq_impl_board_forth _ _ _ _ _ _ _ _)).mp ⟨vc_impl_board_forth _ _ _ _ _ _ _ hp⟩⟩
  · cases h
def TPI_25 : Tab := TPI_24.add 87 F_impl_board_forth
theorem TPI_25_ok : TPI_25.Ok Tryd.prog := TPI_24_ok.add ok_impl_board_forth
theorem eq_laws_eqClue (ax : Int) (ay : Int) (ak : Int) (bx : Int) (by_ : Int) (bk : Int) (K : V → Prop) : VC_laws_eqClue ax ay ak bx by_ bk K = vbody Tryd.prog (vin Tryd.prog TPI_25 annTPI 3) TPI_25.looks (annTPI 68) 68 [.agg [.int .i64 ax, .int .i64 ay, .int .i64 ak], .agg [.int .i64 bx, .int .i64 by_, .int .i64 bk]] [] (fun v _ => K v) := by kernel_rfl
theorem ok_laws_eqClue : OK Tryd.prog 68 F_laws_eqClue.spec := (vbody_ok (vin_ok TPI_25_ok annTPI 3) TPI_25_ok.looks _ _).ofF fun args m p R h hp => by
  unfold F_laws_eqClue at h
  split at h
  · injection h with h; injection h with h1 h2; subst h1; subst h2
    exact ⟨rfl, (congrArg At (eq_laws_eqClue _ _ _ _ _ _ _)).mp ⟨vc_laws_eqClue _ _ _ _ _ _ hp⟩⟩
  · cases h
def TPI_26 : Tab := TPI_25.add 68 F_laws_eqClue
theorem TPI_26_ok : TPI_26.Ok Tryd.prog := TPI_25_ok.add ok_laws_eqClue
theorem eq_laws_eqClueS  (n : Nat) (m : Nat) (a : List Int) (b : List Int) (K : V → List Blk → Prop) : VC_laws_eqClueS  n m a b K = vbody Tryd.prog (vin Tryd.prog TPI_26 annTPI 3) TPI_26.looks (annTPI 48) 48 [.row 0 n, .row 1 m] [⟨.ints .i64 a, 74, .rows 3⟩, ⟨.ints .i64 b, 74, .rows 3⟩] (K) := by kernel_rfl
theorem ok_laws_eqClueS : OK Tryd.prog 48 F_laws_eqClueS.spec := (vbody_ok (vin_ok TPI_26_ok annTPI 3) TPI_26_ok.looks _ _).ofFM fun args m p R h hp => by
  unfold F_laws_eqClueS at h
  split at h
  · injection h with h; injection h with h1 h2; subst h1; subst h2
    exact (congrArg At (eq_laws_eqClueS _ _ _ _ _)).mp ⟨vc_laws_eqClueS _ _ _ _ hp⟩
  · cases h
def TPI_27 : Tab := TPI_26.add 48 F_laws_eqClueS
theorem TPI_27_ok : TPI_27.Ok Tryd.prog := TPI_26_ok.add ok_laws_eqClueS
theorem eq_laws_eqPuzzle  (ar : List UInt8) (aw : Int) (ah : Int) (cr : List UInt8) (cw : Int) (ch : Int) (n : Nat) (m : Nat) (a : List Int) (b : List Int) (K : V → List Blk → Prop) : VC_laws_eqPuzzle  ar aw ah cr cw ch n m a b K = vbody Tryd.prog (vin Tryd.prog TPI_27 annTPI 3) TPI_27.looks (annTPI 17) 17 [.agg [.str ar, .int .i64 aw, .int .i64 ah, .row 0 n], .agg [.str cr, .int .i64 cw, .int .i64 ch, .row 1 m]] [⟨.ints .i64 a, 74, .rows 3⟩, ⟨.ints .i64 b, 74, .rows 3⟩] (K) := by kernel_rfl
theorem ok_laws_eqPuzzle : OK Tryd.prog 17 F_laws_eqPuzzle.spec := (vbody_ok (vin_ok TPI_27_ok annTPI 3) TPI_27_ok.looks _ _).ofFM fun args m p R h hp => by
  unfold F_laws_eqPuzzle at h
  split at h
  · injection h with h; injection h with h1 h2; subst h1; subst h2
    exact (congrArg At (eq_laws_eqPuzzle _ _ _ _ _ _ _ _ _ _ _)).mp ⟨vc_laws_eqPuzzle _ _ _ _ _ _ _ _ _ _ hp⟩
  · cases h
def TPI_28 : Tab := TPI_27.add 17 F_laws_eqPuzzle
theorem TPI_28_ok : TPI_28.Ok Tryd.prog := TPI_27_ok.add ok_laws_eqPuzzle
theorem eq_laws_markClueS (k : Int) (n : Nat) (a : List Int) (K : V → List Blk → Prop) : VC_laws_markClueS k n a K = vbody Tryd.prog (vin Tryd.prog TPI_28 annTPI 3) TPI_28.looks (annTPI 49) 49 [.row 0 n, .int .i64 k] [⟨.ints .i64 a, 74, .rows 3⟩] (K) := by kernel_rfl
theorem ok_laws_markClueS : OK Tryd.prog 49 F_laws_markClueS.spec := (vbody_ok (vin_ok TPI_28_ok annTPI 3) TPI_28_ok.looks _ _).ofG fun args m p R M h hp => by
  unfold F_laws_markClueS at h
  split at h
  · injection h with h; injection h with h1 h2; injection h2 with h2 h3; subst h1; subst h2; subst h3
    exact (congrArg At (eq_laws_markClueS _ _ _ _)).mp ⟨vc_laws_markClueS _ _ _ hp⟩
  · cases h
def TPI_29 : Tab := TPI_28.addG 49 F_laws_markClueS
theorem TPI_29_ok : TPI_29.Ok Tryd.prog := TPI_28_ok.addG ok_laws_markClueS
theorem eq_laws_heldClueS (k : Int) (n : Nat) (a : List Int) (K : V → List Blk → Prop) : VC_laws_heldClueS k n a K = vbody Tryd.prog (vin Tryd.prog TPI_29 annTPI 3) TPI_29.looks (annTPI 59) 59 [.row 0 n, .int .i64 k] [⟨.ints .i64 a, 74, .rows 3⟩] (K) := by kernel_rfl
theorem ok_laws_heldClueS : OK Tryd.prog 59 F_laws_heldClueS.spec := (vbody_ok (vin_ok TPI_29_ok annTPI 3) TPI_29_ok.looks _ _).ofFM fun args m p R h hp => by
  unfold F_laws_heldClueS at h
  split at h
  · injection h with h; injection h with h1 h2; subst h1; subst h2
    exact (congrArg At (eq_laws_heldClueS _ _ _ _)).mp ⟨vc_laws_heldClueS _ _ _ hp⟩
  · cases h
def TPI_30 : Tab := TPI_29.add 59 F_laws_heldClueS
theorem TPI_30_ok : TPI_30.Ok Tryd.prog := TPI_29_ok.add ok_laws_heldClueS
theorem eq_laws_markPuzzle (k : Int) (pr : List UInt8) (pw : Int) (ph : Int) (n : Nat) (a : List Int) (K : V → List Blk → Prop) : VC_laws_markPuzzle k pr pw ph n a K = vbody Tryd.prog (vin Tryd.prog TPI_30 annTPI 3) TPI_30.looks (annTPI 18) 18 [.agg [.str pr, .int .i64 pw, .int .i64 ph, .row 0 n], .int .i64 k] [⟨.ints .i64 a, 74, .rows 3⟩] (K) := by kernel_rfl
theorem ok_laws_markPuzzle : OK Tryd.prog 18 F_laws_markPuzzle.spec := (vbody_ok (vin_ok TPI_30_ok annTPI 3) TPI_30_ok.looks _ _).ofG fun args m p R M h hp => by
  unfold F_laws_markPuzzle at h
  split at h
  · injection h with h; injection h with h1 h2; injection h2 with h2 h3; subst h1; subst h2; subst h3
    exact (congrArg At (eq_laws_markPuzzle _ _ _ _ _ _ _)).mp ⟨vc_laws_markPuzzle _ _ _ _ _ _ hp⟩
  · cases h
def TPI_31 : Tab := TPI_30.addG 18 F_laws_markPuzzle
theorem TPI_31_ok : TPI_31.Ok Tryd.prog := TPI_30_ok.addG ok_laws_markPuzzle
theorem eq_laws_heldPuzzle (k : Int) (pr : List UInt8) (pw : Int) (ph : Int) (n : Nat) (a : List Int) (K : V → List Blk → Prop) : VC_laws_heldPuzzle k pr pw ph n a K = vbody Tryd.prog (vin Tryd.prog TPI_31 annTPI 3) TPI_31.looks (annTPI 40) 40 [.agg [.str pr, .int .i64 pw, .int .i64 ph, .row 0 n], .int .i64 k] [⟨.ints .i64 a, 74, .rows 3⟩] (K) := by kernel_rfl
theorem ok_laws_heldPuzzle : OK Tryd.prog 40 F_laws_heldPuzzle.spec := (vbody_ok (vin_ok TPI_31_ok annTPI 3) TPI_31_ok.looks _ _).ofFM fun args m p R h hp => by
  unfold F_laws_heldPuzzle at h
  split at h
  · injection h with h; injection h with h1 h2; subst h1; subst h2
    exact (congrArg At (eq_laws_heldPuzzle _ _ _ _ _ _ _)).mp ⟨vc_laws_heldPuzzle _ _ _ _ _ _ hp⟩
  · cases h
def TPI_32 : Tab := TPI_31.add 40 F_laws_heldPuzzle
theorem TPI_32_ok : TPI_32.Ok Tryd.prog := TPI_31_ok.add ok_laws_heldPuzzle
theorem eq_laws_szClueS (left : Int) (n : Nat) (a : List Int) (K : V → List Blk → Prop) : VC_laws_szClueS left n a K = vbody Tryd.prog (vin Tryd.prog TPI_32 annTPI 3) TPI_32.looks (annTPI 41) 41 [.row 0 n, .int .i64 left] [⟨.ints .i64 a, 79, .arg 3⟩] (K) := by kernel_rfl
theorem ok_laws_szClueS : OK Tryd.prog 41 F_laws_szClueS.spec := (vbody_ok (vin_ok TPI_32_ok annTPI 3) TPI_32_ok.looks _ _).ofFM fun args m p R h hp => by
  unfold F_laws_szClueS at h
  split at h
  · injection h with h; injection h with h1 h2; subst h1; subst h2
    exact (congrArg At (eq_laws_szClueS _ _ _ _)).mp ⟨vc_laws_szClueS _ _ _ hp⟩
  · cases h
def TPI_33 : Tab := TPI_32.add 41 F_laws_szClueS
theorem TPI_33_ok : TPI_33.Ok Tryd.prog := TPI_32_ok.add ok_laws_szClueS
theorem eq_laws_szPuzzle (left : Int) (pr : List UInt8) (pw : Int) (ph : Int) (n : Nat) (a : List Int) (K : V → List Blk → Prop) : VC_laws_szPuzzle left pr pw ph n a K = vbody Tryd.prog (vin Tryd.prog TPI_33 annTPI 3) TPI_33.looks (annTPI 12) 12 [.agg [.str pr, .int .i64 pw, .int .i64 ph, .row 0 n], .int .i64 left] [⟨.ints .i64 a, 79, .arg 3⟩] (K) := by kernel_rfl
theorem ok_laws_szPuzzle : OK Tryd.prog 12 F_laws_szPuzzle.spec := (vbody_ok (vin_ok TPI_33_ok annTPI 3) TPI_33_ok.looks _ _).ofFM fun args m p R h hp => by
  unfold F_laws_szPuzzle at h
  split at h
  · injection h with h; injection h with h1 h2; subst h1; subst h2
    exact (congrArg At (eq_laws_szPuzzle _ _ _ _ _ _ _)).mp ⟨vc_laws_szPuzzle _ _ _ _ _ _ hp⟩
  · cases h
def TPI_34 : Tab := TPI_33.add 12 F_laws_szPuzzle
theorem TPI_34_ok : TPI_34.Ok Tryd.prog := TPI_33_ok.add ok_laws_szPuzzle
theorem eq_laws_toClue (ax : Int) (ay : Int) (ak : Int) (K : V → Prop) : VC_laws_toClue ax ay ak K = vbody Tryd.prog (vin Tryd.prog TPI_34 annTPI 3) TPI_34.looks (annTPI 63) 63 [.agg [.int .i64 ax, .int .i64 ay, .int .i64 ak]] [] (fun v _ => K v) := by kernel_rfl
theorem ok_laws_toClue : OK Tryd.prog 63 F_laws_toClue.spec := (vbody_ok (vin_ok TPI_34_ok annTPI 3) TPI_34_ok.looks _ _).ofF fun args m p R h hp => by
  unfold F_laws_toClue at h
  split at h
  · injection h with h; injection h with h1 h2; subst h1; subst h2
    exact ⟨rfl, (congrArg At (eq_laws_toClue _ _ _ _)).mp ⟨vc_laws_toClue _ _ _ hp⟩⟩
  · cases h
def TPI_35 : Tab := TPI_34.add 63 F_laws_toClue
theorem TPI_35_ok : TPI_35.Ok Tryd.prog := TPI_34_ok.add ok_laws_toClue
theorem eq_laws_toClueS  (n : Nat) (a : List Int) (K : V → List Blk → Prop) : VC_laws_toClueS  n a K = vbody Tryd.prog (vin Tryd.prog TPI_35 annTPI 3) TPI_35.looks (annTPI 44) 44 [.row 0 n] [⟨.ints .i64 a, 79, .arg 3⟩] (K) := by kernel_rfl
theorem ok_laws_toClueS : OK Tryd.prog 44 F_laws_toClueS.spec := (vbody_ok (vin_ok TPI_35_ok annTPI 3) TPI_35_ok.looks _ _).ofG fun args m p R M h hp => by
  unfold F_laws_toClueS at h
  split at h
  · injection h with h; injection h with h1 h2; injection h2 with h2 h3; subst h1; subst h2; subst h3
    exact (congrArg At (eq_laws_toClueS _ _ _)).mp ⟨vc_laws_toClueS _ _ hp⟩
  · cases h
def TPI_36 : Tab := TPI_35.addG 44 F_laws_toClueS
theorem TPI_36_ok : TPI_36.Ok Tryd.prog := TPI_35_ok.addG ok_laws_toClueS
theorem eq_laws_toPuzzle  (pr : List UInt8) (pw : Int) (ph : Int) (n : Nat) (a : List Int) (K : V → List Blk → Prop) : VC_laws_toPuzzle  pr pw ph n a K = vbody Tryd.prog (vin Tryd.prog TPI_36 annTPI 3) TPI_36.looks (annTPI 14) 14 [.agg [.str pr, .int .i64 pw, .int .i64 ph, .row 0 n]] [⟨.ints .i64 a, 79, .arg 3⟩] (K) := by kernel_rfl
theorem ok_laws_toPuzzle : OK Tryd.prog 14 F_laws_toPuzzle.spec := (vbody_ok (vin_ok TPI_36_ok annTPI 3) TPI_36_ok.looks _ _).ofG fun args m p R M h hp => by
  unfold F_laws_toPuzzle at h
  split at h
  · injection h with h; injection h with h1 h2; injection h2 with h2 h3; subst h1; subst h2; subst h3
    exact (congrArg At (eq_laws_toPuzzle _ _ _ _ _ _)).mp ⟨vc_laws_toPuzzle _ _ _ _ _ hp⟩
  · cases h
def TPI_37 : Tab := TPI_36.addG 14 F_laws_toPuzzle
theorem TPI_37_ok : TPI_37.Ok Tryd.prog := TPI_36_ok.addG ok_laws_toPuzzle
theorem ok_impl_areClues : OK Tryd.prog 75 F_impl_areClues.spec := Go.Proofs.YtbdhilflnfllaaaDoor.PD.ok_areClues
def TPI_38 : Tab := TPI_37.add 75 F_impl_areClues
theorem TPI_38_ok : TPI_38.Ok Tryd.prog := TPI_37_ok.add ok_impl_areClues
theorem eq_spec_pzPower (s : List UInt8) (n : Int) (K : V → Prop) : VC_spec_pzPower s n K = vbody Tryd.prog (vin Tryd.prog TPI_38 annTPI 3) TPI_38.looks (annTPI 71) 71 [.str s, .int .i64 n] [] (fun v _ => K v) := by kernel_rfl
theorem ok_spec_pzPower : OK Tryd.prog 71 F_spec_pzPower.spec := (vbody_ok (vin_ok TPI_38_ok annTPI 3) TPI_38_ok.looks _ _).ofF fun args m p R h hp => by
  unfold F_spec_pzPower at h
  split at h
  · injection h with h; injection h with h1 h2; subst h1; subst h2
    exact ⟨rfl, (congrArg At (eq_spec_pzPower _ _ _)).mp ⟨vc_spec_pzPower _ _ hp⟩⟩
  · cases h
def TPI_39 : Tab := TPI_38.add 71 F_spec_pzPower
theorem TPI_39_ok : TPI_39.Ok Tryd.prog := TPI_38_ok.add ok_spec_pzPower
theorem eq_spec_pzSize (s : List UInt8) (w : Int) (h : Int) (K : V → Prop) : VC_spec_pzSize s w h K = vbody Tryd.prog (vin Tryd.prog TPI_39 annTPI 3) TPI_39.looks (annTPI 60) 60 [.str s, .int .i64 w, .int .i64 h] [] (fun v _ => K v) := by kernel_rfl
theorem ok_spec_pzSize : OK Tryd.prog 60 F_spec_pzSize.spec := (vbody_ok (vin_ok TPI_39_ok annTPI 3) TPI_39_ok.looks _ _).ofF fun args m p R h hp => by
  unfold F_spec_pzSize at h
  split at h
  · injection h with h; injection h with h1 h2; subst h1; subst h2
    exact ⟨rfl, (congrArg At (eq_spec_pzSize _ _ _ _)).mp ⟨vc_spec_pzSize _ _ _ hp⟩⟩
  · cases h
def TPI_40 : Tab := TPI_39.add 60 F_spec_pzSize
theorem TPI_40_ok : TPI_40.Ok Tryd.prog := TPI_39_ok.add ok_spec_pzSize
theorem eq_impl_isSize (w : Int) (h : Int) (K : V → Prop) : VC_impl_isSize w h K = vbody Tryd.prog (vin Tryd.prog TPI_40 annTPI 3) TPI_40.looks (annTPI 80) 80 [.int .i64 w, .int .i64 h] [] (fun v _ => K v) := by kernel_rfl
theorem ok_impl_isSize : OK Tryd.prog 80 F_impl_isSize.spec := (vbody_ok (vin_ok TPI_40_ok annTPI 3) TPI_40_ok.looks _ _).ofF fun args m p R h hp => by
  unfold F_impl_isSize at h
  split at h
  · injection h with h; injection h with h1 h2; subst h1; subst h2
    exact ⟨rfl, (congrArg At (eq_impl_isSize _ _ _)).mp ⟨vc_impl_isSize _ _ hp⟩⟩
  · cases h
def TPI_41 : Tab := TPI_40.add 80 F_impl_isSize
theorem TPI_41_ok : TPI_41.Ok Tryd.prog := TPI_40_ok.add ok_impl_isSize
theorem eq_impl_CountBoards (s : List UInt8) (w : Int) (h : Int) (K : V → Prop) : VC_impl_CountBoards s w h K = vbody Tryd.prog (vin Tryd.prog TPI_41 annTPI 3) TPI_41.looks (annTPI 74) 74 [.str s, .int .i64 w, .int .i64 h] [] (fun v _ => K v) := by kernel_rfl
theorem ok_impl_CountBoards : OK Tryd.prog 74 F_impl_CountBoards.spec := (vbody_ok (vin_ok TPI_41_ok annTPI 3) TPI_41_ok.looks _ _).ofF fun args m p R h hp => by
  unfold F_impl_CountBoards at h
  split at h
  · injection h with h; injection h with h1 h2; subst h1; subst h2
    exact ⟨rfl, (congrArg At (eq_impl_CountBoards _ _ _ _)).mp ⟨vc_impl_CountBoards _ _ _ hp⟩⟩
  · cases h
def TPI_42 : Tab := TPI_41.add 74 F_impl_CountBoards
theorem TPI_42_ok : TPI_42.Ok Tryd.prog := TPI_41_ok.add ok_impl_CountBoards
theorem eq_spec_pzClue (s : List UInt8) (cells : Int) (cx : Int) (cy : Int) (ck : Int) (K : V → Prop) : VC_spec_pzClue s cells cx cy ck K = vbody Tryd.prog (vin Tryd.prog TPI_42 annTPI 3) TPI_42.looks (annTPI 61) 61 [.str s, .int .i64 cells, .agg [.int .i64 cx, .int .i64 cy, .int .i64 ck]] [] (fun v _ => K v) := by kernel_rfl
theorem ok_spec_pzClue : OK Tryd.prog 61 F_spec_pzClue.spec := (vbody_ok (vin_ok TPI_42_ok annTPI 3) TPI_42_ok.looks _ _).ofF fun args m p R h hp => by
  unfold F_spec_pzClue at h
  split at h
  · injection h with h; injection h with h1 h2; subst h1; subst h2
    exact ⟨rfl, (congrArg At (eq_spec_pzClue _ _ _ _ _ _)).mp ⟨vc_spec_pzClue _ _ _ _ _ hp⟩⟩
  · cases h
def TPI_43 : Tab := TPI_42.add 61 F_spec_pzClue
theorem TPI_43_ok : TPI_43.Ok Tryd.prog := TPI_42_ok.add ok_spec_pzClue
theorem eq_spec_pzGood  (pr : List UInt8) (pw : Int) (ph : Int) (n : Nat) (a : List Int) (K : V → List Blk → Prop) : VC_spec_pzGood  pr pw ph n a K = vbody Tryd.prog (vin Tryd.prog TPI_43 annTPI 3) TPI_43.looks (annTPI 42) 42 [.agg [.str pr, .int .i64 pw, .int .i64 ph, .row 0 n]] [⟨.ints .i64 a, 74, .rows 3⟩] (K) := by kernel_rfl
theorem ok_spec_pzGood : OK Tryd.prog 42 F_spec_pzGood.spec := (vbody_ok (vin_ok TPI_43_ok annTPI 3) TPI_43_ok.looks _ _).ofFM fun args m p R h hp => by
  unfold F_spec_pzGood at h
  split at h
  · injection h with h; injection h with h1 h2; subst h1; subst h2
    exact (congrArg At (eq_spec_pzGood _ _ _ _ _ _)).mp ⟨vc_spec_pzGood _ _ _ _ _ hp⟩
  · cases h
def TPI_44 : Tab := TPI_43.add 42 F_spec_pzGood
theorem TPI_44_ok : TPI_44.Ok Tryd.prog := TPI_43_ok.add ok_spec_pzGood
theorem eq_impl_IsPuzzle  (pr : List UInt8) (pw : Int) (ph : Int) (n : Nat) (a : List Int) (K : V → List Blk → Prop) : VC_impl_IsPuzzle  pr pw ph n a K = vbody Tryd.prog (vin Tryd.prog TPI_44 annTPI 3) TPI_44.looks (annTPI 64) 64 [.agg [.str pr, .int .i64 pw, .int .i64 ph, .row 0 n]] [⟨.ints .i64 a, 74, .rows 3⟩] (K) := by kernel_rfl
theorem ok_impl_IsPuzzle : OK Tryd.prog 64 F_impl_IsPuzzle.spec := (vbody_ok (vin_ok TPI_44_ok annTPI 3) TPI_44_ok.looks _ _).ofFM fun args m p R h hp => by
  unfold F_impl_IsPuzzle at h
  split at h
  · injection h with h; injection h with h1 h2; subst h1; subst h2
    exact (congrArg At (eq_impl_IsPuzzle _ _ _ _ _ _)).mp ⟨vc_impl_IsPuzzle _ _ _ _ _ hp⟩
  · cases h
def TPI_45 : Tab := TPI_44.add 64 F_impl_IsPuzzle
theorem TPI_45_ok : TPI_45.Ok Tryd.prog := TPI_44_ok.add ok_impl_IsPuzzle
theorem eq_impl_firstClues (n : Int) (K : V → Prop) : VC_impl_firstClues n K = vbody Tryd.prog (vin Tryd.prog TPI_45 annTPI 3) TPI_45.looks (annTPI 56) 56 [.int .i64 n] [] (fun v _ => K v) := by kernel_rfl
theorem ok_impl_firstClues : OK Tryd.prog 56 F_impl_firstClues.spec := (vbody_ok (vin_ok TPI_45_ok annTPI 3) TPI_45_ok.looks _ _).ofF fun args m p R h hp => by
  unfold F_impl_firstClues at h
  split at h
  · injection h with h; injection h with h1 h2; subst h1; subst h2
    exact ⟨rfl, (congrArg At (eq_impl_firstClues _ _)).mp ⟨vc_impl_firstClues _ hp⟩⟩
  · cases h
def TPI_46 : Tab := TPI_45.add 56 F_impl_firstClues
theorem TPI_46_ok : TPI_46.Ok Tryd.prog := TPI_45_ok.add ok_impl_firstClues
theorem eq_impl_oneClue (n : Int) (K : V → Prop) : VC_impl_oneClue n K = vbody Tryd.prog (vin Tryd.prog TPI_46 annTPI 3) TPI_46.looks (annTPI 57) 57 [.int .i64 n] [] (fun v _ => K v) := by kernel_rfl
theorem ok_impl_oneClue : OK Tryd.prog 57 F_impl_oneClue.spec := (vbody_ok (vin_ok TPI_46_ok annTPI 3) TPI_46_ok.looks _ _).ofF fun args m p R h hp => by
  unfold F_impl_oneClue at h
  split at h
  · injection h with h; injection h with h1 h2; subst h1; subst h2
    exact ⟨rfl, (congrArg At (eq_impl_oneClue _ _)).mp ⟨vc_impl_oneClue _ hp⟩⟩
  · cases h
def TPI_47 : Tab := TPI_46.add 57 F_impl_oneClue
theorem TPI_47_ok : TPI_47.Ok Tryd.prog := TPI_46_ok.add ok_impl_oneClue
theorem eq_impl_clueSet_hasAll (s : Int) (o : Int) (K : V → Prop) : VC_impl_clueSet_hasAll s o K = vbody Tryd.prog (vin Tryd.prog TPI_47 annTPI 3) TPI_47.looks (annTPI 67) 67 [.int .u64 s, .int .u64 o] [] (fun v _ => K v) := by kernel_rfl
theorem ok_impl_clueSet_hasAll : OK Tryd.prog 67 F_impl_clueSet_hasAll.spec := (vbody_ok (vin_ok TPI_47_ok annTPI 3) TPI_47_ok.looks _ _).ofF fun args m p R h hp => by
  unfold F_impl_clueSet_hasAll at h
  split at h
  · injection h with h; injection h with h1 h2; subst h1; subst h2
    exact ⟨rfl, (congrArg At (eq_impl_clueSet_hasAll _ _ _)).mp ⟨vc_impl_clueSet_hasAll _ _ hp⟩⟩
  · cases h
def TPI_48 : Tab := TPI_47.add 67 F_impl_clueSet_hasAll
theorem TPI_48_ok : TPI_48.Ok Tryd.prog := TPI_47_ok.add ok_impl_clueSet_hasAll
theorem eq_impl_clueSet_without (s : Int) (n : Int) (K : V → Prop) : VC_impl_clueSet_without s n K = vbody Tryd.prog (vin Tryd.prog TPI_48 annTPI 3) TPI_48.looks (annTPI 55) 55 [.int .u64 s, .int .i64 n] [] (fun v _ => K v) := by kernel_rfl
theorem ok_impl_clueSet_without : OK Tryd.prog 55 F_impl_clueSet_without.spec := (vbody_ok (vin_ok TPI_48_ok annTPI 3) TPI_48_ok.looks _ _).ofF fun args m p R h hp => by
  unfold F_impl_clueSet_without at h
  split at h
  · injection h with h; injection h with h1 h2; subst h1; subst h2
    exact ⟨rfl, (congrArg At (eq_impl_clueSet_without _ _ _)).mp ⟨vc_impl_clueSet_without _ _ hp⟩⟩
  · cases h
def TPI_49 : Tab := TPI_48.add 55 F_impl_clueSet_without
theorem TPI_49_ok : TPI_49.Ok Tryd.prog := TPI_48_ok.add ok_impl_clueSet_without
theorem eq_impl_allClues  (pr : List UInt8) (pw : Int) (ph : Int) (n : Nat) (a : List Int) (K : V → List Blk → Prop) : VC_impl_allClues  pr pw ph n a K = vbody Tryd.prog (vin Tryd.prog TPI_49 annTPI 3) TPI_49.looks (annTPI 47) 47 [.agg [.str pr, .int .i64 pw, .int .i64 ph, .row 0 n]] [⟨.ints .i64 a, 74, .rows 3⟩] (K) := by kernel_rfl
theorem ok_impl_allClues : OK Tryd.prog 47 F_impl_allClues.spec := (vbody_ok (vin_ok TPI_49_ok annTPI 3) TPI_49_ok.looks _ _).ofFM fun args m p R h hp => by
  unfold F_impl_allClues at h
  split at h
  · injection h with h; injection h with h1 h2; subst h1; subst h2
    exact (congrArg At (eq_impl_allClues _ _ _ _ _ _)).mp ⟨vc_impl_allClues _ _ _ _ _ hp⟩
  · cases h
def TPI_50 : Tab := TPI_49.add 47 F_impl_allClues
theorem TPI_50_ok : TPI_50.Ok Tryd.prog := TPI_49_ok.add ok_impl_allClues
theorem eq_impl_withClues (m : Int) (pr : List UInt8) (pw : Int) (ph : Int) (n : Nat) (a : List Int) (K : V → List Blk → Prop) : VC_impl_withClues m pr pw ph n a K = vbody Tryd.prog (vin Tryd.prog TPI_50 annTPI 3) TPI_50.looks (annTPI 58) 58 [.agg [.str pr, .int .i64 pw, .int .i64 ph, .row 0 n], .int .u64 m] [⟨.ints .i64 a, 74, .rows 3⟩] (K) := by kernel_rfl
theorem ok_impl_withClues : OK Tryd.prog 58 F_impl_withClues.spec := (vbody_ok (vin_ok TPI_50_ok annTPI 3) TPI_50_ok.looks _ _).ofG fun args m p R M h hp => by
  unfold F_impl_withClues at h
  split at h
  · injection h with h; injection h with h1 h2; injection h2 with h2 h3; subst h1; subst h2; subst h3
    exact (congrArg At (eq_impl_withClues _ _ _ _ _ _ _)).mp ⟨vc_impl_withClues _ _ _ _ _ _ hp⟩
  · cases h
def TPI_51 : Tab := TPI_50.addG 58 F_impl_withClues
theorem TPI_51_ok : TPI_51.Ok Tryd.prog := TPI_50_ok.addG ok_impl_withClues
theorem eq_spec_pzWithout (k : Int) (n : Nat) (a : List Int) (K : V → List Blk → Prop) : VC_spec_pzWithout k n a K = vbody Tryd.prog (vin Tryd.prog TPI_51 annTPI 3) TPI_51.looks (annTPI 53) 53 [.row 0 n, .int .i64 k] [⟨.ints .i64 a, 74, .rows 3⟩] (K) := by kernel_rfl
theorem ok_spec_pzWithout : OK Tryd.prog 53 F_spec_pzWithout.spec := (vbody_ok (vin_ok TPI_51_ok annTPI 3) TPI_51_ok.looks _ _).ofG fun args m p R M h hp => by
  unfold F_spec_pzWithout at h
  split at h
  · injection h with h; injection h with h1 h2; injection h2 with h2 h3; subst h1; subst h2; subst h3
    exact (congrArg At (eq_spec_pzWithout _ _ _ _)).mp ⟨vc_spec_pzWithout _ _ _ hp⟩
  · cases h
def TPI_52 : Tab := TPI_51.addG 53 F_spec_pzWithout
theorem TPI_52_ok : TPI_52.Ok Tryd.prog := TPI_51_ok.addG ok_spec_pzWithout
theorem eq_impl_led (wr : List UInt8) (ww : Int) (wh : Int) (wc : List UInt8) (wx : Int) (wy : Int) (wd : Int) (s : Int) (K : V → Prop) : VC_impl_led wr ww wh wc wx wy wd s K = vbody Tryd.prog (vin Tryd.prog TPI_52 annTPI 3) TPI_52.looks (annTPI 86) 86 [.agg [.str wr, .int .i64 ww, .int .i64 wh, .str wc, .int .i64 wx, .int .i64 wy, .int .i64 wd], .int .i64 s, .fn 87 []] [] (fun v _ => K v) := by kernel_rfl
theorem ok_impl_led : OK Tryd.prog 86 F_impl_led.spec := (vbody_ok (vin_ok TPI_52_ok annTPI 3) TPI_52_ok.looks _ _).ofF fun args m p R h hp => by
  unfold F_impl_led at h
  split at h
  · injection h with h; injection h with h1 h2; subst h1; subst h2
    exact ⟨rfl, (congrArg At (eq_impl_led _ _ _ _ _ _ _ _ _)).mp ⟨vc_impl_led _ _ _ _ _ _ _ _ hp⟩⟩
  · cases h
def TPI_53 : Tab := TPI_52.add 86 F_impl_led
theorem TPI_53_ok : TPI_53.Ok Tryd.prog := TPI_52_ok.add ok_impl_led
theorem eq_impl_sumOf (s : List UInt8) (K : V → Prop) : VC_impl_sumOf s K = vbody Tryd.prog (vin Tryd.prog TPI_53 annTPI 3) TPI_53.looks (annTPI 85) 85 [.str s] [] (fun v _ => K v) := by kernel_rfl
theorem ok_impl_sumOf : OK Tryd.prog 85 F_impl_sumOf.spec := (vbody_ok (vin_ok TPI_53_ok annTPI 3) TPI_53_ok.looks _ _).ofF fun args m p R h hp => by
  unfold F_impl_sumOf at h
  split at h
  · injection h with h; injection h with h1 h2; subst h1; subst h2
    exact ⟨rfl, (congrArg At (eq_impl_sumOf _ _)).mp ⟨vc_impl_sumOf _ hp⟩⟩
  · cases h
def TPI_54 : Tab := TPI_53.add 85 F_impl_sumOf
theorem TPI_54_ok : TPI_54.Ok Tryd.prog := TPI_53_ok.add ok_impl_sumOf
theorem ok_strings_Count : OK Tryd.prog 88 F_strings_Count.spec := Go.Proofs.YtbdhilflnfllaaaDoor.libCount
def TPI_55 : Tab := TPI_54.add 88 F_strings_Count
theorem TPI_55_ok : TPI_55.Ok Tryd.prog := TPI_54_ok.add ok_strings_Count
theorem eq_spec_pzValue (k : Int) (a : Int) (wr : List UInt8) (ww : Int) (wh : Int) (wc : List UInt8) (wx : Int) (wy : Int) (wd : Int) (K : V → Prop) : VC_spec_pzValue k a wr ww wh wc wx wy wd K = vbody Tryd.prog (vin Tryd.prog TPI_55 annTPI 3) TPI_55.looks (annTPI 78) 78 [.int .i64 k, .int .i64 a, .agg [.str wr, .int .i64 ww, .int .i64 wh, .str wc, .int .i64 wx, .int .i64 wy, .int .i64 wd]] [] (fun v _ => K v) := by kernel_rfl
theorem ok_spec_pzValue : OK Tryd.prog 78 F_spec_pzValue.spec := (vbody_ok (vin_ok TPI_55_ok annTPI 3) TPI_55_ok.looks _ _).ofF fun args m p R h hp => by
  unfold F_spec_pzValue at h
  split at h
  · injection h with h; injection h with h1 h2; subst h1; subst h2
    exact ⟨rfl, (congrArg At (eq_spec_pzValue _ _ _ _ _ _ _ _ _ _)).mp ⟨vc_spec_pzValue _ _ _ _ _ _ _ _ _ hp⟩⟩
  · cases h
def TPI_56 : Tab := TPI_55.add 78 F_spec_pzValue
theorem TPI_56_ok : TPI_56.Ok Tryd.prog := TPI_55_ok.add ok_spec_pzValue
theorem eq_spec_pzFits (cx : Int) (cy : Int) (ck : Int) (wr : List UInt8) (ww : Int) (wh : Int) (wc : List UInt8) (wx : Int) (wy : Int) (wd : Int) (K : V → Prop) : VC_spec_pzFits cx cy ck wr ww wh wc wx wy wd K = vbody Tryd.prog (vin Tryd.prog TPI_56 annTPI 3) TPI_56.looks (annTPI 72) 72 [.agg [.int .i64 cx, .int .i64 cy, .int .i64 ck], .agg [.str wr, .int .i64 ww, .int .i64 wh, .str wc, .int .i64 wx, .int .i64 wy, .int .i64 wd]] [] (fun v _ => K v) := by kernel_rfl
theorem ok_spec_pzFits : OK Tryd.prog 72 F_spec_pzFits.spec := (vbody_ok (vin_ok TPI_56_ok annTPI 3) TPI_56_ok.looks _ _).ofF fun args m p R h hp => by
  unfold F_spec_pzFits at h
  split at h
  · injection h with h; injection h with h1 h2; subst h1; subst h2
    exact ⟨rfl, (congrArg At (eq_spec_pzFits _ _ _ _ _ _ _ _ _ _ _)).mp ⟨vc_spec_pzFits _ _ _ _ _ _ _ _ _ _ hp⟩⟩
  · cases h
def TPI_57 : Tab := TPI_56.add 72 F_spec_pzFits
theorem TPI_57_ok : TPI_57.Ok Tryd.prog := TPI_56_ok.add ok_spec_pzFits
theorem eq_impl_clueFrom (wr : List UInt8) (ww : Int) (wh : Int) (wc : List UInt8) (wx : Int) (wy : Int) (wd : Int) (k : Int) (a : Int) (K : V → Prop) : VC_impl_clueFrom wr ww wh wc wx wy wd k a K = vbody Tryd.prog (vin Tryd.prog TPI_57 annTPI 3) TPI_57.looks (annTPI 77) 77 [.agg [.str wr, .int .i64 ww, .int .i64 wh, .str wc, .int .i64 wx, .int .i64 wy, .int .i64 wd], .int .i64 k, .int .i64 a] [] (fun v _ => K v) := by kernel_rfl
theorem ok_impl_clueFrom : OK Tryd.prog 77 F_impl_clueFrom.spec := (vbody_ok (vin_ok TPI_57_ok annTPI 3) TPI_57_ok.looks _ _).ofF fun args m p R h hp => by
  unfold F_impl_clueFrom at h
  split at h
  · injection h with h; injection h with h1 h2; subst h1; subst h2
    exact ⟨rfl, (congrArg At (eq_impl_clueFrom _ _ _ _ _ _ _ _ _ _)).mp ⟨vc_impl_clueFrom _ _ _ _ _ _ _ _ _ hp⟩⟩
  · cases h
def TPI_58 : Tab := TPI_57.add 77 F_impl_clueFrom
theorem TPI_58_ok : TPI_58.Ok Tryd.prog := TPI_57_ok.add ok_impl_clueFrom
theorem eq_impl_doesFit (cx : Int) (cy : Int) (ck : Int) (wr : List UInt8) (ww : Int) (wh : Int) (wc : List UInt8) (wx : Int) (wy : Int) (wd : Int) (K : V → Prop) : VC_impl_doesFit cx cy ck wr ww wh wc wx wy wd K = vbody Tryd.prog (vin Tryd.prog TPI_58 annTPI 3) TPI_58.looks (annTPI 66) 66 [.agg [.int .i64 cx, .int .i64 cy, .int .i64 ck], .agg [.str wr, .int .i64 ww, .int .i64 wh, .str wc, .int .i64 wx, .int .i64 wy, .int .i64 wd]] [] (fun v _ => K v) := by kernel_rfl
theorem ok_impl_doesFit : OK Tryd.prog 66 F_impl_doesFit.spec := (vbody_ok (vin_ok TPI_58_ok annTPI 3) TPI_58_ok.looks _ _).ofF fun args m p R h hp => by
  unfold F_impl_doesFit at h
  split at h
  · injection h with h; injection h with h1 h2; subst h1; subst h2
    exact ⟨rfl, (congrArg At (eq_impl_doesFit _ _ _ _ _ _ _ _ _ _ _)).mp ⟨vc_impl_doesFit _ _ _ _ _ _ _ _ _ _ hp⟩⟩
  · cases h
def TPI_59 : Tab := TPI_58.add 66 F_impl_doesFit
theorem TPI_59_ok : TPI_59.Ok Tryd.prog := TPI_58_ok.add ok_impl_doesFit
theorem eq_impl_allCells (c : Int) (n : Int) (K : V → List Blk → Prop) : VC_impl_allCells c n K = vbody Tryd.prog (vin Tryd.prog TPI_59 annTPI 3) TPI_59.looks (annTPI 65) 65 [.int .i64 c, .int .i64 n] [] (K) := by kernel_rfl
theorem ok_impl_allCells : OK Tryd.prog 65 F_impl_allCells.spec := (vbody_ok (vin_ok TPI_59_ok annTPI 3) TPI_59_ok.looks _ _).ofG fun args m p R M h hp => by
  unfold F_impl_allCells at h
  split at h
  · injection h with h; injection h with h1 h2; injection h2 with h2 h3; subst h1; subst h2; subst h3
    exact (congrArg At (eq_impl_allCells _ _ _)).mp ⟨vc_impl_allCells _ _ hp⟩
  · cases h
def TPI_60 : Tab := TPI_59.addG 65 F_impl_allCells
theorem TPI_60_ok : TPI_60.Ok Tryd.prog := TPI_59_ok.addG ok_impl_allCells
theorem eq_impl_candidatesOf  (pr : List UInt8) (pw : Int) (ph : Int) (n : Nat) (a : List Int) (K : V → List Blk → Prop) : VC_impl_candidatesOf  pr pw ph n a K = vbody Tryd.prog (vin Tryd.prog TPI_60 annTPI 3) TPI_60.looks (annTPI 45) 45 [.agg [.str pr, .int .i64 pw, .int .i64 ph, .row 0 n]] [⟨.ints .i64 a, 74, .rows 3⟩] (K) := by kernel_rfl
theorem ok_impl_candidatesOf : OK Tryd.prog 45 F_impl_candidatesOf.spec := (vbody_ok (vin_ok TPI_60_ok annTPI 3) TPI_60_ok.looks _ _).ofG fun args m p R M h hp => by
  unfold F_impl_candidatesOf at h
  split at h
  · injection h with h; injection h with h1 h2; injection h2 with h2 h3; subst h1; subst h2; subst h3
    exact (congrArg At (eq_impl_candidatesOf _ _ _ _ _ _)).mp ⟨vc_impl_candidatesOf _ _ _ _ _ hp⟩
  · cases h
def TPI_61 : Tab := TPI_60.addG 45 F_impl_candidatesOf
theorem TPI_61_ok : TPI_61.Ok Tryd.prog := TPI_60_ok.addG ok_impl_candidatesOf
theorem eq_impl_fitAll (s : Int) (n : Nat) (l : List Sc) (K : V → List Blk → Prop) : VC_impl_fitAll s n l K = vbody Tryd.prog (vin Tryd.prog TPI_61 annTPI 3) TPI_61.looks (annTPI 46) 46 [.row 0 n, .int .u64 s] [⟨.recs [.str, .int .u64] (l), 84, .rows 2⟩] (K) := by kernel_rfl
theorem ok_impl_fitAll : OK Tryd.prog 46 F_impl_fitAll.spec := (vbody_ok (vin_ok TPI_61_ok annTPI 3) TPI_61_ok.looks _ _).ofG fun args m p R M h hp => by
  unfold F_impl_fitAll at h
  split at h
  · injection h with h; injection h with h1 h2; injection h2 with h2 h3; subst h1; subst h2; subst h3
    exact (congrArg At (eq_impl_fitAll _ _ _ _)).mp ⟨vc_impl_fitAll _ _ _ hp⟩
  · cases h
def TPI_62 : Tab := TPI_61.addG 46 F_impl_fitAll
theorem TPI_62_ok : TPI_62.Ok Tryd.prog := TPI_61_ok.addG ok_impl_fitAll
theorem eq_impl_countFit (s : Int) (n : Nat) (l : List Sc) (K : V → List Blk → Prop) : VC_impl_countFit s n l K = vbody Tryd.prog (vin Tryd.prog TPI_62 annTPI 3) TPI_62.looks (annTPI 54) 54 [.row 0 n, .int .u64 s] [⟨.recs [.str, .int .u64] (l), 84, .rows 2⟩] (K) := by kernel_rfl
theorem ok_impl_countFit : OK Tryd.prog 54 F_impl_countFit.spec := (vbody_ok (vin_ok TPI_62_ok annTPI 3) TPI_62_ok.looks _ _).ofFM fun args m p R h hp => by
  unfold F_impl_countFit at h
  split at h
  · injection h with h; injection h with h1 h2; subst h1; subst h2
    exact (congrArg At (eq_impl_countFit _ _ _ _)).mp ⟨vc_impl_countFit _ _ _ hp⟩
  · cases h
def TPI_63 : Tab := TPI_62.add 54 F_impl_countFit
theorem TPI_63_ok : TPI_63.Ok Tryd.prog := TPI_62_ok.add ok_impl_countFit
theorem eq_impl_Solutions  (pr : List UInt8) (pw : Int) (ph : Int) (n : Nat) (a : List Int) (K : V → List Blk → Prop) : VC_impl_Solutions  pr pw ph n a K = vbody Tryd.prog (vin Tryd.prog TPI_63 annTPI 3) TPI_63.looks (annTPI 15) 15 [.agg [.str pr, .int .i64 pw, .int .i64 ph, .row 0 n]] [⟨.ints .i64 a, 74, .rows 3⟩] (K) := by kernel_rfl
theorem ok_impl_Solutions : OK Tryd.prog 15 F_impl_Solutions.spec := (vbody_ok (vin_ok TPI_63_ok annTPI 3) TPI_63_ok.looks _ _).ofG fun args m p R M h hp => by
  unfold F_impl_Solutions at h
  split at h
  · injection h with h; injection h with h1 h2; injection h2 with h2 h3; subst h1; subst h2; subst h3
    exact (congrArg At (eq_impl_Solutions _ _ _ _ _ _)).mp ⟨vc_impl_Solutions _ _ _ _ _ hp⟩
  · cases h
def TPI_64 : Tab := TPI_63.addG 15 F_impl_Solutions
theorem TPI_64_ok : TPI_64.Ok Tryd.prog := TPI_63_ok.addG ok_impl_Solutions
theorem eq_spec_pzLook (b : List UInt8) (pr : List UInt8) (pw : Int) (ph : Int) (n : Nat) (a : List Int) (m : Nat) (l : List (List UInt8)) (mm : Nat) (K : V → List Blk → Prop) : VC_spec_pzLook b pr pw ph n a m l mm K = vbody Tryd.prog (vin Tryd.prog (TPI_64.addG 62 (F_spec_pzLook mm)) annTPI 3) (TPI_64.addG 62 (F_spec_pzLook mm)).looks (annTPI 62) 62 [.agg [.str pr, .int .i64 pw, .int .i64 ph, .row 0 n], .str b, .ptr 1 0] [⟨.ints .i64 a, 74, .rows 3⟩, ⟨.vals [.row 2 m], 26, .box⟩, ⟨.strs (l), 9, .row⟩] (K) := by kernel_rfl
theorem eq_spec_pzLook_2 (b : List UInt8) (pr : List UInt8) (pw : Int) (ph : Int) (n : Nat) (a : List Int) (mm : Nat) (K : V → List Blk → Prop) : VC_spec_pzLook_2 b pr pw ph n a mm K = vbody Tryd.prog (vin Tryd.prog (TPI_64.addG 62 (F_spec_pzLook mm)) annTPI 3) (TPI_64.addG 62 (F_spec_pzLook mm)).looks (annTPI 62) 62 [.agg [.str pr, .int .i64 pw, .int .i64 ph, .row 0 n], .str b, .ptr 1 0] [⟨.ints .i64 a, 74, .rows 3⟩, ⟨.vals [.raw (.slice none 0 0)], 26, .box⟩] (K) := by kernel_rfl
theorem ok_spec_pzLook : ∀ mm : Nat, OK Tryd.prog 62 (F_spec_pzLook mm).spec
  | 0 => (vbody_ok (vin_ok TPI_64_ok annTPI 3) TPI_64_ok.looks (annTPI 62) _).ofG fun args m p R M h hp => by
    unfold F_spec_pzLook at h
    split at h
    · injection h with h; injection h with h1 h2; injection h2 with h2 h3; subst h1; subst h2; subst h3
      exact absurd hp.1 (Nat.not_lt_zero _)
    · injection h with h; injection h with h1 h2; injection h2 with h2 h3; subst h1; subst h2; subst h3
      exact absurd hp.1 (Nat.not_lt_zero _)
    · cases h
  | mm + 1 => (vbody_ok (vin_ok (TPI_64_ok.addG (ok_spec_pzLook mm)) annTPI 3) (TPI_64_ok.addG (ok_spec_pzLook mm)).looks _ _).ofG fun args m p R M h hp => by
    unfold F_spec_pzLook at h
    split at h
    · injection h with h; injection h with h1 h2; injection h2 with h2 h3; subst h1; subst h2; subst h3
      exact (congrArg At (eq_spec_pzLook _ _ _ _ _ _ _ _ mm _)).mp ⟨vc_spec_pzLook _ _ _ _ _ _ _ _ mm hp⟩
    · injection h with h; injection h with h1 h2; injection h2 with h2 h3; subst h1; subst h2; subst h3
      exact (congrArg At (eq_spec_pzLook_2 _ _ _ _ _ _ mm _)).mp ⟨vc_spec_pzLook_2 _ _ _ _ _ _ mm hp⟩
    · cases h
def TPI_65 : Tab := TPI_64.addG 62 (F_spec_pzLook 11)
theorem TPI_65_ok : TPI_65.Ok Tryd.prog := TPI_64_ok.addG (ok_spec_pzLook 11)
theorem eq_spec_pzAll  (pr : List UInt8) (pw : Int) (ph : Int) (n : Nat) (a : List Int) (K : V → List Blk → Prop) : VC_spec_pzAll  pr pw ph n a K = vbody Tryd.prog (vin Tryd.prog TPI_65 annTPI 3) TPI_65.looks (annTPI 43) 43 [.agg [.str pr, .int .i64 pw, .int .i64 ph, .row 0 n]] [⟨.ints .i64 a, 74, .rows 3⟩] (K) := by kernel_rfl
theorem ok_spec_pzAll : OK Tryd.prog 43 F_spec_pzAll.spec := (vbody_ok (vin_ok TPI_65_ok annTPI 3) TPI_65_ok.looks _ _).ofG fun args m p R M h hp => by
  unfold F_spec_pzAll at h
  split at h
  · injection h with h; injection h with h1 h2; injection h2 with h2 h3; subst h1; subst h2; subst h3
    exact (congrArg At (eq_spec_pzAll _ _ _ _ _ _)).mp ⟨vc_spec_pzAll _ _ _ _ _ hp⟩
  · cases h
def TPI_66 : Tab := TPI_65.addG 43 F_spec_pzAll
theorem TPI_66_ok : TPI_66.Ok Tryd.prog := TPI_65_ok.addG ok_spec_pzAll
theorem eq_impl_CountSolutions  (pr : List UInt8) (pw : Int) (ph : Int) (n : Nat) (a : List Int) (K : V → List Blk → Prop) : VC_impl_CountSolutions  pr pw ph n a K = vbody Tryd.prog (vin Tryd.prog TPI_66 annTPI 3) TPI_66.looks (annTPI 22) 22 [.agg [.str pr, .int .i64 pw, .int .i64 ph, .row 0 n]] [⟨.ints .i64 a, 74, .rows 3⟩] (K) := by kernel_rfl
theorem ok_impl_CountSolutions : OK Tryd.prog 22 F_impl_CountSolutions.spec := (vbody_ok (vin_ok TPI_66_ok annTPI 3) TPI_66_ok.looks _ _).ofFM fun args m p R h hp => by
  unfold F_impl_CountSolutions at h
  split at h
  · injection h with h; injection h with h1 h2; subst h1; subst h2
    exact (congrArg At (eq_impl_CountSolutions _ _ _ _ _ _)).mp ⟨vc_impl_CountSolutions _ _ _ _ _ hp⟩
  · cases h
def TPI_67 : Tab := TPI_66.add 22 F_impl_CountSolutions
theorem TPI_67_ok : TPI_67.Ok Tryd.prog := TPI_66_ok.add ok_impl_CountSolutions
theorem eq_spec_IsSolved  (pr : List UInt8) (pw : Int) (ph : Int) (n : Nat) (a : List Int) (K : V → List Blk → Prop) : VC_spec_IsSolved  pr pw ph n a K = vbody Tryd.prog (vin Tryd.prog TPI_67 annTPI 3) TPI_67.looks (annTPI 27) 27 [.agg [.str pr, .int .i64 pw, .int .i64 ph, .row 0 n]] [⟨.ints .i64 a, 74, .rows 3⟩] (K) := by kernel_rfl
theorem ok_spec_IsSolved : OK Tryd.prog 27 F_spec_IsSolved.spec := (vbody_ok (vin_ok TPI_67_ok annTPI 3) TPI_67_ok.looks _ _).ofFM fun args m p R h hp => by
  unfold F_spec_IsSolved at h
  split at h
  · injection h with h; injection h with h1 h2; subst h1; subst h2
    exact (congrArg At (eq_spec_IsSolved _ _ _ _ _ _)).mp ⟨vc_spec_IsSolved _ _ _ _ _ hp⟩
  · cases h
def TPI_68 : Tab := TPI_67.add 27 F_spec_IsSolved
theorem TPI_68_ok : TPI_68.Ok Tryd.prog := TPI_67_ok.add ok_spec_IsSolved
theorem eq_impl_IsSolved  (pr : List UInt8) (pw : Int) (ph : Int) (n : Nat) (a : List Int) (K : V → List Blk → Prop) : VC_impl_IsSolved  pr pw ph n a K = vbody Tryd.prog (vin Tryd.prog TPI_68 annTPI 3) TPI_68.looks (annTPI 28) 28 [.agg [.str pr, .int .i64 pw, .int .i64 ph, .row 0 n]] [⟨.ints .i64 a, 74, .rows 3⟩] (K) := by kernel_rfl
theorem ok_impl_IsSolved : OK Tryd.prog 28 F_impl_IsSolved.spec := (vbody_ok (vin_ok TPI_68_ok annTPI 3) TPI_68_ok.looks _ _).ofFM fun args m p R h hp => by
  unfold F_impl_IsSolved at h
  split at h
  · injection h with h; injection h with h1 h2; subst h1; subst h2
    exact (congrArg At (eq_impl_IsSolved _ _ _ _ _ _)).mp ⟨vc_impl_IsSolved _ _ _ _ _ hp⟩
  · cases h
def TPI_69 : Tab := TPI_68.add 28 F_impl_IsSolved
theorem TPI_69_ok : TPI_69.Ok Tryd.prog := TPI_68_ok.add ok_impl_IsSolved
def TPI : Tab := TPI_69
theorem TPI_ok : TPI.Ok Tryd.prog := TPI_69_ok
end Go.Proofs.YtbdhilflnfllaaaDoor
