/- The contracts of this chapter. -/
import Derived.Test.YtickpjdnncpnmaaDoorPDDoor
import Derived.Test.YtickpjdnncpnmaaDoorW9Lib
import Derived.Test.YtickpjdnncpnmaaDoorPVLib
import Derived.Test.YtickpjdnncpnmaaDoorProg
import Derived.Test.YtickpjdnncpnmaaDoorPSPf
import Derived.KernelRfl
namespace Go.Proofs.YtickpjdnncpnmaaDoor
open Go Go.Vi
set_option linter.unusedVariables false
def annTPS : FuncId -> Nat -> St -> Option Ann := fun f => if f = 103 then ann_spec_woRule else if f = 107 then ann_impl_IsRule else if f = 50 then ann_laws_eqClueS else if f = 51 then ann_laws_markClueS else if f = 61 then ann_laws_heldClueS else if f = 46 then ann_laws_toClueS else if f = 104 then ann_spec_pzPower else if f = 88 then ann_impl_CountBoards else if f = 44 then ann_spec_pzGood else if f = 60 then ann_impl_withClues else if f = 113 then ann_impl_led else if f = 112 then ann_impl_sumOf else if f = 87 then ann_spec_pzValue else if f = 82 then ann_impl_allCells else if f = 47 then ann_impl_candidatesOf else if f = 48 then ann_impl_fitAll else if f = 80 then ann_spec_pzLook else if f = 21 then ann_spec_SureCells else if f = 22 then ann_impl_SureCells else (fun _ _ => none)
def TPS_0 : Tab := Tab.none
theorem TPS_0_ok : TPS_0.Ok Tryd.prog := Tab.none_ok
theorem eq_spec_l1In (n : Int) (lo : Int) (hi : Int) (K : V -> Prop) : VC_spec_l1In n lo hi K = vbody Tryd.prog (vin Tryd.prog TPS_0 annTPS 3) TPS_0.looks (annTPS 63) 63 [.int .i64 n, .int .i64 lo, .int .i64 hi] [] (fun v _ => K v) := by kernel_rfl
theorem ok_spec_l1In : OK Tryd.prog 63 F_spec_l1In.spec := (vbody_ok (vin_ok TPS_0_ok annTPS 3) TPS_0_ok.looks _ _).ofF fun args m p R h hp => by
 unfold F_spec_l1In at h
 split at h
 ·injection h with h; injection h with h1 h2; subst h1; subst h2
  exact ⟨rfl, (congrArg At (eq_spec_l1In _ _ _ _)).mp ⟨vc_spec_l1In _ _ _ hp⟩⟩
 ·cases h
def TPS_1 : Tab := TPS_0.add 63 F_spec_l1In
theorem TPS_1_ok : TPS_1.Ok Tryd.prog := TPS_0_ok.add ok_spec_l1In
theorem eq_impl_within (n : Int) (lo : Int) (hi : Int) (K : V -> Prop) : VC_impl_within n lo hi K = vbody Tryd.prog (vin Tryd.prog TPS_1 annTPS 3) TPS_1.looks (annTPS 67) 67 [.int .i64 n, .int .i64 lo, .int .i64 hi] [] (fun v _ => K v) := by kernel_rfl
theorem ok_impl_within : OK Tryd.prog 67 F_impl_within.spec := (vbody_ok (vin_ok TPS_1_ok annTPS 3) TPS_1_ok.looks _ _).ofF fun args m p R h hp => by
 unfold F_impl_within at h
 split at h
 ·injection h with h; injection h with h1 h2; subst h1; subst h2
  exact ⟨rfl, (congrArg At (eq_impl_within _ _ _ _)).mp ⟨vc_impl_within _ _ _ hp⟩⟩
 ·cases h
def TPS_2 : Tab := TPS_1.add 67 F_impl_within
theorem TPS_2_ok : TPS_2.Ok Tryd.prog := TPS_1_ok.add ok_impl_within
theorem eq_impl_digit (b : Int) (K : V -> Prop) : VC_impl_digit b K = vbody Tryd.prog (vin Tryd.prog TPS_2 annTPS 3) TPS_2.looks (annTPS 77) 77 [.int .u8 b] [] (fun v _ => K v) := by kernel_rfl
theorem ok_impl_digit : OK Tryd.prog 77 F_impl_digit.spec := (vbody_ok (vin_ok TPS_2_ok annTPS 3) TPS_2_ok.looks _ _).ofF fun args m p R h hp => by
 unfold F_impl_digit at h
 split at h
 ·injection h with h; injection h with h1 h2; subst h1; subst h2
  exact ⟨rfl, (congrArg At (eq_impl_digit _ _)).mp ⟨vc_impl_digit _ hp⟩⟩
 ·cases h
def TPS_3 : Tab := TPS_2.add 77 F_impl_digit
theorem TPS_3_ok : TPS_3.Ok Tryd.prog := TPS_2_ok.add ok_impl_digit
theorem eq_spec_woRule (s : List UInt8) (K : V -> Prop) : VC_spec_woRule s K = vbody Tryd.prog (vin Tryd.prog TPS_3 annTPS 3) TPS_3.looks (annTPS 103) 103 [.str s] [] (fun v _ => K v) := by kernel_rfl
theorem ok_spec_woRule : OK Tryd.prog 103 F_spec_woRule.spec := (vbody_ok (vin_ok TPS_3_ok annTPS 3) TPS_3_ok.looks _ _).ofF fun args m p R h hp => by
 unfold F_spec_woRule at h
 split at h
 ·injection h with h; injection h with h1 h2; subst h1; subst h2
  exact ⟨rfl, (congrArg At (eq_spec_woRule _ _)).mp ⟨vc_spec_woRule _ hp⟩⟩
 ·cases h
def TPS_4 : Tab := TPS_3.add 103 F_spec_woRule
theorem TPS_4_ok : TPS_4.Ok Tryd.prog := TPS_3_ok.add ok_spec_woRule
theorem eq_impl_IsRule (s : List UInt8) (K : V -> Prop) : VC_impl_IsRule s K = vbody Tryd.prog (vin Tryd.prog TPS_4 annTPS 3) TPS_4.looks (annTPS 107) 107 [.str s] [] (fun v _ => K v) := by kernel_rfl
theorem ok_impl_IsRule : OK Tryd.prog 107 F_impl_IsRule.spec := (vbody_ok (vin_ok TPS_4_ok annTPS 3) TPS_4_ok.looks _ _).ofF fun args m p R h hp => by
 unfold F_impl_IsRule at h
 split at h
 ·injection h with h; injection h with h1 h2; subst h1; subst h2
  exact ⟨rfl, (congrArg At (eq_impl_IsRule _ _)).mp ⟨vc_impl_IsRule _ hp⟩⟩
 ·cases h
def TPS_5 : Tab := TPS_4.add 107 F_impl_IsRule
theorem TPS_5_ok : TPS_5.Ok Tryd.prog := TPS_4_ok.add ok_impl_IsRule
theorem eq_spec_woColour (wr : List UInt8) (ww : Int) (wh : Int) (wc : List UInt8) (wx : Int) (wy : Int) (wd : Int) (x : Int) (y : Int) (K : V -> Prop) : VC_spec_woColour wr ww wh wc wx wy wd x y K = vbody Tryd.prog (vin Tryd.prog TPS_5 annTPS 3) TPS_5.looks (annTPS 125) 125 [.agg [.str wr, .int .i64 ww, .int .i64 wh, .str wc, .int .i64 wx, .int .i64 wy, .int .i64 wd], .int .i64 x, .int .i64 y] [] (fun v _ => K v) := by kernel_rfl
theorem ok_spec_woColour : OK Tryd.prog 125 F_spec_woColour.spec := (vbody_ok (vin_ok TPS_5_ok annTPS 3) TPS_5_ok.looks _ _).ofF fun args m p R h hp => by
 unfold F_spec_woColour at h
 split at h
 ·injection h with h; injection h with h1 h2; subst h1; subst h2
  exact ⟨rfl, (congrArg At (eq_spec_woColour _ _ _ _ _ _ _ _ _ _)).mp ⟨vc_spec_woColour _ _ _ _ _ _ _ _ _ hp⟩⟩
 ·cases h
def TPS_6 : Tab := TPS_5.add 125 F_spec_woColour
theorem TPS_6_ok : TPS_6.Ok Tryd.prog := TPS_5_ok.add ok_spec_woColour
theorem eq_impl_board_colour (wr : List UInt8) (ww : Int) (wh : Int) (wc : List UInt8) (wx : Int) (wy : Int) (wd : Int) (x : Int) (y : Int) (K : V -> Prop) : VC_impl_board_colour wr ww wh wc wx wy wd x y K = vbody Tryd.prog (vin Tryd.prog TPS_6 annTPS 3) TPS_6.looks (annTPS 130) 130 [.agg [.str wr, .int .i64 ww, .int .i64 wh, .str wc, .int .i64 wx, .int .i64 wy, .int .i64 wd], .int .i64 x, .int .i64 y] [] (fun v _ => K v) := by kernel_rfl
theorem ok_impl_board_colour : OK Tryd.prog 130 F_impl_board_colour.spec := (vbody_ok (vin_ok TPS_6_ok annTPS 3) TPS_6_ok.looks _ _).ofF fun args m p R h hp => by
 unfold F_impl_board_colour at h
 split at h
 ·injection h with h; injection h with h1 h2; subst h1; subst h2
  exact ⟨rfl, (congrArg At (eq_impl_board_colour _ _ _ _ _ _ _ _ _ _)).mp ⟨vc_impl_board_colour _ _ _ _ _ _ _ _ _ hp⟩⟩
 ·cases h
def TPS_7 : Tab := TPS_6.add 130 F_impl_board_colour
theorem TPS_7_ok : TPS_7.Ok Tryd.prog := TPS_6_ok.add ok_impl_board_colour
theorem ok_strconv_formatBase10 : OK Tryd.prog 141 F_strconv_formatBase10.spec := Go.Proofs.YtickpjdnncpnmaaDoor.never_ok _
def TPS_8 : Tab := TPS_7.add 141 F_strconv_formatBase10
theorem TPS_8_ok : TPS_8.Ok Tryd.prog := TPS_7_ok.add ok_strconv_formatBase10
theorem ok_strconv_formatBits : OK Tryd.prog 142 F_strconv_formatBits.spec := Go.Proofs.YtickpjdnncpnmaaDoor.never_ok _
def TPS_9 : Tab := TPS_8.add 142 F_strconv_formatBits
theorem TPS_9_ok : TPS_9.Ok Tryd.prog := TPS_8_ok.add ok_strconv_formatBits
theorem ok_strconv_numDigits : OK Tryd.prog 140 F_strconv_numDigits.spec := Go.Proofs.YtickpjdnncpnmaaDoor.never_ok _
def TPS_10 : Tab := TPS_9.add 140 F_strconv_numDigits
theorem TPS_10_ok : TPS_10.Ok Tryd.prog := TPS_9_ok.add ok_strconv_numDigits
theorem eq_spec_l1Num (n : Int) (K : V -> Prop) : VC_spec_l1Num n K = vbody Tryd.prog (vin Tryd.prog TPS_10 annTPS 0) TPS_10.looks (annTPS 93) 93 [.int .i64 n] [] (fun v _ => K v) := by kernel_rfl
theorem ok_spec_l1Num : OK Tryd.prog 93 F_spec_l1Num.spec := (vbody_ok (vin_ok TPS_10_ok annTPS 0) TPS_10_ok.looks _ _).ofF fun args m p R h hp => by
 unfold F_spec_l1Num at h
 split at h
 ·injection h with h; injection h with h1 h2; subst h1; subst h2
  exact ⟨rfl, (congrArg At (eq_spec_l1Num _ _)).mp ⟨vc_spec_l1Num _ hp⟩⟩
 ·cases h
def TPS_11 : Tab := TPS_10.add 93 F_spec_l1Num
theorem TPS_11_ok : TPS_11.Ok Tryd.prog := TPS_10_ok.add ok_spec_l1Num
theorem eq_strconv_FormatInt (n : Int) (b : Int) (K : V -> Prop) : VC_strconv_FormatInt n b K = vbody Tryd.prog (vin Tryd.prog TPS_11 annTPS 3) TPS_11.looks (annTPS 118) 118 [.int .i64 n, .int .i64 b] [] (fun v _ => K v) := by kernel_rfl
theorem ok_strconv_FormatInt : OK Tryd.prog 118 F_strconv_FormatInt.spec := (vbody_ok (vin_ok TPS_11_ok annTPS 3) TPS_11_ok.looks _ _).ofF fun args m p R h hp => by
 unfold F_strconv_FormatInt at h
 split at h
 ·injection h with h; injection h with h1 h2; subst h1; subst h2
  exact ⟨rfl, (congrArg At (eq_strconv_FormatInt _ _ _)).mp ⟨vc_strconv_FormatInt _ _ hp⟩⟩
 ·cases h
def TPS_12 : Tab := TPS_11.add 118 F_strconv_FormatInt
theorem TPS_12_ok : TPS_12.Ok Tryd.prog := TPS_11_ok.add ok_strconv_FormatInt
theorem eq_strconv_Itoa (n : Int) (K : V -> Prop) : VC_strconv_Itoa n K = vbody Tryd.prog (vin Tryd.prog TPS_12 annTPS 3) TPS_12.looks (annTPS 72) 72 [.int .i64 n] [] (fun v _ => K v) := by kernel_rfl
theorem ok_strconv_Itoa : OK Tryd.prog 72 F_strconv_Itoa.spec := (vbody_ok (vin_ok TPS_12_ok annTPS 3) TPS_12_ok.looks _ _).ofF fun args m p R h hp => by
 unfold F_strconv_Itoa at h
 split at h
 ·injection h with h; injection h with h1 h2; subst h1; subst h2
  exact ⟨rfl, (congrArg At (eq_strconv_Itoa _ _)).mp ⟨vc_strconv_Itoa _ hp⟩⟩
 ·cases h
def TPS_13 : Tab := TPS_12.add 72 F_strconv_Itoa
theorem TPS_13_ok : TPS_13.Ok Tryd.prog := TPS_12_ok.add ok_strconv_Itoa
theorem eq_spec_l1Mod (n : Int) (m : Int) (K : V -> Prop) : VC_spec_l1Mod n m K = vbody Tryd.prog (vin Tryd.prog TPS_13 annTPS 3) TPS_13.looks (annTPS 152) 152 [.int .i64 n, .int .i64 m] [] (fun v _ => K v) := by kernel_rfl
theorem ok_spec_l1Mod : OK Tryd.prog 152 F_spec_l1Mod.spec := (vbody_ok (vin_ok TPS_13_ok annTPS 3) TPS_13_ok.looks _ _).ofF fun args m p R h hp => by
 unfold F_spec_l1Mod at h
 split at h
 ·injection h with h; injection h with h1 h2; subst h1; subst h2
  exact ⟨rfl, (congrArg At (eq_spec_l1Mod _ _ _)).mp ⟨vc_spec_l1Mod _ _ hp⟩⟩
 ·cases h
def TPS_14 : Tab := TPS_13.add 152 F_spec_l1Mod
theorem TPS_14_ok : TPS_14.Ok Tryd.prog := TPS_13_ok.add ok_spec_l1Mod
theorem eq_spec_woTurn (b : Int) (K : V -> Prop) : VC_spec_woTurn b K = vbody Tryd.prog (vin Tryd.prog TPS_14 annTPS 3) TPS_14.looks (annTPS 126) 126 [.int .u8 b] [] (fun v _ => K v) := by kernel_rfl
theorem ok_spec_woTurn : OK Tryd.prog 126 F_spec_woTurn.spec := (vbody_ok (vin_ok TPS_14_ok annTPS 3) TPS_14_ok.looks _ _).ofF fun args m p R h hp => by
 unfold F_spec_woTurn at h
 split at h
 ·injection h with h; injection h with h1 h2; subst h1; subst h2
  exact ⟨rfl, (congrArg At (eq_spec_woTurn _ _)).mp ⟨vc_spec_woTurn _ hp⟩⟩
 ·cases h
def TPS_15 : Tab := TPS_14.add 126 F_spec_woTurn
theorem TPS_15_ok : TPS_15.Ok Tryd.prog := TPS_14_ok.add ok_spec_woTurn
theorem eq_impl_quarters (b : Int) (K : V -> Prop) : VC_impl_quarters b K = vbody Tryd.prog (vin Tryd.prog TPS_15 annTPS 3) TPS_15.looks (annTPS 132) 132 [.int .u8 b] [] (fun v _ => K v) := by kernel_rfl
theorem ok_impl_quarters : OK Tryd.prog 132 F_impl_quarters.spec := (vbody_ok (vin_ok TPS_15_ok annTPS 3) TPS_15_ok.looks _ _).ofF fun args m p R h hp => by
 unfold F_impl_quarters at h
 split at h
 ·injection h with h; injection h with h1 h2; subst h1; subst h2
  exact ⟨rfl, (congrArg At (eq_impl_quarters _ _)).mp ⟨vc_impl_quarters _ hp⟩⟩
 ·cases h
def TPS_16 : Tab := TPS_15.add 132 F_impl_quarters
theorem TPS_16_ok : TPS_16.Ok Tryd.prog := TPS_15_ok.add ok_impl_quarters
theorem eq_impl_direction (d : Int) (K : V -> Prop) : VC_impl_direction d K = vbody Tryd.prog (vin Tryd.prog TPS_16 annTPS 3) TPS_16.looks (annTPS 153) 153 [.int .i64 d] [] (fun v _ => K v) := by kernel_rfl
theorem ok_impl_direction : OK Tryd.prog 153 F_impl_direction.spec := (vbody_ok (vin_ok TPS_16_ok annTPS 3) TPS_16_ok.looks _ _).ofF fun args m p R h hp => by
 unfold F_impl_direction at h
 split at h
 ·injection h with h; injection h with h1 h2; subst h1; subst h2
  exact ⟨rfl, (congrArg At (eq_impl_direction _ _)).mp ⟨vc_impl_direction _ hp⟩⟩
 ·cases h
def TPS_17 : Tab := TPS_16.add 153 F_impl_direction
theorem TPS_17_ok : TPS_17.Ok Tryd.prog := TPS_16_ok.add ok_impl_direction
theorem eq_impl_board_sign (wr : List UInt8) (ww : Int) (wh : Int) (wc : List UInt8) (wx : Int) (wy : Int) (wd : Int) (K : V -> Prop) : VC_impl_board_sign wr ww wh wc wx wy wd K = vbody Tryd.prog (vin Tryd.prog TPS_17 annTPS 3) TPS_17.looks (annTPS 133) 133 [.agg [.str wr, .int .i64 ww, .int .i64 wh, .str wc, .int .i64 wx, .int .i64 wy, .int .i64 wd]] [] (fun v _ => K v) := by kernel_rfl
theorem ok_impl_board_sign : OK Tryd.prog 133 F_impl_board_sign.spec := (vbody_ok (vin_ok TPS_17_ok annTPS 3) TPS_17_ok.looks _ _).ofF fun args m p R h hp => by
 unfold F_impl_board_sign at h
 split at h
 ·injection h with h; injection h with h1 h2; subst h1; subst h2
  exact ⟨rfl, (congrArg At (eq_impl_board_sign _ _ _ _ _ _ _ _)).mp ⟨vc_impl_board_sign _ _ _ _ _ _ _ hp⟩⟩
 ·cases h
def TPS_18 : Tab := TPS_17.add 133 F_impl_board_sign
theorem TPS_18_ok : TPS_18.Ok Tryd.prog := TPS_17_ok.add ok_impl_board_sign
theorem eq_impl_board_painted (wr : List UInt8) (ww : Int) (wh : Int) (wc : List UInt8) (wx : Int) (wy : Int) (wd : Int) (x : Int) (y : Int) (k : Int) (K : V -> Prop) : VC_impl_board_painted wr ww wh wc wx wy wd x y k K = vbody Tryd.prog (vin Tryd.prog TPS_18 annTPS 3) TPS_18.looks (annTPS 134) 134 [.agg [.str wr, .int .i64 ww, .int .i64 wh, .str wc, .int .i64 wx, .int .i64 wy, .int .i64 wd], .int .i64 x, .int .i64 y, .int .i64 k] [] (fun v _ => K v) := by kernel_rfl
theorem ok_impl_board_painted : OK Tryd.prog 134 F_impl_board_painted.spec := (vbody_ok (vin_ok TPS_18_ok annTPS 3) TPS_18_ok.looks _ _).ofF fun args m p R h hp => by
 unfold F_impl_board_painted at h
 split at h
 ·injection h with h; injection h with h1 h2; subst h1; subst h2
  exact ⟨rfl, (congrArg At (eq_impl_board_painted _ _ _ _ _ _ _ _ _ _ _)).mp ⟨vc_impl_board_painted _ _ _ _ _ _ _ _ _ _ hp⟩⟩
 ·cases h
def TPS_19 : Tab := TPS_18.add 134 F_impl_board_painted
theorem TPS_19_ok : TPS_19.Ok Tryd.prog := TPS_18_ok.add ok_impl_board_painted
theorem eq_impl_board_turned (wr : List UInt8) (ww : Int) (wh : Int) (wc : List UInt8) (wx : Int) (wy : Int) (wd : Int) (q : Int) (K : V -> Prop) : VC_impl_board_turned wr ww wh wc wx wy wd q K = vbody Tryd.prog (vin Tryd.prog TPS_19 annTPS 3) TPS_19.looks (annTPS 131) 131 [.agg [.str wr, .int .i64 ww, .int .i64 wh, .str wc, .int .i64 wx, .int .i64 wy, .int .i64 wd], .int .i64 q] [] (fun v _ => K v) := by kernel_rfl
theorem ok_impl_board_turned : OK Tryd.prog 131 F_impl_board_turned.spec := (vbody_ok (vin_ok TPS_19_ok annTPS 3) TPS_19_ok.looks _ _).ofF fun args m p R h hp => by
 unfold F_impl_board_turned at h
 split at h
 ·injection h with h; injection h with h1 h2; subst h1; subst h2
  exact ⟨rfl, (congrArg At (eq_impl_board_turned _ _ _ _ _ _ _ _ _)).mp ⟨vc_impl_board_turned _ _ _ _ _ _ _ _ hp⟩⟩
 ·cases h
def TPS_20 : Tab := TPS_19.add 131 F_impl_board_turned
theorem TPS_20_ok : TPS_20.Ok Tryd.prog := TPS_19_ok.add ok_impl_board_turned
theorem eq_impl_board_moved (wr : List UInt8) (ww : Int) (wh : Int) (wc : List UInt8) (wx : Int) (wy : Int) (wd : Int) (k : Int) (K : V -> Prop) : VC_impl_board_moved wr ww wh wc wx wy wd k K = vbody Tryd.prog (vin Tryd.prog TPS_20 annTPS 3) TPS_20.looks (annTPS 135) 135 [.agg [.str wr, .int .i64 ww, .int .i64 wh, .str wc, .int .i64 wx, .int .i64 wy, .int .i64 wd], .int .i64 k] [] (fun v _ => K v) := by kernel_rfl
theorem ok_impl_board_moved : OK Tryd.prog 135 F_impl_board_moved.spec := (vbody_ok (vin_ok TPS_20_ok annTPS 3) TPS_20_ok.looks _ _).ofF fun args m p R h hp => by
 unfold F_impl_board_moved at h
 split at h
 ·injection h with h; injection h with h1 h2; subst h1; subst h2
  exact ⟨rfl, (congrArg At (eq_impl_board_moved _ _ _ _ _ _ _ _ _)).mp ⟨vc_impl_board_moved _ _ _ _ _ _ _ _ hp⟩⟩
 ·cases h
def TPS_21 : Tab := TPS_20.add 135 F_impl_board_moved
theorem TPS_21_ok : TPS_21.Ok Tryd.prog := TPS_20_ok.add ok_impl_board_moved
theorem eq_spec_woPaint (x : Int) (y : Int) (k : Int) (wr : List UInt8) (ww : Int) (wh : Int) (wc : List UInt8) (wx : Int) (wy : Int) (wd : Int) (e : TypeId) (K : V -> List Blk -> Prop) : VC_spec_woPaint x y k wr ww wh wc wx wy wd e K = vbody Tryd.prog (vin Tryd.prog TPS_21 annTPS 3) TPS_21.looks (annTPS 127) 127 [.ptr 0 0, .int .i64 x, .int .i64 y, .int .i64 k] [⟨.vals [.str wr, .int .i64 ww, .int .i64 wh, .str wc, .int .i64 wx, .int .i64 wy, .int .i64 wd], e, .box⟩] (K) := by kernel_rfl
theorem ok_spec_woPaint : OK Tryd.prog 127 F_spec_woPaint.spec := (vbody_ok (vin_ok TPS_21_ok annTPS 3) TPS_21_ok.looks _ _).ofG fun args m p R M h hp => by
 unfold F_spec_woPaint at h
 split at h
 ·injection h with h; injection h with h1 h2; injection h2 with h2 h3; subst h1; subst h2; subst h3
  exact (congrArg At (eq_spec_woPaint _ _ _ _ _ _ _ _ _ _ _ _)).mp ⟨vc_spec_woPaint _ _ _ _ _ _ _ _ _ _ _ hp⟩
 ·cases h
def TPS_22 : Tab := TPS_21.addG 127 F_spec_woPaint
theorem TPS_22_ok : TPS_22.Ok Tryd.prog := TPS_21_ok.addG ok_spec_woPaint
theorem eq_spec_woGo (k : Int) (wr : List UInt8) (ww : Int) (wh : Int) (wc : List UInt8) (wx : Int) (wy : Int) (wd : Int) (e : TypeId) (K : V -> List Blk -> Prop) : VC_spec_woGo k wr ww wh wc wx wy wd e K = vbody Tryd.prog (vin Tryd.prog TPS_22 annTPS 3) TPS_22.looks (annTPS 128) 128 [.ptr 0 0, .int .i64 k] [⟨.vals [.str wr, .int .i64 ww, .int .i64 wh, .str wc, .int .i64 wx, .int .i64 wy, .int .i64 wd], e, .box⟩] (K) := by kernel_rfl
theorem ok_spec_woGo : OK Tryd.prog 128 F_spec_woGo.spec := (vbody_ok (vin_ok TPS_22_ok annTPS 3) TPS_22_ok.looks _ _).ofG fun args m p R M h hp => by
 unfold F_spec_woGo at h
 split at h
 ·injection h with h; injection h with h1 h2; injection h2 with h2 h3; subst h1; subst h2; subst h3
  exact (congrArg At (eq_spec_woGo _ _ _ _ _ _ _ _ _ _)).mp ⟨vc_spec_woGo _ _ _ _ _ _ _ _ _ hp⟩
 ·cases h
def TPS_23 : Tab := TPS_22.addG 128 F_spec_woGo
theorem TPS_23_ok : TPS_23.Ok Tryd.prog := TPS_22_ok.addG ok_spec_woGo
theorem eq_spec_woStep (wr : List UInt8) (ww : Int) (wh : Int) (wc : List UInt8) (wx : Int) (wy : Int) (wd : Int) (K : V -> Prop) : VC_spec_woStep wr ww wh wc wx wy wd K = vbody Tryd.prog (vin Tryd.prog TPS_23 annTPS 4) TPS_23.looks (annTPS 106) 106 [.agg [.str wr, .int .i64 ww, .int .i64 wh, .str wc, .int .i64 wx, .int .i64 wy, .int .i64 wd]] [] (fun v _ => K v) := by kernel_rfl
theorem ok_spec_woStep : OK Tryd.prog 106 F_spec_woStep.spec := (vbody_ok (vin_ok TPS_23_ok annTPS 4) TPS_23_ok.looks _ _).ofF fun args m p R h hp => by
 unfold F_spec_woStep at h
 split at h
 ·injection h with h; injection h with h1 h2; subst h1; subst h2
  exact ⟨rfl, (congrArg At (eq_spec_woStep _ _ _ _ _ _ _ _)).mp ⟨vc_spec_woStep _ _ _ _ _ _ _ hp⟩⟩
 ·cases h
def TPS_24 : Tab := TPS_23.add 106 F_spec_woStep
theorem TPS_24_ok : TPS_24.Ok Tryd.prog := TPS_23_ok.add ok_spec_woStep
theorem eq_impl_board_forth (wr : List UInt8) (ww : Int) (wh : Int) (wc : List UInt8) (wx : Int) (wy : Int) (wd : Int) (K : V -> Prop) : VC_impl_board_forth wr ww wh wc wx wy wd K = vbody Tryd.prog (vin Tryd.prog TPS_24 annTPS 4) TPS_24.looks (annTPS 114) 114 [.agg [.str wr, .int .i64 ww, .int .i64 wh, .str wc, .int .i64 wx, .int .i64 wy, .int .i64 wd]] [] (fun v _ => K v) := by kernel_rfl
theorem ok_impl_board_forth : OK Tryd.prog 114 F_impl_board_forth.spec := (vbody_ok (vin_ok TPS_24_ok annTPS 4) TPS_24_ok.looks _ _).ofF fun args m p R h hp => by
 unfold F_impl_board_forth at h
 split at h
 ·injection h with h; injection h with h1 h2; subst h1; subst h2
  exact ⟨rfl, (congrArg At (eq_impl_board_forth _ _ _ _ _ _ _ _)).mp ⟨vc_impl_board_forth _ _ _ _ _ _ _ hp⟩⟩
 ·cases h
def TPS_25 : Tab := TPS_24.add 114 F_impl_board_forth
theorem TPS_25_ok : TPS_25.Ok Tryd.prog := TPS_24_ok.add ok_impl_board_forth
theorem eq_laws_eqClue (ax : Int) (ay : Int) (ak : Int) (bx : Int) (by_ : Int) (bk : Int) (K : V -> Prop) : VC_laws_eqClue ax ay ak bx by_ bk K = vbody Tryd.prog (vin Tryd.prog TPS_25 annTPS 3) TPS_25.looks (annTPS 85) 85 [.agg [.int .i64 ax, .int .i64 ay, .int .i64 ak], .agg [.int .i64 bx, .int .i64 by_, .int .i64 bk]] [] (fun v _ => K v) := by kernel_rfl
theorem ok_laws_eqClue : OK Tryd.prog 85 F_laws_eqClue.spec := (vbody_ok (vin_ok TPS_25_ok annTPS 3) TPS_25_ok.looks _ _).ofF fun args m p R h hp => by
 unfold F_laws_eqClue at h
 split at h
 ·injection h with h; injection h with h1 h2; subst h1; subst h2
  exact ⟨rfl, (congrArg At (eq_laws_eqClue _ _ _ _ _ _ _)).mp ⟨vc_laws_eqClue _ _ _ _ _ _ hp⟩⟩
 ·cases h
def TPS_26 : Tab := TPS_25.add 85 F_laws_eqClue
theorem TPS_26_ok : TPS_26.Ok Tryd.prog := TPS_25_ok.add ok_laws_eqClue
theorem eq_laws_eqClueS  (n : Nat) (m : Nat) (a : List Int) (b : List Int) (K : V -> List Blk -> Prop) : VC_laws_eqClueS  n m a b K = vbody Tryd.prog (vin Tryd.prog TPS_26 annTPS 3) TPS_26.looks (annTPS 50) 50 [.row 0 n, .row 1 m] [⟨.ints .i64 a, 83, .rows 3⟩, ⟨.ints .i64 b, 83, .rows 3⟩] (K) := by kernel_rfl
theorem ok_laws_eqClueS : OK Tryd.prog 50 F_laws_eqClueS.spec := (vbody_ok (vin_ok TPS_26_ok annTPS 3) TPS_26_ok.looks _ _).ofFM fun args m p R h hp => by
 unfold F_laws_eqClueS at h
 split at h
 ·injection h with h; injection h with h1 h2; subst h1; subst h2
  exact (congrArg At (eq_laws_eqClueS _ _ _ _ _)).mp ⟨vc_laws_eqClueS _ _ _ _ hp⟩
 ·cases h
def TPS_27 : Tab := TPS_26.add 50 F_laws_eqClueS
theorem TPS_27_ok : TPS_27.Ok Tryd.prog := TPS_26_ok.add ok_laws_eqClueS
theorem eq_laws_eqPuzzle  (ar : List UInt8) (aw : Int) (ah : Int) (cr : List UInt8) (cw : Int) (ch : Int) (n : Nat) (m : Nat) (a : List Int) (b : List Int) (K : V -> List Blk -> Prop) : VC_laws_eqPuzzle  ar aw ah cr cw ch n m a b K = vbody Tryd.prog (vin Tryd.prog TPS_27 annTPS 3) TPS_27.looks (annTPS 17) 17 [.agg [.str ar, .int .i64 aw, .int .i64 ah, .row 0 n], .agg [.str cr, .int .i64 cw, .int .i64 ch, .row 1 m]] [⟨.ints .i64 a, 83, .rows 3⟩, ⟨.ints .i64 b, 83, .rows 3⟩] (K) := by kernel_rfl
theorem ok_laws_eqPuzzle : OK Tryd.prog 17 F_laws_eqPuzzle.spec := (vbody_ok (vin_ok TPS_27_ok annTPS 3) TPS_27_ok.looks _ _).ofFM fun args m p R h hp => by
 unfold F_laws_eqPuzzle at h
 split at h
 ·injection h with h; injection h with h1 h2; subst h1; subst h2
  exact (congrArg At (eq_laws_eqPuzzle _ _ _ _ _ _ _ _ _ _ _)).mp ⟨vc_laws_eqPuzzle _ _ _ _ _ _ _ _ _ _ hp⟩
 ·cases h
def TPS_28 : Tab := TPS_27.add 17 F_laws_eqPuzzle
theorem TPS_28_ok : TPS_28.Ok Tryd.prog := TPS_27_ok.add ok_laws_eqPuzzle
theorem eq_laws_markClueS (k : Int) (n : Nat) (a : List Int) (K : V -> List Blk -> Prop) : VC_laws_markClueS k n a K = vbody Tryd.prog (vin Tryd.prog TPS_28 annTPS 3) TPS_28.looks (annTPS 51) 51 [.row 0 n, .int .i64 k] [⟨.ints .i64 a, 83, .rows 3⟩] (K) := by kernel_rfl
theorem ok_laws_markClueS : OK Tryd.prog 51 F_laws_markClueS.spec := (vbody_ok (vin_ok TPS_28_ok annTPS 3) TPS_28_ok.looks _ _).ofG fun args m p R M h hp => by
 unfold F_laws_markClueS at h
 split at h
 ·injection h with h; injection h with h1 h2; injection h2 with h2 h3; subst h1; subst h2; subst h3
  exact (congrArg At (eq_laws_markClueS _ _ _ _)).mp ⟨vc_laws_markClueS _ _ _ hp⟩
 ·cases h
def TPS_29 : Tab := TPS_28.addG 51 F_laws_markClueS
theorem TPS_29_ok : TPS_29.Ok Tryd.prog := TPS_28_ok.addG ok_laws_markClueS
theorem eq_laws_heldClueS (k : Int) (n : Nat) (a : List Int) (K : V -> List Blk -> Prop) : VC_laws_heldClueS k n a K = vbody Tryd.prog (vin Tryd.prog TPS_29 annTPS 3) TPS_29.looks (annTPS 61) 61 [.row 0 n, .int .i64 k] [⟨.ints .i64 a, 83, .rows 3⟩] (K) := by kernel_rfl
theorem ok_laws_heldClueS : OK Tryd.prog 61 F_laws_heldClueS.spec := (vbody_ok (vin_ok TPS_29_ok annTPS 3) TPS_29_ok.looks _ _).ofFM fun args m p R h hp => by
 unfold F_laws_heldClueS at h
 split at h
 ·injection h with h; injection h with h1 h2; subst h1; subst h2
  exact (congrArg At (eq_laws_heldClueS _ _ _ _)).mp ⟨vc_laws_heldClueS _ _ _ hp⟩
 ·cases h
def TPS_30 : Tab := TPS_29.add 61 F_laws_heldClueS
theorem TPS_30_ok : TPS_30.Ok Tryd.prog := TPS_29_ok.add ok_laws_heldClueS
theorem eq_laws_markPuzzle (k : Int) (pr : List UInt8) (pw : Int) (ph : Int) (n : Nat) (a : List Int) (K : V -> List Blk -> Prop) : VC_laws_markPuzzle k pr pw ph n a K = vbody Tryd.prog (vin Tryd.prog TPS_30 annTPS 3) TPS_30.looks (annTPS 18) 18 [.agg [.str pr, .int .i64 pw, .int .i64 ph, .row 0 n], .int .i64 k] [⟨.ints .i64 a, 83, .rows 3⟩] (K) := by kernel_rfl
theorem ok_laws_markPuzzle : OK Tryd.prog 18 F_laws_markPuzzle.spec := (vbody_ok (vin_ok TPS_30_ok annTPS 3) TPS_30_ok.looks _ _).ofG fun args m p R M h hp => by
 unfold F_laws_markPuzzle at h
 split at h
 ·injection h with h; injection h with h1 h2; injection h2 with h2 h3; subst h1; subst h2; subst h3
  exact (congrArg At (eq_laws_markPuzzle _ _ _ _ _ _ _)).mp ⟨vc_laws_markPuzzle _ _ _ _ _ _ hp⟩
 ·cases h
def TPS_31 : Tab := TPS_30.addG 18 F_laws_markPuzzle
theorem TPS_31_ok : TPS_31.Ok Tryd.prog := TPS_30_ok.addG ok_laws_markPuzzle
theorem eq_laws_heldPuzzle (k : Int) (pr : List UInt8) (pw : Int) (ph : Int) (n : Nat) (a : List Int) (K : V -> List Blk -> Prop) : VC_laws_heldPuzzle k pr pw ph n a K = vbody Tryd.prog (vin Tryd.prog TPS_31 annTPS 3) TPS_31.looks (annTPS 34) 34 [.agg [.str pr, .int .i64 pw, .int .i64 ph, .row 0 n], .int .i64 k] [⟨.ints .i64 a, 83, .rows 3⟩] (K) := by kernel_rfl
theorem ok_laws_heldPuzzle : OK Tryd.prog 34 F_laws_heldPuzzle.spec := (vbody_ok (vin_ok TPS_31_ok annTPS 3) TPS_31_ok.looks _ _).ofFM fun args m p R h hp => by
 unfold F_laws_heldPuzzle at h
 split at h
 ·injection h with h; injection h with h1 h2; subst h1; subst h2
  exact (congrArg At (eq_laws_heldPuzzle _ _ _ _ _ _ _)).mp ⟨vc_laws_heldPuzzle _ _ _ _ _ _ hp⟩
 ·cases h
def TPS_32 : Tab := TPS_31.add 34 F_laws_heldPuzzle
theorem TPS_32_ok : TPS_32.Ok Tryd.prog := TPS_31_ok.add ok_laws_heldPuzzle
theorem eq_laws_szClueS (left : Int) (n : Nat) (a : List Int) (K : V -> List Blk -> Prop) : VC_laws_szClueS left n a K = vbody Tryd.prog (vin Tryd.prog TPS_32 annTPS 3) TPS_32.looks (annTPS 43) 43 [.row 0 n, .int .i64 left] [⟨.ints .i64 a, 99, .arg 3⟩] (K) := by kernel_rfl
theorem ok_laws_szClueS : OK Tryd.prog 43 F_laws_szClueS.spec := (vbody_ok (vin_ok TPS_32_ok annTPS 3) TPS_32_ok.looks _ _).ofFM fun args m p R h hp => by
 unfold F_laws_szClueS at h
 split at h
 ·injection h with h; injection h with h1 h2; subst h1; subst h2
  exact (congrArg At (eq_laws_szClueS _ _ _ _)).mp ⟨vc_laws_szClueS _ _ _ hp⟩
 ·cases h
def TPS_33 : Tab := TPS_32.add 43 F_laws_szClueS
theorem TPS_33_ok : TPS_33.Ok Tryd.prog := TPS_32_ok.add ok_laws_szClueS
theorem eq_laws_szPuzzle (left : Int) (pr : List UInt8) (pw : Int) (ph : Int) (n : Nat) (a : List Int) (K : V -> List Blk -> Prop) : VC_laws_szPuzzle left pr pw ph n a K = vbody Tryd.prog (vin Tryd.prog TPS_33 annTPS 3) TPS_33.looks (annTPS 12) 12 [.agg [.str pr, .int .i64 pw, .int .i64 ph, .row 0 n], .int .i64 left] [⟨.ints .i64 a, 99, .arg 3⟩] (K) := by kernel_rfl
theorem ok_laws_szPuzzle : OK Tryd.prog 12 F_laws_szPuzzle.spec := (vbody_ok (vin_ok TPS_33_ok annTPS 3) TPS_33_ok.looks _ _).ofFM fun args m p R h hp => by
 unfold F_laws_szPuzzle at h
 split at h
 ·injection h with h; injection h with h1 h2; subst h1; subst h2
  exact (congrArg At (eq_laws_szPuzzle _ _ _ _ _ _ _)).mp ⟨vc_laws_szPuzzle _ _ _ _ _ _ hp⟩
 ·cases h
def TPS_34 : Tab := TPS_33.add 12 F_laws_szPuzzle
theorem TPS_34_ok : TPS_34.Ok Tryd.prog := TPS_33_ok.add ok_laws_szPuzzle
theorem eq_laws_toClue (ax : Int) (ay : Int) (ak : Int) (K : V -> Prop) : VC_laws_toClue ax ay ak K = vbody Tryd.prog (vin Tryd.prog TPS_34 annTPS 3) TPS_34.looks (annTPS 81) 81 [.agg [.int .i64 ax, .int .i64 ay, .int .i64 ak]] [] (fun v _ => K v) := by kernel_rfl
theorem ok_laws_toClue : OK Tryd.prog 81 F_laws_toClue.spec := (vbody_ok (vin_ok TPS_34_ok annTPS 3) TPS_34_ok.looks _ _).ofF fun args m p R h hp => by
 unfold F_laws_toClue at h
 split at h
 ·injection h with h; injection h with h1 h2; subst h1; subst h2
  exact ⟨rfl, (congrArg At (eq_laws_toClue _ _ _ _)).mp ⟨vc_laws_toClue _ _ _ hp⟩⟩
 ·cases h
def TPS_35 : Tab := TPS_34.add 81 F_laws_toClue
theorem TPS_35_ok : TPS_35.Ok Tryd.prog := TPS_34_ok.add ok_laws_toClue
theorem eq_laws_toClueS  (n : Nat) (a : List Int) (K : V -> List Blk -> Prop) : VC_laws_toClueS  n a K = vbody Tryd.prog (vin Tryd.prog TPS_35 annTPS 3) TPS_35.looks (annTPS 46) 46 [.row 0 n] [⟨.ints .i64 a, 99, .arg 3⟩] (K) := by kernel_rfl
theorem ok_laws_toClueS : OK Tryd.prog 46 F_laws_toClueS.spec := (vbody_ok (vin_ok TPS_35_ok annTPS 3) TPS_35_ok.looks _ _).ofG fun args m p R M h hp => by
 unfold F_laws_toClueS at h
 split at h
 ·injection h with h; injection h with h1 h2; injection h2 with h2 h3; subst h1; subst h2; subst h3
  exact (congrArg At (eq_laws_toClueS _ _ _)).mp ⟨vc_laws_toClueS _ _ hp⟩
 ·cases h
def TPS_36 : Tab := TPS_35.addG 46 F_laws_toClueS
theorem TPS_36_ok : TPS_36.Ok Tryd.prog := TPS_35_ok.addG ok_laws_toClueS
theorem eq_laws_toPuzzle  (pr : List UInt8) (pw : Int) (ph : Int) (n : Nat) (a : List Int) (K : V -> List Blk -> Prop) : VC_laws_toPuzzle  pr pw ph n a K = vbody Tryd.prog (vin Tryd.prog TPS_36 annTPS 3) TPS_36.looks (annTPS 14) 14 [.agg [.str pr, .int .i64 pw, .int .i64 ph, .row 0 n]] [⟨.ints .i64 a, 99, .arg 3⟩] (K) := by kernel_rfl
theorem ok_laws_toPuzzle : OK Tryd.prog 14 F_laws_toPuzzle.spec := (vbody_ok (vin_ok TPS_36_ok annTPS 3) TPS_36_ok.looks _ _).ofG fun args m p R M h hp => by
 unfold F_laws_toPuzzle at h
 split at h
 ·injection h with h; injection h with h1 h2; injection h2 with h2 h3; subst h1; subst h2; subst h3
  exact (congrArg At (eq_laws_toPuzzle _ _ _ _ _ _)).mp ⟨vc_laws_toPuzzle _ _ _ _ _ hp⟩
 ·cases h
def TPS_37 : Tab := TPS_36.addG 14 F_laws_toPuzzle
theorem TPS_37_ok : TPS_37.Ok Tryd.prog := TPS_36_ok.addG ok_laws_toPuzzle
theorem ok_impl_areClues : OK Tryd.prog 94 F_impl_areClues.spec := Go.Proofs.YtickpjdnncpnmaaDoor.PD.ok_areClues
def TPS_38 : Tab := TPS_37.add 94 F_impl_areClues
theorem TPS_38_ok : TPS_38.Ok Tryd.prog := TPS_37_ok.add ok_impl_areClues
theorem eq_spec_pzPower (s : List UInt8) (n : Int) (K : V -> Prop) : VC_spec_pzPower s n K = vbody Tryd.prog (vin Tryd.prog TPS_38 annTPS 3) TPS_38.looks (annTPS 104) 104 [.str s, .int .i64 n] [] (fun v _ => K v) := by kernel_rfl
theorem ok_spec_pzPower : OK Tryd.prog 104 F_spec_pzPower.spec := (vbody_ok (vin_ok TPS_38_ok annTPS 3) TPS_38_ok.looks _ _).ofF fun args m p R h hp => by
 unfold F_spec_pzPower at h
 split at h
 ·injection h with h; injection h with h1 h2; subst h1; subst h2
  exact ⟨rfl, (congrArg At (eq_spec_pzPower _ _ _)).mp ⟨vc_spec_pzPower _ _ hp⟩⟩
 ·cases h
def TPS_39 : Tab := TPS_38.add 104 F_spec_pzPower
theorem TPS_39_ok : TPS_39.Ok Tryd.prog := TPS_38_ok.add ok_spec_pzPower
theorem eq_spec_pzSize (s : List UInt8) (w : Int) (h : Int) (K : V -> Prop) : VC_spec_pzSize s w h K = vbody Tryd.prog (vin Tryd.prog TPS_39 annTPS 3) TPS_39.looks (annTPS 78) 78 [.str s, .int .i64 w, .int .i64 h] [] (fun v _ => K v) := by kernel_rfl
theorem ok_spec_pzSize : OK Tryd.prog 78 F_spec_pzSize.spec := (vbody_ok (vin_ok TPS_39_ok annTPS 3) TPS_39_ok.looks _ _).ofF fun args m p R h hp => by
 unfold F_spec_pzSize at h
 split at h
 ·injection h with h; injection h with h1 h2; subst h1; subst h2
  exact ⟨rfl, (congrArg At (eq_spec_pzSize _ _ _ _)).mp ⟨vc_spec_pzSize _ _ _ hp⟩⟩
 ·cases h
def TPS_40 : Tab := TPS_39.add 78 F_spec_pzSize
theorem TPS_40_ok : TPS_40.Ok Tryd.prog := TPS_39_ok.add ok_spec_pzSize
theorem eq_impl_isSize (w : Int) (h : Int) (K : V -> Prop) : VC_impl_isSize w h K = vbody Tryd.prog (vin Tryd.prog TPS_40 annTPS 3) TPS_40.looks (annTPS 108) 108 [.int .i64 w, .int .i64 h] [] (fun v _ => K v) := by kernel_rfl
theorem ok_impl_isSize : OK Tryd.prog 108 F_impl_isSize.spec := (vbody_ok (vin_ok TPS_40_ok annTPS 3) TPS_40_ok.looks _ _).ofF fun args m p R h hp => by
 unfold F_impl_isSize at h
 split at h
 ·injection h with h; injection h with h1 h2; subst h1; subst h2
  exact ⟨rfl, (congrArg At (eq_impl_isSize _ _ _)).mp ⟨vc_impl_isSize _ _ hp⟩⟩
 ·cases h
def TPS_41 : Tab := TPS_40.add 108 F_impl_isSize
theorem TPS_41_ok : TPS_41.Ok Tryd.prog := TPS_40_ok.add ok_impl_isSize
theorem eq_impl_CountBoards (s : List UInt8) (w : Int) (h : Int) (K : V -> Prop) : VC_impl_CountBoards s w h K = vbody Tryd.prog (vin Tryd.prog TPS_41 annTPS 3) TPS_41.looks (annTPS 88) 88 [.str s, .int .i64 w, .int .i64 h] [] (fun v _ => K v) := by kernel_rfl
theorem ok_impl_CountBoards : OK Tryd.prog 88 F_impl_CountBoards.spec := (vbody_ok (vin_ok TPS_41_ok annTPS 3) TPS_41_ok.looks _ _).ofF fun args m p R h hp => by
 unfold F_impl_CountBoards at h
 split at h
 ·injection h with h; injection h with h1 h2; subst h1; subst h2
  exact ⟨rfl, (congrArg At (eq_impl_CountBoards _ _ _ _)).mp ⟨vc_impl_CountBoards _ _ _ hp⟩⟩
 ·cases h
def TPS_42 : Tab := TPS_41.add 88 F_impl_CountBoards
theorem TPS_42_ok : TPS_42.Ok Tryd.prog := TPS_41_ok.add ok_impl_CountBoards
theorem eq_spec_pzClue (s : List UInt8) (cells : Int) (cx : Int) (cy : Int) (ck : Int) (K : V -> Prop) : VC_spec_pzClue s cells cx cy ck K = vbody Tryd.prog (vin Tryd.prog TPS_42 annTPS 3) TPS_42.looks (annTPS 79) 79 [.str s, .int .i64 cells, .agg [.int .i64 cx, .int .i64 cy, .int .i64 ck]] [] (fun v _ => K v) := by kernel_rfl
theorem ok_spec_pzClue : OK Tryd.prog 79 F_spec_pzClue.spec := (vbody_ok (vin_ok TPS_42_ok annTPS 3) TPS_42_ok.looks _ _).ofF fun args m p R h hp => by
 unfold F_spec_pzClue at h
 split at h
 ·injection h with h; injection h with h1 h2; subst h1; subst h2
  exact ⟨rfl, (congrArg At (eq_spec_pzClue _ _ _ _ _ _)).mp ⟨vc_spec_pzClue _ _ _ _ _ hp⟩⟩
 ·cases h
def TPS_43 : Tab := TPS_42.add 79 F_spec_pzClue
theorem TPS_43_ok : TPS_43.Ok Tryd.prog := TPS_42_ok.add ok_spec_pzClue
theorem eq_spec_pzGood  (pr : List UInt8) (pw : Int) (ph : Int) (n : Nat) (a : List Int) (K : V -> List Blk -> Prop) : VC_spec_pzGood  pr pw ph n a K = vbody Tryd.prog (vin Tryd.prog TPS_43 annTPS 3) TPS_43.looks (annTPS 44) 44 [.agg [.str pr, .int .i64 pw, .int .i64 ph, .row 0 n]] [⟨.ints .i64 a, 83, .rows 3⟩] (K) := by kernel_rfl
theorem ok_spec_pzGood : OK Tryd.prog 44 F_spec_pzGood.spec := (vbody_ok (vin_ok TPS_43_ok annTPS 3) TPS_43_ok.looks _ _).ofFM fun args m p R h hp => by
 unfold F_spec_pzGood at h
 split at h
 ·injection h with h; injection h with h1 h2; subst h1; subst h2
  exact (congrArg At (eq_spec_pzGood _ _ _ _ _ _)).mp ⟨vc_spec_pzGood _ _ _ _ _ hp⟩
 ·cases h
def TPS_44 : Tab := TPS_43.add 44 F_spec_pzGood
theorem TPS_44_ok : TPS_44.Ok Tryd.prog := TPS_43_ok.add ok_spec_pzGood
theorem eq_impl_IsPuzzle  (pr : List UInt8) (pw : Int) (ph : Int) (n : Nat) (a : List Int) (K : V -> List Blk -> Prop) : VC_impl_IsPuzzle  pr pw ph n a K = vbody Tryd.prog (vin Tryd.prog TPS_44 annTPS 3) TPS_44.looks (annTPS 70) 70 [.agg [.str pr, .int .i64 pw, .int .i64 ph, .row 0 n]] [⟨.ints .i64 a, 83, .rows 3⟩] (K) := by kernel_rfl
theorem ok_impl_IsPuzzle : OK Tryd.prog 70 F_impl_IsPuzzle.spec := (vbody_ok (vin_ok TPS_44_ok annTPS 3) TPS_44_ok.looks _ _).ofFM fun args m p R h hp => by
 unfold F_impl_IsPuzzle at h
 split at h
 ·injection h with h; injection h with h1 h2; subst h1; subst h2
  exact (congrArg At (eq_impl_IsPuzzle _ _ _ _ _ _)).mp ⟨vc_impl_IsPuzzle _ _ _ _ _ hp⟩
 ·cases h
def TPS_45 : Tab := TPS_44.add 70 F_impl_IsPuzzle
theorem TPS_45_ok : TPS_45.Ok Tryd.prog := TPS_44_ok.add ok_impl_IsPuzzle
theorem eq_impl_firstClues (n : Int) (K : V -> Prop) : VC_impl_firstClues n K = vbody Tryd.prog (vin Tryd.prog TPS_45 annTPS 3) TPS_45.looks (annTPS 57) 57 [.int .i64 n] [] (fun v _ => K v) := by kernel_rfl
theorem ok_impl_firstClues : OK Tryd.prog 57 F_impl_firstClues.spec := (vbody_ok (vin_ok TPS_45_ok annTPS 3) TPS_45_ok.looks _ _).ofF fun args m p R h hp => by
 unfold F_impl_firstClues at h
 split at h
 ·injection h with h; injection h with h1 h2; subst h1; subst h2
  exact ⟨rfl, (congrArg At (eq_impl_firstClues _ _)).mp ⟨vc_impl_firstClues _ hp⟩⟩
 ·cases h
def TPS_46 : Tab := TPS_45.add 57 F_impl_firstClues
theorem TPS_46_ok : TPS_46.Ok Tryd.prog := TPS_45_ok.add ok_impl_firstClues
theorem eq_impl_oneClue (n : Int) (K : V -> Prop) : VC_impl_oneClue n K = vbody Tryd.prog (vin Tryd.prog TPS_46 annTPS 3) TPS_46.looks (annTPS 58) 58 [.int .i64 n] [] (fun v _ => K v) := by kernel_rfl
theorem ok_impl_oneClue : OK Tryd.prog 58 F_impl_oneClue.spec := (vbody_ok (vin_ok TPS_46_ok annTPS 3) TPS_46_ok.looks _ _).ofF fun args m p R h hp => by
 unfold F_impl_oneClue at h
 split at h
 ·injection h with h; injection h with h1 h2; subst h1; subst h2
  exact ⟨rfl, (congrArg At (eq_impl_oneClue _ _)).mp ⟨vc_impl_oneClue _ hp⟩⟩
 ·cases h
def TPS_47 : Tab := TPS_46.add 58 F_impl_oneClue
theorem TPS_47_ok : TPS_47.Ok Tryd.prog := TPS_46_ok.add ok_impl_oneClue
theorem eq_impl_clueSet_hasAll (s : Int) (o : Int) (K : V -> Prop) : VC_impl_clueSet_hasAll s o K = vbody Tryd.prog (vin Tryd.prog TPS_47 annTPS 3) TPS_47.looks (annTPS 84) 84 [.int .u64 s, .int .u64 o] [] (fun v _ => K v) := by kernel_rfl
theorem ok_impl_clueSet_hasAll : OK Tryd.prog 84 F_impl_clueSet_hasAll.spec := (vbody_ok (vin_ok TPS_47_ok annTPS 3) TPS_47_ok.looks _ _).ofF fun args m p R h hp => by
 unfold F_impl_clueSet_hasAll at h
 split at h
 ·injection h with h; injection h with h1 h2; subst h1; subst h2
  exact ⟨rfl, (congrArg At (eq_impl_clueSet_hasAll _ _ _)).mp ⟨vc_impl_clueSet_hasAll _ _ hp⟩⟩
 ·cases h
def TPS_48 : Tab := TPS_47.add 84 F_impl_clueSet_hasAll
theorem TPS_48_ok : TPS_48.Ok Tryd.prog := TPS_47_ok.add ok_impl_clueSet_hasAll
theorem eq_impl_clueSet_without (s : Int) (n : Int) (K : V -> Prop) : VC_impl_clueSet_without s n K = vbody Tryd.prog (vin Tryd.prog TPS_48 annTPS 3) TPS_48.looks (annTPS 56) 56 [.int .u64 s, .int .i64 n] [] (fun v _ => K v) := by kernel_rfl
theorem ok_impl_clueSet_without : OK Tryd.prog 56 F_impl_clueSet_without.spec := (vbody_ok (vin_ok TPS_48_ok annTPS 3) TPS_48_ok.looks _ _).ofF fun args m p R h hp => by
 unfold F_impl_clueSet_without at h
 split at h
 ·injection h with h; injection h with h1 h2; subst h1; subst h2
  exact ⟨rfl, (congrArg At (eq_impl_clueSet_without _ _ _)).mp ⟨vc_impl_clueSet_without _ _ hp⟩⟩
 ·cases h
def TPS_49 : Tab := TPS_48.add 56 F_impl_clueSet_without
theorem TPS_49_ok : TPS_49.Ok Tryd.prog := TPS_48_ok.add ok_impl_clueSet_without
theorem eq_impl_allClues  (pr : List UInt8) (pw : Int) (ph : Int) (n : Nat) (a : List Int) (K : V -> List Blk -> Prop) : VC_impl_allClues  pr pw ph n a K = vbody Tryd.prog (vin Tryd.prog TPS_49 annTPS 3) TPS_49.looks (annTPS 49) 49 [.agg [.str pr, .int .i64 pw, .int .i64 ph, .row 0 n]] [⟨.ints .i64 a, 83, .rows 3⟩] (K) := by kernel_rfl
theorem ok_impl_allClues : OK Tryd.prog 49 F_impl_allClues.spec := (vbody_ok (vin_ok TPS_49_ok annTPS 3) TPS_49_ok.looks _ _).ofFM fun args m p R h hp => by
 unfold F_impl_allClues at h
 split at h
 ·injection h with h; injection h with h1 h2; subst h1; subst h2
  exact (congrArg At (eq_impl_allClues _ _ _ _ _ _)).mp ⟨vc_impl_allClues _ _ _ _ _ hp⟩
 ·cases h
def TPS_50 : Tab := TPS_49.add 49 F_impl_allClues
theorem TPS_50_ok : TPS_50.Ok Tryd.prog := TPS_49_ok.add ok_impl_allClues
theorem eq_impl_withClues (m : Int) (pr : List UInt8) (pw : Int) (ph : Int) (n : Nat) (a : List Int) (K : V -> List Blk -> Prop) : VC_impl_withClues m pr pw ph n a K = vbody Tryd.prog (vin Tryd.prog TPS_50 annTPS 3) TPS_50.looks (annTPS 60) 60 [.agg [.str pr, .int .i64 pw, .int .i64 ph, .row 0 n], .int .u64 m] [⟨.ints .i64 a, 83, .rows 3⟩] (K) := by kernel_rfl
theorem ok_impl_withClues : OK Tryd.prog 60 F_impl_withClues.spec := (vbody_ok (vin_ok TPS_50_ok annTPS 3) TPS_50_ok.looks _ _).ofG fun args m p R M h hp => by
 unfold F_impl_withClues at h
 split at h
 ·injection h with h; injection h with h1 h2; injection h2 with h2 h3; subst h1; subst h2; subst h3
  exact (congrArg At (eq_impl_withClues _ _ _ _ _ _ _)).mp ⟨vc_impl_withClues _ _ _ _ _ _ hp⟩
 ·cases h
def TPS_51 : Tab := TPS_50.addG 60 F_impl_withClues
theorem TPS_51_ok : TPS_51.Ok Tryd.prog := TPS_50_ok.addG ok_impl_withClues
theorem eq_spec_pzWithout (k : Int) (n : Nat) (a : List Int) (K : V -> List Blk -> Prop) : VC_spec_pzWithout k n a K = vbody Tryd.prog (vin Tryd.prog TPS_51 annTPS 3) TPS_51.looks (annTPS 54) 54 [.row 0 n, .int .i64 k] [⟨.ints .i64 a, 83, .rows 3⟩] (K) := by kernel_rfl
theorem ok_spec_pzWithout : OK Tryd.prog 54 F_spec_pzWithout.spec := (vbody_ok (vin_ok TPS_51_ok annTPS 3) TPS_51_ok.looks _ _).ofG fun args m p R M h hp => by
 unfold F_spec_pzWithout at h
 split at h
 ·injection h with h; injection h with h1 h2; injection h2 with h2 h3; subst h1; subst h2; subst h3
  exact (congrArg At (eq_spec_pzWithout _ _ _ _)).mp ⟨vc_spec_pzWithout _ _ _ hp⟩
 ·cases h
def TPS_52 : Tab := TPS_51.addG 54 F_spec_pzWithout
theorem TPS_52_ok : TPS_52.Ok Tryd.prog := TPS_51_ok.addG ok_spec_pzWithout
theorem eq_impl_led (wr : List UInt8) (ww : Int) (wh : Int) (wc : List UInt8) (wx : Int) (wy : Int) (wd : Int) (s : Int) (K : V -> Prop) : VC_impl_led wr ww wh wc wx wy wd s K = vbody Tryd.prog (vin Tryd.prog TPS_52 annTPS 3) TPS_52.looks (annTPS 113) 113 [.agg [.str wr, .int .i64 ww, .int .i64 wh, .str wc, .int .i64 wx, .int .i64 wy, .int .i64 wd], .int .i64 s, .fn 114 []] [] (fun v _ => K v) := by kernel_rfl
theorem ok_impl_led : OK Tryd.prog 113 F_impl_led.spec := (vbody_ok (vin_ok TPS_52_ok annTPS 3) TPS_52_ok.looks _ _).ofF fun args m p R h hp => by
 unfold F_impl_led at h
 split at h
 ·injection h with h; injection h with h1 h2; subst h1; subst h2
  exact ⟨rfl, (congrArg At (eq_impl_led _ _ _ _ _ _ _ _ _)).mp ⟨vc_impl_led _ _ _ _ _ _ _ _ hp⟩⟩
 ·cases h
def TPS_53 : Tab := TPS_52.add 113 F_impl_led
theorem TPS_53_ok : TPS_53.Ok Tryd.prog := TPS_52_ok.add ok_impl_led
theorem eq_impl_sumOf (s : List UInt8) (K : V -> Prop) : VC_impl_sumOf s K = vbody Tryd.prog (vin Tryd.prog TPS_53 annTPS 3) TPS_53.looks (annTPS 112) 112 [.str s] [] (fun v _ => K v) := by kernel_rfl
theorem ok_impl_sumOf : OK Tryd.prog 112 F_impl_sumOf.spec := (vbody_ok (vin_ok TPS_53_ok annTPS 3) TPS_53_ok.looks _ _).ofF fun args m p R h hp => by
 unfold F_impl_sumOf at h
 split at h
 ·injection h with h; injection h with h1 h2; subst h1; subst h2
  exact ⟨rfl, (congrArg At (eq_impl_sumOf _ _)).mp ⟨vc_impl_sumOf _ hp⟩⟩
 ·cases h
def TPS_54 : Tab := TPS_53.add 112 F_impl_sumOf
theorem TPS_54_ok : TPS_54.Ok Tryd.prog := TPS_53_ok.add ok_impl_sumOf
theorem ok_strings_Count : OK Tryd.prog 115 F_strings_Count.spec := Go.Proofs.YtickpjdnncpnmaaDoor.libCount
def TPS_55 : Tab := TPS_54.add 115 F_strings_Count
theorem TPS_55_ok : TPS_55.Ok Tryd.prog := TPS_54_ok.add ok_strings_Count
theorem eq_spec_pzValue (k : Int) (a : Int) (wr : List UInt8) (ww : Int) (wh : Int) (wc : List UInt8) (wx : Int) (wy : Int) (wd : Int) (K : V -> Prop) : VC_spec_pzValue k a wr ww wh wc wx wy wd K = vbody Tryd.prog (vin Tryd.prog TPS_55 annTPS 3) TPS_55.looks (annTPS 87) 87 [.int .i64 k, .int .i64 a, .agg [.str wr, .int .i64 ww, .int .i64 wh, .str wc, .int .i64 wx, .int .i64 wy, .int .i64 wd]] [] (fun v _ => K v) := by kernel_rfl
theorem ok_spec_pzValue : OK Tryd.prog 87 F_spec_pzValue.spec := (vbody_ok (vin_ok TPS_55_ok annTPS 3) TPS_55_ok.looks _ _).ofF fun args m p R h hp => by
 unfold F_spec_pzValue at h
 split at h
 ·injection h with h; injection h with h1 h2; subst h1; subst h2
  exact ⟨rfl, (congrArg At (eq_spec_pzValue _ _ _ _ _ _ _ _ _ _)).mp ⟨vc_spec_pzValue _ _ _ _ _ _ _ _ _ hp⟩⟩
 ·cases h
def TPS_56 : Tab := TPS_55.add 87 F_spec_pzValue
theorem TPS_56_ok : TPS_56.Ok Tryd.prog := TPS_55_ok.add ok_spec_pzValue
theorem eq_spec_pzFits (cx : Int) (cy : Int) (ck : Int) (wr : List UInt8) (ww : Int) (wh : Int) (wc : List UInt8) (wx : Int) (wy : Int) (wd : Int) (K : V -> Prop) : VC_spec_pzFits cx cy ck wr ww wh wc wx wy wd K = vbody Tryd.prog (vin Tryd.prog TPS_56 annTPS 3) TPS_56.looks (annTPS 105) 105 [.agg [.int .i64 cx, .int .i64 cy, .int .i64 ck], .agg [.str wr, .int .i64 ww, .int .i64 wh, .str wc, .int .i64 wx, .int .i64 wy, .int .i64 wd]] [] (fun v _ => K v) := by kernel_rfl
theorem ok_spec_pzFits : OK Tryd.prog 105 F_spec_pzFits.spec := (vbody_ok (vin_ok TPS_56_ok annTPS 3) TPS_56_ok.looks _ _).ofF fun args m p R h hp => by
 unfold F_spec_pzFits at h
 split at h
 ·injection h with h; injection h with h1 h2; subst h1; subst h2
  exact ⟨rfl, (congrArg At (eq_spec_pzFits _ _ _ _ _ _ _ _ _ _ _)).mp ⟨vc_spec_pzFits _ _ _ _ _ _ _ _ _ _ hp⟩⟩
 ·cases h
def TPS_57 : Tab := TPS_56.add 105 F_spec_pzFits
theorem TPS_57_ok : TPS_57.Ok Tryd.prog := TPS_56_ok.add ok_spec_pzFits
theorem eq_impl_clueFrom (wr : List UInt8) (ww : Int) (wh : Int) (wc : List UInt8) (wx : Int) (wy : Int) (wd : Int) (k : Int) (a : Int) (K : V -> Prop) : VC_impl_clueFrom wr ww wh wc wx wy wd k a K = vbody Tryd.prog (vin Tryd.prog TPS_57 annTPS 3) TPS_57.looks (annTPS 92) 92 [.agg [.str wr, .int .i64 ww, .int .i64 wh, .str wc, .int .i64 wx, .int .i64 wy, .int .i64 wd], .int .i64 k, .int .i64 a] [] (fun v _ => K v) := by kernel_rfl
theorem ok_impl_clueFrom : OK Tryd.prog 92 F_impl_clueFrom.spec := (vbody_ok (vin_ok TPS_57_ok annTPS 3) TPS_57_ok.looks _ _).ofF fun args m p R h hp => by
 unfold F_impl_clueFrom at h
 split at h
 ·injection h with h; injection h with h1 h2; subst h1; subst h2
  exact ⟨rfl, (congrArg At (eq_impl_clueFrom _ _ _ _ _ _ _ _ _ _)).mp ⟨vc_impl_clueFrom _ _ _ _ _ _ _ _ _ hp⟩⟩
 ·cases h
def TPS_58 : Tab := TPS_57.add 92 F_impl_clueFrom
theorem TPS_58_ok : TPS_58.Ok Tryd.prog := TPS_57_ok.add ok_impl_clueFrom
theorem eq_impl_doesFit (cx : Int) (cy : Int) (ck : Int) (wr : List UInt8) (ww : Int) (wh : Int) (wc : List UInt8) (wx : Int) (wy : Int) (wd : Int) (K : V -> Prop) : VC_impl_doesFit cx cy ck wr ww wh wc wx wy wd K = vbody Tryd.prog (vin Tryd.prog TPS_58 annTPS 3) TPS_58.looks (annTPS 83) 83 [.agg [.int .i64 cx, .int .i64 cy, .int .i64 ck], .agg [.str wr, .int .i64 ww, .int .i64 wh, .str wc, .int .i64 wx, .int .i64 wy, .int .i64 wd]] [] (fun v _ => K v) := by kernel_rfl
theorem ok_impl_doesFit : OK Tryd.prog 83 F_impl_doesFit.spec := (vbody_ok (vin_ok TPS_58_ok annTPS 3) TPS_58_ok.looks _ _).ofF fun args m p R h hp => by
 unfold F_impl_doesFit at h
 split at h
 ·injection h with h; injection h with h1 h2; subst h1; subst h2
  exact ⟨rfl, (congrArg At (eq_impl_doesFit _ _ _ _ _ _ _ _ _ _ _)).mp ⟨vc_impl_doesFit _ _ _ _ _ _ _ _ _ _ hp⟩⟩
 ·cases h
def TPS_59 : Tab := TPS_58.add 83 F_impl_doesFit
theorem TPS_59_ok : TPS_59.Ok Tryd.prog := TPS_58_ok.add ok_impl_doesFit
theorem eq_impl_allCells (c : Int) (n : Int) (K : V -> List Blk -> Prop) : VC_impl_allCells c n K = vbody Tryd.prog (vin Tryd.prog TPS_59 annTPS 3) TPS_59.looks (annTPS 82) 82 [.int .i64 c, .int .i64 n] [] (K) := by kernel_rfl
theorem ok_impl_allCells : OK Tryd.prog 82 F_impl_allCells.spec := (vbody_ok (vin_ok TPS_59_ok annTPS 3) TPS_59_ok.looks _ _).ofG fun args m p R M h hp => by
 unfold F_impl_allCells at h
 split at h
 ·injection h with h; injection h with h1 h2; injection h2 with h2 h3; subst h1; subst h2; subst h3
  exact (congrArg At (eq_impl_allCells _ _ _)).mp ⟨vc_impl_allCells _ _ hp⟩
 ·cases h
def TPS_60 : Tab := TPS_59.addG 82 F_impl_allCells
theorem TPS_60_ok : TPS_60.Ok Tryd.prog := TPS_59_ok.addG ok_impl_allCells
theorem eq_impl_candidatesOf  (pr : List UInt8) (pw : Int) (ph : Int) (n : Nat) (a : List Int) (K : V -> List Blk -> Prop) : VC_impl_candidatesOf  pr pw ph n a K = vbody Tryd.prog (vin Tryd.prog TPS_60 annTPS 3) TPS_60.looks (annTPS 47) 47 [.agg [.str pr, .int .i64 pw, .int .i64 ph, .row 0 n]] [⟨.ints .i64 a, 83, .rows 3⟩] (K) := by kernel_rfl
theorem ok_impl_candidatesOf : OK Tryd.prog 47 F_impl_candidatesOf.spec := (vbody_ok (vin_ok TPS_60_ok annTPS 3) TPS_60_ok.looks _ _).ofG fun args m p R M h hp => by
 unfold F_impl_candidatesOf at h
 split at h
 ·injection h with h; injection h with h1 h2; injection h2 with h2 h3; subst h1; subst h2; subst h3
  exact (congrArg At (eq_impl_candidatesOf _ _ _ _ _ _)).mp ⟨vc_impl_candidatesOf _ _ _ _ _ hp⟩
 ·cases h
def TPS_61 : Tab := TPS_60.addG 47 F_impl_candidatesOf
theorem TPS_61_ok : TPS_61.Ok Tryd.prog := TPS_60_ok.addG ok_impl_candidatesOf
theorem eq_impl_fitAll (s : Int) (n : Nat) (l : List Sc) (K : V -> List Blk -> Prop) : VC_impl_fitAll s n l K = vbody Tryd.prog (vin Tryd.prog TPS_61 annTPS 3) TPS_61.looks (annTPS 48) 48 [.row 0 n, .int .u64 s] [⟨.recs [.str, .int .u64] (l), 102, .rows 2⟩] (K) := by kernel_rfl
theorem ok_impl_fitAll : OK Tryd.prog 48 F_impl_fitAll.spec := (vbody_ok (vin_ok TPS_61_ok annTPS 3) TPS_61_ok.looks _ _).ofG fun args m p R M h hp => by
 unfold F_impl_fitAll at h
 split at h
 ·injection h with h; injection h with h1 h2; injection h2 with h2 h3; subst h1; subst h2; subst h3
  exact (congrArg At (eq_impl_fitAll _ _ _ _)).mp ⟨vc_impl_fitAll _ _ _ hp⟩
 ·cases h
def TPS_62 : Tab := TPS_61.addG 48 F_impl_fitAll
theorem TPS_62_ok : TPS_62.Ok Tryd.prog := TPS_61_ok.addG ok_impl_fitAll
theorem eq_impl_countFit (s : Int) (n : Nat) (l : List Sc) (K : V -> List Blk -> Prop) : VC_impl_countFit s n l K = vbody Tryd.prog (vin Tryd.prog TPS_62 annTPS 3) TPS_62.looks (annTPS 55) 55 [.row 0 n, .int .u64 s] [⟨.recs [.str, .int .u64] (l), 102, .rows 2⟩] (K) := by kernel_rfl
theorem ok_impl_countFit : OK Tryd.prog 55 F_impl_countFit.spec := (vbody_ok (vin_ok TPS_62_ok annTPS 3) TPS_62_ok.looks _ _).ofFM fun args m p R h hp => by
 unfold F_impl_countFit at h
 split at h
 ·injection h with h; injection h with h1 h2; subst h1; subst h2
  exact (congrArg At (eq_impl_countFit _ _ _ _)).mp ⟨vc_impl_countFit _ _ _ hp⟩
 ·cases h
def TPS_63 : Tab := TPS_62.add 55 F_impl_countFit
theorem TPS_63_ok : TPS_63.Ok Tryd.prog := TPS_62_ok.add ok_impl_countFit
theorem eq_impl_Solutions  (pr : List UInt8) (pw : Int) (ph : Int) (n : Nat) (a : List Int) (K : V -> List Blk -> Prop) : VC_impl_Solutions  pr pw ph n a K = vbody Tryd.prog (vin Tryd.prog TPS_63 annTPS 3) TPS_63.looks (annTPS 15) 15 [.agg [.str pr, .int .i64 pw, .int .i64 ph, .row 0 n]] [⟨.ints .i64 a, 83, .rows 3⟩] (K) := by kernel_rfl
theorem ok_impl_Solutions : OK Tryd.prog 15 F_impl_Solutions.spec := (vbody_ok (vin_ok TPS_63_ok annTPS 3) TPS_63_ok.looks _ _).ofG fun args m p R M h hp => by
 unfold F_impl_Solutions at h
 split at h
 ·injection h with h; injection h with h1 h2; injection h2 with h2 h3; subst h1; subst h2; subst h3
  exact (congrArg At (eq_impl_Solutions _ _ _ _ _ _)).mp ⟨vc_impl_Solutions _ _ _ _ _ hp⟩
 ·cases h
def TPS_64 : Tab := TPS_63.addG 15 F_impl_Solutions
theorem TPS_64_ok : TPS_64.Ok Tryd.prog := TPS_63_ok.addG ok_impl_Solutions
theorem eq_spec_pzLook (b : List UInt8) (pr : List UInt8) (pw : Int) (ph : Int) (n : Nat) (a : List Int) (m : Nat) (l : List (List UInt8)) (mm : Nat) (K : V -> List Blk -> Prop) : VC_spec_pzLook b pr pw ph n a m l mm K = vbody Tryd.prog (vin Tryd.prog (TPS_64.addG 80 (F_spec_pzLook mm)) annTPS 3) (TPS_64.addG 80 (F_spec_pzLook mm)).looks (annTPS 80) 80 [.agg [.str pr, .int .i64 pw, .int .i64 ph, .row 0 n], .str b, .ptr 1 0] [⟨.ints .i64 a, 83, .rows 3⟩, ⟨.vals [.row 2 m], 26, .box⟩, ⟨.strs (l), 9, .row⟩] (K) := by kernel_rfl
theorem eq_spec_pzLook_2 (b : List UInt8) (pr : List UInt8) (pw : Int) (ph : Int) (n : Nat) (a : List Int) (mm : Nat) (K : V -> List Blk -> Prop) : VC_spec_pzLook_2 b pr pw ph n a mm K = vbody Tryd.prog (vin Tryd.prog (TPS_64.addG 80 (F_spec_pzLook mm)) annTPS 3) (TPS_64.addG 80 (F_spec_pzLook mm)).looks (annTPS 80) 80 [.agg [.str pr, .int .i64 pw, .int .i64 ph, .row 0 n], .str b, .ptr 1 0] [⟨.ints .i64 a, 83, .rows 3⟩, ⟨.vals [.raw (.slice none 0 0)], 26, .box⟩] (K) := by kernel_rfl
theorem eq_spec_pzLook_3 (b : List UInt8) (pr : List UInt8) (pw : Int) (ph : Int) (n : Nat) (a : List Int) (m : Nat) (l : List (List UInt8)) (mm : Nat) (K : V -> List Blk -> Prop) : VC_spec_pzLook_3 b pr pw ph n a m l mm K = vbody Tryd.prog (vin Tryd.prog (TPS_64.addG 80 (F_spec_pzLook mm)) annTPS 3) (TPS_64.addG 80 (F_spec_pzLook mm)).looks (annTPS 80) 80 [.agg [.str pr, .int .i64 pw, .int .i64 ph, .row 0 n], .str b, .ptr 1 0] [⟨.ints .i64 a, 83, .arg 3⟩, ⟨.vals [.row 2 m], 26, .box⟩, ⟨.strs (l), 9, .row⟩] (K) := by kernel_rfl
theorem eq_spec_pzLook_4 (b : List UInt8) (pr : List UInt8) (pw : Int) (ph : Int) (n : Nat) (a : List Int) (mm : Nat) (K : V -> List Blk -> Prop) : VC_spec_pzLook_4 b pr pw ph n a mm K = vbody Tryd.prog (vin Tryd.prog (TPS_64.addG 80 (F_spec_pzLook mm)) annTPS 3) (TPS_64.addG 80 (F_spec_pzLook mm)).looks (annTPS 80) 80 [.agg [.str pr, .int .i64 pw, .int .i64 ph, .row 0 n], .str b, .ptr 1 0] [⟨.ints .i64 a, 83, .arg 3⟩, ⟨.vals [.raw (.slice none 0 0)], 26, .box⟩] (K) := by kernel_rfl
theorem ok_spec_pzLook : ∀ mm : Nat, OK Tryd.prog 80 (F_spec_pzLook mm).spec
 | 0 => (vbody_ok (vin_ok TPS_64_ok annTPS 3) TPS_64_ok.looks (annTPS 80) _).ofG fun args m p R M h hp => by
  unfold F_spec_pzLook at h
  split at h
  ·injection h with h; injection h with h1 h2; injection h2 with h2 h3; subst h1; subst h2; subst h3
   exact absurd hp.1 (Nat.not_lt_zero _)
  ·injection h with h; injection h with h1 h2; injection h2 with h2 h3; subst h1; subst h2; subst h3
   exact absurd hp.1 (Nat.not_lt_zero _)
  ·injection h with h; injection h with h1 h2; injection h2 with h2 h3; subst h1; subst h2; subst h3
   exact absurd hp.1 (Nat.not_lt_zero _)
  ·injection h with h; injection h with h1 h2; injection h2 with h2 h3; subst h1; subst h2; subst h3
   exact absurd hp.1 (Nat.not_lt_zero _)
  ·cases h
 | mm + 1 => (vbody_ok (vin_ok (TPS_64_ok.addG (ok_spec_pzLook mm)) annTPS 3) (TPS_64_ok.addG (ok_spec_pzLook mm)).looks _ _).ofG fun args m p R M h hp => by
  unfold F_spec_pzLook at h
  split at h
  ·injection h with h; injection h with h1 h2; injection h2 with h2 h3; subst h1; subst h2; subst h3
   exact (congrArg At (eq_spec_pzLook _ _ _ _ _ _ _ _ mm _)).mp ⟨vc_spec_pzLook _ _ _ _ _ _ _ _ mm hp⟩
  ·injection h with h; injection h with h1 h2; injection h2 with h2 h3; subst h1; subst h2; subst h3
   exact (congrArg At (eq_spec_pzLook_2 _ _ _ _ _ _ mm _)).mp ⟨vc_spec_pzLook_2 _ _ _ _ _ _ mm hp⟩
  ·injection h with h; injection h with h1 h2; injection h2 with h2 h3; subst h1; subst h2; subst h3
   exact (congrArg At (eq_spec_pzLook_3 _ _ _ _ _ _ _ _ mm _)).mp ⟨vc_spec_pzLook_3 _ _ _ _ _ _ _ _ mm hp⟩
  ·injection h with h; injection h with h1 h2; injection h2 with h2 h3; subst h1; subst h2; subst h3
   exact (congrArg At (eq_spec_pzLook_4 _ _ _ _ _ _ mm _)).mp ⟨vc_spec_pzLook_4 _ _ _ _ _ _ mm hp⟩
  ·cases h
def TPS_65 : Tab := TPS_64.addG 80 (F_spec_pzLook 11)
theorem TPS_65_ok : TPS_65.Ok Tryd.prog := TPS_64_ok.addG (ok_spec_pzLook 11)
theorem eq_spec_pzAll  (pr : List UInt8) (pw : Int) (ph : Int) (n : Nat) (a : List Int) (K : V -> List Blk -> Prop) : VC_spec_pzAll  pr pw ph n a K = vbody Tryd.prog (vin Tryd.prog TPS_65 annTPS 3) TPS_65.looks (annTPS 45) 45 [.agg [.str pr, .int .i64 pw, .int .i64 ph, .row 0 n]] [⟨.ints .i64 a, 83, .rows 3⟩] (K) := by kernel_rfl
theorem eq_spec_pzAll_2  (pr : List UInt8) (pw : Int) (ph : Int) (n : Nat) (a : List Int) (K : V -> List Blk -> Prop) : VC_spec_pzAll_2  pr pw ph n a K = vbody Tryd.prog (vin Tryd.prog TPS_65 annTPS 3) TPS_65.looks (annTPS 45) 45 [.agg [.str pr, .int .i64 pw, .int .i64 ph, .row 0 n]] [⟨.ints .i64 a, 83, .arg 3⟩] (K) := by kernel_rfl
theorem ok_spec_pzAll : OK Tryd.prog 45 F_spec_pzAll.spec := (vbody_ok (vin_ok TPS_65_ok annTPS 3) TPS_65_ok.looks _ _).ofG fun args m p R M h hp => by
 unfold F_spec_pzAll at h
 split at h
 ·injection h with h; injection h with h1 h2; injection h2 with h2 h3; subst h1; subst h2; subst h3
  exact (congrArg At (eq_spec_pzAll _ _ _ _ _ _)).mp ⟨vc_spec_pzAll _ _ _ _ _ hp⟩
 ·injection h with h; injection h with h1 h2; injection h2 with h2 h3; subst h1; subst h2; subst h3
  exact (congrArg At (eq_spec_pzAll_2 _ _ _ _ _ _)).mp ⟨vc_spec_pzAll_2 _ _ _ _ _ hp⟩
 ·cases h
def TPS_66 : Tab := TPS_65.addG 45 F_spec_pzAll
theorem TPS_66_ok : TPS_66.Ok Tryd.prog := TPS_65_ok.addG ok_spec_pzAll
theorem eq_spec_SureCells  (pr : List UInt8) (pw : Int) (ph : Int) (n : Nat) (a : List Int) (K : V -> List Blk -> Prop) : VC_spec_SureCells  pr pw ph n a K = vbody Tryd.prog (vin Tryd.prog TPS_66 annTPS 3) TPS_66.looks (annTPS 21) 21 [.agg [.str pr, .int .i64 pw, .int .i64 ph, .row 0 n]] [⟨.ints .i64 a, 83, .rows 3⟩] (K) := by kernel_rfl
theorem ok_spec_SureCells : OK Tryd.prog 21 F_spec_SureCells.spec := (vbody_ok (vin_ok TPS_66_ok annTPS 3) TPS_66_ok.looks _ _).ofFM fun args m p R h hp => by
 unfold F_spec_SureCells at h
 split at h
 ·injection h with h; injection h with h1 h2; subst h1; subst h2
  exact (congrArg At (eq_spec_SureCells _ _ _ _ _ _)).mp ⟨vc_spec_SureCells _ _ _ _ _ hp⟩
 ·cases h
def TPS_67 : Tab := TPS_66.add 21 F_spec_SureCells
theorem TPS_67_ok : TPS_67.Ok Tryd.prog := TPS_66_ok.add ok_spec_SureCells
theorem eq_impl_SureCells  (pr : List UInt8) (pw : Int) (ph : Int) (n : Nat) (a : List Int) (K : V -> List Blk -> Prop) : VC_impl_SureCells  pr pw ph n a K = vbody Tryd.prog (vin Tryd.prog TPS_67 annTPS 3) TPS_67.looks (annTPS 22) 22 [.agg [.str pr, .int .i64 pw, .int .i64 ph, .row 0 n]] [⟨.ints .i64 a, 83, .rows 3⟩] (K) := by kernel_rfl
theorem ok_impl_SureCells : OK Tryd.prog 22 F_impl_SureCells.spec := (vbody_ok (vin_ok TPS_67_ok annTPS 3) TPS_67_ok.looks _ _).ofFM fun args m p R h hp => by
 unfold F_impl_SureCells at h
 split at h
 ·injection h with h; injection h with h1 h2; subst h1; subst h2
  exact (congrArg At (eq_impl_SureCells _ _ _ _ _ _)).mp ⟨vc_impl_SureCells _ _ _ _ _ hp⟩
 ·cases h
def TPS_68 : Tab := TPS_67.add 22 F_impl_SureCells
theorem TPS_68_ok : TPS_68.Ok Tryd.prog := TPS_67_ok.add ok_impl_SureCells
def TPS : Tab := TPS_68
theorem TPS_ok : TPS.Ok Tryd.prog := TPS_68_ok
end Go.Proofs.YtickpjdnncpnmaaDoor
