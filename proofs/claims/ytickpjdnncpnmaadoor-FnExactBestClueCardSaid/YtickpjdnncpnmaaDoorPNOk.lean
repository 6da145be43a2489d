/- The contracts of this chapter. -/
import Derived.Test.YtickpjdnncpnmaaDoorPDDoor
import Derived.Test.YtickpjdnncpnmaaDoorW9Lib
import Derived.Test.YtickpjdnncpnmaaDoorPVLib
import Derived.Test.YtickpjdnncpnmaaDoorProg
import Derived.Test.YtickpjdnncpnmaaDoorPNPf
import Derived.KernelRfl
namespace Go.Proofs.YtickpjdnncpnmaaDoor
open Go Go.Vi
set_option linter.unusedVariables false
def annTPN : FuncId -> Nat -> St -> Option Ann := fun f => if f = 103 then ann_spec_woRule else if f = 107 then ann_impl_IsRule else if f = 50 then ann_laws_eqClueS else if f = 51 then ann_laws_markClueS else if f = 61 then ann_laws_heldClueS else if f = 46 then ann_laws_toClueS else if f = 104 then ann_spec_pzPower else if f = 88 then ann_impl_CountBoards else if f = 44 then ann_spec_pzGood else if f = 60 then ann_impl_withClues else if f = 113 then ann_impl_led else if f = 112 then ann_impl_sumOf else if f = 87 then ann_spec_pzValue else if f = 82 then ann_impl_allCells else if f = 47 then ann_impl_candidatesOf else if f = 48 then ann_impl_fitAll else if f = 80 then ann_spec_pzLook else if f = 25 then ann_laws_eqIntS else if f = 26 then ann_laws_markIntS else if f = 27 then ann_laws_heldIntS else if f = 16 then ann_laws_eqStringS else if f = 52 then ann_laws_markText else if f = 19 then ann_laws_markStringS else if f = 20 then ann_laws_heldStringS else if f = 23 then ann_spec_NeedlessClues else if f = 24 then ann_impl_NeedlessClues else if f = 28 then ann_spec_LeftByClues else if f = 29 then ann_impl_LeftByClues else if f = 30 then ann_spec_BestClue else if f = 31 then ann_impl_BestClue else (fun _ _ => none)
def TPN_0 : Tab := Tab.none
theorem TPN_0_ok : TPN_0.Ok Tryd.prog := Tab.none_ok
theorem eq_spec_l1In (n : Int) (lo : Int) (hi : Int) (K : V -> Prop) : VC_spec_l1In n lo hi K = vbody Tryd.prog (vin Tryd.prog TPN_0 annTPN 3) TPN_0.looks (annTPN 63) 63 [.int .i64 n, .int .i64 lo, .int .i64 hi] [] (fun v _ => K v) := by kernel_rfl
theorem ok_spec_l1In : OK Tryd.prog 63 F_spec_l1In.spec := (vbody_ok (vin_ok TPN_0_ok annTPN 3) TPN_0_ok.looks _ _).ofF fun args m p R h hp => by
 unfold F_spec_l1In at h
 split at h
 ·injection h with h; injection h with h1 h2; subst h1; subst h2
  exact ⟨rfl, (congrArg At (eq_spec_l1In _ _ _ _)).mp ⟨vc_spec_l1In _ _ _ hp⟩⟩
 ·cases h
def TPN_1 : Tab := TPN_0.add 63 F_spec_l1In
theorem TPN_1_ok : TPN_1.Ok Tryd.prog := TPN_0_ok.add ok_spec_l1In
theorem eq_impl_within (n : Int) (lo : Int) (hi : Int) (K : V -> Prop) : VC_impl_within n lo hi K = vbody Tryd.prog (vin Tryd.prog TPN_1 annTPN 3) TPN_1.looks (annTPN 67) 67 [.int .i64 n, .int .i64 lo, .int .i64 hi] [] (fun v _ => K v) := by kernel_rfl
theorem ok_impl_within : OK Tryd.prog 67 F_impl_within.spec := (vbody_ok (vin_ok TPN_1_ok annTPN 3) TPN_1_ok.looks _ _).ofF fun args m p R h hp => by
 unfold F_impl_within at h
 split at h
 ·injection h with h; injection h with h1 h2; subst h1; subst h2
  exact ⟨rfl, (congrArg At (eq_impl_within _ _ _ _)).mp ⟨vc_impl_within _ _ _ hp⟩⟩
 ·cases h
def TPN_2 : Tab := TPN_1.add 67 F_impl_within
theorem TPN_2_ok : TPN_2.Ok Tryd.prog := TPN_1_ok.add ok_impl_within
theorem eq_impl_digit (b : Int) (K : V -> Prop) : VC_impl_digit b K = vbody Tryd.prog (vin Tryd.prog TPN_2 annTPN 3) TPN_2.looks (annTPN 77) 77 [.int .u8 b] [] (fun v _ => K v) := by kernel_rfl
theorem ok_impl_digit : OK Tryd.prog 77 F_impl_digit.spec := (vbody_ok (vin_ok TPN_2_ok annTPN 3) TPN_2_ok.looks _ _).ofF fun args m p R h hp => by
 unfold F_impl_digit at h
 split at h
 ·injection h with h; injection h with h1 h2; subst h1; subst h2
  exact ⟨rfl, (congrArg At (eq_impl_digit _ _)).mp ⟨vc_impl_digit _ hp⟩⟩
 ·cases h
def TPN_3 : Tab := TPN_2.add 77 F_impl_digit
theorem TPN_3_ok : TPN_3.Ok Tryd.prog := TPN_2_ok.add ok_impl_digit
theorem eq_spec_woRule (s : List UInt8) (K : V -> Prop) : VC_spec_woRule s K = vbody Tryd.prog (vin Tryd.prog TPN_3 annTPN 3) TPN_3.looks (annTPN 103) 103 [.str s] [] (fun v _ => K v) := by kernel_rfl
theorem ok_spec_woRule : OK Tryd.prog 103 F_spec_woRule.spec := (vbody_ok (vin_ok TPN_3_ok annTPN 3) TPN_3_ok.looks _ _).ofF fun args m p R h hp => by
 unfold F_spec_woRule at h
 split at h
 ·injection h with h; injection h with h1 h2; subst h1; subst h2
  exact ⟨rfl, (congrArg At (eq_spec_woRule _ _)).mp ⟨vc_spec_woRule _ hp⟩⟩
 ·cases h
def TPN_4 : Tab := TPN_3.add 103 F_spec_woRule
theorem TPN_4_ok : TPN_4.Ok Tryd.prog := TPN_3_ok.add ok_spec_woRule
theorem eq_impl_IsRule (s : List UInt8) (K : V -> Prop) : VC_impl_IsRule s K = vbody Tryd.prog (vin Tryd.prog TPN_4 annTPN 3) TPN_4.looks (annTPN 107) 107 [.str s] [] (fun v _ => K v) := by kernel_rfl
theorem ok_impl_IsRule : OK Tryd.prog 107 F_impl_IsRule.spec := (vbody_ok (vin_ok TPN_4_ok annTPN 3) TPN_4_ok.looks _ _).ofF fun args m p R h hp => by
 unfold F_impl_IsRule at h
 split at h
 ·injection h with h; injection h with h1 h2; subst h1; subst h2
  exact ⟨rfl, (congrArg At (eq_impl_IsRule _ _)).mp ⟨vc_impl_IsRule _ hp⟩⟩
 ·cases h
def TPN_5 : Tab := TPN_4.add 107 F_impl_IsRule
theorem TPN_5_ok : TPN_5.Ok Tryd.prog := TPN_4_ok.add ok_impl_IsRule
theorem eq_spec_woColour (wr : List UInt8) (ww : Int) (wh : Int) (wc : List UInt8) (wx : Int) (wy : Int) (wd : Int) (x : Int) (y : Int) (K : V -> Prop) : VC_spec_woColour wr ww wh wc wx wy wd x y K = vbody Tryd.prog (vin Tryd.prog TPN_5 annTPN 3) TPN_5.looks (annTPN 125) 125 [.agg [.str wr, .int .i64 ww, .int .i64 wh, .str wc, .int .i64 wx, .int .i64 wy, .int .i64 wd], .int .i64 x, .int .i64 y] [] (fun v _ => K v) := by kernel_rfl
theorem ok_spec_woColour : OK Tryd.prog 125 F_spec_woColour.spec := (vbody_ok (vin_ok TPN_5_ok annTPN 3) TPN_5_ok.looks _ _).ofF fun args m p R h hp => by
 unfold F_spec_woColour at h
 split at h
 ·injection h with h; injection h with h1 h2; subst h1; subst h2
  exact ⟨rfl, (congrArg At (eq_spec_woColour _ _ _ _ _ _ _ _ _ _)).mp ⟨vc_spec_woColour _ _ _ _ _ _ _ _ _ hp⟩⟩
 ·cases h
def TPN_6 : Tab := TPN_5.add 125 F_spec_woColour
theorem TPN_6_ok : TPN_6.Ok Tryd.prog := TPN_5_ok.add ok_spec_woColour
theorem eq_impl_board_colour (wr : List UInt8) (ww : Int) (wh : Int) (wc : List UInt8) (wx : Int) (wy : Int) (wd : Int) (x : Int) (y : Int) (K : V -> Prop) : VC_impl_board_colour wr ww wh wc wx wy wd x y K = vbody Tryd.prog (vin Tryd.prog TPN_6 annTPN 3) TPN_6.looks (annTPN 130) 130 [.agg [.str wr, .int .i64 ww, .int .i64 wh, .str wc, .int .i64 wx, .int .i64 wy, .int .i64 wd], .int .i64 x, .int .i64 y] [] (fun v _ => K v) := by kernel_rfl
theorem ok_impl_board_colour : OK Tryd.prog 130 F_impl_board_colour.spec := (vbody_ok (vin_ok TPN_6_ok annTPN 3) TPN_6_ok.looks _ _).ofF fun args m p R h hp => by
 unfold F_impl_board_colour at h
 split at h
 ·injection h with h; injection h with h1 h2; subst h1; subst h2
  exact ⟨rfl, (congrArg At (eq_impl_board_colour _ _ _ _ _ _ _ _ _ _)).mp ⟨vc_impl_board_colour _ _ _ _ _ _ _ _ _ hp⟩⟩
 ·cases h
def TPN_7 : Tab := TPN_6.add 130 F_impl_board_colour
theorem TPN_7_ok : TPN_7.Ok Tryd.prog := TPN_6_ok.add ok_impl_board_colour
theorem ok_strconv_formatBase10 : OK Tryd.prog 141 F_strconv_formatBase10.spec := Go.Proofs.YtickpjdnncpnmaaDoor.never_ok _
def TPN_8 : Tab := TPN_7.add 141 F_strconv_formatBase10
theorem TPN_8_ok : TPN_8.Ok Tryd.prog := TPN_7_ok.add ok_strconv_formatBase10
theorem ok_strconv_formatBits : OK Tryd.prog 142 F_strconv_formatBits.spec := Go.Proofs.YtickpjdnncpnmaaDoor.never_ok _
def TPN_9 : Tab := TPN_8.add 142 F_strconv_formatBits
theorem TPN_9_ok : TPN_9.Ok Tryd.prog := TPN_8_ok.add ok_strconv_formatBits
theorem ok_strconv_numDigits : OK Tryd.prog 140 F_strconv_numDigits.spec := Go.Proofs.YtickpjdnncpnmaaDoor.never_ok _
def TPN_10 : Tab := TPN_9.add 140 F_strconv_numDigits
theorem TPN_10_ok : TPN_10.Ok Tryd.prog := TPN_9_ok.add ok_strconv_numDigits
theorem eq_spec_l1Num (n : Int) (K : V -> Prop) : VC_spec_l1Num n K = vbody Tryd.prog (vin Tryd.prog TPN_10 annTPN 0) TPN_10.looks (annTPN 93) 93 [.int .i64 n] [] (fun v _ => K v) := by kernel_rfl
theorem ok_spec_l1Num : OK Tryd.prog 93 F_spec_l1Num.spec := (vbody_ok (vin_ok TPN_10_ok annTPN 0) TPN_10_ok.looks _ _).ofF fun args m p R h hp => by
 unfold F_spec_l1Num at h
 split at h
 ·injection h with h; injection h with h1 h2; subst h1; subst h2
  exact ⟨rfl, (congrArg At (eq_spec_l1Num _ _)).mp ⟨vc_spec_l1Num _ hp⟩⟩
 ·cases h
def TPN_11 : Tab := TPN_10.add 93 F_spec_l1Num
theorem TPN_11_ok : TPN_11.Ok Tryd.prog := TPN_10_ok.add ok_spec_l1Num
theorem eq_strconv_FormatInt (n : Int) (b : Int) (K : V -> Prop) : VC_strconv_FormatInt n b K = vbody Tryd.prog (vin Tryd.prog TPN_11 annTPN 3) TPN_11.looks (annTPN 118) 118 [.int .i64 n, .int .i64 b] [] (fun v _ => K v) := by kernel_rfl
theorem ok_strconv_FormatInt : OK Tryd.prog 118 F_strconv_FormatInt.spec := (vbody_ok (vin_ok TPN_11_ok annTPN 3) TPN_11_ok.looks _ _).ofF fun args m p R h hp => by
 unfold F_strconv_FormatInt at h
 split at h
 ·injection h with h; injection h with h1 h2; subst h1; subst h2
  exact ⟨rfl, (congrArg At (eq_strconv_FormatInt _ _ _)).mp ⟨vc_strconv_FormatInt _ _ hp⟩⟩
 ·cases h
def TPN_12 : Tab := TPN_11.add 118 F_strconv_FormatInt
theorem TPN_12_ok : TPN_12.Ok Tryd.prog := TPN_11_ok.add ok_strconv_FormatInt
theorem eq_strconv_Itoa (n : Int) (K : V -> Prop) : VC_strconv_Itoa n K = vbody Tryd.prog (vin Tryd.prog TPN_12 annTPN 3) TPN_12.looks (annTPN 72) 72 [.int .i64 n] [] (fun v _ => K v) := by kernel_rfl
theorem ok_strconv_Itoa : OK Tryd.prog 72 F_strconv_Itoa.spec := (vbody_ok (vin_ok TPN_12_ok annTPN 3) TPN_12_ok.looks _ _).ofF fun args m p R h hp => by
 unfold F_strconv_Itoa at h
 split at h
 ·injection h with h; injection h with h1 h2; subst h1; subst h2
  exact ⟨rfl, (congrArg At (eq_strconv_Itoa _ _)).mp ⟨vc_strconv_Itoa _ hp⟩⟩
 ·cases h
def TPN_13 : Tab := TPN_12.add 72 F_strconv_Itoa
theorem TPN_13_ok : TPN_13.Ok Tryd.prog := TPN_12_ok.add ok_strconv_Itoa
theorem eq_spec_l1Mod (n : Int) (m : Int) (K : V -> Prop) : VC_spec_l1Mod n m K = vbody Tryd.prog (vin Tryd.prog TPN_13 annTPN 3) TPN_13.looks (annTPN 152) 152 [.int .i64 n, .int .i64 m] [] (fun v _ => K v) := by kernel_rfl
theorem ok_spec_l1Mod : OK Tryd.prog 152 F_spec_l1Mod.spec := (vbody_ok (vin_ok TPN_13_ok annTPN 3) TPN_13_ok.looks _ _).ofF fun args m p R h hp => by
 unfold F_spec_l1Mod at h
 split at h
 ·injection h with h; injection h with h1 h2; subst h1; subst h2
  exact ⟨rfl, (congrArg At (eq_spec_l1Mod _ _ _)).mp ⟨vc_spec_l1Mod _ _ hp⟩⟩
 ·cases h
def TPN_14 : Tab := TPN_13.add 152 F_spec_l1Mod
theorem TPN_14_ok : TPN_14.Ok Tryd.prog := TPN_13_ok.add ok_spec_l1Mod
theorem eq_spec_woTurn (b : Int) (K : V -> Prop) : VC_spec_woTurn b K = vbody Tryd.prog (vin Tryd.prog TPN_14 annTPN 3) TPN_14.looks (annTPN 126) 126 [.int .u8 b] [] (fun v _ => K v) := by kernel_rfl
theorem ok_spec_woTurn : OK Tryd.prog 126 F_spec_woTurn.spec := (vbody_ok (vin_ok TPN_14_ok annTPN 3) TPN_14_ok.looks _ _).ofF fun args m p R h hp => by
 unfold F_spec_woTurn at h
 split at h
 ·injection h with h; injection h with h1 h2; subst h1; subst h2
  exact ⟨rfl, (congrArg At (eq_spec_woTurn _ _)).mp ⟨vc_spec_woTurn _ hp⟩⟩
 ·cases h
def TPN_15 : Tab := TPN_14.add 126 F_spec_woTurn
theorem TPN_15_ok : TPN_15.Ok Tryd.prog := TPN_14_ok.add ok_spec_woTurn
theorem eq_impl_quarters (b : Int) (K : V -> Prop) : VC_impl_quarters b K = vbody Tryd.prog (vin Tryd.prog TPN_15 annTPN 3) TPN_15.looks (annTPN 132) 132 [.int .u8 b] [] (fun v _ => K v) := by kernel_rfl
theorem ok_impl_quarters : OK Tryd.prog 132 F_impl_quarters.spec := (vbody_ok (vin_ok TPN_15_ok annTPN 3) TPN_15_ok.looks _ _).ofF fun args m p R h hp => by
 unfold F_impl_quarters at h
 split at h
 ·injection h with h; injection h with h1 h2; subst h1; subst h2
  exact ⟨rfl, (congrArg At (eq_impl_quarters _ _)).mp ⟨vc_impl_quarters _ hp⟩⟩
 ·cases h
def TPN_16 : Tab := TPN_15.add 132 F_impl_quarters
theorem TPN_16_ok : TPN_16.Ok Tryd.prog := TPN_15_ok.add ok_impl_quarters
theorem eq_impl_direction (d : Int) (K : V -> Prop) : VC_impl_direction d K = vbody Tryd.prog (vin Tryd.prog TPN_16 annTPN 3) TPN_16.looks (annTPN 153) 153 [.int .i64 d] [] (fun v _ => K v) := by kernel_rfl
theorem ok_impl_direction : OK Tryd.prog 153 F_impl_direction.spec := (vbody_ok (vin_ok TPN_16_ok annTPN 3) TPN_16_ok.looks _ _).ofF fun args m p R h hp => by
 unfold F_impl_direction at h
 split at h
 ·injection h with h; injection h with h1 h2; subst h1; subst h2
  exact ⟨rfl, (congrArg At (eq_impl_direction _ _)).mp ⟨vc_impl_direction _ hp⟩⟩
 ·cases h
def TPN_17 : Tab := TPN_16.add 153 F_impl_direction
theorem TPN_17_ok : TPN_17.Ok Tryd.prog := TPN_16_ok.add ok_impl_direction
theorem eq_impl_board_sign (wr : List UInt8) (ww : Int) (wh : Int) (wc : List UInt8) (wx : Int) (wy : Int) (wd : Int) (K : V -> Prop) : VC_impl_board_sign wr ww wh wc wx wy wd K = vbody Tryd.prog (vin Tryd.prog TPN_17 annTPN 3) TPN_17.looks (annTPN 133) 133 [.agg [.str wr, .int .i64 ww, .int .i64 wh, .str wc, .int .i64 wx, .int .i64 wy, .int .i64 wd]] [] (fun v _ => K v) := by kernel_rfl
theorem ok_impl_board_sign : OK Tryd.prog 133 F_impl_board_sign.spec := (vbody_ok (vin_ok TPN_17_ok annTPN 3) TPN_17_ok.looks _ _).ofF fun args m p R h hp => by
 unfold F_impl_board_sign at h
 split at h
 ·injection h with h; injection h with h1 h2; subst h1; subst h2
  exact ⟨rfl, (congrArg At (eq_impl_board_sign _ _ _ _ _ _ _ _)).mp ⟨vc_impl_board_sign _ _ _ _ _ _ _ hp⟩⟩
 ·cases h
def TPN_18 : Tab := TPN_17.add 133 F_impl_board_sign
theorem TPN_18_ok : TPN_18.Ok Tryd.prog := TPN_17_ok.add ok_impl_board_sign
theorem eq_impl_board_painted (wr : List UInt8) (ww : Int) (wh : Int) (wc : List UInt8) (wx : Int) (wy : Int) (wd : Int) (x : Int) (y : Int) (k : Int) (K : V -> Prop) : VC_impl_board_painted wr ww wh wc wx wy wd x y k K = vbody Tryd.prog (vin Tryd.prog TPN_18 annTPN 3) TPN_18.looks (annTPN 134) 134 [.agg [.str wr, .int .i64 ww, .int .i64 wh, .str wc, .int .i64 wx, .int .i64 wy, .int .i64 wd], .int .i64 x, .int .i64 y, .int .i64 k] [] (fun v _ => K v) := by kernel_rfl
theorem ok_impl_board_painted : OK Tryd.prog 134 F_impl_board_painted.spec := (vbody_ok (vin_ok TPN_18_ok annTPN 3) TPN_18_ok.looks _ _).ofF fun args m p R h hp => by
 unfold F_impl_board_painted at h
 split at h
 ·injection h with h; injection h with h1 h2; subst h1; subst h2
  exact ⟨rfl, (congrArg At (eq_impl_board_painted _ _ _ _ _ _ _ _ _ _ _)).mp ⟨vc_impl_board_painted _ _ _ _ _ _ _ _ _ _ hp⟩⟩
 ·cases h
def TPN_19 : Tab := TPN_18.add 134 F_impl_board_painted
theorem TPN_19_ok : TPN_19.Ok Tryd.prog := TPN_18_ok.add ok_impl_board_painted
theorem eq_impl_board_turned (wr : List UInt8) (ww : Int) (wh : Int) (wc : List UInt8) (wx : Int) (wy : Int) (wd : Int) (q : Int) (K : V -> Prop) : VC_impl_board_turned wr ww wh wc wx wy wd q K = vbody Tryd.prog (vin Tryd.prog TPN_19 annTPN 3) TPN_19.looks (annTPN 131) 131 [.agg [.str wr, .int .i64 ww, .int .i64 wh, .str wc, .int .i64 wx, .int .i64 wy, .int .i64 wd], .int .i64 q] [] (fun v _ => K v) := by kernel_rfl
theorem ok_impl_board_turned : OK Tryd.prog 131 F_impl_board_turned.spec := (vbody_ok (vin_ok TPN_19_ok annTPN 3) TPN_19_ok.looks _ _).ofF fun args m p R h hp => by
 unfold F_impl_board_turned at h
 split at h
 ·injection h with h; injection h with h1 h2; subst h1; subst h2
  exact ⟨rfl, (congrArg At (eq_impl_board_turned _ _ _ _ _ _ _ _ _)).mp ⟨vc_impl_board_turned _ _ _ _ _ _ _ _ hp⟩⟩
 ·cases h
def TPN_20 : Tab := TPN_19.add 131 F_impl_board_turned
theorem TPN_20_ok : TPN_20.Ok Tryd.prog := TPN_19_ok.add ok_impl_board_turned
theorem eq_impl_board_moved (wr : List UInt8) (ww : Int) (wh : Int) (wc : List UInt8) (wx : Int) (wy : Int) (wd : Int) (k : Int) (K : V -> Prop) : VC_impl_board_moved wr ww wh wc wx wy wd k K = vbody Tryd.prog (vin Tryd.prog TPN_20 annTPN 3) TPN_20.looks (annTPN 135) 135 [.agg [.str wr, .int .i64 ww, .int .i64 wh, .str wc, .int .i64 wx, .int .i64 wy, .int .i64 wd], .int .i64 k] [] (fun v _ => K v) := by kernel_rfl
theorem ok_impl_board_moved : OK Tryd.prog 135 F_impl_board_moved.spec := (vbody_ok (vin_ok TPN_20_ok annTPN 3) TPN_20_ok.looks _ _).ofF fun args m p R h hp => by
 unfold F_impl_board_moved at h
 split at h
 ·injection h with h; injection h with h1 h2; subst h1; subst h2
  exact ⟨rfl, (congrArg At (eq_impl_board_moved _ _ _ _ _ _ _ _ _)).mp ⟨vc_impl_board_moved _ _ _ _ _ _ _ _ hp⟩⟩
 ·cases h
def TPN_21 : Tab := TPN_20.add 135 F_impl_board_moved
theorem TPN_21_ok : TPN_21.Ok Tryd.prog := TPN_20_ok.add ok_impl_board_moved
theorem eq_spec_woPaint (x : Int) (y : Int) (k : Int) (wr : List UInt8) (ww : Int) (wh : Int) (wc : List UInt8) (wx : Int) (wy : Int) (wd : Int) (e : TypeId) (K : V -> List Blk -> Prop) : VC_spec_woPaint x y k wr ww wh wc wx wy wd e K = vbody Tryd.prog (vin Tryd.prog TPN_21 annTPN 3) TPN_21.looks (annTPN 127) 127 [.ptr 0 0, .int .i64 x, .int .i64 y, .int .i64 k] [⟨.vals [.str wr, .int .i64 ww, .int .i64 wh, .str wc, .int .i64 wx, .int .i64 wy, .int .i64 wd], e, .box⟩] (K) := by kernel_rfl
theorem ok_spec_woPaint : OK Tryd.prog 127 F_spec_woPaint.spec := (vbody_ok (vin_ok TPN_21_ok annTPN 3) TPN_21_ok.looks _ _).ofG fun args m p R M h hp => by
 unfold F_spec_woPaint at h
 split at h
 ·injection h with h; injection h with h1 h2; injection h2 with h2 h3; subst h1; subst h2; subst h3
  exact (congrArg At (eq_spec_woPaint _ _ _ _ _ _ _ _ _ _ _ _)).mp ⟨vc_spec_woPaint _ _ _ _ _ _ _ _ _ _ _ hp⟩
 ·cases h
def TPN_22 : Tab := TPN_21.addG 127 F_spec_woPaint
theorem TPN_22_ok : TPN_22.Ok Tryd.prog := TPN_21_ok.addG ok_spec_woPaint
theorem eq_spec_woGo (k : Int) (wr : List UInt8) (ww : Int) (wh : Int) (wc : List UInt8) (wx : Int) (wy : Int) (wd : Int) (e : TypeId) (K : V -> List Blk -> Prop) : VC_spec_woGo k wr ww wh wc wx wy wd e K = vbody Tryd.prog (vin Tryd.prog TPN_22 annTPN 3) TPN_22.looks (annTPN 128) 128 [.ptr 0 0, .int .i64 k] [⟨.vals [.str wr, .int .i64 ww, .int .i64 wh, .str wc, .int .i64 wx, .int .i64 wy, .int .i64 wd], e, .box⟩] (K) := by kernel_rfl
theorem ok_spec_woGo : OK Tryd.prog 128 F_spec_woGo.spec := (vbody_ok (vin_ok TPN_22_ok annTPN 3) TPN_22_ok.looks _ _).ofG fun args m p R M h hp => by
 unfold F_spec_woGo at h
 split at h
 ·injection h with h; injection h with h1 h2; injection h2 with h2 h3; subst h1; subst h2; subst h3
  exact (congrArg At (eq_spec_woGo _ _ _ _ _ _ _ _ _ _)).mp ⟨vc_spec_woGo _ _ _ _ _ _ _ _ _ hp⟩
 ·cases h
def TPN_23 : Tab := TPN_22.addG 128 F_spec_woGo
theorem TPN_23_ok : TPN_23.Ok Tryd.prog := TPN_22_ok.addG ok_spec_woGo
theorem eq_spec_woStep (wr : List UInt8) (ww : Int) (wh : Int) (wc : List UInt8) (wx : Int) (wy : Int) (wd : Int) (K : V -> Prop) : VC_spec_woStep wr ww wh wc wx wy wd K = vbody Tryd.prog (vin Tryd.prog TPN_23 annTPN 4) TPN_23.looks (annTPN 106) 106 [.agg [.str wr, .int .i64 ww, .int .i64 wh, .str wc, .int .i64 wx, .int .i64 wy, .int .i64 wd]] [] (fun v _ => K v) := by kernel_rfl
theorem ok_spec_woStep : OK Tryd.prog 106 F_spec_woStep.spec := (vbody_ok (vin_ok TPN_23_ok annTPN 4) TPN_23_ok.looks _ _).ofF fun args m p R h hp => by
 unfold F_spec_woStep at h
 split at h
 ·injection h with h; injection h with h1 h2; subst h1; subst h2
  exact ⟨rfl, (congrArg At (eq_spec_woStep _ _ _ _ _ _ _ _)).mp ⟨vc_spec_woStep _ _ _ _ _ _ _ hp⟩⟩
 ·cases h
def TPN_24 : Tab := TPN_23.add 106 F_spec_woStep
theorem TPN_24_ok : TPN_24.Ok Tryd.prog := TPN_23_ok.add ok_spec_woStep
theorem eq_impl_board_forth (wr : List UInt8) (ww : Int) (wh : Int) (wc : List UInt8) (wx : Int) (wy : Int) (wd : Int) (K : V -> Prop) : VC_impl_board_forth wr ww wh wc wx wy wd K = vbody Tryd.prog (vin Tryd.prog TPN_24 annTPN 4) TPN_24.looks (annTPN 114) 114 [.agg [.str wr, .int .i64 ww, .int .i64 wh, .str wc, .int .i64 wx, .int .i64 wy, .int .i64 wd]] [] (fun v _ => K v) := by kernel_rfl
theorem ok_impl_board_forth : OK Tryd.prog 114 F_impl_board_forth.spec := (vbody_ok (vin_ok TPN_24_ok annTPN 4) TPN_24_ok.looks _ _).ofF fun args m p R h hp => by
 unfold F_impl_board_forth at h
 split at h
 ·injection h with h; injection h with h1 h2; subst h1; subst h2
  exact ⟨rfl, (congrArg At (eq_impl_board_forth _ _ _ _ _ _ _ _)).mp ⟨vc_impl_board_forth _ _ _ _ _ _ _ hp⟩⟩
 ·cases h
def TPN_25 : Tab := TPN_24.add 114 F_impl_board_forth
theorem TPN_25_ok : TPN_25.Ok Tryd.prog := TPN_24_ok.add ok_impl_board_forth
theorem eq_laws_eqClue (ax : Int) (ay : Int) (ak : Int) (bx : Int) (by_ : Int) (bk : Int) (K : V -> Prop) : VC_laws_eqClue ax ay ak bx by_ bk K = vbody Tryd.prog (vin Tryd.prog TPN_25 annTPN 3) TPN_25.looks (annTPN 85) 85 [.agg [.int .i64 ax, .int .i64 ay, .int .i64 ak], .agg [.int .i64 bx, .int .i64 by_, .int .i64 bk]] [] (fun v _ => K v) := by kernel_rfl
theorem ok_laws_eqClue : OK Tryd.prog 85 F_laws_eqClue.spec := (vbody_ok (vin_ok TPN_25_ok annTPN 3) TPN_25_ok.looks _ _).ofF fun args m p R h hp => by
 unfold F_laws_eqClue at h
 split at h
 ·injection h with h; injection h with h1 h2; subst h1; subst h2
  exact ⟨rfl, (congrArg At (eq_laws_eqClue _ _ _ _ _ _ _)).mp ⟨vc_laws_eqClue _ _ _ _ _ _ hp⟩⟩
 ·cases h
def TPN_26 : Tab := TPN_25.add 85 F_laws_eqClue
theorem TPN_26_ok : TPN_26.Ok Tryd.prog := TPN_25_ok.add ok_laws_eqClue
theorem eq_laws_eqClueS  (n : Nat) (m : Nat) (a : List Int) (b : List Int) (K : V -> List Blk -> Prop) : VC_laws_eqClueS  n m a b K = vbody Tryd.prog (vin Tryd.prog TPN_26 annTPN 3) TPN_26.looks (annTPN 50) 50 [.row 0 n, .row 1 m] [⟨.ints .i64 a, 83, .rows 3⟩, ⟨.ints .i64 b, 83, .rows 3⟩] (K) := by kernel_rfl
theorem ok_laws_eqClueS : OK Tryd.prog 50 F_laws_eqClueS.spec := (vbody_ok (vin_ok TPN_26_ok annTPN 3) TPN_26_ok.looks _ _).ofFM fun args m p R h hp => by
 unfold F_laws_eqClueS at h
 split at h
 ·injection h with h; injection h with h1 h2; subst h1; subst h2
  exact (congrArg At (eq_laws_eqClueS _ _ _ _ _)).mp ⟨vc_laws_eqClueS _ _ _ _ hp⟩
 ·cases h
def TPN_27 : Tab := TPN_26.add 50 F_laws_eqClueS
theorem TPN_27_ok : TPN_27.Ok Tryd.prog := TPN_26_ok.add ok_laws_eqClueS
theorem eq_laws_eqPuzzle  (ar : List UInt8) (aw : Int) (ah : Int) (cr : List UInt8) (cw : Int) (ch : Int) (n : Nat) (m : Nat) (a : List Int) (b : List Int) (K : V -> List Blk -> Prop) : VC_laws_eqPuzzle  ar aw ah cr cw ch n m a b K = vbody Tryd.prog (vin Tryd.prog TPN_27 annTPN 3) TPN_27.looks (annTPN 17) 17 [.agg [.str ar, .int .i64 aw, .int .i64 ah, .row 0 n], .agg [.str cr, .int .i64 cw, .int .i64 ch, .row 1 m]] [⟨.ints .i64 a, 83, .rows 3⟩, ⟨.ints .i64 b, 83, .rows 3⟩] (K) := by kernel_rfl
theorem ok_laws_eqPuzzle : OK Tryd.prog 17 F_laws_eqPuzzle.spec := (vbody_ok (vin_ok TPN_27_ok annTPN 3) TPN_27_ok.looks _ _).ofFM fun args m p R h hp => by
 unfold F_laws_eqPuzzle at h
 split at h
 ·injection h with h; injection h with h1 h2; subst h1; subst h2
  exact (congrArg At (eq_laws_eqPuzzle _ _ _ _ _ _ _ _ _ _ _)).mp ⟨vc_laws_eqPuzzle _ _ _ _ _ _ _ _ _ _ hp⟩
 ·cases h
def TPN_28 : Tab := TPN_27.add 17 F_laws_eqPuzzle
theorem TPN_28_ok : TPN_28.Ok Tryd.prog := TPN_27_ok.add ok_laws_eqPuzzle
theorem eq_laws_markClueS (k : Int) (n : Nat) (a : List Int) (K : V -> List Blk -> Prop) : VC_laws_markClueS k n a K = vbody Tryd.prog (vin Tryd.prog TPN_28 annTPN 3) TPN_28.looks (annTPN 51) 51 [.row 0 n, .int .i64 k] [⟨.ints .i64 a, 83, .rows 3⟩] (K) := by kernel_rfl
theorem ok_laws_markClueS : OK Tryd.prog 51 F_laws_markClueS.spec := (vbody_ok (vin_ok TPN_28_ok annTPN 3) TPN_28_ok.looks _ _).ofG fun args m p R M h hp => by
 unfold F_laws_markClueS at h
 split at h
 ·injection h with h; injection h with h1 h2; injection h2 with h2 h3; subst h1; subst h2; subst h3
  exact (congrArg At (eq_laws_markClueS _ _ _ _)).mp ⟨vc_laws_markClueS _ _ _ hp⟩
 ·cases h
def TPN_29 : Tab := TPN_28.addG 51 F_laws_markClueS
theorem TPN_29_ok : TPN_29.Ok Tryd.prog := TPN_28_ok.addG ok_laws_markClueS
theorem eq_laws_heldClueS (k : Int) (n : Nat) (a : List Int) (K : V -> List Blk -> Prop) : VC_laws_heldClueS k n a K = vbody Tryd.prog (vin Tryd.prog TPN_29 annTPN 3) TPN_29.looks (annTPN 61) 61 [.row 0 n, .int .i64 k] [⟨.ints .i64 a, 83, .rows 3⟩] (K) := by kernel_rfl
theorem ok_laws_heldClueS : OK Tryd.prog 61 F_laws_heldClueS.spec := (vbody_ok (vin_ok TPN_29_ok annTPN 3) TPN_29_ok.looks _ _).ofFM fun args m p R h hp => by
 unfold F_laws_heldClueS at h
 split at h
 ·injection h with h; injection h with h1 h2; subst h1; subst h2
  exact (congrArg At (eq_laws_heldClueS _ _ _ _)).mp ⟨vc_laws_heldClueS _ _ _ hp⟩
 ·cases h
def TPN_30 : Tab := TPN_29.add 61 F_laws_heldClueS
theorem TPN_30_ok : TPN_30.Ok Tryd.prog := TPN_29_ok.add ok_laws_heldClueS
theorem eq_laws_markPuzzle (k : Int) (pr : List UInt8) (pw : Int) (ph : Int) (n : Nat) (a : List Int) (K : V -> List Blk -> Prop) : VC_laws_markPuzzle k pr pw ph n a K = vbody Tryd.prog (vin Tryd.prog TPN_30 annTPN 3) TPN_30.looks (annTPN 18) 18 [.agg [.str pr, .int .i64 pw, .int .i64 ph, .row 0 n], .int .i64 k] [⟨.ints .i64 a, 83, .rows 3⟩] (K) := by kernel_rfl
theorem ok_laws_markPuzzle : OK Tryd.prog 18 F_laws_markPuzzle.spec := (vbody_ok (vin_ok TPN_30_ok annTPN 3) TPN_30_ok.looks _ _).ofG fun args m p R M h hp => by
 unfold F_laws_markPuzzle at h
 split at h
 ·injection h with h; injection h with h1 h2; injection h2 with h2 h3; subst h1; subst h2; subst h3
  exact (congrArg At (eq_laws_markPuzzle _ _ _ _ _ _ _)).mp ⟨vc_laws_markPuzzle _ _ _ _ _ _ hp⟩
 ·cases h
def TPN_31 : Tab := TPN_30.addG 18 F_laws_markPuzzle
theorem TPN_31_ok : TPN_31.Ok Tryd.prog := TPN_30_ok.addG ok_laws_markPuzzle
theorem eq_laws_heldPuzzle (k : Int) (pr : List UInt8) (pw : Int) (ph : Int) (n : Nat) (a : List Int) (K : V -> List Blk -> Prop) : VC_laws_heldPuzzle k pr pw ph n a K = vbody Tryd.prog (vin Tryd.prog TPN_31 annTPN 3) TPN_31.looks (annTPN 34) 34 [.agg [.str pr, .int .i64 pw, .int .i64 ph, .row 0 n], .int .i64 k] [⟨.ints .i64 a, 83, .rows 3⟩] (K) := by kernel_rfl
theorem ok_laws_heldPuzzle : OK Tryd.prog 34 F_laws_heldPuzzle.spec := (vbody_ok (vin_ok TPN_31_ok annTPN 3) TPN_31_ok.looks _ _).ofFM fun args m p R h hp => by
 unfold F_laws_heldPuzzle at h
 split at h
 ·injection h with h; injection h with h1 h2; subst h1; subst h2
  exact (congrArg At (eq_laws_heldPuzzle _ _ _ _ _ _ _)).mp ⟨vc_laws_heldPuzzle _ _ _ _ _ _ hp⟩
 ·cases h
def TPN_32 : Tab := TPN_31.add 34 F_laws_heldPuzzle
theorem TPN_32_ok : TPN_32.Ok Tryd.prog := TPN_31_ok.add ok_laws_heldPuzzle
theorem eq_laws_szClueS (left : Int) (n : Nat) (a : List Int) (K : V -> List Blk -> Prop) : VC_laws_szClueS left n a K = vbody Tryd.prog (vin Tryd.prog TPN_32 annTPN 3) TPN_32.looks (annTPN 43) 43 [.row 0 n, .int .i64 left] [⟨.ints .i64 a, 99, .arg 3⟩] (K) := by kernel_rfl
theorem ok_laws_szClueS : OK Tryd.prog 43 F_laws_szClueS.spec := (vbody_ok (vin_ok TPN_32_ok annTPN 3) TPN_32_ok.looks _ _).ofFM fun args m p R h hp => by
 unfold F_laws_szClueS at h
 split at h
 ·injection h with h; injection h with h1 h2; subst h1; subst h2
  exact (congrArg At (eq_laws_szClueS _ _ _ _)).mp ⟨vc_laws_szClueS _ _ _ hp⟩
 ·cases h
def TPN_33 : Tab := TPN_32.add 43 F_laws_szClueS
theorem TPN_33_ok : TPN_33.Ok Tryd.prog := TPN_32_ok.add ok_laws_szClueS
theorem eq_laws_szPuzzle (left : Int) (pr : List UInt8) (pw : Int) (ph : Int) (n : Nat) (a : List Int) (K : V -> List Blk -> Prop) : VC_laws_szPuzzle left pr pw ph n a K = vbody Tryd.prog (vin Tryd.prog TPN_33 annTPN 3) TPN_33.looks (annTPN 12) 12 [.agg [.str pr, .int .i64 pw, .int .i64 ph, .row 0 n], .int .i64 left] [⟨.ints .i64 a, 99, .arg 3⟩] (K) := by kernel_rfl
theorem ok_laws_szPuzzle : OK Tryd.prog 12 F_laws_szPuzzle.spec := (vbody_ok (vin_ok TPN_33_ok annTPN 3) TPN_33_ok.looks _ _).ofFM fun args m p R h hp => by
 unfold F_laws_szPuzzle at h
 split at h
 ·injection h with h; injection h with h1 h2; subst h1; subst h2
  exact (congrArg At (eq_laws_szPuzzle _ _ _ _ _ _ _)).mp ⟨vc_laws_szPuzzle _ _ _ _ _ _ hp⟩
 ·cases h
def TPN_34 : Tab := TPN_33.add 12 F_laws_szPuzzle
theorem TPN_34_ok : TPN_34.Ok Tryd.prog := TPN_33_ok.add ok_laws_szPuzzle
theorem eq_laws_toClue (ax : Int) (ay : Int) (ak : Int) (K : V -> Prop) : VC_laws_toClue ax ay ak K = vbody Tryd.prog (vin Tryd.prog TPN_34 annTPN 3) TPN_34.looks (annTPN 81) 81 [.agg [.int .i64 ax, .int .i64 ay, .int .i64 ak]] [] (fun v _ => K v) := by kernel_rfl
theorem ok_laws_toClue : OK Tryd.prog 81 F_laws_toClue.spec := (vbody_ok (vin_ok TPN_34_ok annTPN 3) TPN_34_ok.looks _ _).ofF fun args m p R h hp => by
 unfold F_laws_toClue at h
 split at h
 ·injection h with h; injection h with h1 h2; subst h1; subst h2
  exact ⟨rfl, (congrArg At (eq_laws_toClue _ _ _ _)).mp ⟨vc_laws_toClue _ _ _ hp⟩⟩
 ·cases h
def TPN_35 : Tab := TPN_34.add 81 F_laws_toClue
theorem TPN_35_ok : TPN_35.Ok Tryd.prog := TPN_34_ok.add ok_laws_toClue
theorem eq_laws_toClueS  (n : Nat) (a : List Int) (K : V -> List Blk -> Prop) : VC_laws_toClueS  n a K = vbody Tryd.prog (vin Tryd.prog TPN_35 annTPN 3) TPN_35.looks (annTPN 46) 46 [.row 0 n] [⟨.ints .i64 a, 99, .arg 3⟩] (K) := by kernel_rfl
theorem ok_laws_toClueS : OK Tryd.prog 46 F_laws_toClueS.spec := (vbody_ok (vin_ok TPN_35_ok annTPN 3) TPN_35_ok.looks _ _).ofG fun args m p R M h hp => by
 unfold F_laws_toClueS at h
 split at h
 ·injection h with h; injection h with h1 h2; injection h2 with h2 h3; subst h1; subst h2; subst h3
  exact (congrArg At (eq_laws_toClueS _ _ _)).mp ⟨vc_laws_toClueS _ _ hp⟩
 ·cases h
def TPN_36 : Tab := TPN_35.addG 46 F_laws_toClueS
theorem TPN_36_ok : TPN_36.Ok Tryd.prog := TPN_35_ok.addG ok_laws_toClueS
theorem eq_laws_toPuzzle  (pr : List UInt8) (pw : Int) (ph : Int) (n : Nat) (a : List Int) (K : V -> List Blk -> Prop) : VC_laws_toPuzzle  pr pw ph n a K = vbody Tryd.prog (vin Tryd.prog TPN_36 annTPN 3) TPN_36.looks (annTPN 14) 14 [.agg [.str pr, .int .i64 pw, .int .i64 ph, .row 0 n]] [⟨.ints .i64 a, 99, .arg 3⟩] (K) := by kernel_rfl
theorem ok_laws_toPuzzle : OK Tryd.prog 14 F_laws_toPuzzle.spec := (vbody_ok (vin_ok TPN_36_ok annTPN 3) TPN_36_ok.looks _ _).ofG fun args m p R M h hp => by
 unfold F_laws_toPuzzle at h
 split at h
 ·injection h with h; injection h with h1 h2; injection h2 with h2 h3; subst h1; subst h2; subst h3
  exact (congrArg At (eq_laws_toPuzzle _ _ _ _ _ _)).mp ⟨vc_laws_toPuzzle _ _ _ _ _ hp⟩
 ·cases h
def TPN_37 : Tab := TPN_36.addG 14 F_laws_toPuzzle
theorem TPN_37_ok : TPN_37.Ok Tryd.prog := TPN_36_ok.addG ok_laws_toPuzzle
theorem ok_impl_areClues : OK Tryd.prog 94 F_impl_areClues.spec := Go.Proofs.YtickpjdnncpnmaaDoor.PD.ok_areClues
def TPN_38 : Tab := TPN_37.add 94 F_impl_areClues
theorem TPN_38_ok : TPN_38.Ok Tryd.prog := TPN_37_ok.add ok_impl_areClues
theorem eq_spec_pzPower (s : List UInt8) (n : Int) (K : V -> Prop) : VC_spec_pzPower s n K = vbody Tryd.prog (vin Tryd.prog TPN_38 annTPN 3) TPN_38.looks (annTPN 104) 104 [.str s, .int .i64 n] [] (fun v _ => K v) := by kernel_rfl
theorem ok_spec_pzPower : OK Tryd.prog 104 F_spec_pzPower.spec := (vbody_ok (vin_ok TPN_38_ok annTPN 3) TPN_38_ok.looks _ _).ofF fun args m p R h hp => by
 unfold F_spec_pzPower at h
 split at h
 ·injection h with h; injection h with h1 h2; subst h1; subst h2
  exact ⟨rfl, (congrArg At (eq_spec_pzPower _ _ _)).mp ⟨vc_spec_pzPower _ _ hp⟩⟩
 ·cases h
def TPN_39 : Tab := TPN_38.add 104 F_spec_pzPower
theorem TPN_39_ok : TPN_39.Ok Tryd.prog := TPN_38_ok.add ok_spec_pzPower
theorem eq_spec_pzSize (s : List UInt8) (w : Int) (h : Int) (K : V -> Prop) : VC_spec_pzSize s w h K = vbody Tryd.prog (vin Tryd.prog TPN_39 annTPN 3) TPN_39.looks (annTPN 78) 78 [.str s, .int .i64 w, .int .i64 h] [] (fun v _ => K v) := by kernel_rfl
theorem ok_spec_pzSize : OK Tryd.prog 78 F_spec_pzSize.spec := (vbody_ok (vin_ok TPN_39_ok annTPN 3) TPN_39_ok.looks _ _).ofF fun args m p R h hp => by
 unfold F_spec_pzSize at h
 split at h
 ·injection h with h; injection h with h1 h2; subst h1; subst h2
  exact ⟨rfl, (congrArg At (eq_spec_pzSize _ _ _ _)).mp ⟨vc_spec_pzSize _ _ _ hp⟩⟩
 ·cases h
def TPN_40 : Tab := TPN_39.add 78 F_spec_pzSize
theorem TPN_40_ok : TPN_40.Ok Tryd.prog := TPN_39_ok.add ok_spec_pzSize
theorem eq_impl_isSize (w : Int) (h : Int) (K : V -> Prop) : VC_impl_isSize w h K = vbody Tryd.prog (vin Tryd.prog TPN_40 annTPN 3) TPN_40.looks (annTPN 108) 108 [.int .i64 w, .int .i64 h] [] (fun v _ => K v) := by kernel_rfl
theorem ok_impl_isSize : OK Tryd.prog 108 F_impl_isSize.spec := (vbody_ok (vin_ok TPN_40_ok annTPN 3) TPN_40_ok.looks _ _).ofF fun args m p R h hp => by
 unfold F_impl_isSize at h
 split at h
 ·injection h with h; injection h with h1 h2; subst h1; subst h2
  exact ⟨rfl, (congrArg At (eq_impl_isSize _ _ _)).mp ⟨vc_impl_isSize _ _ hp⟩⟩
 ·cases h
def TPN_41 : Tab := TPN_40.add 108 F_impl_isSize
theorem TPN_41_ok : TPN_41.Ok Tryd.prog := TPN_40_ok.add ok_impl_isSize
theorem eq_impl_CountBoards (s : List UInt8) (w : Int) (h : Int) (K : V -> Prop) : VC_impl_CountBoards s w h K = vbody Tryd.prog (vin Tryd.prog TPN_41 annTPN 3) TPN_41.looks (annTPN 88) 88 [.str s, .int .i64 w, .int .i64 h] [] (fun v _ => K v) := by kernel_rfl
theorem ok_impl_CountBoards : OK Tryd.prog 88 F_impl_CountBoards.spec := (vbody_ok (vin_ok TPN_41_ok annTPN 3) TPN_41_ok.looks _ _).ofF fun args m p R h hp => by
 unfold F_impl_CountBoards at h
 split at h
 ·injection h with h; injection h with h1 h2; subst h1; subst h2
  exact ⟨rfl, (congrArg At (eq_impl_CountBoards _ _ _ _)).mp ⟨vc_impl_CountBoards _ _ _ hp⟩⟩
 ·cases h
def TPN_42 : Tab := TPN_41.add 88 F_impl_CountBoards
theorem TPN_42_ok : TPN_42.Ok Tryd.prog := TPN_41_ok.add ok_impl_CountBoards
theorem eq_spec_pzClue (s : List UInt8) (cells : Int) (cx : Int) (cy : Int) (ck : Int) (K : V -> Prop) : VC_spec_pzClue s cells cx cy ck K = vbody Tryd.prog (vin Tryd.prog TPN_42 annTPN 3) TPN_42.looks (annTPN 79) 79 [.str s, .int .i64 cells, .agg [.int .i64 cx, .int .i64 cy, .int .i64 ck]] [] (fun v _ => K v) := by kernel_rfl
theorem ok_spec_pzClue : OK Tryd.prog 79 F_spec_pzClue.spec := (vbody_ok (vin_ok TPN_42_ok annTPN 3) TPN_42_ok.looks _ _).ofF fun args m p R h hp => by
 unfold F_spec_pzClue at h
 split at h
 ·injection h with h; injection h with h1 h2; subst h1; subst h2
  exact ⟨rfl, (congrArg At (eq_spec_pzClue _ _ _ _ _ _)).mp ⟨vc_spec_pzClue _ _ _ _ _ hp⟩⟩
 ·cases h
def TPN_43 : Tab := TPN_42.add 79 F_spec_pzClue
theorem TPN_43_ok : TPN_43.Ok Tryd.prog := TPN_42_ok.add ok_spec_pzClue
theorem eq_spec_pzGood  (pr : List UInt8) (pw : Int) (ph : Int) (n : Nat) (a : List Int) (K : V -> List Blk -> Prop) : VC_spec_pzGood  pr pw ph n a K = vbody Tryd.prog (vin Tryd.prog TPN_43 annTPN 3) TPN_43.looks (annTPN 44) 44 [.agg [.str pr, .int .i64 pw, .int .i64 ph, .row 0 n]] [⟨.ints .i64 a, 83, .rows 3⟩] (K) := by kernel_rfl
theorem ok_spec_pzGood : OK Tryd.prog 44 F_spec_pzGood.spec := (vbody_ok (vin_ok TPN_43_ok annTPN 3) TPN_43_ok.looks _ _).ofFM fun args m p R h hp => by
 unfold F_spec_pzGood at h
 split at h
 ·injection h with h; injection h with h1 h2; subst h1; subst h2
  exact (congrArg At (eq_spec_pzGood _ _ _ _ _ _)).mp ⟨vc_spec_pzGood _ _ _ _ _ hp⟩
 ·cases h
def TPN_44 : Tab := TPN_43.add 44 F_spec_pzGood
theorem TPN_44_ok : TPN_44.Ok Tryd.prog := TPN_43_ok.add ok_spec_pzGood
theorem eq_impl_IsPuzzle  (pr : List UInt8) (pw : Int) (ph : Int) (n : Nat) (a : List Int) (K : V -> List Blk -> Prop) : VC_impl_IsPuzzle  pr pw ph n a K = vbody Tryd.prog (vin Tryd.prog TPN_44 annTPN 3) TPN_44.looks (annTPN 70) 70 [.agg [.str pr, .int .i64 pw, .int .i64 ph, .row 0 n]] [⟨.ints .i64 a, 83, .rows 3⟩] (K) := by kernel_rfl
theorem ok_impl_IsPuzzle : OK Tryd.prog 70 F_impl_IsPuzzle.spec := (vbody_ok (vin_ok TPN_44_ok annTPN 3) TPN_44_ok.looks _ _).ofFM fun args m p R h hp => by
 unfold F_impl_IsPuzzle at h
 split at h
 ·injection h with h; injection h with h1 h2; subst h1; subst h2
  exact (congrArg At (eq_impl_IsPuzzle _ _ _ _ _ _)).mp ⟨vc_impl_IsPuzzle _ _ _ _ _ hp⟩
 ·cases h
def TPN_45 : Tab := TPN_44.add 70 F_impl_IsPuzzle
theorem TPN_45_ok : TPN_45.Ok Tryd.prog := TPN_44_ok.add ok_impl_IsPuzzle
theorem eq_impl_firstClues (n : Int) (K : V -> Prop) : VC_impl_firstClues n K = vbody Tryd.prog (vin Tryd.prog TPN_45 annTPN 3) TPN_45.looks (annTPN 57) 57 [.int .i64 n] [] (fun v _ => K v) := by kernel_rfl
theorem ok_impl_firstClues : OK Tryd.prog 57 F_impl_firstClues.spec := (vbody_ok (vin_ok TPN_45_ok annTPN 3) TPN_45_ok.looks _ _).ofF fun args m p R h hp => by
 unfold F_impl_firstClues at h
 split at h
 ·injection h with h; injection h with h1 h2; subst h1; subst h2
  exact ⟨rfl, (congrArg At (eq_impl_firstClues _ _)).mp ⟨vc_impl_firstClues _ hp⟩⟩
 ·cases h
def TPN_46 : Tab := TPN_45.add 57 F_impl_firstClues
theorem TPN_46_ok : TPN_46.Ok Tryd.prog := TPN_45_ok.add ok_impl_firstClues
theorem eq_impl_oneClue (n : Int) (K : V -> Prop) : VC_impl_oneClue n K = vbody Tryd.prog (vin Tryd.prog TPN_46 annTPN 3) TPN_46.looks (annTPN 58) 58 [.int .i64 n] [] (fun v _ => K v) := by kernel_rfl
theorem ok_impl_oneClue : OK Tryd.prog 58 F_impl_oneClue.spec := (vbody_ok (vin_ok TPN_46_ok annTPN 3) TPN_46_ok.looks _ _).ofF fun args m p R h hp => by
 unfold F_impl_oneClue at h
 split at h
 ·injection h with h; injection h with h1 h2; subst h1; subst h2
  exact ⟨rfl, (congrArg At (eq_impl_oneClue _ _)).mp ⟨vc_impl_oneClue _ hp⟩⟩
 ·cases h
def TPN_47 : Tab := TPN_46.add 58 F_impl_oneClue
theorem TPN_47_ok : TPN_47.Ok Tryd.prog := TPN_46_ok.add ok_impl_oneClue
theorem eq_impl_clueSet_hasAll (s : Int) (o : Int) (K : V -> Prop) : VC_impl_clueSet_hasAll s o K = vbody Tryd.prog (vin Tryd.prog TPN_47 annTPN 3) TPN_47.looks (annTPN 84) 84 [.int .u64 s, .int .u64 o] [] (fun v _ => K v) := by kernel_rfl
theorem ok_impl_clueSet_hasAll : OK Tryd.prog 84 F_impl_clueSet_hasAll.spec := (vbody_ok (vin_ok TPN_47_ok annTPN 3) TPN_47_ok.looks _ _).ofF fun args m p R h hp => by
 unfold F_impl_clueSet_hasAll at h
 split at h
 ·injection h with h; injection h with h1 h2; subst h1; subst h2
  exact ⟨rfl, (congrArg At (eq_impl_clueSet_hasAll _ _ _)).mp ⟨vc_impl_clueSet_hasAll _ _ hp⟩⟩
 ·cases h
def TPN_48 : Tab := TPN_47.add 84 F_impl_clueSet_hasAll
theorem TPN_48_ok : TPN_48.Ok Tryd.prog := TPN_47_ok.add ok_impl_clueSet_hasAll
theorem eq_impl_clueSet_without (s : Int) (n : Int) (K : V -> Prop) : VC_impl_clueSet_without s n K = vbody Tryd.prog (vin Tryd.prog TPN_48 annTPN 3) TPN_48.looks (annTPN 56) 56 [.int .u64 s, .int .i64 n] [] (fun v _ => K v) := by kernel_rfl
theorem ok_impl_clueSet_without : OK Tryd.prog 56 F_impl_clueSet_without.spec := (vbody_ok (vin_ok TPN_48_ok annTPN 3) TPN_48_ok.looks _ _).ofF fun args m p R h hp => by
 unfold F_impl_clueSet_without at h
 split at h
 ·injection h with h; injection h with h1 h2; subst h1; subst h2
  exact ⟨rfl, (congrArg At (eq_impl_clueSet_without _ _ _)).mp ⟨vc_impl_clueSet_without _ _ hp⟩⟩
 ·cases h
def TPN_49 : Tab := TPN_48.add 56 F_impl_clueSet_without
theorem TPN_49_ok : TPN_49.Ok Tryd.prog := TPN_48_ok.add ok_impl_clueSet_without
theorem eq_impl_allClues  (pr : List UInt8) (pw : Int) (ph : Int) (n : Nat) (a : List Int) (K : V -> List Blk -> Prop) : VC_impl_allClues  pr pw ph n a K = vbody Tryd.prog (vin Tryd.prog TPN_49 annTPN 3) TPN_49.looks (annTPN 49) 49 [.agg [.str pr, .int .i64 pw, .int .i64 ph, .row 0 n]] [⟨.ints .i64 a, 83, .rows 3⟩] (K) := by kernel_rfl
theorem ok_impl_allClues : OK Tryd.prog 49 F_impl_allClues.spec := (vbody_ok (vin_ok TPN_49_ok annTPN 3) TPN_49_ok.looks _ _).ofFM fun args m p R h hp => by
 unfold F_impl_allClues at h
 split at h
 ·injection h with h; injection h with h1 h2; subst h1; subst h2
  exact (congrArg At (eq_impl_allClues _ _ _ _ _ _)).mp ⟨vc_impl_allClues _ _ _ _ _ hp⟩
 ·cases h
def TPN_50 : Tab := TPN_49.add 49 F_impl_allClues
theorem TPN_50_ok : TPN_50.Ok Tryd.prog := TPN_49_ok.add ok_impl_allClues
theorem eq_impl_withClues (m : Int) (pr : List UInt8) (pw : Int) (ph : Int) (n : Nat) (a : List Int) (K : V -> List Blk -> Prop) : VC_impl_withClues m pr pw ph n a K = vbody Tryd.prog (vin Tryd.prog TPN_50 annTPN 3) TPN_50.looks (annTPN 60) 60 [.agg [.str pr, .int .i64 pw, .int .i64 ph, .row 0 n], .int .u64 m] [⟨.ints .i64 a, 83, .rows 3⟩] (K) := by kernel_rfl
theorem ok_impl_withClues : OK Tryd.prog 60 F_impl_withClues.spec := (vbody_ok (vin_ok TPN_50_ok annTPN 3) TPN_50_ok.looks _ _).ofG fun args m p R M h hp => by
 unfold F_impl_withClues at h
 split at h
 ·injection h with h; injection h with h1 h2; injection h2 with h2 h3; subst h1; subst h2; subst h3
  exact (congrArg At (eq_impl_withClues _ _ _ _ _ _ _)).mp ⟨vc_impl_withClues _ _ _ _ _ _ hp⟩
 ·cases h
def TPN_51 : Tab := TPN_50.addG 60 F_impl_withClues
theorem TPN_51_ok : TPN_51.Ok Tryd.prog := TPN_50_ok.addG ok_impl_withClues
theorem eq_spec_pzWithout (k : Int) (n : Nat) (a : List Int) (K : V -> List Blk -> Prop) : VC_spec_pzWithout k n a K = vbody Tryd.prog (vin Tryd.prog TPN_51 annTPN 3) TPN_51.looks (annTPN 54) 54 [.row 0 n, .int .i64 k] [⟨.ints .i64 a, 83, .rows 3⟩] (K) := by kernel_rfl
theorem ok_spec_pzWithout : OK Tryd.prog 54 F_spec_pzWithout.spec := (vbody_ok (vin_ok TPN_51_ok annTPN 3) TPN_51_ok.looks _ _).ofG fun args m p R M h hp => by
 unfold F_spec_pzWithout at h
 split at h
 ·injection h with h; injection h with h1 h2; injection h2 with h2 h3; subst h1; subst h2; subst h3
  exact (congrArg At (eq_spec_pzWithout _ _ _ _)).mp ⟨vc_spec_pzWithout _ _ _ hp⟩
 ·cases h
def TPN_52 : Tab := TPN_51.addG 54 F_spec_pzWithout
theorem TPN_52_ok : TPN_52.Ok Tryd.prog := TPN_51_ok.addG ok_spec_pzWithout
theorem eq_impl_led (wr : List UInt8) (ww : Int) (wh : Int) (wc : List UInt8) (wx : Int) (wy : Int) (wd : Int) (s : Int) (K : V -> Prop) : VC_impl_led wr ww wh wc wx wy wd s K = vbody Tryd.prog (vin Tryd.prog TPN_52 annTPN 3) TPN_52.looks (annTPN 113) 113 [.agg [.str wr, .int .i64 ww, .int .i64 wh, .str wc, .int .i64 wx, .int .i64 wy, .int .i64 wd], .int .i64 s, .fn 114 []] [] (fun v _ => K v) := by kernel_rfl
theorem ok_impl_led : OK Tryd.prog 113 F_impl_led.spec := (vbody_ok (vin_ok TPN_52_ok annTPN 3) TPN_52_ok.looks _ _).ofF fun args m p R h hp => by
 unfold F_impl_led at h
 split at h
 ·injection h with h; injection h with h1 h2; subst h1; subst h2
  exact ⟨rfl, (congrArg At (eq_impl_led _ _ _ _ _ _ _ _ _)).mp ⟨vc_impl_led _ _ _ _ _ _ _ _ hp⟩⟩
 ·cases h
def TPN_53 : Tab := TPN_52.add 113 F_impl_led
theorem TPN_53_ok : TPN_53.Ok Tryd.prog := TPN_52_ok.add ok_impl_led
theorem eq_impl_sumOf (s : List UInt8) (K : V -> Prop) : VC_impl_sumOf s K = vbody Tryd.prog (vin Tryd.prog TPN_53 annTPN 3) TPN_53.looks (annTPN 112) 112 [.str s] [] (fun v _ => K v) := by kernel_rfl
theorem ok_impl_sumOf : OK Tryd.prog 112 F_impl_sumOf.spec := (vbody_ok (vin_ok TPN_53_ok annTPN 3) TPN_53_ok.looks _ _).ofF fun args m p R h hp => by
 unfold F_impl_sumOf at h
 split at h
 ·injection h with h; injection h with h1 h2; subst h1; subst h2
  exact ⟨rfl, (congrArg At (eq_impl_sumOf _ _)).mp ⟨vc_impl_sumOf _ hp⟩⟩
 ·cases h
def TPN_54 : Tab := TPN_53.add 112 F_impl_sumOf
theorem TPN_54_ok : TPN_54.Ok Tryd.prog := TPN_53_ok.add ok_impl_sumOf
theorem ok_strings_Count : OK Tryd.prog 115 F_strings_Count.spec := Go.Proofs.YtickpjdnncpnmaaDoor.libCount
def TPN_55 : Tab := TPN_54.add 115 F_strings_Count
theorem TPN_55_ok : TPN_55.Ok Tryd.prog := TPN_54_ok.add ok_strings_Count
theorem eq_spec_pzValue (k : Int) (a : Int) (wr : List UInt8) (ww : Int) (wh : Int) (wc : List UInt8) (wx : Int) (wy : Int) (wd : Int) (K : V -> Prop) : VC_spec_pzValue k a wr ww wh wc wx wy wd K = vbody Tryd.prog (vin Tryd.prog TPN_55 annTPN 3) TPN_55.looks (annTPN 87) 87 [.int .i64 k, .int .i64 a, .agg [.str wr, .int .i64 ww, .int .i64 wh, .str wc, .int .i64 wx, .int .i64 wy, .int .i64 wd]] [] (fun v _ => K v) := by kernel_rfl
theorem ok_spec_pzValue : OK Tryd.prog 87 F_spec_pzValue.spec := (vbody_ok (vin_ok TPN_55_ok annTPN 3) TPN_55_ok.looks _ _).ofF fun args m p R h hp => by
 unfold F_spec_pzValue at h
 split at h
 ·injection h with h; injection h with h1 h2; subst h1; subst h2
  exact ⟨rfl, (congrArg At (eq_spec_pzValue _ _ _ _ _ _ _ _ _ _)).mp ⟨vc_spec_pzValue _ _ _ _ _ _ _ _ _ hp⟩⟩
 ·cases h
def TPN_56 : Tab := TPN_55.add 87 F_spec_pzValue
theorem TPN_56_ok : TPN_56.Ok Tryd.prog := TPN_55_ok.add ok_spec_pzValue
theorem eq_spec_pzFits (cx : Int) (cy : Int) (ck : Int) (wr : List UInt8) (ww : Int) (wh : Int) (wc : List UInt8) (wx : Int) (wy : Int) (wd : Int) (K : V -> Prop) : VC_spec_pzFits cx cy ck wr ww wh wc wx wy wd K = vbody Tryd.prog (vin Tryd.prog TPN_56 annTPN 3) TPN_56.looks (annTPN 105) 105 [.agg [.int .i64 cx, .int .i64 cy, .int .i64 ck], .agg [.str wr, .int .i64 ww, .int .i64 wh, .str wc, .int .i64 wx, .int .i64 wy, .int .i64 wd]] [] (fun v _ => K v) := by kernel_rfl
theorem ok_spec_pzFits : OK Tryd.prog 105 F_spec_pzFits.spec := (vbody_ok (vin_ok TPN_56_ok annTPN 3) TPN_56_ok.looks _ _).ofF fun args m p R h hp => by
 unfold F_spec_pzFits at h
 split at h
 ·injection h with h; injection h with h1 h2; subst h1; subst h2
  exact ⟨rfl, (congrArg At (eq_spec_pzFits _ _ _ _ _ _ _ _ _ _ _)).mp ⟨vc_spec_pzFits _ _ _ _ _ _ _ _ _ _ hp⟩⟩
 ·cases h
def TPN_57 : Tab := TPN_56.add 105 F_spec_pzFits
theorem TPN_57_ok : TPN_57.Ok Tryd.prog := TPN_56_ok.add ok_spec_pzFits
theorem eq_impl_clueFrom (wr : List UInt8) (ww : Int) (wh : Int) (wc : List UInt8) (wx : Int) (wy : Int) (wd : Int) (k : Int) (a : Int) (K : V -> Prop) : VC_impl_clueFrom wr ww wh wc wx wy wd k a K = vbody Tryd.prog (vin Tryd.prog TPN_57 annTPN 3) TPN_57.looks (annTPN 92) 92 [.agg [.str wr, .int .i64 ww, .int .i64 wh, .str wc, .int .i64 wx, .int .i64 wy, .int .i64 wd], .int .i64 k, .int .i64 a] [] (fun v _ => K v) := by kernel_rfl
theorem ok_impl_clueFrom : OK Tryd.prog 92 F_impl_clueFrom.spec := (vbody_ok (vin_ok TPN_57_ok annTPN 3) TPN_57_ok.looks _ _).ofF fun args m p R h hp => by
 unfold F_impl_clueFrom at h
 split at h
 ·injection h with h; injection h with h1 h2; subst h1; subst h2
  exact ⟨rfl, (congrArg At (eq_impl_clueFrom _ _ _ _ _ _ _ _ _ _)).mp ⟨vc_impl_clueFrom _ _ _ _ _ _ _ _ _ hp⟩⟩
 ·cases h
def TPN_58 : Tab := TPN_57.add 92 F_impl_clueFrom
theorem TPN_58_ok : TPN_58.Ok Tryd.prog := TPN_57_ok.add ok_impl_clueFrom
theorem eq_impl_doesFit (cx : Int) (cy : Int) (ck : Int) (wr : List UInt8) (ww : Int) (wh : Int) (wc : List UInt8) (wx : Int) (wy : Int) (wd : Int) (K : V -> Prop) : VC_impl_doesFit cx cy ck wr ww wh wc wx wy wd K = vbody Tryd.prog (vin Tryd.prog TPN_58 annTPN 3) TPN_58.looks (annTPN 83) 83 [.agg [.int .i64 cx, .int .i64 cy, .int .i64 ck], .agg [.str wr, .int .i64 ww, .int .i64 wh, .str wc, .int .i64 wx, .int .i64 wy, .int .i64 wd]] [] (fun v _ => K v) := by kernel_rfl
theorem ok_impl_doesFit : OK Tryd.prog 83 F_impl_doesFit.spec := (vbody_ok (vin_ok TPN_58_ok annTPN 3) TPN_58_ok.looks _ _).ofF fun args m p R h hp => by
 unfold F_impl_doesFit at h
 split at h
 ·injection h with h; injection h with h1 h2; subst h1; subst h2
  exact ⟨rfl, (congrArg At (eq_impl_doesFit _ _ _ _ _ _ _ _ _ _ _)).mp ⟨vc_impl_doesFit _ _ _ _ _ _ _ _ _ _ hp⟩⟩
 ·cases h
def TPN_59 : Tab := TPN_58.add 83 F_impl_doesFit
theorem TPN_59_ok : TPN_59.Ok Tryd.prog := TPN_58_ok.add ok_impl_doesFit
theorem eq_impl_allCells (c : Int) (n : Int) (K : V -> List Blk -> Prop) : VC_impl_allCells c n K = vbody Tryd.prog (vin Tryd.prog TPN_59 annTPN 3) TPN_59.looks (annTPN 82) 82 [.int .i64 c, .int .i64 n] [] (K) := by kernel_rfl
theorem ok_impl_allCells : OK Tryd.prog 82 F_impl_allCells.spec := (vbody_ok (vin_ok TPN_59_ok annTPN 3) TPN_59_ok.looks _ _).ofG fun args m p R M h hp => by
 unfold F_impl_allCells at h
 split at h
 ·injection h with h; injection h with h1 h2; injection h2 with h2 h3; subst h1; subst h2; subst h3
  exact (congrArg At (eq_impl_allCells _ _ _)).mp ⟨vc_impl_allCells _ _ hp⟩
 ·cases h
def TPN_60 : Tab := TPN_59.addG 82 F_impl_allCells
theorem TPN_60_ok : TPN_60.Ok Tryd.prog := TPN_59_ok.addG ok_impl_allCells
theorem eq_impl_candidatesOf  (pr : List UInt8) (pw : Int) (ph : Int) (n : Nat) (a : List Int) (K : V -> List Blk -> Prop) : VC_impl_candidatesOf  pr pw ph n a K = vbody Tryd.prog (vin Tryd.prog TPN_60 annTPN 3) TPN_60.looks (annTPN 47) 47 [.agg [.str pr, .int .i64 pw, .int .i64 ph, .row 0 n]] [⟨.ints .i64 a, 83, .rows 3⟩] (K) := by kernel_rfl
theorem ok_impl_candidatesOf : OK Tryd.prog 47 F_impl_candidatesOf.spec := (vbody_ok (vin_ok TPN_60_ok annTPN 3) TPN_60_ok.looks _ _).ofG fun args m p R M h hp => by
 unfold F_impl_candidatesOf at h
 split at h
 ·injection h with h; injection h with h1 h2; injection h2 with h2 h3; subst h1; subst h2; subst h3
  exact (congrArg At (eq_impl_candidatesOf _ _ _ _ _ _)).mp ⟨vc_impl_candidatesOf _ _ _ _ _ hp⟩
 ·cases h
def TPN_61 : Tab := TPN_60.addG 47 F_impl_candidatesOf
theorem TPN_61_ok : TPN_61.Ok Tryd.prog := TPN_60_ok.addG ok_impl_candidatesOf
theorem eq_impl_fitAll (s : Int) (n : Nat) (l : List Sc) (K : V -> List Blk -> Prop) : VC_impl_fitAll s n l K = vbody Tryd.prog (vin Tryd.prog TPN_61 annTPN 3) TPN_61.looks (annTPN 48) 48 [.row 0 n, .int .u64 s] [⟨.recs [.str, .int .u64] (l), 102, .rows 2⟩] (K) := by kernel_rfl
theorem ok_impl_fitAll : OK Tryd.prog 48 F_impl_fitAll.spec := (vbody_ok (vin_ok TPN_61_ok annTPN 3) TPN_61_ok.looks _ _).ofG fun args m p R M h hp => by
 unfold F_impl_fitAll at h
 split at h
 ·injection h with h; injection h with h1 h2; injection h2 with h2 h3; subst h1; subst h2; subst h3
  exact (congrArg At (eq_impl_fitAll _ _ _ _)).mp ⟨vc_impl_fitAll _ _ _ hp⟩
 ·cases h
def TPN_62 : Tab := TPN_61.addG 48 F_impl_fitAll
theorem TPN_62_ok : TPN_62.Ok Tryd.prog := TPN_61_ok.addG ok_impl_fitAll
theorem eq_impl_countFit (s : Int) (n : Nat) (l : List Sc) (K : V -> List Blk -> Prop) : VC_impl_countFit s n l K = vbody Tryd.prog (vin Tryd.prog TPN_62 annTPN 3) TPN_62.looks (annTPN 55) 55 [.row 0 n, .int .u64 s] [⟨.recs [.str, .int .u64] (l), 102, .rows 2⟩] (K) := by kernel_rfl
theorem ok_impl_countFit : OK Tryd.prog 55 F_impl_countFit.spec := (vbody_ok (vin_ok TPN_62_ok annTPN 3) TPN_62_ok.looks _ _).ofFM fun args m p R h hp => by
 unfold F_impl_countFit at h
 split at h
 ·injection h with h; injection h with h1 h2; subst h1; subst h2
  exact (congrArg At (eq_impl_countFit _ _ _ _)).mp ⟨vc_impl_countFit _ _ _ hp⟩
 ·cases h
def TPN_63 : Tab := TPN_62.add 55 F_impl_countFit
theorem TPN_63_ok : TPN_63.Ok Tryd.prog := TPN_62_ok.add ok_impl_countFit
theorem eq_impl_Solutions  (pr : List UInt8) (pw : Int) (ph : Int) (n : Nat) (a : List Int) (K : V -> List Blk -> Prop) : VC_impl_Solutions  pr pw ph n a K = vbody Tryd.prog (vin Tryd.prog TPN_63 annTPN 3) TPN_63.looks (annTPN 15) 15 [.agg [.str pr, .int .i64 pw, .int .i64 ph, .row 0 n]] [⟨.ints .i64 a, 83, .rows 3⟩] (K) := by kernel_rfl
theorem ok_impl_Solutions : OK Tryd.prog 15 F_impl_Solutions.spec := (vbody_ok (vin_ok TPN_63_ok annTPN 3) TPN_63_ok.looks _ _).ofG fun args m p R M h hp => by
 unfold F_impl_Solutions at h
 split at h
 ·injection h with h; injection h with h1 h2; injection h2 with h2 h3; subst h1; subst h2; subst h3
  exact (congrArg At (eq_impl_Solutions _ _ _ _ _ _)).mp ⟨vc_impl_Solutions _ _ _ _ _ hp⟩
 ·cases h
def TPN_64 : Tab := TPN_63.addG 15 F_impl_Solutions
theorem TPN_64_ok : TPN_64.Ok Tryd.prog := TPN_63_ok.addG ok_impl_Solutions
theorem eq_spec_pzLook (b : List UInt8) (pr : List UInt8) (pw : Int) (ph : Int) (n : Nat) (a : List Int) (m : Nat) (l : List (List UInt8)) (mm : Nat) (K : V -> List Blk -> Prop) : VC_spec_pzLook b pr pw ph n a m l mm K = vbody Tryd.prog (vin Tryd.prog (TPN_64.addG 80 (F_spec_pzLook mm)) annTPN 3) (TPN_64.addG 80 (F_spec_pzLook mm)).looks (annTPN 80) 80 [.agg [.str pr, .int .i64 pw, .int .i64 ph, .row 0 n], .str b, .ptr 1 0] [⟨.ints .i64 a, 83, .rows 3⟩, ⟨.vals [.row 2 m], 26, .box⟩, ⟨.strs (l), 9, .row⟩] (K) := by kernel_rfl
theorem eq_spec_pzLook_2 (b : List UInt8) (pr : List UInt8) (pw : Int) (ph : Int) (n : Nat) (a : List Int) (mm : Nat) (K : V -> List Blk -> Prop) : VC_spec_pzLook_2 b pr pw ph n a mm K = vbody Tryd.prog (vin Tryd.prog (TPN_64.addG 80 (F_spec_pzLook mm)) annTPN 3) (TPN_64.addG 80 (F_spec_pzLook mm)).looks (annTPN 80) 80 [.agg [.str pr, .int .i64 pw, .int .i64 ph, .row 0 n], .str b, .ptr 1 0] [⟨.ints .i64 a, 83, .rows 3⟩, ⟨.vals [.raw (.slice none 0 0)], 26, .box⟩] (K) := by kernel_rfl
theorem eq_spec_pzLook_3 (b : List UInt8) (pr : List UInt8) (pw : Int) (ph : Int) (n : Nat) (a : List Int) (m : Nat) (l : List (List UInt8)) (mm : Nat) (K : V -> List Blk -> Prop) : VC_spec_pzLook_3 b pr pw ph n a m l mm K = vbody Tryd.prog (vin Tryd.prog (TPN_64.addG 80 (F_spec_pzLook mm)) annTPN 3) (TPN_64.addG 80 (F_spec_pzLook mm)).looks (annTPN 80) 80 [.agg [.str pr, .int .i64 pw, .int .i64 ph, .row 0 n], .str b, .ptr 1 0] [⟨.ints .i64 a, 83, .arg 3⟩, ⟨.vals [.row 2 m], 26, .box⟩, ⟨.strs (l), 9, .row⟩] (K) := by kernel_rfl
theorem eq_spec_pzLook_4 (b : List UInt8) (pr : List UInt8) (pw : Int) (ph : Int) (n : Nat) (a : List Int) (mm : Nat) (K : V -> List Blk -> Prop) : VC_spec_pzLook_4 b pr pw ph n a mm K = vbody Tryd.prog (vin Tryd.prog (TPN_64.addG 80 (F_spec_pzLook mm)) annTPN 3) (TPN_64.addG 80 (F_spec_pzLook mm)).looks (annTPN 80) 80 [.agg [.str pr, .int .i64 pw, .int .i64 ph, .row 0 n], .str b, .ptr 1 0] [⟨.ints .i64 a, 83, .arg 3⟩, ⟨.vals [.raw (.slice none 0 0)], 26, .box⟩] (K) := by kernel_rfl
theorem ok_spec_pzLook : ∀ mm : Nat, OK Tryd.prog 80 (F_spec_pzLook mm).spec
 | 0 => (vbody_ok (vin_ok TPN_64_ok annTPN 3) TPN_64_ok.looks (annTPN 80) _).ofG fun args m p R M h hp => by
  unfold F_spec_pzLook at h
  split at h
  ·injection h with h; injection h with h1 h2; injection h2 with h2 h3; subst h1; subst h2; subst h3
   exact absurd hp.1 (Nat.not_lt_zero _)
  ·injection h with h; injection h with h1 h2; injection h2 with h2 h3; subst h1; subst h2; subst h3
   exact absurd hp.1 (Nat.not_lt_zero _)
  ·injection h with h; injection h with h1 h2; injection h2 with h2 h3; subst h1; subst h2; subst h3
   exact absurd hp.1 (Nat.not_lt_zero _)
  ·injection h with h; injection h with h1 h2; injection h2 with h2 h3; subst h1; subst h2; subst h3
   exact absurd hp.1 (Nat.not_lt_zero _)
  ·cases h
 | mm + 1 => (vbody_ok (vin_ok (TPN_64_ok.addG (ok_spec_pzLook mm)) annTPN 3) (TPN_64_ok.addG (ok_spec_pzLook mm)).looks _ _).ofG fun args m p R M h hp => by
  unfold F_spec_pzLook at h
  split at h
  ·injection h with h; injection h with h1 h2; injection h2 with h2 h3; subst h1; subst h2; subst h3
   exact (congrArg At (eq_spec_pzLook _ _ _ _ _ _ _ _ mm _)).mp ⟨vc_spec_pzLook _ _ _ _ _ _ _ _ mm hp⟩
  ·injection h with h; injection h with h1 h2; injection h2 with h2 h3; subst h1; subst h2; subst h3
   exact (congrArg At (eq_spec_pzLook_2 _ _ _ _ _ _ mm _)).mp ⟨vc_spec_pzLook_2 _ _ _ _ _ _ mm hp⟩
  ·injection h with h; injection h with h1 h2; injection h2 with h2 h3; subst h1; subst h2; subst h3
   exact (congrArg At (eq_spec_pzLook_3 _ _ _ _ _ _ _ _ mm _)).mp ⟨vc_spec_pzLook_3 _ _ _ _ _ _ _ _ mm hp⟩
  ·injection h with h; injection h with h1 h2; injection h2 with h2 h3; subst h1; subst h2; subst h3
   exact (congrArg At (eq_spec_pzLook_4 _ _ _ _ _ _ mm _)).mp ⟨vc_spec_pzLook_4 _ _ _ _ _ _ mm hp⟩
  ·cases h
def TPN_65 : Tab := TPN_64.addG 80 (F_spec_pzLook 11)
theorem TPN_65_ok : TPN_65.Ok Tryd.prog := TPN_64_ok.addG (ok_spec_pzLook 11)
theorem eq_spec_pzAll  (pr : List UInt8) (pw : Int) (ph : Int) (n : Nat) (a : List Int) (K : V -> List Blk -> Prop) : VC_spec_pzAll  pr pw ph n a K = vbody Tryd.prog (vin Tryd.prog TPN_65 annTPN 3) TPN_65.looks (annTPN 45) 45 [.agg [.str pr, .int .i64 pw, .int .i64 ph, .row 0 n]] [⟨.ints .i64 a, 83, .rows 3⟩] (K) := by kernel_rfl
theorem eq_spec_pzAll_2  (pr : List UInt8) (pw : Int) (ph : Int) (n : Nat) (a : List Int) (K : V -> List Blk -> Prop) : VC_spec_pzAll_2  pr pw ph n a K = vbody Tryd.prog (vin Tryd.prog TPN_65 annTPN 3) TPN_65.looks (annTPN 45) 45 [.agg [.str pr, .int .i64 pw, .int .i64 ph, .row 0 n]] [⟨.ints .i64 a, 83, .arg 3⟩] (K) := by kernel_rfl
theorem ok_spec_pzAll : OK Tryd.prog 45 F_spec_pzAll.spec := (vbody_ok (vin_ok TPN_65_ok annTPN 3) TPN_65_ok.looks _ _).ofG fun args m p R M h hp => by
 unfold F_spec_pzAll at h
 split at h
 ·injection h with h; injection h with h1 h2; injection h2 with h2 h3; subst h1; subst h2; subst h3
  exact (congrArg At (eq_spec_pzAll _ _ _ _ _ _)).mp ⟨vc_spec_pzAll _ _ _ _ _ hp⟩
 ·injection h with h; injection h with h1 h2; injection h2 with h2 h3; subst h1; subst h2; subst h3
  exact (congrArg At (eq_spec_pzAll_2 _ _ _ _ _ _)).mp ⟨vc_spec_pzAll_2 _ _ _ _ _ hp⟩
 ·cases h
def TPN_66 : Tab := TPN_65.addG 45 F_spec_pzAll
theorem TPN_66_ok : TPN_66.Ok Tryd.prog := TPN_65_ok.addG ok_spec_pzAll
theorem eq_laws_eqIntS  (n : Nat) (m : Nat) (a : List Int) (b : List Int) (e : TypeId) (k : Kind) (f : TypeId) (q : Kind) (K : V -> List Blk -> Prop) : VC_laws_eqIntS  n m a b e k f q K = vbody Tryd.prog (vin Tryd.prog TPN_66 annTPN 3) TPN_66.looks (annTPN 25) 25 [.row 0 n, .row 1 m] [⟨.ints .i64 a, e, k⟩, ⟨.ints .i64 b, f, q⟩] (K) := by kernel_rfl
theorem ok_laws_eqIntS : OK Tryd.prog 25 F_laws_eqIntS.spec := (vbody_ok (vin_ok TPN_66_ok annTPN 3) TPN_66_ok.looks _ _).ofFM fun args m p R h hp => by
 unfold F_laws_eqIntS at h
 split at h
 ·injection h with h; injection h with h1 h2; subst h1; subst h2
  exact (congrArg At (eq_laws_eqIntS _ _ _ _ _ _ _ _ _)).mp ⟨vc_laws_eqIntS _ _ _ _ _ _ _ _ hp⟩
 ·cases h
def TPN_67 : Tab := TPN_66.add 25 F_laws_eqIntS
theorem TPN_67_ok : TPN_67.Ok Tryd.prog := TPN_66_ok.add ok_laws_eqIntS
theorem eq_laws_markIntS (k : Int) (n : Nat) (a : List Int) (K : V -> List Blk -> Prop) : VC_laws_markIntS k n a K = vbody Tryd.prog (vin Tryd.prog TPN_67 annTPN 3) TPN_67.looks (annTPN 26) 26 [.row 0 n, .int .i64 k] [⟨.ints .i64 (a), 3, .row⟩] (K) := by kernel_rfl
theorem ok_laws_markIntS : OK Tryd.prog 26 F_laws_markIntS.spec := (vbody_ok (vin_ok TPN_67_ok annTPN 3) TPN_67_ok.looks _ _).ofG fun args m p R M h hp => by
 unfold F_laws_markIntS at h
 split at h
 ·injection h with h; injection h with h1 h2; injection h2 with h2 h3; subst h1; subst h2; subst h3
  exact (congrArg At (eq_laws_markIntS _ _ _ _)).mp ⟨vc_laws_markIntS _ _ _ hp⟩
 ·cases h
def TPN_68 : Tab := TPN_67.addG 26 F_laws_markIntS
theorem TPN_68_ok : TPN_68.Ok Tryd.prog := TPN_67_ok.addG ok_laws_markIntS
theorem eq_laws_heldIntS (q : Int) (n : Nat) (a : List Int) (e : TypeId) (k : Kind) (K : V -> List Blk -> Prop) : VC_laws_heldIntS q n a e k K = vbody Tryd.prog (vin Tryd.prog TPN_68 annTPN 3) TPN_68.looks (annTPN 27) 27 [.row 0 n, .int .i64 q] [⟨.ints .i64 a, e, k⟩] (K) := by kernel_rfl
theorem ok_laws_heldIntS : OK Tryd.prog 27 F_laws_heldIntS.spec := (vbody_ok (vin_ok TPN_68_ok annTPN 3) TPN_68_ok.looks _ _).ofFM fun args m p R h hp => by
 unfold F_laws_heldIntS at h
 split at h
 ·injection h with h; injection h with h1 h2; subst h1; subst h2
  exact (congrArg At (eq_laws_heldIntS _ _ _ _ _ _)).mp ⟨vc_laws_heldIntS _ _ _ _ _ hp⟩
 ·cases h
def TPN_69 : Tab := TPN_68.add 27 F_laws_heldIntS
theorem TPN_69_ok : TPN_69.Ok Tryd.prog := TPN_68_ok.add ok_laws_heldIntS
theorem eq_laws_eqStringS  (n : Nat) (m : Nat) (a : List (List UInt8)) (b : List (List UInt8)) (e : TypeId) (k : Kind) (f : TypeId) (q : Kind) (K : V -> List Blk -> Prop) : VC_laws_eqStringS  n m a b e k f q K = vbody Tryd.prog (vin Tryd.prog TPN_69 annTPN 3) TPN_69.looks (annTPN 16) 16 [.row 0 n, .row 1 m] [⟨.strs (a), e, k⟩, ⟨.strs (b), f, q⟩] (K) := by kernel_rfl
theorem ok_laws_eqStringS : OK Tryd.prog 16 F_laws_eqStringS.spec := (vbody_ok (vin_ok TPN_69_ok annTPN 3) TPN_69_ok.looks _ _).ofFM fun args m p R h hp => by
 unfold F_laws_eqStringS at h
 split at h
 ·injection h with h; injection h with h1 h2; subst h1; subst h2
  exact (congrArg At (eq_laws_eqStringS _ _ _ _ _ _ _ _ _)).mp ⟨vc_laws_eqStringS _ _ _ _ _ _ _ _ hp⟩
 ·cases h
def TPN_70 : Tab := TPN_69.add 16 F_laws_eqStringS
theorem TPN_70_ok : TPN_70.Ok Tryd.prog := TPN_69_ok.add ok_laws_eqStringS
theorem eq_laws_markText (k : Int) (K : V -> Prop) : VC_laws_markText k K = vbody Tryd.prog (vin Tryd.prog TPN_70 annTPN 3) TPN_70.looks (annTPN 52) 52 [.int .i64 k] [] (fun v _ => K v) := by kernel_rfl
theorem ok_laws_markText : OK Tryd.prog 52 F_laws_markText.spec := (vbody_ok (vin_ok TPN_70_ok annTPN 3) TPN_70_ok.looks _ _).ofF fun args m p R h hp => by
 unfold F_laws_markText at h
 split at h
 ·injection h with h; injection h with h1 h2; subst h1; subst h2
  exact ⟨rfl, (congrArg At (eq_laws_markText _ _)).mp ⟨vc_laws_markText _ hp⟩⟩
 ·cases h
def TPN_71 : Tab := TPN_70.add 52 F_laws_markText
theorem TPN_71_ok : TPN_71.Ok Tryd.prog := TPN_70_ok.add ok_laws_markText
theorem eq_laws_markStringS (k : Int) (n : Nat) (a : List (List UInt8)) (K : V -> List Blk -> Prop) : VC_laws_markStringS k n a K = vbody Tryd.prog (vin Tryd.prog TPN_71 annTPN 3) TPN_71.looks (annTPN 19) 19 [.row 0 n, .int .i64 k] [⟨.strs (a), 9, .row⟩] (K) := by kernel_rfl
theorem ok_laws_markStringS : OK Tryd.prog 19 F_laws_markStringS.spec := (vbody_ok (vin_ok TPN_71_ok annTPN 3) TPN_71_ok.looks _ _).ofG fun args m p R M h hp => by
 unfold F_laws_markStringS at h
 split at h
 ·injection h with h; injection h with h1 h2; injection h2 with h2 h3; subst h1; subst h2; subst h3
  exact (congrArg At (eq_laws_markStringS _ _ _ _)).mp ⟨vc_laws_markStringS _ _ _ hp⟩
 ·cases h
def TPN_72 : Tab := TPN_71.addG 19 F_laws_markStringS
theorem TPN_72_ok : TPN_72.Ok Tryd.prog := TPN_71_ok.addG ok_laws_markStringS
theorem eq_laws_heldStringS (q : Int) (n : Nat) (a : List (List UInt8)) (K : V -> List Blk -> Prop) : VC_laws_heldStringS q n a K = vbody Tryd.prog (vin Tryd.prog TPN_72 annTPN 3) TPN_72.looks (annTPN 20) 20 [.row 0 n, .int .i64 q] [⟨.strs (a), 9, .row⟩] (K) := by kernel_rfl
theorem ok_laws_heldStringS : OK Tryd.prog 20 F_laws_heldStringS.spec := (vbody_ok (vin_ok TPN_72_ok annTPN 3) TPN_72_ok.looks _ _).ofFM fun args m p R h hp => by
 unfold F_laws_heldStringS at h
 split at h
 ·injection h with h; injection h with h1 h2; subst h1; subst h2
  exact (congrArg At (eq_laws_heldStringS _ _ _ _)).mp ⟨vc_laws_heldStringS _ _ _ hp⟩
 ·cases h
def TPN_73 : Tab := TPN_72.add 20 F_laws_heldStringS
theorem TPN_73_ok : TPN_73.Ok Tryd.prog := TPN_72_ok.add ok_laws_heldStringS
theorem eq_spec_Solutions  (pr : List UInt8) (pw : Int) (ph : Int) (n : Nat) (a : List Int) (K : V -> List Blk -> Prop) : VC_spec_Solutions  pr pw ph n a K = vbody Tryd.prog (vin Tryd.prog TPN_73 annTPN 3) TPN_73.looks (annTPN 13) 13 [.agg [.str pr, .int .i64 pw, .int .i64 ph, .row 0 n]] [⟨.ints .i64 a, 83, .rows 3⟩] (K) := by kernel_rfl
theorem ok_spec_Solutions : OK Tryd.prog 13 F_spec_Solutions.spec := (vbody_ok (vin_ok TPN_73_ok annTPN 3) TPN_73_ok.looks _ _).ofG fun args m p R M h hp => by
 unfold F_spec_Solutions at h
 split at h
 ·injection h with h; injection h with h1 h2; injection h2 with h2 h3; subst h1; subst h2; subst h3
  exact (congrArg At (eq_spec_Solutions _ _ _ _ _ _)).mp ⟨vc_spec_Solutions _ _ _ _ _ hp⟩
 ·cases h
def TPN_74 : Tab := TPN_73.addG 13 F_spec_Solutions
theorem TPN_74_ok : TPN_74.Ok Tryd.prog := TPN_73_ok.addG ok_spec_Solutions
theorem eq_spec_NeedlessClues  (pr : List UInt8) (pw : Int) (ph : Int) (n : Nat) (a : List Int) (K : V -> List Blk -> Prop) : VC_spec_NeedlessClues  pr pw ph n a K = vbody Tryd.prog (vin Tryd.prog TPN_74 annTPN 3) TPN_74.looks (annTPN 23) 23 [.agg [.str pr, .int .i64 pw, .int .i64 ph, .row 0 n]] [⟨.ints .i64 a, 83, .rows 3⟩] (K) := by kernel_rfl
theorem ok_spec_NeedlessClues : OK Tryd.prog 23 F_spec_NeedlessClues.spec := (vbody_ok (vin_ok TPN_74_ok annTPN 3) TPN_74_ok.looks _ _).ofG fun args m p R M h hp => by
 unfold F_spec_NeedlessClues at h
 split at h
 ·injection h with h; injection h with h1 h2; injection h2 with h2 h3; subst h1; subst h2; subst h3
  exact (congrArg At (eq_spec_NeedlessClues _ _ _ _ _ _)).mp ⟨vc_spec_NeedlessClues _ _ _ _ _ hp⟩
 ·cases h
def TPN_75 : Tab := TPN_74.addG 23 F_spec_NeedlessClues
theorem TPN_75_ok : TPN_75.Ok Tryd.prog := TPN_74_ok.addG ok_spec_NeedlessClues
theorem eq_impl_NeedlessClues  (pr : List UInt8) (pw : Int) (ph : Int) (n : Nat) (a : List Int) (K : V -> List Blk -> Prop) : VC_impl_NeedlessClues  pr pw ph n a K = vbody Tryd.prog (vin Tryd.prog TPN_75 annTPN 3) TPN_75.looks (annTPN 24) 24 [.agg [.str pr, .int .i64 pw, .int .i64 ph, .row 0 n]] [⟨.ints .i64 a, 83, .rows 3⟩] (K) := by kernel_rfl
theorem ok_impl_NeedlessClues : OK Tryd.prog 24 F_impl_NeedlessClues.spec := (vbody_ok (vin_ok TPN_75_ok annTPN 3) TPN_75_ok.looks _ _).ofG fun args m p R M h hp => by
 unfold F_impl_NeedlessClues at h
 split at h
 ·injection h with h; injection h with h1 h2; injection h2 with h2 h3; subst h1; subst h2; subst h3
  exact (congrArg At (eq_impl_NeedlessClues _ _ _ _ _ _)).mp ⟨vc_impl_NeedlessClues _ _ _ _ _ hp⟩
 ·cases h
def TPN_76 : Tab := TPN_75.addG 24 F_impl_NeedlessClues
theorem TPN_76_ok : TPN_76.Ok Tryd.prog := TPN_75_ok.addG ok_impl_NeedlessClues
theorem eq_spec_LeftByClues  (pr : List UInt8) (pw : Int) (ph : Int) (n : Nat) (a : List Int) (K : V -> List Blk -> Prop) : VC_spec_LeftByClues  pr pw ph n a K = vbody Tryd.prog (vin Tryd.prog TPN_76 annTPN 3) TPN_76.looks (annTPN 28) 28 [.agg [.str pr, .int .i64 pw, .int .i64 ph, .row 0 n]] [⟨.ints .i64 a, 83, .rows 3⟩] (K) := by kernel_rfl
theorem ok_spec_LeftByClues : OK Tryd.prog 28 F_spec_LeftByClues.spec := (vbody_ok (vin_ok TPN_76_ok annTPN 3) TPN_76_ok.looks _ _).ofG fun args m p R M h hp => by
 unfold F_spec_LeftByClues at h
 split at h
 ·injection h with h; injection h with h1 h2; injection h2 with h2 h3; subst h1; subst h2; subst h3
  exact (congrArg At (eq_spec_LeftByClues _ _ _ _ _ _)).mp ⟨vc_spec_LeftByClues _ _ _ _ _ hp⟩
 ·cases h
def TPN_77 : Tab := TPN_76.addG 28 F_spec_LeftByClues
theorem TPN_77_ok : TPN_77.Ok Tryd.prog := TPN_76_ok.addG ok_spec_LeftByClues
theorem eq_impl_LeftByClues  (pr : List UInt8) (pw : Int) (ph : Int) (n : Nat) (a : List Int) (K : V -> List Blk -> Prop) : VC_impl_LeftByClues  pr pw ph n a K = vbody Tryd.prog (vin Tryd.prog TPN_77 annTPN 3) TPN_77.looks (annTPN 29) 29 [.agg [.str pr, .int .i64 pw, .int .i64 ph, .row 0 n]] [⟨.ints .i64 a, 83, .rows 3⟩] (K) := by kernel_rfl
theorem ok_impl_LeftByClues : OK Tryd.prog 29 F_impl_LeftByClues.spec := (vbody_ok (vin_ok TPN_77_ok annTPN 3) TPN_77_ok.looks _ _).ofG fun args m p R M h hp => by
 unfold F_impl_LeftByClues at h
 split at h
 ·injection h with h; injection h with h1 h2; injection h2 with h2 h3; subst h1; subst h2; subst h3
  exact (congrArg At (eq_impl_LeftByClues _ _ _ _ _ _)).mp ⟨vc_impl_LeftByClues _ _ _ _ _ hp⟩
 ·cases h
def TPN_78 : Tab := TPN_77.addG 29 F_impl_LeftByClues
theorem TPN_78_ok : TPN_78.Ok Tryd.prog := TPN_77_ok.addG ok_impl_LeftByClues
theorem eq_spec_BestClue  (pr : List UInt8) (pw : Int) (ph : Int) (n : Nat) (a : List Int) (K : V -> List Blk -> Prop) : VC_spec_BestClue  pr pw ph n a K = vbody Tryd.prog (vin Tryd.prog TPN_78 annTPN 3) TPN_78.looks (annTPN 30) 30 [.agg [.str pr, .int .i64 pw, .int .i64 ph, .row 0 n]] [⟨.ints .i64 a, 83, .rows 3⟩] (K) := by kernel_rfl
theorem ok_spec_BestClue : OK Tryd.prog 30 F_spec_BestClue.spec := (vbody_ok (vin_ok TPN_78_ok annTPN 3) TPN_78_ok.looks _ _).ofFM fun args m p R h hp => by
 unfold F_spec_BestClue at h
 split at h
 ·injection h with h; injection h with h1 h2; subst h1; subst h2
  exact (congrArg At (eq_spec_BestClue _ _ _ _ _ _)).mp ⟨vc_spec_BestClue _ _ _ _ _ hp⟩
 ·cases h
def TPN_79 : Tab := TPN_78.add 30 F_spec_BestClue
theorem TPN_79_ok : TPN_79.Ok Tryd.prog := TPN_78_ok.add ok_spec_BestClue
theorem eq_impl_BestClue  (pr : List UInt8) (pw : Int) (ph : Int) (n : Nat) (a : List Int) (K : V -> List Blk -> Prop) : VC_impl_BestClue  pr pw ph n a K = vbody Tryd.prog (vin Tryd.prog TPN_79 annTPN 3) TPN_79.looks (annTPN 31) 31 [.agg [.str pr, .int .i64 pw, .int .i64 ph, .row 0 n]] [⟨.ints .i64 a, 83, .rows 3⟩] (K) := by kernel_rfl
theorem ok_impl_BestClue : OK Tryd.prog 31 F_impl_BestClue.spec := (vbody_ok (vin_ok TPN_79_ok annTPN 3) TPN_79_ok.looks _ _).ofFM fun args m p R h hp => by
 unfold F_impl_BestClue at h
 split at h
 ·injection h with h; injection h with h1 h2; subst h1; subst h2
  exact (congrArg At (eq_impl_BestClue _ _ _ _ _ _)).mp ⟨vc_impl_BestClue _ _ _ _ _ hp⟩
 ·cases h
def TPN_80 : Tab := TPN_79.add 31 F_impl_BestClue
theorem TPN_80_ok : TPN_80.Ok Tryd.prog := TPN_79_ok.add ok_impl_BestClue
def TPN : Tab := TPN_80
theorem TPN_ok : TPN.Ok Tryd.prog := TPN_80_ok
end Go.Proofs.YtickpjdnncpnmaaDoor
