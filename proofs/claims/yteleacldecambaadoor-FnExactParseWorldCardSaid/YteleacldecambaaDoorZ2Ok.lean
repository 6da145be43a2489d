/- The contracts of this chapter. -/
import Derived.Test.YteleacldecambaaDoorZ2Lib
import Derived.Test.YteleacldecambaaDoorProg
import Derived.Test.YteleacldecambaaDoorZ2Pf
import Derived.KernelRfl
namespace Go.Proofs.YteleacldecambaaDoor
open Go Go.Vi
set_option linter.unusedVariables false
def annTZ2 : FuncId → Nat → St → Option Ann := fun f => if f = 37 then ann_spec_woParse else if f = 48 then ann_spec_l1Split else if f = 49 then ann_spec_l1Read else if f = 67 then ann_spec_woRule else if f = 71 then ann_impl_IsRule else if f = 53 then ann_spec_woGood else if f = 72 then ann_impl_areColours else if f = 19 then ann_impl_ParseWorld else (fun _ _ => none)
def TZ2_0 : Tab := Tab.none
theorem TZ2_0_ok : TZ2_0.Ok Tryd.prog := Tab.none_ok
theorem eq_spec_l1In (n : Int) (lo : Int) (hi : Int) (K : V → Prop) : VC_spec_l1In n lo hi K = vbody Tryd.prog (vin Tryd.prog TZ2_0 annTZ2 3) TZ2_0.looks (annTZ2 40) 40 [.int .i64 n, .int .i64 lo, .int .i64 hi] [] (fun v _ => K v) := by kernel_rfl
theorem ok_spec_l1In : OK Tryd.prog 40 F_spec_l1In.spec := (vbody_ok (vin_ok TZ2_0_ok annTZ2 3) TZ2_0_ok.looks _ _).ofF fun args m p R h hp => by
  unfold F_spec_l1In at h
  split at h
  · injection h with h; injection h with h1 h2; subst h1; subst h2
    exact ⟨rfl, (congrArg At (eq_spec_l1In _ _ _ _)).mp ⟨vc_spec_l1In _ _ _ hp⟩⟩
  · cases h
def TZ2_1 : Tab := TZ2_0.add 40 F_spec_l1In
theorem TZ2_1_ok : TZ2_1.Ok Tryd.prog := TZ2_0_ok.add ok_spec_l1In
theorem eq_impl_within (n : Int) (lo : Int) (hi : Int) (K : V → Prop) : VC_impl_within n lo hi K = vbody Tryd.prog (vin Tryd.prog TZ2_1 annTZ2 3) TZ2_1.looks (annTZ2 56) 56 [.int .i64 n, .int .i64 lo, .int .i64 hi] [] (fun v _ => K v) := by kernel_rfl
theorem ok_impl_within : OK Tryd.prog 56 F_impl_within.spec := (vbody_ok (vin_ok TZ2_1_ok annTZ2 3) TZ2_1_ok.looks _ _).ofF fun args m p R h hp => by
  unfold F_impl_within at h
  split at h
  · injection h with h; injection h with h1 h2; subst h1; subst h2
    exact ⟨rfl, (congrArg At (eq_impl_within _ _ _ _)).mp ⟨vc_impl_within _ _ _ hp⟩⟩
  · cases h
def TZ2_2 : Tab := TZ2_1.add 56 F_impl_within
theorem TZ2_2_ok : TZ2_2.Ok Tryd.prog := TZ2_1_ok.add ok_impl_within
theorem eq_impl_digit (b : Int) (K : V → Prop) : VC_impl_digit b K = vbody Tryd.prog (vin Tryd.prog TZ2_2 annTZ2 3) TZ2_2.looks (annTZ2 35) 35 [.int .u8 b] [] (fun v _ => K v) := by kernel_rfl
theorem ok_impl_digit : OK Tryd.prog 35 F_impl_digit.spec := (vbody_ok (vin_ok TZ2_2_ok annTZ2 3) TZ2_2_ok.looks _ _).ofF fun args m p R h hp => by
  unfold F_impl_digit at h
  split at h
  · injection h with h; injection h with h1 h2; subst h1; subst h2
    exact ⟨rfl, (congrArg At (eq_impl_digit _ _)).mp ⟨vc_impl_digit _ hp⟩⟩
  · cases h
def TZ2_3 : Tab := TZ2_2.add 35 F_impl_digit
theorem TZ2_3_ok : TZ2_3.Ok Tryd.prog := TZ2_2_ok.add ok_impl_digit
theorem eq_spec_l1Num (n : Int) (K : V → Prop) : VC_spec_l1Num n K = vbody Tryd.prog (vin Tryd.prog TZ2_3 annTZ2 0) TZ2_3.looks (annTZ2 64) 64 [.int .i64 n] [] (fun v _ => K v) := by kernel_rfl
theorem ok_spec_l1Num : OK Tryd.prog 64 F_spec_l1Num.spec := (vbody_ok (vin_ok TZ2_3_ok annTZ2 0) TZ2_3_ok.looks _ _).ofF fun args m p R h hp => by
  unfold F_spec_l1Num at h
  split at h
  · injection h with h; injection h with h1 h2; subst h1; subst h2
    exact ⟨rfl, (congrArg At (eq_spec_l1Num _ _)).mp ⟨vc_spec_l1Num _ hp⟩⟩
  · cases h
def TZ2_4 : Tab := TZ2_3.add 64 F_spec_l1Num
theorem TZ2_4_ok : TZ2_4.Ok Tryd.prog := TZ2_3_ok.add ok_spec_l1Num
theorem eq_strconv_FormatInt (n : Int) (b : Int) (K : V → Prop) : VC_strconv_FormatInt n b K = vbody Tryd.prog (vin Tryd.prog TZ2_4 annTZ2 3) TZ2_4.looks (annTZ2 78) 78 [.int .i64 n, .int .i64 b] [] (fun v _ => K v) := by kernel_rfl
theorem ok_strconv_FormatInt : OK Tryd.prog 78 F_strconv_FormatInt.spec := (vbody_ok (vin_ok TZ2_4_ok annTZ2 3) TZ2_4_ok.looks _ _).ofF fun args m p R h hp => by
  unfold F_strconv_FormatInt at h
  split at h
  · injection h with h; injection h with h1 h2; subst h1; subst h2
    exact ⟨rfl, (congrArg At (eq_strconv_FormatInt _ _ _)).mp ⟨vc_strconv_FormatInt _ _ hp⟩⟩
  · cases h
def TZ2_5 : Tab := TZ2_4.add 78 F_strconv_FormatInt
theorem TZ2_5_ok : TZ2_5.Ok Tryd.prog := TZ2_4_ok.add ok_strconv_FormatInt
theorem eq_strconv_Itoa (n : Int) (K : V → Prop) : VC_strconv_Itoa n K = vbody Tryd.prog (vin Tryd.prog TZ2_5 annTZ2 3) TZ2_5.looks (annTZ2 52) 52 [.int .i64 n] [] (fun v _ => K v) := by kernel_rfl
theorem ok_strconv_Itoa : OK Tryd.prog 52 F_strconv_Itoa.spec := (vbody_ok (vin_ok TZ2_5_ok annTZ2 3) TZ2_5_ok.looks _ _).ofF fun args m p R h hp => by
  unfold F_strconv_Itoa at h
  split at h
  · injection h with h; injection h with h1 h2; subst h1; subst h2
    exact ⟨rfl, (congrArg At (eq_strconv_Itoa _ _)).mp ⟨vc_strconv_Itoa _ hp⟩⟩
  · cases h
def TZ2_6 : Tab := TZ2_5.add 52 F_strconv_Itoa
theorem TZ2_6_ok : TZ2_6.Ok Tryd.prog := TZ2_5_ok.add ok_strconv_Itoa
theorem eq_spec_l1Split (s : List UInt8) (b : Int) (K : V → List Blk → Prop) : VC_spec_l1Split s b K = vbody Tryd.prog (vin Tryd.prog TZ2_6 annTZ2 3) TZ2_6.looks (annTZ2 48) 48 [.str s, .int .u8 b] [] (K) := by kernel_rfl
theorem ok_spec_l1Split : OK Tryd.prog 48 F_spec_l1Split.spec := (vbody_ok (vin_ok TZ2_6_ok annTZ2 3) TZ2_6_ok.looks _ _).ofG fun args m p R M h hp => by
  unfold F_spec_l1Split at h
  split at h
  · injection h with h; injection h with h1 h2; injection h2 with h2 h3; subst h1; subst h2; subst h3
    exact (congrArg At (eq_spec_l1Split _ _ _)).mp ⟨vc_spec_l1Split _ _ hp⟩
  · cases h
def TZ2_7 : Tab := TZ2_6.addG 48 F_spec_l1Split
theorem TZ2_7_ok : TZ2_7.Ok Tryd.prog := TZ2_6_ok.addG ok_spec_l1Split
theorem eq_spec_l1Read (s : List UInt8) (K : V → Prop) : VC_spec_l1Read s K = vbody Tryd.prog (vin Tryd.prog TZ2_7 annTZ2 3) TZ2_7.looks (annTZ2 49) 49 [.str s] [] (fun v _ => K v) := by kernel_rfl
theorem ok_spec_l1Read : OK Tryd.prog 49 F_spec_l1Read.spec := (vbody_ok (vin_ok TZ2_7_ok annTZ2 3) TZ2_7_ok.looks _ _).ofF fun args m p R h hp => by
  unfold F_spec_l1Read at h
  split at h
  · injection h with h; injection h with h1 h2; subst h1; subst h2
    exact ⟨rfl, (congrArg At (eq_spec_l1Read _ _)).mp ⟨vc_spec_l1Read _ hp⟩⟩
  · cases h
def TZ2_8 : Tab := TZ2_7.add 49 F_spec_l1Read
theorem TZ2_8_ok : TZ2_8.Ok Tryd.prog := TZ2_7_ok.add ok_spec_l1Read
theorem eq_spec_woRule (s : List UInt8) (K : V → Prop) : VC_spec_woRule s K = vbody Tryd.prog (vin Tryd.prog TZ2_8 annTZ2 3) TZ2_8.looks (annTZ2 67) 67 [.str s] [] (fun v _ => K v) := by kernel_rfl
theorem ok_spec_woRule : OK Tryd.prog 67 F_spec_woRule.spec := (vbody_ok (vin_ok TZ2_8_ok annTZ2 3) TZ2_8_ok.looks _ _).ofF fun args m p R h hp => by
  unfold F_spec_woRule at h
  split at h
  · injection h with h; injection h with h1 h2; subst h1; subst h2
    exact ⟨rfl, (congrArg At (eq_spec_woRule _ _)).mp ⟨vc_spec_woRule _ hp⟩⟩
  · cases h
def TZ2_9 : Tab := TZ2_8.add 67 F_spec_woRule
theorem TZ2_9_ok : TZ2_9.Ok Tryd.prog := TZ2_8_ok.add ok_spec_woRule
theorem eq_impl_IsRule (s : List UInt8) (K : V → Prop) : VC_impl_IsRule s K = vbody Tryd.prog (vin Tryd.prog TZ2_9 annTZ2 3) TZ2_9.looks (annTZ2 71) 71 [.str s] [] (fun v _ => K v) := by kernel_rfl
theorem ok_impl_IsRule : OK Tryd.prog 71 F_impl_IsRule.spec := (vbody_ok (vin_ok TZ2_9_ok annTZ2 3) TZ2_9_ok.looks _ _).ofF fun args m p R h hp => by
  unfold F_impl_IsRule at h
  split at h
  · injection h with h; injection h with h1 h2; subst h1; subst h2
    exact ⟨rfl, (congrArg At (eq_impl_IsRule _ _)).mp ⟨vc_impl_IsRule _ hp⟩⟩
  · cases h
def TZ2_10 : Tab := TZ2_9.add 71 F_impl_IsRule
theorem TZ2_10_ok : TZ2_10.Ok Tryd.prog := TZ2_9_ok.add ok_impl_IsRule
theorem eq_spec_woGood (wr : List UInt8) (ww : Int) (wh : Int) (wc : List UInt8) (wx : Int) (wy : Int) (wd : Int) (K : V → Prop) : VC_spec_woGood wr ww wh wc wx wy wd K = vbody Tryd.prog (vin Tryd.prog TZ2_10 annTZ2 3) TZ2_10.looks (annTZ2 53) 53 [.agg [.str wr, .int .i64 ww, .int .i64 wh, .str wc, .int .i64 wx, .int .i64 wy, .int .i64 wd]] [] (fun v _ => K v) := by kernel_rfl
theorem ok_spec_woGood : OK Tryd.prog 53 F_spec_woGood.spec := (vbody_ok (vin_ok TZ2_10_ok annTZ2 3) TZ2_10_ok.looks _ _).ofF fun args m p R h hp => by
  unfold F_spec_woGood at h
  split at h
  · injection h with h; injection h with h1 h2; subst h1; subst h2
    exact ⟨rfl, (congrArg At (eq_spec_woGood _ _ _ _ _ _ _ _)).mp ⟨vc_spec_woGood _ _ _ _ _ _ _ hp⟩⟩
  · cases h
def TZ2_11 : Tab := TZ2_10.add 53 F_spec_woGood
theorem TZ2_11_ok : TZ2_11.Ok Tryd.prog := TZ2_10_ok.add ok_spec_woGood
theorem eq_impl_areColours (s : List UInt8) (n : Int) (K : V → Prop) : VC_impl_areColours s n K = vbody Tryd.prog (vin Tryd.prog TZ2_11 annTZ2 3) TZ2_11.looks (annTZ2 72) 72 [.str s, .int .i64 n] [] (fun v _ => K v) := by kernel_rfl
theorem ok_impl_areColours : OK Tryd.prog 72 F_impl_areColours.spec := (vbody_ok (vin_ok TZ2_11_ok annTZ2 3) TZ2_11_ok.looks _ _).ofF fun args m p R h hp => by
  unfold F_impl_areColours at h
  split at h
  · injection h with h; injection h with h1 h2; subst h1; subst h2
    exact ⟨rfl, (congrArg At (eq_impl_areColours _ _ _)).mp ⟨vc_impl_areColours _ _ hp⟩⟩
  · cases h
def TZ2_12 : Tab := TZ2_11.add 72 F_impl_areColours
theorem TZ2_12_ok : TZ2_12.Ok Tryd.prog := TZ2_11_ok.add ok_impl_areColours
theorem eq_impl_IsWorld (wr : List UInt8) (ww : Int) (wh : Int) (wc : List UInt8) (wx : Int) (wy : Int) (wd : Int) (K : V → Prop) : VC_impl_IsWorld wr ww wh wc wx wy wd K = vbody Tryd.prog (vin Tryd.prog TZ2_12 annTZ2 4) TZ2_12.looks (annTZ2 55) 55 [.agg [.str wr, .int .i64 ww, .int .i64 wh, .str wc, .int .i64 wx, .int .i64 wy, .int .i64 wd]] [] (fun v _ => K v) := by kernel_rfl
theorem ok_impl_IsWorld : OK Tryd.prog 55 F_impl_IsWorld.spec := (vbody_ok (vin_ok TZ2_12_ok annTZ2 4) TZ2_12_ok.looks _ _).ofF fun args m p R h hp => by
  unfold F_impl_IsWorld at h
  split at h
  · injection h with h; injection h with h1 h2; subst h1; subst h2
    exact ⟨rfl, (congrArg At (eq_impl_IsWorld _ _ _ _ _ _ _ _)).mp ⟨vc_impl_IsWorld _ _ _ _ _ _ _ hp⟩⟩
  · cases h
def TZ2_13 : Tab := TZ2_12.add 55 F_impl_IsWorld
theorem TZ2_13_ok : TZ2_13.Ok Tryd.prog := TZ2_12_ok.add ok_impl_IsWorld
theorem eq_impl_WorldText (wr : List UInt8) (ww : Int) (wh : Int) (wc : List UInt8) (wx : Int) (wy : Int) (wd : Int) (K : V → Prop) : VC_impl_WorldText wr ww wh wc wx wy wd K = vbody Tryd.prog (vin Tryd.prog TZ2_13 annTZ2 3) TZ2_13.looks (annTZ2 39) 39 [.agg [.str wr, .int .i64 ww, .int .i64 wh, .str wc, .int .i64 wx, .int .i64 wy, .int .i64 wd]] [] (fun v _ => K v) := by kernel_rfl
theorem ok_impl_WorldText : OK Tryd.prog 39 F_impl_WorldText.spec := (vbody_ok (vin_ok TZ2_13_ok annTZ2 3) TZ2_13_ok.looks _ _).ofF fun args m p R h hp => by
  unfold F_impl_WorldText at h
  split at h
  · injection h with h; injection h with h1 h2; subst h1; subst h2
    exact ⟨rfl, (congrArg At (eq_impl_WorldText _ _ _ _ _ _ _ _)).mp ⟨vc_impl_WorldText _ _ _ _ _ _ _ hp⟩⟩
  · cases h
def TZ2_14 : Tab := TZ2_13.add 39 F_impl_WorldText
theorem TZ2_14_ok : TZ2_14.Ok Tryd.prog := TZ2_13_ok.add ok_impl_WorldText
theorem eq_laws_eqWorld (ar : List UInt8) (aw : Int) (ah : Int) (ac : List UInt8) (ax : Int) (ay : Int) (ad : Int) (br : List UInt8) (bw : Int) (bh : Int) (bc : List UInt8) (bx : Int) (by_ : Int) (bd : Int) (K : V → Prop) : VC_laws_eqWorld ar aw ah ac ax ay ad br bw bh bc bx by_ bd K = vbody Tryd.prog (vin Tryd.prog TZ2_14 annTZ2 3) TZ2_14.looks (annTZ2 20) 20 [.agg [.str ar, .int .i64 aw, .int .i64 ah, .str ac, .int .i64 ax, .int .i64 ay, .int .i64 ad], .agg [.str br, .int .i64 bw, .int .i64 bh, .str bc, .int .i64 bx, .int .i64 by_, .int .i64 bd]] [] (fun v _ => K v) := by kernel_rfl
theorem ok_laws_eqWorld : OK Tryd.prog 20 F_laws_eqWorld.spec := (vbody_ok (vin_ok TZ2_14_ok annTZ2 3) TZ2_14_ok.looks _ _).ofF fun args m p R h hp => by
  unfold F_laws_eqWorld at h
  split at h
  · injection h with h; injection h with h1 h2; subst h1; subst h2
    exact ⟨rfl, (congrArg At (eq_laws_eqWorld _ _ _ _ _ _ _ _ _ _ _ _ _ _ _)).mp ⟨vc_laws_eqWorld _ _ _ _ _ _ _ _ _ _ _ _ _ _ hp⟩⟩
  · cases h
def TZ2_15 : Tab := TZ2_14.add 20 F_laws_eqWorld
theorem TZ2_15_ok : TZ2_15.Ok Tryd.prog := TZ2_14_ok.add ok_laws_eqWorld
theorem ok_strings_genSplit : OK Tryd.prog 54 F_strings_genSplit.spec := Go.Proofs.Tryd.libGenSplit
def TZ2_16 : Tab := TZ2_15.addG 54 F_strings_genSplit
theorem TZ2_16_ok : TZ2_16.Ok Tryd.prog := TZ2_15_ok.addG ok_strings_genSplit
theorem eq_spec_ParseWorld (s : List UInt8) (K : V → Prop) : VC_spec_ParseWorld s K = vbody Tryd.prog (vin Tryd.prog TZ2_16 annTZ2 4) TZ2_16.looks (annTZ2 18) 18 [.str s] [] (fun v _ => K v) := by kernel_rfl
theorem ok_spec_ParseWorld : OK Tryd.prog 18 F_spec_ParseWorld.spec := (vbody_ok (vin_ok TZ2_16_ok annTZ2 4) TZ2_16_ok.looks _ _).ofF fun args m p R h hp => by
  unfold F_spec_ParseWorld at h
  split at h
  · injection h with h; injection h with h1 h2; subst h1; subst h2
    exact ⟨rfl, (congrArg At (eq_spec_ParseWorld _ _)).mp ⟨vc_spec_ParseWorld _ hp⟩⟩
  · cases h
def TZ2_17 : Tab := TZ2_16.add 18 F_spec_ParseWorld
theorem TZ2_17_ok : TZ2_17.Ok Tryd.prog := TZ2_16_ok.add ok_spec_ParseWorld
theorem eq_impl_ParseWorld (s : List UInt8) (K : V → Prop) : VC_impl_ParseWorld s K = vbody Tryd.prog (vin Tryd.prog TZ2_17 annTZ2 4) TZ2_17.looks (annTZ2 19) 19 [.str s] [] (fun v _ => K v) := by kernel_rfl
theorem ok_impl_ParseWorld : OK Tryd.prog 19 F_impl_ParseWorld.spec := (vbody_ok (vin_ok TZ2_17_ok annTZ2 4) TZ2_17_ok.looks _ _).ofF fun args m p R h hp => by
  unfold F_impl_ParseWorld at h
  split at h
  · injection h with h; injection h with h1 h2; subst h1; subst h2
    exact ⟨rfl, (congrArg At (eq_impl_ParseWorld _ _)).mp ⟨vc_impl_ParseWorld _ hp⟩⟩
  · cases h
def TZ2_18 : Tab := TZ2_17.add 19 F_impl_ParseWorld
theorem TZ2_18_ok : TZ2_18.Ok Tryd.prog := TZ2_17_ok.add ok_impl_ParseWorld
def TZ2 : Tab := TZ2_18
theorem TZ2_ok : TZ2.Ok Tryd.prog := TZ2_18_ok
end Go.Proofs.YteleacldecambaaDoor
