/- The contracts of this chapter. -/
import Derived.Test.YtccahaefpbkelabDoorProg
import Derived.Test.YtccahaefpbkelabDoorW1Pf
import Derived.KernelRfl
namespace Go.Proofs.YtccahaefpbkelabDoor
open Go Go.Vi
set_option linter.unusedVariables false
def annTW1 : FuncId → Nat → St → Option Ann := fun f => if f = 43 then ann_spec_woRule else if f = 32 then ann_impl_IsRule else if f = 22 then ann_spec_woGood else if f = 34 then ann_impl_areColours else (fun _ _ => none)
def TW1_0 : Tab := Tab.none
theorem TW1_0_ok : TW1_0.Ok Tryd.prog := Tab.none_ok
theorem eq_spec_l1In (n : Int) (lo : Int) (hi : Int) (K : V → Prop) : VC_spec_l1In n lo hi K = vbody Tryd.prog (vin Tryd.prog TW1_0 annTW1 3) TW1_0.looks (annTW1 28) 28 [.int .i64 n, .int .i64 lo, .int .i64 hi] [] fun v _ => K v := by kernel_rfl
theorem ok_spec_l1In : OK Tryd.prog 28 F_spec_l1In.spec := (vbody_ok (vin_ok TW1_0_ok annTW1 3) TW1_0_ok.looks _ _).ofF fun args m p R h hp => by
  unfold F_spec_l1In at h
  split at h
  · injection h with h; injection h with h1 h2; subst h1; subst h2
    exact ⟨rfl, (congrArg At (eq_spec_l1In _ _ _ _)).mp ⟨vc_spec_l1In _ _ _ hp⟩⟩
  · cases h
def TW1_1 : Tab := TW1_0.add 28 F_spec_l1In
theorem TW1_1_ok : TW1_1.Ok Tryd.prog := TW1_0_ok.add ok_spec_l1In
theorem eq_impl_within (n : Int) (lo : Int) (hi : Int) (K : V → Prop) : VC_impl_within n lo hi K = vbody Tryd.prog (vin Tryd.prog TW1_1 annTW1 3) TW1_1.looks (annTW1 37) 37 [.int .i64 n, .int .i64 lo, .int .i64 hi] [] fun v _ => K v := by kernel_rfl
theorem ok_impl_within : OK Tryd.prog 37 F_impl_within.spec := (vbody_ok (vin_ok TW1_1_ok annTW1 3) TW1_1_ok.looks _ _).ofF fun args m p R h hp => by
  unfold F_impl_within at h
  split at h
  · injection h with h; injection h with h1 h2; subst h1; subst h2
    exact ⟨rfl, (congrArg At (eq_impl_within _ _ _ _)).mp ⟨vc_impl_within _ _ _ hp⟩⟩
  · cases h
def TW1_2 : Tab := TW1_1.add 37 F_impl_within
theorem TW1_2_ok : TW1_2.Ok Tryd.prog := TW1_1_ok.add ok_impl_within
theorem eq_impl_digit (b : Int) (K : V → Prop) : VC_impl_digit b K = vbody Tryd.prog (vin Tryd.prog TW1_2 annTW1 3) TW1_2.looks (annTW1 27) 27 [.int .u8 b] [] fun v _ => K v := by kernel_rfl
theorem ok_impl_digit : OK Tryd.prog 27 F_impl_digit.spec := (vbody_ok (vin_ok TW1_2_ok annTW1 3) TW1_2_ok.looks _ _).ofF fun args m p R h hp => by
  unfold F_impl_digit at h
  split at h
  · injection h with h; injection h with h1 h2; subst h1; subst h2
    exact ⟨rfl, (congrArg At (eq_impl_digit _ _)).mp ⟨vc_impl_digit _ hp⟩⟩
  · cases h
def TW1_3 : Tab := TW1_2.add 27 F_impl_digit
theorem TW1_3_ok : TW1_3.Ok Tryd.prog := TW1_2_ok.add ok_impl_digit
theorem eq_spec_woRule (s : List UInt8) (K : V → Prop) : VC_spec_woRule s K = vbody Tryd.prog (vin Tryd.prog TW1_3 annTW1 3) TW1_3.looks (annTW1 43) 43 [.str s] [] fun v _ => K v := by kernel_rfl
theorem ok_spec_woRule : OK Tryd.prog 43 F_spec_woRule.spec := (vbody_ok (vin_ok TW1_3_ok annTW1 3) TW1_3_ok.looks _ _).ofF fun args m p R h hp => by
  unfold F_spec_woRule at h
  split at h
  · injection h with h; injection h with h1 h2; subst h1; subst h2
    exact ⟨rfl, (congrArg At (eq_spec_woRule _ _)).mp ⟨vc_spec_woRule _ hp⟩⟩
  · cases h
def TW1_4 : Tab := TW1_3.add 43 F_spec_woRule
theorem TW1_4_ok : TW1_4.Ok Tryd.prog := TW1_3_ok.add ok_spec_woRule
theorem eq_impl_IsRule (s : List UInt8) (K : V → Prop) : VC_impl_IsRule s K = vbody Tryd.prog (vin Tryd.prog TW1_4 annTW1 3) TW1_4.looks (annTW1 32) 32 [.str s] [] fun v _ => K v := by kernel_rfl
theorem ok_impl_IsRule : OK Tryd.prog 32 F_impl_IsRule.spec := (vbody_ok (vin_ok TW1_4_ok annTW1 3) TW1_4_ok.looks _ _).ofF fun args m p R h hp => by
  unfold F_impl_IsRule at h
  split at h
  · injection h with h; injection h with h1 h2; subst h1; subst h2
    exact ⟨rfl, (congrArg At (eq_impl_IsRule _ _)).mp ⟨vc_impl_IsRule _ hp⟩⟩
  · cases h
def TW1_5 : Tab := TW1_4.add 32 F_impl_IsRule
theorem TW1_5_ok : TW1_5.Ok Tryd.prog := TW1_4_ok.add ok_impl_IsRule
theorem eq_spec_woGood (wr : List UInt8) (ww : Int) (wh : Int) (wc : List UInt8) (wx : Int) (wy : Int) (wd : Int) (K : V → Prop) : VC_spec_woGood wr ww wh wc wx wy wd K = vbody Tryd.prog (vin Tryd.prog TW1_5 annTW1 3) TW1_5.looks (annTW1 22) 22 [.agg [.str wr, .int .i64 ww, .int .i64 wh, .str wc, .int .i64 wx, .int .i64 wy, .int .i64 wd]] [] fun v _ => K v := by kernel_rfl
theorem ok_spec_woGood : OK Tryd.prog 22 F_spec_woGood.spec := (vbody_ok (vin_ok TW1_5_ok annTW1 3) TW1_5_ok.looks _ _).ofF fun args m p R h hp => by
  unfold F_spec_woGood at h
  split at h
  · injection h with h; injection h with h1 h2; subst h1; subst h2
    exact ⟨rfl, (congrArg At (eq_spec_woGood _ _ _ _ _ _ _ _)).mp ⟨vc_spec_woGood _ _ _ _ _ _ _ hp⟩⟩
  · cases h
def TW1_6 : Tab := TW1_5.add 22 F_spec_woGood
theorem TW1_6_ok : TW1_6.Ok Tryd.prog := TW1_5_ok.add ok_spec_woGood
theorem eq_impl_areColours (s : List UInt8) (n : Int) (K : V → Prop) : VC_impl_areColours s n K = vbody Tryd.prog (vin Tryd.prog TW1_6 annTW1 3) TW1_6.looks (annTW1 34) 34 [.str s, .int .i64 n] [] fun v _ => K v := by kernel_rfl
theorem ok_impl_areColours : OK Tryd.prog 34 F_impl_areColours.spec := (vbody_ok (vin_ok TW1_6_ok annTW1 3) TW1_6_ok.looks _ _).ofF fun args m p R h hp => by
  unfold F_impl_areColours at h
  split at h
  · injection h with h; injection h with h1 h2; subst h1; subst h2
    exact ⟨rfl, (congrArg At (eq_impl_areColours _ _ _)).mp ⟨vc_impl_areColours _ _ hp⟩⟩
  · cases h
def TW1_7 : Tab := TW1_6.add 34 F_impl_areColours
theorem TW1_7_ok : TW1_7.Ok Tryd.prog := TW1_6_ok.add ok_impl_areColours
theorem eq_impl_IsWorld (wr : List UInt8) (ww : Int) (wh : Int) (wc : List UInt8) (wx : Int) (wy : Int) (wd : Int) (K : V → Prop) : VC_impl_IsWorld wr ww wh wc wx wy wd K = vbody Tryd.prog (vin Tryd.prog TW1_7 annTW1 4) TW1_7.looks (annTW1 18) 18 [.agg [.str wr, .int .i64 ww, .int .i64 wh, .str wc, .int .i64 wx, .int .i64 wy, .int .i64 wd]] [] fun v _ => K v := by kernel_rfl
theorem ok_impl_IsWorld : OK Tryd.prog 18 F_impl_IsWorld.spec := (vbody_ok (vin_ok TW1_7_ok annTW1 4) TW1_7_ok.looks _ _).ofF fun args m p R h hp => by
  unfold F_impl_IsWorld at h
  split at h
  · injection h with h; injection h with h1 h2; subst h1; subst h2
    exact ⟨rfl, (congrArg At (eq_impl_IsWorld _ _ _ _ _ _ _ _)).mp ⟨vc_impl_IsWorld _ _ _ _ _ _ _ hp⟩⟩
  · cases h
def TW1_8 : Tab := TW1_7.add 18 F_impl_IsWorld
theorem TW1_8_ok : TW1_8.Ok Tryd.prog := TW1_7_ok.add ok_impl_IsWorld
theorem eq_laws_szWorld (wr : List UInt8) (ww : Int) (wh : Int) (wc : List UInt8) (wx : Int) (wy : Int) (wd : Int) (left : Int) (K : V → Prop) : VC_laws_szWorld wr ww wh wc wx wy wd left K = vbody Tryd.prog (vin Tryd.prog TW1_8 annTW1 3) TW1_8.looks (annTW1 6) 6 [.agg [.str wr, .int .i64 ww, .int .i64 wh, .str wc, .int .i64 wx, .int .i64 wy, .int .i64 wd], .int .i64 left] [] fun v _ => K v := by kernel_rfl
theorem ok_laws_szWorld : OK Tryd.prog 6 F_laws_szWorld.spec := (vbody_ok (vin_ok TW1_8_ok annTW1 3) TW1_8_ok.looks _ _).ofF fun args m p R h hp => by
  unfold F_laws_szWorld at h
  split at h
  · injection h with h; injection h with h1 h2; subst h1; subst h2
    exact ⟨rfl, (congrArg At (eq_laws_szWorld _ _ _ _ _ _ _ _ _)).mp ⟨vc_laws_szWorld _ _ _ _ _ _ _ _ hp⟩⟩
  · cases h
def TW1_9 : Tab := TW1_8.add 6 F_laws_szWorld
theorem TW1_9_ok : TW1_9.Ok Tryd.prog := TW1_8_ok.add ok_laws_szWorld
theorem eq_spec_l1Num (n : Int) (K : V → Prop) : VC_spec_l1Num n K = vbody Tryd.prog (vin Tryd.prog TW1_9 annTW1 3) TW1_9.looks (annTW1 44) 44 [.int .i64 n] [] fun v _ => K v := by kernel_rfl
theorem ok_spec_l1Num : OK Tryd.prog 44 F_spec_l1Num.spec := (vbody_ok (vin_ok TW1_9_ok annTW1 3) TW1_9_ok.looks _ _).ofF fun args m p R h hp => by
  unfold F_spec_l1Num at h
  split at h
  · injection h with h; injection h with h1 h2; subst h1; subst h2
    exact ⟨rfl, (congrArg At (eq_spec_l1Num _ _)).mp ⟨vc_spec_l1Num _ hp⟩⟩
  · cases h
def TW1_10 : Tab := TW1_9.add 44 F_spec_l1Num
theorem TW1_10_ok : TW1_10.Ok Tryd.prog := TW1_9_ok.add ok_spec_l1Num
theorem eq_strconv_FormatInt (n : Int) (b : Int) (K : V → Prop) : VC_strconv_FormatInt n b K = vbody Tryd.prog (vin Tryd.prog TW1_10 annTW1 3) TW1_10.looks (annTW1 52) 52 [.int .i64 n, .int .i64 b] [] fun v _ => K v := by kernel_rfl
theorem ok_strconv_FormatInt : OK Tryd.prog 52 F_strconv_FormatInt.spec := (vbody_ok (vin_ok TW1_10_ok annTW1 3) TW1_10_ok.looks _ _).ofF fun args m p R h hp => by
  unfold F_strconv_FormatInt at h
  split at h
  · injection h with h; injection h with h1 h2; subst h1; subst h2
    exact ⟨rfl, (congrArg At (eq_strconv_FormatInt _ _ _)).mp ⟨vc_strconv_FormatInt _ _ hp⟩⟩
  · cases h
def TW1_11 : Tab := TW1_10.add 52 F_strconv_FormatInt
theorem TW1_11_ok : TW1_11.Ok Tryd.prog := TW1_10_ok.add ok_strconv_FormatInt
theorem eq_strconv_Itoa (n : Int) (K : V → Prop) : VC_strconv_Itoa n K = vbody Tryd.prog (vin Tryd.prog TW1_11 annTW1 3) TW1_11.looks (annTW1 24) 24 [.int .i64 n] [] fun v _ => K v := by kernel_rfl
theorem ok_strconv_Itoa : OK Tryd.prog 24 F_strconv_Itoa.spec := (vbody_ok (vin_ok TW1_11_ok annTW1 3) TW1_11_ok.looks _ _).ofF fun args m p R h hp => by
  unfold F_strconv_Itoa at h
  split at h
  · injection h with h; injection h with h1 h2; subst h1; subst h2
    exact ⟨rfl, (congrArg At (eq_strconv_Itoa _ _)).mp ⟨vc_strconv_Itoa _ hp⟩⟩
  · cases h
def TW1_12 : Tab := TW1_11.add 24 F_strconv_Itoa
theorem TW1_12_ok : TW1_12.Ok Tryd.prog := TW1_11_ok.add ok_strconv_Itoa
theorem eq_spec_woText (wr : List UInt8) (ww : Int) (wh : Int) (wc : List UInt8) (wx : Int) (wy : Int) (wd : Int) (K : V → Prop) : VC_spec_woText wr ww wh wc wx wy wd K = vbody Tryd.prog (vin Tryd.prog TW1_12 annTW1 3) TW1_12.looks (annTW1 23) 23 [.agg [.str wr, .int .i64 ww, .int .i64 wh, .str wc, .int .i64 wx, .int .i64 wy, .int .i64 wd]] [] fun v _ => K v := by kernel_rfl
theorem ok_spec_woText : OK Tryd.prog 23 F_spec_woText.spec := (vbody_ok (vin_ok TW1_12_ok annTW1 3) TW1_12_ok.looks _ _).ofF fun args m p R h hp => by
  unfold F_spec_woText at h
  split at h
  · injection h with h; injection h with h1 h2; subst h1; subst h2
    exact ⟨rfl, (congrArg At (eq_spec_woText _ _ _ _ _ _ _ _)).mp ⟨vc_spec_woText _ _ _ _ _ _ _ hp⟩⟩
  · cases h
def TW1_13 : Tab := TW1_12.add 23 F_spec_woText
theorem TW1_13_ok : TW1_13.Ok Tryd.prog := TW1_12_ok.add ok_spec_woText
theorem eq_spec_WorldText (wr : List UInt8) (ww : Int) (wh : Int) (wc : List UInt8) (wx : Int) (wy : Int) (wd : Int) (K : V → Prop) : VC_spec_WorldText wr ww wh wc wx wy wd K = vbody Tryd.prog (vin Tryd.prog TW1_13 annTW1 3) TW1_13.looks (annTW1 10) 10 [.agg [.str wr, .int .i64 ww, .int .i64 wh, .str wc, .int .i64 wx, .int .i64 wy, .int .i64 wd]] [] fun v _ => K v := by kernel_rfl
theorem ok_spec_WorldText : OK Tryd.prog 10 F_spec_WorldText.spec := (vbody_ok (vin_ok TW1_13_ok annTW1 3) TW1_13_ok.looks _ _).ofF fun args m p R h hp => by
  unfold F_spec_WorldText at h
  split at h
  · injection h with h; injection h with h1 h2; subst h1; subst h2
    exact ⟨rfl, (congrArg At (eq_spec_WorldText _ _ _ _ _ _ _ _)).mp ⟨vc_spec_WorldText _ _ _ _ _ _ _ hp⟩⟩
  · cases h
def TW1_14 : Tab := TW1_13.add 10 F_spec_WorldText
theorem TW1_14_ok : TW1_14.Ok Tryd.prog := TW1_13_ok.add ok_spec_WorldText
theorem eq_impl_WorldText (wr : List UInt8) (ww : Int) (wh : Int) (wc : List UInt8) (wx : Int) (wy : Int) (wd : Int) (K : V → Prop) : VC_impl_WorldText wr ww wh wc wx wy wd K = vbody Tryd.prog (vin Tryd.prog TW1_14 annTW1 3) TW1_14.looks (annTW1 11) 11 [.agg [.str wr, .int .i64 ww, .int .i64 wh, .str wc, .int .i64 wx, .int .i64 wy, .int .i64 wd]] [] fun v _ => K v := by kernel_rfl
theorem ok_impl_WorldText : OK Tryd.prog 11 F_impl_WorldText.spec := (vbody_ok (vin_ok TW1_14_ok annTW1 3) TW1_14_ok.looks _ _).ofF fun args m p R h hp => by
  unfold F_impl_WorldText at h
  split at h
  · injection h with h; injection h with h1 h2; subst h1; subst h2
    exact ⟨rfl, (congrArg At (eq_impl_WorldText _ _ _ _ _ _ _ _)).mp ⟨vc_impl_WorldText _ _ _ _ _ _ _ hp⟩⟩
  · cases h
def TW1_15 : Tab := TW1_14.add 11 F_impl_WorldText
theorem TW1_15_ok : TW1_15.Ok Tryd.prog := TW1_14_ok.add ok_impl_WorldText
def TW1 : Tab := TW1_15
theorem TW1_ok : TW1.Ok Tryd.prog := TW1_15_ok
end Go.Proofs.YtccahaefpbkelabDoor
