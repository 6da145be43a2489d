/- The contracts of this chapter. -/
import Derived.Test.YteleacldecambaaDoorA1LibT
import Derived.Test.YteleacldecambaaDoorProg
import Derived.Test.YteleacldecambaaDoorZ1Pf
import Derived.KernelRfl
namespace Go.Proofs.YteleacldecambaaDoor
open Go Go.Vi
set_option linter.unusedVariables false
def annTZ1 : FuncId → Nat → St → Option Ann := fun f => if f = 33 then ann_spec_miParse else if f = 48 then ann_spec_l1Split else if f = 49 then ann_spec_l1Read else if f = 27 then ann_spec_miGood else if f = 17 then ann_impl_ParseMaze else (fun _ _ => none)
def TZ1_0 : Tab := Tab.none
theorem TZ1_0_ok : TZ1_0.Ok Tryd.prog := Tab.none_ok
theorem eq_spec_l1In (n : Int) (lo : Int) (hi : Int) (K : V → Prop) : VC_spec_l1In n lo hi K = vbody Tryd.prog (vin Tryd.prog TZ1_0 annTZ1 3) TZ1_0.looks (annTZ1 40) 40 [.int .i64 n, .int .i64 lo, .int .i64 hi] [] (fun v _ => K v) := by kernel_rfl
theorem ok_spec_l1In : OK Tryd.prog 40 F_spec_l1In.spec := (vbody_ok (vin_ok TZ1_0_ok annTZ1 3) TZ1_0_ok.looks _ _).ofF fun args m p R h hp => by
  unfold F_spec_l1In at h
  split at h
  · injection h with h; injection h with h1 h2; subst h1; subst h2
    exact ⟨rfl, (congrArg At (eq_spec_l1In _ _ _ _)).mp ⟨vc_spec_l1In _ _ _ hp⟩⟩
  · cases h
def TZ1_1 : Tab := TZ1_0.add 40 F_spec_l1In
theorem TZ1_1_ok : TZ1_1.Ok Tryd.prog := TZ1_0_ok.add ok_spec_l1In
theorem eq_impl_within (n : Int) (lo : Int) (hi : Int) (K : V → Prop) : VC_impl_within n lo hi K = vbody Tryd.prog (vin Tryd.prog TZ1_1 annTZ1 3) TZ1_1.looks (annTZ1 56) 56 [.int .i64 n, .int .i64 lo, .int .i64 hi] [] (fun v _ => K v) := by kernel_rfl
theorem ok_impl_within : OK Tryd.prog 56 F_impl_within.spec := (vbody_ok (vin_ok TZ1_1_ok annTZ1 3) TZ1_1_ok.looks _ _).ofF fun args m p R h hp => by
  unfold F_impl_within at h
  split at h
  · injection h with h; injection h with h1 h2; subst h1; subst h2
    exact ⟨rfl, (congrArg At (eq_impl_within _ _ _ _)).mp ⟨vc_impl_within _ _ _ hp⟩⟩
  · cases h
def TZ1_2 : Tab := TZ1_1.add 56 F_impl_within
theorem TZ1_2_ok : TZ1_2.Ok Tryd.prog := TZ1_1_ok.add ok_impl_within
theorem eq_impl_digit (b : Int) (K : V → Prop) : VC_impl_digit b K = vbody Tryd.prog (vin Tryd.prog TZ1_2 annTZ1 3) TZ1_2.looks (annTZ1 35) 35 [.int .u8 b] [] (fun v _ => K v) := by kernel_rfl
theorem ok_impl_digit : OK Tryd.prog 35 F_impl_digit.spec := (vbody_ok (vin_ok TZ1_2_ok annTZ1 3) TZ1_2_ok.looks _ _).ofF fun args m p R h hp => by
  unfold F_impl_digit at h
  split at h
  · injection h with h; injection h with h1 h2; subst h1; subst h2
    exact ⟨rfl, (congrArg At (eq_impl_digit _ _)).mp ⟨vc_impl_digit _ hp⟩⟩
  · cases h
def TZ1_3 : Tab := TZ1_2.add 35 F_impl_digit
theorem TZ1_3_ok : TZ1_3.Ok Tryd.prog := TZ1_2_ok.add ok_impl_digit
theorem eq_spec_l1Num (n : Int) (K : V → Prop) : VC_spec_l1Num n K = vbody Tryd.prog (vin Tryd.prog TZ1_3 annTZ1 0) TZ1_3.looks (annTZ1 64) 64 [.int .i64 n] [] (fun v _ => K v) := by kernel_rfl
theorem ok_spec_l1Num : OK Tryd.prog 64 F_spec_l1Num.spec := (vbody_ok (vin_ok TZ1_3_ok annTZ1 0) TZ1_3_ok.looks _ _).ofF fun args m p R h hp => by
  unfold F_spec_l1Num at h
  split at h
  · injection h with h; injection h with h1 h2; subst h1; subst h2
    exact ⟨rfl, (congrArg At (eq_spec_l1Num _ _)).mp ⟨vc_spec_l1Num _ hp⟩⟩
  · cases h
def TZ1_4 : Tab := TZ1_3.add 64 F_spec_l1Num
theorem TZ1_4_ok : TZ1_4.Ok Tryd.prog := TZ1_3_ok.add ok_spec_l1Num
theorem eq_strconv_FormatInt (n : Int) (b : Int) (K : V → Prop) : VC_strconv_FormatInt n b K = vbody Tryd.prog (vin Tryd.prog TZ1_4 annTZ1 3) TZ1_4.looks (annTZ1 78) 78 [.int .i64 n, .int .i64 b] [] (fun v _ => K v) := by kernel_rfl
theorem ok_strconv_FormatInt : OK Tryd.prog 78 F_strconv_FormatInt.spec := (vbody_ok (vin_ok TZ1_4_ok annTZ1 3) TZ1_4_ok.looks _ _).ofF fun args m p R h hp => by
  unfold F_strconv_FormatInt at h
  split at h
  · injection h with h; injection h with h1 h2; subst h1; subst h2
    exact ⟨rfl, (congrArg At (eq_strconv_FormatInt _ _ _)).mp ⟨vc_strconv_FormatInt _ _ hp⟩⟩
  · cases h
def TZ1_5 : Tab := TZ1_4.add 78 F_strconv_FormatInt
theorem TZ1_5_ok : TZ1_5.Ok Tryd.prog := TZ1_4_ok.add ok_strconv_FormatInt
theorem eq_strconv_Itoa (n : Int) (K : V → Prop) : VC_strconv_Itoa n K = vbody Tryd.prog (vin Tryd.prog TZ1_5 annTZ1 3) TZ1_5.looks (annTZ1 52) 52 [.int .i64 n] [] (fun v _ => K v) := by kernel_rfl
theorem ok_strconv_Itoa : OK Tryd.prog 52 F_strconv_Itoa.spec := (vbody_ok (vin_ok TZ1_5_ok annTZ1 3) TZ1_5_ok.looks _ _).ofF fun args m p R h hp => by
  unfold F_strconv_Itoa at h
  split at h
  · injection h with h; injection h with h1 h2; subst h1; subst h2
    exact ⟨rfl, (congrArg At (eq_strconv_Itoa _ _)).mp ⟨vc_strconv_Itoa _ hp⟩⟩
  · cases h
def TZ1_6 : Tab := TZ1_5.add 52 F_strconv_Itoa
theorem TZ1_6_ok : TZ1_6.Ok Tryd.prog := TZ1_5_ok.add ok_strconv_Itoa
theorem eq_spec_l1Split (s : List UInt8) (b : Int) (K : V → List Blk → Prop) : VC_spec_l1Split s b K = vbody Tryd.prog (vin Tryd.prog TZ1_6 annTZ1 3) TZ1_6.looks (annTZ1 48) 48 [.str s, .int .u8 b] [] (K) := by kernel_rfl
theorem ok_spec_l1Split : OK Tryd.prog 48 F_spec_l1Split.spec := (vbody_ok (vin_ok TZ1_6_ok annTZ1 3) TZ1_6_ok.looks _ _).ofG fun args m p R M h hp => by
  unfold F_spec_l1Split at h
  split at h
  · injection h with h; injection h with h1 h2; injection h2 with h2 h3; subst h1; subst h2; subst h3
    exact (congrArg At (eq_spec_l1Split _ _ _)).mp ⟨vc_spec_l1Split _ _ hp⟩
  · cases h
def TZ1_7 : Tab := TZ1_6.addG 48 F_spec_l1Split
theorem TZ1_7_ok : TZ1_7.Ok Tryd.prog := TZ1_6_ok.addG ok_spec_l1Split
theorem eq_spec_l1Read (s : List UInt8) (K : V → Prop) : VC_spec_l1Read s K = vbody Tryd.prog (vin Tryd.prog TZ1_7 annTZ1 3) TZ1_7.looks (annTZ1 49) 49 [.str s] [] (fun v _ => K v) := by kernel_rfl
theorem ok_spec_l1Read : OK Tryd.prog 49 F_spec_l1Read.spec := (vbody_ok (vin_ok TZ1_7_ok annTZ1 3) TZ1_7_ok.looks _ _).ofF fun args m p R h hp => by
  unfold F_spec_l1Read at h
  split at h
  · injection h with h; injection h with h1 h2; subst h1; subst h2
    exact ⟨rfl, (congrArg At (eq_spec_l1Read _ _)).mp ⟨vc_spec_l1Read _ hp⟩⟩
  · cases h
def TZ1_8 : Tab := TZ1_7.add 49 F_spec_l1Read
theorem TZ1_8_ok : TZ1_8.Ok Tryd.prog := TZ1_7_ok.add ok_spec_l1Read
theorem eq_spec_miGood (mw : Int) (mh : Int) (mc : List UInt8) (mu : Bool) (K : V → Prop) : VC_spec_miGood mw mh mc mu K = vbody Tryd.prog (vin Tryd.prog TZ1_8 annTZ1 3) TZ1_8.looks (annTZ1 27) 27 [.agg [.int .i64 mw, .int .i64 mh, .str mc, .bool mu]] [] (fun v _ => K v) := by kernel_rfl
theorem ok_spec_miGood : OK Tryd.prog 27 F_spec_miGood.spec := (vbody_ok (vin_ok TZ1_8_ok annTZ1 3) TZ1_8_ok.looks _ _).ofF fun args m p R h hp => by
  unfold F_spec_miGood at h
  split at h
  · injection h with h; injection h with h1 h2; subst h1; subst h2
    exact ⟨rfl, (congrArg At (eq_spec_miGood _ _ _ _ _)).mp ⟨vc_spec_miGood _ _ _ _ hp⟩⟩
  · cases h
def TZ1_9 : Tab := TZ1_8.add 27 F_spec_miGood
theorem TZ1_9_ok : TZ1_9.Ok Tryd.prog := TZ1_8_ok.add ok_spec_miGood
theorem ok_strings_Trim : OK Tryd.prog 47 F_strings_Trim.spec := Go.Proofs.Tryd.libTrim
def TZ1_10 : Tab := TZ1_9.add 47 F_strings_Trim
theorem TZ1_10_ok : TZ1_10.Ok Tryd.prog := TZ1_9_ok.add ok_strings_Trim
theorem eq_impl_IsMaze (mw : Int) (mh : Int) (mc : List UInt8) (mu : Bool) (K : V → Prop) : VC_impl_IsMaze mw mh mc mu K = vbody Tryd.prog (vin Tryd.prog TZ1_10 annTZ1 3) TZ1_10.looks (annTZ1 31) 31 [.agg [.int .i64 mw, .int .i64 mh, .str mc, .bool mu]] [] (fun v _ => K v) := by kernel_rfl
theorem ok_impl_IsMaze : OK Tryd.prog 31 F_impl_IsMaze.spec := (vbody_ok (vin_ok TZ1_10_ok annTZ1 3) TZ1_10_ok.looks _ _).ofF fun args m p R h hp => by
  unfold F_impl_IsMaze at h
  split at h
  · injection h with h; injection h with h1 h2; subst h1; subst h2
    exact ⟨rfl, (congrArg At (eq_impl_IsMaze _ _ _ _ _)).mp ⟨vc_impl_IsMaze _ _ _ _ hp⟩⟩
  · cases h
def TZ1_11 : Tab := TZ1_10.add 31 F_impl_IsMaze
theorem TZ1_11_ok : TZ1_11.Ok Tryd.prog := TZ1_10_ok.add ok_impl_IsMaze
theorem eq_spec_miText (mw : Int) (mh : Int) (mc : List UInt8) (mu : Bool) (K : V → Prop) : VC_spec_miText mw mh mc mu K = vbody Tryd.prog (vin Tryd.prog TZ1_11 annTZ1 3) TZ1_11.looks (annTZ1 50) 50 [.agg [.int .i64 mw, .int .i64 mh, .str mc, .bool mu]] [] (fun v _ => K v) := by kernel_rfl
theorem ok_spec_miText : OK Tryd.prog 50 F_spec_miText.spec := (vbody_ok (vin_ok TZ1_11_ok annTZ1 3) TZ1_11_ok.looks _ _).ofF fun args m p R h hp => by
  unfold F_spec_miText at h
  split at h
  · injection h with h; injection h with h1 h2; subst h1; subst h2
    exact ⟨rfl, (congrArg At (eq_spec_miText _ _ _ _ _)).mp ⟨vc_spec_miText _ _ _ _ hp⟩⟩
  · cases h
def TZ1_12 : Tab := TZ1_11.add 50 F_spec_miText
theorem TZ1_12_ok : TZ1_12.Ok Tryd.prog := TZ1_11_ok.add ok_spec_miText
theorem eq_impl_MazeText (mw : Int) (mh : Int) (mc : List UInt8) (mu : Bool) (K : V → Prop) : VC_impl_MazeText mw mh mc mu K = vbody Tryd.prog (vin Tryd.prog TZ1_12 annTZ1 3) TZ1_12.looks (annTZ1 36) 36 [.agg [.int .i64 mw, .int .i64 mh, .str mc, .bool mu]] [] (fun v _ => K v) := by kernel_rfl
theorem ok_impl_MazeText : OK Tryd.prog 36 F_impl_MazeText.spec := (vbody_ok (vin_ok TZ1_12_ok annTZ1 3) TZ1_12_ok.looks _ _).ofF fun args m p R h hp => by
  unfold F_impl_MazeText at h
  split at h
  · injection h with h; injection h with h1 h2; subst h1; subst h2
    exact ⟨rfl, (congrArg At (eq_impl_MazeText _ _ _ _ _)).mp ⟨vc_impl_MazeText _ _ _ _ hp⟩⟩
  · cases h
def TZ1_13 : Tab := TZ1_12.add 36 F_impl_MazeText
theorem TZ1_13_ok : TZ1_13.Ok Tryd.prog := TZ1_12_ok.add ok_impl_MazeText
theorem eq_laws_eqMaze (aw : Int) (ah : Int) (ac : List UInt8) (au : Bool) (bw : Int) (bh : Int) (bc : List UInt8) (bu : Bool) (K : V → Prop) : VC_laws_eqMaze aw ah ac au bw bh bc bu K = vbody Tryd.prog (vin Tryd.prog TZ1_13 annTZ1 3) TZ1_13.looks (annTZ1 12) 12 [.agg [.int .i64 aw, .int .i64 ah, .str ac, .bool au], .agg [.int .i64 bw, .int .i64 bh, .str bc, .bool bu]] [] (fun v _ => K v) := by kernel_rfl
theorem ok_laws_eqMaze : OK Tryd.prog 12 F_laws_eqMaze.spec := (vbody_ok (vin_ok TZ1_13_ok annTZ1 3) TZ1_13_ok.looks _ _).ofF fun args m p R h hp => by
  unfold F_laws_eqMaze at h
  split at h
  · injection h with h; injection h with h1 h2; subst h1; subst h2
    exact ⟨rfl, (congrArg At (eq_laws_eqMaze _ _ _ _ _ _ _ _ _)).mp ⟨vc_laws_eqMaze _ _ _ _ _ _ _ _ hp⟩⟩
  · cases h
def TZ1_14 : Tab := TZ1_13.add 12 F_laws_eqMaze
theorem TZ1_14_ok : TZ1_14.Ok Tryd.prog := TZ1_13_ok.add ok_laws_eqMaze
theorem eq_strings_CutSuffix (s : List UInt8) (t : List UInt8) (K : V → Prop) : VC_strings_CutSuffix s t K = vbody Tryd.prog (vin Tryd.prog TZ1_14 annTZ1 4) TZ1_14.looks (annTZ1 34) 34 [.str s, .str t] [] (fun v _ => K v) := by kernel_rfl
theorem ok_strings_CutSuffix : OK Tryd.prog 34 F_strings_CutSuffix.spec := (vbody_ok (vin_ok TZ1_14_ok annTZ1 4) TZ1_14_ok.looks _ _).ofF fun args m p R h hp => by
  unfold F_strings_CutSuffix at h
  split at h
  · injection h with h; injection h with h1 h2; subst h1; subst h2
    exact ⟨rfl, (congrArg At (eq_strings_CutSuffix _ _ _)).mp ⟨vc_strings_CutSuffix _ _ hp⟩⟩
  · cases h
def TZ1_15 : Tab := TZ1_14.add 34 F_strings_CutSuffix
theorem TZ1_15_ok : TZ1_15.Ok Tryd.prog := TZ1_14_ok.add ok_strings_CutSuffix
theorem eq_spec_ParseMaze (s : List UInt8) (K : V → Prop) : VC_spec_ParseMaze s K = vbody Tryd.prog (vin Tryd.prog TZ1_15 annTZ1 4) TZ1_15.looks (annTZ1 16) 16 [.str s] [] (fun v _ => K v) := by kernel_rfl
theorem ok_spec_ParseMaze : OK Tryd.prog 16 F_spec_ParseMaze.spec := (vbody_ok (vin_ok TZ1_15_ok annTZ1 4) TZ1_15_ok.looks _ _).ofF fun args m p R h hp => by
  unfold F_spec_ParseMaze at h
  split at h
  · injection h with h; injection h with h1 h2; subst h1; subst h2
    exact ⟨rfl, (congrArg At (eq_spec_ParseMaze _ _)).mp ⟨vc_spec_ParseMaze _ hp⟩⟩
  · cases h
def TZ1_16 : Tab := TZ1_15.add 16 F_spec_ParseMaze
theorem TZ1_16_ok : TZ1_16.Ok Tryd.prog := TZ1_15_ok.add ok_spec_ParseMaze
theorem eq_impl_ParseMaze (s : List UInt8) (K : V → Prop) : VC_impl_ParseMaze s K = vbody Tryd.prog (vin Tryd.prog TZ1_16 annTZ1 4) TZ1_16.looks (annTZ1 17) 17 [.str s] [] (fun v _ => K v) := by kernel_rfl
theorem ok_impl_ParseMaze : OK Tryd.prog 17 F_impl_ParseMaze.spec := (vbody_ok (vin_ok TZ1_16_ok annTZ1 4) TZ1_16_ok.looks _ _).ofF fun args m p R h hp => by
  unfold F_impl_ParseMaze at h
  split at h
  · injection h with h; injection h with h1 h2; subst h1; subst h2
    exact ⟨rfl, (congrArg At (eq_impl_ParseMaze _ _)).mp ⟨vc_impl_ParseMaze _ hp⟩⟩
  · cases h
def TZ1_17 : Tab := TZ1_16.add 17 F_impl_ParseMaze
theorem TZ1_17_ok : TZ1_17.Ok Tryd.prog := TZ1_16_ok.add ok_impl_ParseMaze
def TZ1 : Tab := TZ1_17
theorem TZ1_ok : TZ1.Ok Tryd.prog := TZ1_17_ok
end Go.Proofs.YteleacldecambaaDoor
