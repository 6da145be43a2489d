/- The contracts of this chapter. -/
import Derived.Test.YtkkpkfphfhcgoabDoorA1LibT
import Derived.Test.YtkkpkfphfhcgoabDoorProg
import Derived.Test.YtkkpkfphfhcgoabDoorO1Pf
import Derived.KernelRfl
namespace Go.Proofs.YtkkpkfphfhcgoabDoor
open Go Go.Vi
set_option linter.unusedVariables false
def annTO1 : FuncId → Nat → St → Option Ann := fun f => if f = 33 then ann_spec_miGood else (fun _ _ => none)
def TO1_0 : Tab := Tab.none
theorem TO1_0_ok : TO1_0.Ok Tryd.prog := Tab.none_ok
theorem eq_spec_l1In (n : Int) (lo : Int) (hi : Int) (K : V → Prop) : VC_spec_l1In n lo hi K = vbody Tryd.prog (vin Tryd.prog TO1_0 annTO1 3) TO1_0.looks (annTO1 25) 25 [.int .i64 n, .int .i64 lo, .int .i64 hi] [] (fun v _ => K v) := by kernel_rfl
theorem ok_spec_l1In : OK Tryd.prog 25 F_spec_l1In.spec := (vbody_ok (vin_ok TO1_0_ok annTO1 3) TO1_0_ok.looks _ _).ofF fun args m p R h hp => by
  unfold F_spec_l1In at h
  split at h
  · injection h with h; injection h with h1 h2; subst h1; subst h2
    exact ⟨rfl, (congrArg At (eq_spec_l1In _ _ _ _)).mp ⟨vc_spec_l1In _ _ _ hp⟩⟩
  · cases h
def TO1_1 : Tab := TO1_0.add 25 F_spec_l1In
theorem TO1_1_ok : TO1_1.Ok Tryd.prog := TO1_0_ok.add ok_spec_l1In
theorem eq_impl_within (n : Int) (lo : Int) (hi : Int) (K : V → Prop) : VC_impl_within n lo hi K = vbody Tryd.prog (vin Tryd.prog TO1_1 annTO1 3) TO1_1.looks (annTO1 30) 30 [.int .i64 n, .int .i64 lo, .int .i64 hi] [] (fun v _ => K v) := by kernel_rfl
theorem ok_impl_within : OK Tryd.prog 30 F_impl_within.spec := (vbody_ok (vin_ok TO1_1_ok annTO1 3) TO1_1_ok.looks _ _).ofF fun args m p R h hp => by
  unfold F_impl_within at h
  split at h
  · injection h with h; injection h with h1 h2; subst h1; subst h2
    exact ⟨rfl, (congrArg At (eq_impl_within _ _ _ _)).mp ⟨vc_impl_within _ _ _ hp⟩⟩
  · cases h
def TO1_2 : Tab := TO1_1.add 30 F_impl_within
theorem TO1_2_ok : TO1_2.Ok Tryd.prog := TO1_1_ok.add ok_impl_within
theorem eq_spec_miGood (mw : Int) (mh : Int) (mc : List UInt8) (mu : Bool) (K : V → Prop) : VC_spec_miGood mw mh mc mu K = vbody Tryd.prog (vin Tryd.prog TO1_2 annTO1 3) TO1_2.looks (annTO1 33) 33 [.agg [.int .i64 mw, .int .i64 mh, .str mc, .bool mu]] [] (fun v _ => K v) := by kernel_rfl
theorem ok_spec_miGood : OK Tryd.prog 33 F_spec_miGood.spec := (vbody_ok (vin_ok TO1_2_ok annTO1 3) TO1_2_ok.looks _ _).ofF fun args m p R h hp => by
  unfold F_spec_miGood at h
  split at h
  · injection h with h; injection h with h1 h2; subst h1; subst h2
    exact ⟨rfl, (congrArg At (eq_spec_miGood _ _ _ _ _)).mp ⟨vc_spec_miGood _ _ _ _ hp⟩⟩
  · cases h
def TO1_3 : Tab := TO1_2.add 33 F_spec_miGood
theorem TO1_3_ok : TO1_3.Ok Tryd.prog := TO1_2_ok.add ok_spec_miGood
theorem ok_strings_Trim : OK Tryd.prog 49 F_strings_Trim.spec := Go.Proofs.Tryd.libTrim
def TO1_4 : Tab := TO1_3.add 49 F_strings_Trim
theorem TO1_4_ok : TO1_4.Ok Tryd.prog := TO1_3_ok.add ok_strings_Trim
theorem eq_impl_IsMaze (mw : Int) (mh : Int) (mc : List UInt8) (mu : Bool) (K : V → Prop) : VC_impl_IsMaze mw mh mc mu K = vbody Tryd.prog (vin Tryd.prog TO1_4 annTO1 3) TO1_4.looks (annTO1 28) 28 [.agg [.int .i64 mw, .int .i64 mh, .str mc, .bool mu]] [] (fun v _ => K v) := by kernel_rfl
theorem ok_impl_IsMaze : OK Tryd.prog 28 F_impl_IsMaze.spec := (vbody_ok (vin_ok TO1_4_ok annTO1 3) TO1_4_ok.looks _ _).ofF fun args m p R h hp => by
  unfold F_impl_IsMaze at h
  split at h
  · injection h with h; injection h with h1 h2; subst h1; subst h2
    exact ⟨rfl, (congrArg At (eq_impl_IsMaze _ _ _ _ _)).mp ⟨vc_impl_IsMaze _ _ _ _ hp⟩⟩
  · cases h
def TO1_5 : Tab := TO1_4.add 28 F_impl_IsMaze
theorem TO1_5_ok : TO1_5.Ok Tryd.prog := TO1_4_ok.add ok_impl_IsMaze
theorem eq_laws_szMaze (mw : Int) (mh : Int) (mc : List UInt8) (mu : Bool) (left : Int) (K : V → Prop) : VC_laws_szMaze mw mh mc mu left K = vbody Tryd.prog (vin Tryd.prog TO1_5 annTO1 3) TO1_5.looks (annTO1 8) 8 [.agg [.int .i64 mw, .int .i64 mh, .str mc, .bool mu], .int .i64 left] [] (fun v _ => K v) := by kernel_rfl
theorem ok_laws_szMaze : OK Tryd.prog 8 F_laws_szMaze.spec := (vbody_ok (vin_ok TO1_5_ok annTO1 3) TO1_5_ok.looks _ _).ofF fun args m p R h hp => by
  unfold F_laws_szMaze at h
  split at h
  · injection h with h; injection h with h1 h2; subst h1; subst h2
    exact ⟨rfl, (congrArg At (eq_laws_szMaze _ _ _ _ _ _)).mp ⟨vc_laws_szMaze _ _ _ _ _ hp⟩⟩
  · cases h
def TO1_6 : Tab := TO1_5.add 8 F_laws_szMaze
theorem TO1_6_ok : TO1_6.Ok Tryd.prog := TO1_5_ok.add ok_laws_szMaze
theorem eq_laws_toMaze (mw : Int) (mh : Int) (mc : List UInt8) (mu : Bool) (K : V → Prop) : VC_laws_toMaze mw mh mc mu K = vbody Tryd.prog (vin Tryd.prog TO1_6 annTO1 3) TO1_6.looks (annTO1 10) 10 [.agg [.int .i64 mw, .int .i64 mh, .str mc, .bool mu]] [] (fun v _ => K v) := by kernel_rfl
theorem ok_laws_toMaze : OK Tryd.prog 10 F_laws_toMaze.spec := (vbody_ok (vin_ok TO1_6_ok annTO1 3) TO1_6_ok.looks _ _).ofF fun args m p R h hp => by
  unfold F_laws_toMaze at h
  split at h
  · injection h with h; injection h with h1 h2; subst h1; subst h2
    exact ⟨rfl, (congrArg At (eq_laws_toMaze _ _ _ _ _)).mp ⟨vc_laws_toMaze _ _ _ _ hp⟩⟩
  · cases h
def TO1_7 : Tab := TO1_6.add 10 F_laws_toMaze
theorem TO1_7_ok : TO1_7.Ok Tryd.prog := TO1_6_ok.add ok_laws_toMaze
theorem eq_spec_l1Num (n : Int) (K : V → Prop) : VC_spec_l1Num n K = vbody Tryd.prog (vin Tryd.prog TO1_7 annTO1 0) TO1_7.looks (annTO1 56) 56 [.int .i64 n] [] (fun v _ => K v) := by kernel_rfl
theorem ok_spec_l1Num : OK Tryd.prog 56 F_spec_l1Num.spec := (vbody_ok (vin_ok TO1_7_ok annTO1 0) TO1_7_ok.looks _ _).ofF fun args m p R h hp => by
  unfold F_spec_l1Num at h
  split at h
  · injection h with h; injection h with h1 h2; subst h1; subst h2
    exact ⟨rfl, (congrArg At (eq_spec_l1Num _ _)).mp ⟨vc_spec_l1Num _ hp⟩⟩
  · cases h
def TO1_8 : Tab := TO1_7.add 56 F_spec_l1Num
theorem TO1_8_ok : TO1_8.Ok Tryd.prog := TO1_7_ok.add ok_spec_l1Num
theorem eq_strconv_FormatInt (n : Int) (b : Int) (K : V → Prop) : VC_strconv_FormatInt n b K = vbody Tryd.prog (vin Tryd.prog TO1_8 annTO1 3) TO1_8.looks (annTO1 69) 69 [.int .i64 n, .int .i64 b] [] (fun v _ => K v) := by kernel_rfl
theorem ok_strconv_FormatInt : OK Tryd.prog 69 F_strconv_FormatInt.spec := (vbody_ok (vin_ok TO1_8_ok annTO1 3) TO1_8_ok.looks _ _).ofF fun args m p R h hp => by
  unfold F_strconv_FormatInt at h
  split at h
  · injection h with h; injection h with h1 h2; subst h1; subst h2
    exact ⟨rfl, (congrArg At (eq_strconv_FormatInt _ _ _)).mp ⟨vc_strconv_FormatInt _ _ hp⟩⟩
  · cases h
def TO1_9 : Tab := TO1_8.add 69 F_strconv_FormatInt
theorem TO1_9_ok : TO1_9.Ok Tryd.prog := TO1_8_ok.add ok_strconv_FormatInt
theorem eq_strconv_Itoa (n : Int) (K : V → Prop) : VC_strconv_Itoa n K = vbody Tryd.prog (vin Tryd.prog TO1_9 annTO1 3) TO1_9.looks (annTO1 39) 39 [.int .i64 n] [] (fun v _ => K v) := by kernel_rfl
theorem ok_strconv_Itoa : OK Tryd.prog 39 F_strconv_Itoa.spec := (vbody_ok (vin_ok TO1_9_ok annTO1 3) TO1_9_ok.looks _ _).ofF fun args m p R h hp => by
  unfold F_strconv_Itoa at h
  split at h
  · injection h with h; injection h with h1 h2; subst h1; subst h2
    exact ⟨rfl, (congrArg At (eq_strconv_Itoa _ _)).mp ⟨vc_strconv_Itoa _ hp⟩⟩
  · cases h
def TO1_10 : Tab := TO1_9.add 39 F_strconv_Itoa
theorem TO1_10_ok : TO1_10.Ok Tryd.prog := TO1_9_ok.add ok_strconv_Itoa
theorem eq_spec_miText (mw : Int) (mh : Int) (mc : List UInt8) (mu : Bool) (K : V → Prop) : VC_spec_miText mw mh mc mu K = vbody Tryd.prog (vin Tryd.prog TO1_10 annTO1 3) TO1_10.looks (annTO1 38) 38 [.agg [.int .i64 mw, .int .i64 mh, .str mc, .bool mu]] [] (fun v _ => K v) := by kernel_rfl
theorem ok_spec_miText : OK Tryd.prog 38 F_spec_miText.spec := (vbody_ok (vin_ok TO1_10_ok annTO1 3) TO1_10_ok.looks _ _).ofF fun args m p R h hp => by
  unfold F_spec_miText at h
  split at h
  · injection h with h; injection h with h1 h2; subst h1; subst h2
    exact ⟨rfl, (congrArg At (eq_spec_miText _ _ _ _ _)).mp ⟨vc_spec_miText _ _ _ _ hp⟩⟩
  · cases h
def TO1_11 : Tab := TO1_10.add 38 F_spec_miText
theorem TO1_11_ok : TO1_11.Ok Tryd.prog := TO1_10_ok.add ok_spec_miText
theorem eq_spec_MazeText (mw : Int) (mh : Int) (mc : List UInt8) (mu : Bool) (K : V → Prop) : VC_spec_MazeText mw mh mc mu K = vbody Tryd.prog (vin Tryd.prog TO1_11 annTO1 3) TO1_11.looks (annTO1 20) 20 [.agg [.int .i64 mw, .int .i64 mh, .str mc, .bool mu]] [] (fun v _ => K v) := by kernel_rfl
theorem ok_spec_MazeText : OK Tryd.prog 20 F_spec_MazeText.spec := (vbody_ok (vin_ok TO1_11_ok annTO1 3) TO1_11_ok.looks _ _).ofF fun args m p R h hp => by
  unfold F_spec_MazeText at h
  split at h
  · injection h with h; injection h with h1 h2; subst h1; subst h2
    exact ⟨rfl, (congrArg At (eq_spec_MazeText _ _ _ _ _)).mp ⟨vc_spec_MazeText _ _ _ _ hp⟩⟩
  · cases h
def TO1_12 : Tab := TO1_11.add 20 F_spec_MazeText
theorem TO1_12_ok : TO1_12.Ok Tryd.prog := TO1_11_ok.add ok_spec_MazeText
theorem eq_impl_MazeText (mw : Int) (mh : Int) (mc : List UInt8) (mu : Bool) (K : V → Prop) : VC_impl_MazeText mw mh mc mu K = vbody Tryd.prog (vin Tryd.prog TO1_12 annTO1 3) TO1_12.looks (annTO1 21) 21 [.agg [.int .i64 mw, .int .i64 mh, .str mc, .bool mu]] [] (fun v _ => K v) := by kernel_rfl
theorem ok_impl_MazeText : OK Tryd.prog 21 F_impl_MazeText.spec := (vbody_ok (vin_ok TO1_12_ok annTO1 3) TO1_12_ok.looks _ _).ofF fun args m p R h hp => by
  unfold F_impl_MazeText at h
  split at h
  · injection h with h; injection h with h1 h2; subst h1; subst h2
    exact ⟨rfl, (congrArg At (eq_impl_MazeText _ _ _ _ _)).mp ⟨vc_impl_MazeText _ _ _ _ hp⟩⟩
  · cases h
def TO1_13 : Tab := TO1_12.add 21 F_impl_MazeText
theorem TO1_13_ok : TO1_13.Ok Tryd.prog := TO1_12_ok.add ok_impl_MazeText
def TO1 : Tab := TO1_13
theorem TO1_ok : TO1.Ok Tryd.prog := TO1_13_ok
end Go.Proofs.YtkkpkfphfhcgoabDoor
