/- The contracts of this chapter. -/
import Derived.Test.YtioppaofihbmpabDoorWHLib
import Derived.Test.YtioppaofihbmpabDoorProg
import Derived.Test.YtioppaofihbmpabDoorWHPf
import Derived.KernelRfl
namespace Go.Proofs.YtioppaofihbmpabDoor
open Go Go.Vi
set_option linter.unusedVariables false
def annTWH : FuncId → Nat → St → Option Ann := fun f => if f = 50 then ann_spec_wmParse else if f = 66 then ann_spec_l1Split else if f = 67 then ann_spec_l1Read else if f = 30 then ann_spec_wmGood else (fun _ _ => none)
def TWH_0 : Tab := Tab.none
theorem TWH_0_ok : TWH_0.Ok Tryd.prog := Tab.none_ok
theorem eq_spec_l1In (n : Int) (lo : Int) (hi : Int) (K : V → Prop) : VC_spec_l1In n lo hi K = vbody Tryd.prog (vin Tryd.prog TWH_0 annTWH 3) TWH_0.looks (annTWH 43) 43 [.int .i64 n, .int .i64 lo, .int .i64 hi] [] (fun v _ => K v) := by kernel_rfl
theorem ok_spec_l1In : OK Tryd.prog 43 F_spec_l1In.spec := (vbody_ok (vin_ok TWH_0_ok annTWH 3) TWH_0_ok.looks _ _).ofF fun args m p R h hp => by
  unfold F_spec_l1In at h
  split at h
  · injection h with h; injection h with h1 h2; subst h1; subst h2
    exact ⟨rfl, (congrArg At (eq_spec_l1In _ _ _ _)).mp ⟨vc_spec_l1In _ _ _ hp⟩⟩
  · cases h
def TWH_1 : Tab := TWH_0.add 43 F_spec_l1In
theorem TWH_1_ok : TWH_1.Ok Tryd.prog := TWH_0_ok.add ok_spec_l1In
theorem eq_impl_within (n : Int) (lo : Int) (hi : Int) (K : V → Prop) : VC_impl_within n lo hi K = vbody Tryd.prog (vin Tryd.prog TWH_1 annTWH 3) TWH_1.looks (annTWH 63) 63 [.int .i64 n, .int .i64 lo, .int .i64 hi] [] (fun v _ => K v) := by kernel_rfl
theorem ok_impl_within : OK Tryd.prog 63 F_impl_within.spec := (vbody_ok (vin_ok TWH_1_ok annTWH 3) TWH_1_ok.looks _ _).ofF fun args m p R h hp => by
  unfold F_impl_within at h
  split at h
  · injection h with h; injection h with h1 h2; subst h1; subst h2
    exact ⟨rfl, (congrArg At (eq_impl_within _ _ _ _)).mp ⟨vc_impl_within _ _ _ hp⟩⟩
  · cases h
def TWH_2 : Tab := TWH_1.add 63 F_impl_within
theorem TWH_2_ok : TWH_2.Ok Tryd.prog := TWH_1_ok.add ok_impl_within
theorem eq_impl_digit (b : Int) (K : V → Prop) : VC_impl_digit b K = vbody Tryd.prog (vin Tryd.prog TWH_2 annTWH 3) TWH_2.looks (annTWH 52) 52 [.int .u8 b] [] (fun v _ => K v) := by kernel_rfl
theorem ok_impl_digit : OK Tryd.prog 52 F_impl_digit.spec := (vbody_ok (vin_ok TWH_2_ok annTWH 3) TWH_2_ok.looks _ _).ofF fun args m p R h hp => by
  unfold F_impl_digit at h
  split at h
  · injection h with h; injection h with h1 h2; subst h1; subst h2
    exact ⟨rfl, (congrArg At (eq_impl_digit _ _)).mp ⟨vc_impl_digit _ hp⟩⟩
  · cases h
def TWH_3 : Tab := TWH_2.add 52 F_impl_digit
theorem TWH_3_ok : TWH_3.Ok Tryd.prog := TWH_2_ok.add ok_impl_digit
theorem eq_spec_l1Num (n : Int) (K : V → Prop) : VC_spec_l1Num n K = vbody Tryd.prog (vin Tryd.prog TWH_3 annTWH 0) TWH_3.looks (annTWH 64) 64 [.int .i64 n] [] (fun v _ => K v) := by kernel_rfl
theorem ok_spec_l1Num : OK Tryd.prog 64 F_spec_l1Num.spec := (vbody_ok (vin_ok TWH_3_ok annTWH 0) TWH_3_ok.looks _ _).ofF fun args m p R h hp => by
  unfold F_spec_l1Num at h
  split at h
  · injection h with h; injection h with h1 h2; subst h1; subst h2
    exact ⟨rfl, (congrArg At (eq_spec_l1Num _ _)).mp ⟨vc_spec_l1Num _ hp⟩⟩
  · cases h
def TWH_4 : Tab := TWH_3.add 64 F_spec_l1Num
theorem TWH_4_ok : TWH_4.Ok Tryd.prog := TWH_3_ok.add ok_spec_l1Num
theorem eq_strconv_FormatInt (n : Int) (b : Int) (K : V → Prop) : VC_strconv_FormatInt n b K = vbody Tryd.prog (vin Tryd.prog TWH_4 annTWH 3) TWH_4.looks (annTWH 77) 77 [.int .i64 n, .int .i64 b] [] (fun v _ => K v) := by kernel_rfl
theorem ok_strconv_FormatInt : OK Tryd.prog 77 F_strconv_FormatInt.spec := (vbody_ok (vin_ok TWH_4_ok annTWH 3) TWH_4_ok.looks _ _).ofF fun args m p R h hp => by
  unfold F_strconv_FormatInt at h
  split at h
  · injection h with h; injection h with h1 h2; subst h1; subst h2
    exact ⟨rfl, (congrArg At (eq_strconv_FormatInt _ _ _)).mp ⟨vc_strconv_FormatInt _ _ hp⟩⟩
  · cases h
def TWH_5 : Tab := TWH_4.add 77 F_strconv_FormatInt
theorem TWH_5_ok : TWH_5.Ok Tryd.prog := TWH_4_ok.add ok_strconv_FormatInt
theorem eq_strconv_Itoa (n : Int) (K : V → Prop) : VC_strconv_Itoa n K = vbody Tryd.prog (vin Tryd.prog TWH_5 annTWH 3) TWH_5.looks (annTWH 49) 49 [.int .i64 n] [] (fun v _ => K v) := by kernel_rfl
theorem ok_strconv_Itoa : OK Tryd.prog 49 F_strconv_Itoa.spec := (vbody_ok (vin_ok TWH_5_ok annTWH 3) TWH_5_ok.looks _ _).ofF fun args m p R h hp => by
  unfold F_strconv_Itoa at h
  split at h
  · injection h with h; injection h with h1 h2; subst h1; subst h2
    exact ⟨rfl, (congrArg At (eq_strconv_Itoa _ _)).mp ⟨vc_strconv_Itoa _ hp⟩⟩
  · cases h
def TWH_6 : Tab := TWH_5.add 49 F_strconv_Itoa
theorem TWH_6_ok : TWH_6.Ok Tryd.prog := TWH_5_ok.add ok_strconv_Itoa
theorem eq_spec_l1Split (s : List UInt8) (b : Int) (K : V → List Blk → Prop) : VC_spec_l1Split s b K = vbody Tryd.prog (vin Tryd.prog TWH_6 annTWH 3) TWH_6.looks (annTWH 66) 66 [.str s, .int .u8 b] [] (K) := by kernel_rfl
theorem ok_spec_l1Split : OK Tryd.prog 66 F_spec_l1Split.spec := (vbody_ok (vin_ok TWH_6_ok annTWH 3) TWH_6_ok.looks _ _).ofG fun args m p R M h hp => by
  unfold F_spec_l1Split at h
  split at h
  · injection h with h; injection h with h1 h2; injection h2 with h2 h3; subst h1; subst h2; subst h3
    exact (congrArg At (eq_spec_l1Split _ _ _)).mp ⟨vc_spec_l1Split _ _ hp⟩
  · cases h
def TWH_7 : Tab := TWH_6.addG 66 F_spec_l1Split
theorem TWH_7_ok : TWH_7.Ok Tryd.prog := TWH_6_ok.addG ok_spec_l1Split
theorem eq_spec_l1Read (s : List UInt8) (K : V → Prop) : VC_spec_l1Read s K = vbody Tryd.prog (vin Tryd.prog TWH_7 annTWH 3) TWH_7.looks (annTWH 67) 67 [.str s] [] (fun v _ => K v) := by kernel_rfl
theorem ok_spec_l1Read : OK Tryd.prog 67 F_spec_l1Read.spec := (vbody_ok (vin_ok TWH_7_ok annTWH 3) TWH_7_ok.looks _ _).ofF fun args m p R h hp => by
  unfold F_spec_l1Read at h
  split at h
  · injection h with h; injection h with h1 h2; subst h1; subst h2
    exact ⟨rfl, (congrArg At (eq_spec_l1Read _ _)).mp ⟨vc_spec_l1Read _ hp⟩⟩
  · cases h
def TWH_8 : Tab := TWH_7.add 67 F_spec_l1Read
theorem TWH_8_ok : TWH_8.Ok Tryd.prog := TWH_7_ok.add ok_spec_l1Read
theorem eq_spec_wmGood (mw : Int) (mh : Int) (mr : List UInt8) (mn : List UInt8) (mx : Int) (my : Int) (md : Int) (K : V → Prop) : VC_spec_wmGood mw mh mr mn mx my md K = vbody Tryd.prog (vin Tryd.prog TWH_8 annTWH 3) TWH_8.looks (annTWH 30) 30 [.agg [.int .i64 mw, .int .i64 mh, .str mr, .str mn, .int .i64 mx, .int .i64 my, .int .i64 md]] [] (fun v _ => K v) := by kernel_rfl
theorem ok_spec_wmGood : OK Tryd.prog 30 F_spec_wmGood.spec := (vbody_ok (vin_ok TWH_8_ok annTWH 3) TWH_8_ok.looks _ _).ofF fun args m p R h hp => by
  unfold F_spec_wmGood at h
  split at h
  · injection h with h; injection h with h1 h2; subst h1; subst h2
    exact ⟨rfl, (congrArg At (eq_spec_wmGood _ _ _ _ _ _ _ _)).mp ⟨vc_spec_wmGood _ _ _ _ _ _ _ hp⟩⟩
  · cases h
def TWH_9 : Tab := TWH_8.add 30 F_spec_wmGood
theorem TWH_9_ok : TWH_9.Ok Tryd.prog := TWH_8_ok.add ok_spec_wmGood
theorem ok_strings_Trim : OK Tryd.prog 71 F_strings_Trim.spec := Go.Proofs.Tryd.libTrim
def TWH_10 : Tab := TWH_9.add 71 F_strings_Trim
theorem TWH_10_ok : TWH_10.Ok Tryd.prog := TWH_9_ok.add ok_strings_Trim
theorem eq_impl_isGrid (a : Int) (b : Int) (K : V → Prop) : VC_impl_isGrid a b K = vbody Tryd.prog (vin Tryd.prog TWH_10 annTWH 3) TWH_10.looks (annTWH 54) 54 [.int .i64 a, .int .i64 b] [] (fun v _ => K v) := by kernel_rfl
theorem ok_impl_isGrid : OK Tryd.prog 54 F_impl_isGrid.spec := (vbody_ok (vin_ok TWH_10_ok annTWH 3) TWH_10_ok.looks _ _).ofF fun args m p R h hp => by
  unfold F_impl_isGrid at h
  split at h
  · injection h with h; injection h with h1 h2; subst h1; subst h2
    exact ⟨rfl, (congrArg At (eq_impl_isGrid _ _ _)).mp ⟨vc_impl_isGrid _ _ hp⟩⟩
  · cases h
def TWH_11 : Tab := TWH_10.add 54 F_impl_isGrid
theorem TWH_11_ok : TWH_11.Ok Tryd.prog := TWH_10_ok.add ok_impl_isGrid
theorem eq_impl_hasNode (mw : Int) (mh : Int) (mr : List UInt8) (mn : List UInt8) (mx : Int) (my : Int) (md : Int) (x : Int) (y : Int) (K : V → Prop) : VC_impl_hasNode mw mh mr mn mx my md x y K = vbody Tryd.prog (vin Tryd.prog TWH_11 annTWH 3) TWH_11.looks (annTWH 45) 45 [.agg [.int .i64 mw, .int .i64 mh, .str mr, .str mn, .int .i64 mx, .int .i64 my, .int .i64 md], .int .i64 x, .int .i64 y] [] (fun v _ => K v) := by kernel_rfl
theorem ok_impl_hasNode : OK Tryd.prog 45 F_impl_hasNode.spec := (vbody_ok (vin_ok TWH_11_ok annTWH 3) TWH_11_ok.looks _ _).ofF fun args m p R h hp => by
  unfold F_impl_hasNode at h
  split at h
  · injection h with h; injection h with h1 h2; subst h1; subst h2
    exact ⟨rfl, (congrArg At (eq_impl_hasNode _ _ _ _ _ _ _ _ _ _)).mp ⟨vc_impl_hasNode _ _ _ _ _ _ _ _ _ hp⟩⟩
  · cases h
def TWH_12 : Tab := TWH_11.add 45 F_impl_hasNode
theorem TWH_12_ok : TWH_12.Ok Tryd.prog := TWH_11_ok.add ok_impl_hasNode
theorem eq_impl_isWay (d : Int) (K : V → Prop) : VC_impl_isWay d K = vbody Tryd.prog (vin Tryd.prog TWH_12 annTWH 3) TWH_12.looks (annTWH 55) 55 [.int .i64 d] [] (fun v _ => K v) := by kernel_rfl
theorem ok_impl_isWay : OK Tryd.prog 55 F_impl_isWay.spec := (vbody_ok (vin_ok TWH_12_ok annTWH 3) TWH_12_ok.looks _ _).ofF fun args m p R h hp => by
  unfold F_impl_isWay at h
  split at h
  · injection h with h; injection h with h1 h2; subst h1; subst h2
    exact ⟨rfl, (congrArg At (eq_impl_isWay _ _)).mp ⟨vc_impl_isWay _ hp⟩⟩
  · cases h
def TWH_13 : Tab := TWH_12.add 55 F_impl_isWay
theorem TWH_13_ok : TWH_13.Ok Tryd.prog := TWH_12_ok.add ok_impl_isWay
theorem eq_impl_areLines (s : List UInt8) (n : Int) (K : V → Prop) : VC_impl_areLines s n K = vbody Tryd.prog (vin Tryd.prog TWH_13 annTWH 3) TWH_13.looks (annTWH 56) 56 [.str s, .int .i64 n] [] (fun v _ => K v) := by kernel_rfl
theorem ok_impl_areLines : OK Tryd.prog 56 F_impl_areLines.spec := (vbody_ok (vin_ok TWH_13_ok annTWH 3) TWH_13_ok.looks _ _).ofF fun args m p R h hp => by
  unfold F_impl_areLines at h
  split at h
  · injection h with h; injection h with h1 h2; subst h1; subst h2
    exact ⟨rfl, (congrArg At (eq_impl_areLines _ _ _)).mp ⟨vc_impl_areLines _ _ hp⟩⟩
  · cases h
def TWH_14 : Tab := TWH_13.add 56 F_impl_areLines
theorem TWH_14_ok : TWH_14.Ok Tryd.prog := TWH_13_ok.add ok_impl_areLines
theorem eq_impl_IsWorm (mw : Int) (mh : Int) (mr : List UInt8) (mn : List UInt8) (mx : Int) (my : Int) (md : Int) (K : V → Prop) : VC_impl_IsWorm mw mh mr mn mx my md K = vbody Tryd.prog (vin Tryd.prog TWH_14 annTWH 3) TWH_14.looks (annTWH 33) 33 [.agg [.int .i64 mw, .int .i64 mh, .str mr, .str mn, .int .i64 mx, .int .i64 my, .int .i64 md]] [] (fun v _ => K v) := by kernel_rfl
theorem ok_impl_IsWorm : OK Tryd.prog 33 F_impl_IsWorm.spec := (vbody_ok (vin_ok TWH_14_ok annTWH 3) TWH_14_ok.looks _ _).ofF fun args m p R h hp => by
  unfold F_impl_IsWorm at h
  split at h
  · injection h with h; injection h with h1 h2; subst h1; subst h2
    exact ⟨rfl, (congrArg At (eq_impl_IsWorm _ _ _ _ _ _ _ _)).mp ⟨vc_impl_IsWorm _ _ _ _ _ _ _ hp⟩⟩
  · cases h
def TWH_15 : Tab := TWH_14.add 33 F_impl_IsWorm
theorem TWH_15_ok : TWH_15.Ok Tryd.prog := TWH_14_ok.add ok_impl_IsWorm
theorem eq_laws_szWorm (mw : Int) (mh : Int) (mr : List UInt8) (mn : List UInt8) (mx : Int) (my : Int) (md : Int) (left : Int) (K : V → Prop) : VC_laws_szWorm mw mh mr mn mx my md left K = vbody Tryd.prog (vin Tryd.prog TWH_15 annTWH 3) TWH_15.looks (annTWH 9) 9 [.agg [.int .i64 mw, .int .i64 mh, .str mr, .str mn, .int .i64 mx, .int .i64 my, .int .i64 md], .int .i64 left] [] (fun v _ => K v) := by kernel_rfl
theorem ok_laws_szWorm : OK Tryd.prog 9 F_laws_szWorm.spec := (vbody_ok (vin_ok TWH_15_ok annTWH 3) TWH_15_ok.looks _ _).ofF fun args m p R h hp => by
  unfold F_laws_szWorm at h
  split at h
  · injection h with h; injection h with h1 h2; subst h1; subst h2
    exact ⟨rfl, (congrArg At (eq_laws_szWorm _ _ _ _ _ _ _ _ _)).mp ⟨vc_laws_szWorm _ _ _ _ _ _ _ _ hp⟩⟩
  · cases h
def TWH_16 : Tab := TWH_15.add 9 F_laws_szWorm
theorem TWH_16_ok : TWH_16.Ok Tryd.prog := TWH_15_ok.add ok_laws_szWorm
theorem eq_laws_toWorm (mw : Int) (mh : Int) (mr : List UInt8) (mn : List UInt8) (mx : Int) (my : Int) (md : Int) (K : V → Prop) : VC_laws_toWorm mw mh mr mn mx my md K = vbody Tryd.prog (vin Tryd.prog TWH_16 annTWH 3) TWH_16.looks (annTWH 11) 11 [.agg [.int .i64 mw, .int .i64 mh, .str mr, .str mn, .int .i64 mx, .int .i64 my, .int .i64 md]] [] (fun v _ => K v) := by kernel_rfl
theorem ok_laws_toWorm : OK Tryd.prog 11 F_laws_toWorm.spec := (vbody_ok (vin_ok TWH_16_ok annTWH 3) TWH_16_ok.looks _ _).ofF fun args m p R h hp => by
  unfold F_laws_toWorm at h
  split at h
  · injection h with h; injection h with h1 h2; subst h1; subst h2
    exact ⟨rfl, (congrArg At (eq_laws_toWorm _ _ _ _ _ _ _ _)).mp ⟨vc_laws_toWorm _ _ _ _ _ _ _ hp⟩⟩
  · cases h
def TWH_17 : Tab := TWH_16.add 11 F_laws_toWorm
theorem TWH_17_ok : TWH_17.Ok Tryd.prog := TWH_16_ok.add ok_laws_toWorm
theorem eq_laws_eqWorm (aw : Int) (ah : Int) (ar : List UInt8) (an : List UInt8) (ax : Int) (ay : Int) (ad : Int) (bw : Int) (bh : Int) (br : List UInt8) (bn : List UInt8) (bx : Int) (by_ : Int) (bd : Int) (K : V → Prop) : VC_laws_eqWorm aw ah ar an ax ay ad bw bh br bn bx by_ bd K = vbody Tryd.prog (vin Tryd.prog TWH_17 annTWH 3) TWH_17.looks (annTWH 25) 25 [.agg [.int .i64 aw, .int .i64 ah, .str ar, .str an, .int .i64 ax, .int .i64 ay, .int .i64 ad], .agg [.int .i64 bw, .int .i64 bh, .str br, .str bn, .int .i64 bx, .int .i64 by_, .int .i64 bd]] [] (fun v _ => K v) := by kernel_rfl
theorem ok_laws_eqWorm : OK Tryd.prog 25 F_laws_eqWorm.spec := (vbody_ok (vin_ok TWH_17_ok annTWH 3) TWH_17_ok.looks _ _).ofF fun args m p R h hp => by
  unfold F_laws_eqWorm at h
  split at h
  · injection h with h; injection h with h1 h2; subst h1; subst h2
    exact ⟨rfl, (congrArg At (eq_laws_eqWorm _ _ _ _ _ _ _ _ _ _ _ _ _ _ _)).mp ⟨vc_laws_eqWorm _ _ _ _ _ _ _ _ _ _ _ _ _ _ hp⟩⟩
  · cases h
def TWH_18 : Tab := TWH_17.add 25 F_laws_eqWorm
theorem TWH_18_ok : TWH_18.Ok Tryd.prog := TWH_17_ok.add ok_laws_eqWorm
theorem eq_spec_wmText (mw : Int) (mh : Int) (mr : List UInt8) (mn : List UInt8) (mx : Int) (my : Int) (md : Int) (K : V → Prop) : VC_spec_wmText mw mh mr mn mx my md K = vbody Tryd.prog (vin Tryd.prog TWH_18 annTWH 3) TWH_18.looks (annTWH 48) 48 [.agg [.int .i64 mw, .int .i64 mh, .str mr, .str mn, .int .i64 mx, .int .i64 my, .int .i64 md]] [] (fun v _ => K v) := by kernel_rfl
theorem ok_spec_wmText : OK Tryd.prog 48 F_spec_wmText.spec := (vbody_ok (vin_ok TWH_18_ok annTWH 3) TWH_18_ok.looks _ _).ofF fun args m p R h hp => by
  unfold F_spec_wmText at h
  split at h
  · injection h with h; injection h with h1 h2; subst h1; subst h2
    exact ⟨rfl, (congrArg At (eq_spec_wmText _ _ _ _ _ _ _ _)).mp ⟨vc_spec_wmText _ _ _ _ _ _ _ hp⟩⟩
  · cases h
def TWH_19 : Tab := TWH_18.add 48 F_spec_wmText
theorem TWH_19_ok : TWH_19.Ok Tryd.prog := TWH_18_ok.add ok_spec_wmText
theorem eq_spec_WormText (mw : Int) (mh : Int) (mr : List UInt8) (mn : List UInt8) (mx : Int) (my : Int) (md : Int) (K : V → Prop) : VC_spec_WormText mw mh mr mn mx my md K = vbody Tryd.prog (vin Tryd.prog TWH_19 annTWH 3) TWH_19.looks (annTWH 26) 26 [.agg [.int .i64 mw, .int .i64 mh, .str mr, .str mn, .int .i64 mx, .int .i64 my, .int .i64 md]] [] (fun v _ => K v) := by kernel_rfl
theorem ok_spec_WormText : OK Tryd.prog 26 F_spec_WormText.spec := (vbody_ok (vin_ok TWH_19_ok annTWH 3) TWH_19_ok.looks _ _).ofF fun args m p R h hp => by
  unfold F_spec_WormText at h
  split at h
  · injection h with h; injection h with h1 h2; subst h1; subst h2
    exact ⟨rfl, (congrArg At (eq_spec_WormText _ _ _ _ _ _ _ _)).mp ⟨vc_spec_WormText _ _ _ _ _ _ _ hp⟩⟩
  · cases h
def TWH_20 : Tab := TWH_19.add 26 F_spec_WormText
theorem TWH_20_ok : TWH_20.Ok Tryd.prog := TWH_19_ok.add ok_spec_WormText
theorem eq_impl_WormText (mw : Int) (mh : Int) (mr : List UInt8) (mn : List UInt8) (mx : Int) (my : Int) (md : Int) (K : V → Prop) : VC_impl_WormText mw mh mr mn mx my md K = vbody Tryd.prog (vin Tryd.prog TWH_20 annTWH 3) TWH_20.looks (annTWH 27) 27 [.agg [.int .i64 mw, .int .i64 mh, .str mr, .str mn, .int .i64 mx, .int .i64 my, .int .i64 md]] [] (fun v _ => K v) := by kernel_rfl
theorem ok_impl_WormText : OK Tryd.prog 27 F_impl_WormText.spec := (vbody_ok (vin_ok TWH_20_ok annTWH 3) TWH_20_ok.looks _ _).ofF fun args m p R h hp => by
  unfold F_impl_WormText at h
  split at h
  · injection h with h; injection h with h1 h2; subst h1; subst h2
    exact ⟨rfl, (congrArg At (eq_impl_WormText _ _ _ _ _ _ _ _)).mp ⟨vc_impl_WormText _ _ _ _ _ _ _ hp⟩⟩
  · cases h
def TWH_21 : Tab := TWH_20.add 27 F_impl_WormText
theorem TWH_21_ok : TWH_21.Ok Tryd.prog := TWH_20_ok.add ok_impl_WormText
theorem ok_strings_genSplit : OK Tryd.prog 68 F_strings_genSplit.spec := Go.Proofs.Tryd.libGenSplit
def TWH_22 : Tab := TWH_21.addG 68 F_strings_genSplit
theorem TWH_22_ok : TWH_22.Ok Tryd.prog := TWH_21_ok.addG ok_strings_genSplit
theorem eq_spec_ParseWorm (s : List UInt8) (K : V → Prop) : VC_spec_ParseWorm s K = vbody Tryd.prog (vin Tryd.prog TWH_22 annTWH 4) TWH_22.looks (annTWH 28) 28 [.str s] [] (fun v _ => K v) := by kernel_rfl
theorem ok_spec_ParseWorm : OK Tryd.prog 28 F_spec_ParseWorm.spec := (vbody_ok (vin_ok TWH_22_ok annTWH 4) TWH_22_ok.looks _ _).ofF fun args m p R h hp => by
  unfold F_spec_ParseWorm at h
  split at h
  · injection h with h; injection h with h1 h2; subst h1; subst h2
    exact ⟨rfl, (congrArg At (eq_spec_ParseWorm _ _)).mp ⟨vc_spec_ParseWorm _ hp⟩⟩
  · cases h
def TWH_23 : Tab := TWH_22.add 28 F_spec_ParseWorm
theorem TWH_23_ok : TWH_23.Ok Tryd.prog := TWH_22_ok.add ok_spec_ParseWorm
theorem eq_impl_ParseWorm (s : List UInt8) (K : V → Prop) : VC_impl_ParseWorm s K = vbody Tryd.prog (vin Tryd.prog TWH_23 annTWH 4) TWH_23.looks (annTWH 29) 29 [.str s] [] (fun v _ => K v) := by kernel_rfl
theorem ok_impl_ParseWorm : OK Tryd.prog 29 F_impl_ParseWorm.spec := (vbody_ok (vin_ok TWH_23_ok annTWH 4) TWH_23_ok.looks _ _).ofF fun args m p R h hp => by
  unfold F_impl_ParseWorm at h
  split at h
  · injection h with h; injection h with h1 h2; subst h1; subst h2
    exact ⟨rfl, (congrArg At (eq_impl_ParseWorm _ _)).mp ⟨vc_impl_ParseWorm _ hp⟩⟩
  · cases h
def TWH_24 : Tab := TWH_23.add 29 F_impl_ParseWorm
theorem TWH_24_ok : TWH_24.Ok Tryd.prog := TWH_23_ok.add ok_impl_ParseWorm
def TWH : Tab := TWH_24
theorem TWH_ok : TWH.Ok Tryd.prog := TWH_24_ok
end Go.Proofs.YtioppaofihbmpabDoor
