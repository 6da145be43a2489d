/- The contracts of this chapter. -/
import Derived.Test.YtkkpkfphfhcgoaaDoorA1Lib
import Derived.Test.YtkkpkfphfhcgoaaDoorProg
import Derived.Test.YtkkpkfphfhcgoaaDoorD1Pf
import Derived.KernelRfl
namespace Go.Proofs.YtkkpkfphfhcgoaaDoor
open Go Go.Vi
set_option linter.unusedVariables false
def annTD1 : FuncId → Nat → St → Option Ann := fun f => if f = 9 then ann_laws_FnExactMazeAfterBall else if f = 47 then ann_spec_miGood else if f = 69 then ann_impl_roll_goOut else if f = 62 then ann_spec_miRun else if f = 43 then ann_spec_LongestTrack else if f = 44 then ann_impl_LongestTrack else if f = 45 then ann_spec_BallsUntilSame else if f = 46 then ann_impl_BallsUntilSame else (fun _ _ => none)
def TD1_0 : Tab := Tab.none
theorem TD1_0_ok : TD1_0.Ok Tryd.prog := Tab.none_ok
theorem eq_spec_l1In (n : Int) (lo : Int) (hi : Int) (K : V → Prop) : VC_spec_l1In n lo hi K = vbody Tryd.prog (vin Tryd.prog TD1_0 annTD1 3) TD1_0.looks (annTD1 71) 71 [.int .i64 n, .int .i64 lo, .int .i64 hi] [] (fun v _ => K v) := by kernel_rfl
theorem ok_spec_l1In : OK Tryd.prog 71 F_spec_l1In.spec := (vbody_ok (vin_ok TD1_0_ok annTD1 3) TD1_0_ok.looks _ _).ofF fun args m p R h hp => by
  unfold F_spec_l1In at h
  split at h
  · injection h with h; injection h with h1 h2; subst h1; subst h2
    exact ⟨rfl, (congrArg At (eq_spec_l1In _ _ _ _)).mp ⟨vc_spec_l1In _ _ _ hp⟩⟩
  · cases h
def TD1_1 : Tab := TD1_0.add 71 F_spec_l1In
theorem TD1_1_ok : TD1_1.Ok Tryd.prog := TD1_0_ok.add ok_spec_l1In
theorem eq_impl_within (n : Int) (lo : Int) (hi : Int) (K : V → Prop) : VC_impl_within n lo hi K = vbody Tryd.prog (vin Tryd.prog TD1_1 annTD1 3) TD1_1.looks (annTD1 72) 72 [.int .i64 n, .int .i64 lo, .int .i64 hi] [] (fun v _ => K v) := by kernel_rfl
theorem ok_impl_within : OK Tryd.prog 72 F_impl_within.spec := (vbody_ok (vin_ok TD1_1_ok annTD1 3) TD1_1_ok.looks _ _).ofF fun args m p R h hp => by
  unfold F_impl_within at h
  split at h
  · injection h with h; injection h with h1 h2; subst h1; subst h2
    exact ⟨rfl, (congrArg At (eq_impl_within _ _ _ _)).mp ⟨vc_impl_within _ _ _ hp⟩⟩
  · cases h
def TD1_2 : Tab := TD1_1.add 72 F_impl_within
theorem TD1_2_ok : TD1_2.Ok Tryd.prog := TD1_1_ok.add ok_impl_within
theorem eq_spec_miGood (mw : Int) (mh : Int) (mc : List UInt8) (mu : Bool) (K : V → Prop) : VC_spec_miGood mw mh mc mu K = vbody Tryd.prog (vin Tryd.prog TD1_2 annTD1 3) TD1_2.looks (annTD1 47) 47 [.agg [.int .i64 mw, .int .i64 mh, .str mc, .bool mu]] [] (fun v _ => K v) := by kernel_rfl
theorem ok_spec_miGood : OK Tryd.prog 47 F_spec_miGood.spec := (vbody_ok (vin_ok TD1_2_ok annTD1 3) TD1_2_ok.looks _ _).ofF fun args m p R h hp => by
  unfold F_spec_miGood at h
  split at h
  · injection h with h; injection h with h1 h2; subst h1; subst h2
    exact ⟨rfl, (congrArg At (eq_spec_miGood _ _ _ _ _)).mp ⟨vc_spec_miGood _ _ _ _ hp⟩⟩
  · cases h
def TD1_3 : Tab := TD1_2.add 47 F_spec_miGood
theorem TD1_3_ok : TD1_3.Ok Tryd.prog := TD1_2_ok.add ok_spec_miGood
theorem ok_strings_Trim : OK Tryd.prog 49 F_strings_Trim.spec := Go.Proofs.Tryd.libTrim
def TD1_4 : Tab := TD1_3.add 49 F_strings_Trim
theorem TD1_4_ok : TD1_4.Ok Tryd.prog := TD1_3_ok.add ok_strings_Trim
theorem eq_impl_IsMaze (mw : Int) (mh : Int) (mc : List UInt8) (mu : Bool) (K : V → Prop) : VC_impl_IsMaze mw mh mc mu K = vbody Tryd.prog (vin Tryd.prog TD1_4 annTD1 3) TD1_4.looks (annTD1 18) 18 [.agg [.int .i64 mw, .int .i64 mh, .str mc, .bool mu]] [] (fun v _ => K v) := by kernel_rfl
theorem ok_impl_IsMaze : OK Tryd.prog 18 F_impl_IsMaze.spec := (vbody_ok (vin_ok TD1_4_ok annTD1 3) TD1_4_ok.looks _ _).ofF fun args m p R h hp => by
  unfold F_impl_IsMaze at h
  split at h
  · injection h with h; injection h with h1 h2; subst h1; subst h2
    exact ⟨rfl, (congrArg At (eq_impl_IsMaze _ _ _ _ _)).mp ⟨vc_impl_IsMaze _ _ _ _ hp⟩⟩
  · cases h
def TD1_5 : Tab := TD1_4.add 18 F_impl_IsMaze
theorem TD1_5_ok : TD1_5.Ok Tryd.prog := TD1_4_ok.add ok_impl_IsMaze
theorem eq_laws_szMaze (mw : Int) (mh : Int) (mc : List UInt8) (mu : Bool) (left : Int) (K : V → Prop) : VC_laws_szMaze mw mh mc mu left K = vbody Tryd.prog (vin Tryd.prog TD1_5 annTD1 3) TD1_5.looks (annTD1 15) 15 [.agg [.int .i64 mw, .int .i64 mh, .str mc, .bool mu], .int .i64 left] [] (fun v _ => K v) := by kernel_rfl
theorem ok_laws_szMaze : OK Tryd.prog 15 F_laws_szMaze.spec := (vbody_ok (vin_ok TD1_5_ok annTD1 3) TD1_5_ok.looks _ _).ofF fun args m p R h hp => by
  unfold F_laws_szMaze at h
  split at h
  · injection h with h; injection h with h1 h2; subst h1; subst h2
    exact ⟨rfl, (congrArg At (eq_laws_szMaze _ _ _ _ _ _)).mp ⟨vc_laws_szMaze _ _ _ _ _ hp⟩⟩
  · cases h
def TD1_6 : Tab := TD1_5.add 15 F_laws_szMaze
theorem TD1_6_ok : TD1_6.Ok Tryd.prog := TD1_5_ok.add ok_laws_szMaze
theorem eq_laws_toMaze (mw : Int) (mh : Int) (mc : List UInt8) (mu : Bool) (K : V → Prop) : VC_laws_toMaze mw mh mc mu K = vbody Tryd.prog (vin Tryd.prog TD1_6 annTD1 3) TD1_6.looks (annTD1 17) 17 [.agg [.int .i64 mw, .int .i64 mh, .str mc, .bool mu]] [] (fun v _ => K v) := by kernel_rfl
theorem ok_laws_toMaze : OK Tryd.prog 17 F_laws_toMaze.spec := (vbody_ok (vin_ok TD1_6_ok annTD1 3) TD1_6_ok.looks _ _).ofF fun args m p R h hp => by
  unfold F_laws_toMaze at h
  split at h
  · injection h with h; injection h with h1 h2; subst h1; subst h2
    exact ⟨rfl, (congrArg At (eq_laws_toMaze _ _ _ _ _)).mp ⟨vc_laws_toMaze _ _ _ _ hp⟩⟩
  · cases h
def TD1_7 : Tab := TD1_6.add 17 F_laws_toMaze
theorem TD1_7_ok : TD1_7.Ok Tryd.prog := TD1_6_ok.add ok_laws_toMaze
theorem eq_laws_toBall (bx : Int) (by_ : Int) (bd : Int) (K : V → Prop) : VC_laws_toBall bx by_ bd K = vbody Tryd.prog (vin Tryd.prog TD1_7 annTD1 3) TD1_7.looks (annTD1 20) 20 [.agg [.int .i64 bx, .int .i64 by_, .int .i64 bd]] [] (fun v _ => K v) := by kernel_rfl
theorem ok_laws_toBall : OK Tryd.prog 20 F_laws_toBall.spec := (vbody_ok (vin_ok TD1_7_ok annTD1 3) TD1_7_ok.looks _ _).ofF fun args m p R h hp => by
  unfold F_laws_toBall at h
  split at h
  · injection h with h; injection h with h1 h2; subst h1; subst h2
    exact ⟨rfl, (congrArg At (eq_laws_toBall _ _ _ _)).mp ⟨vc_laws_toBall _ _ _ hp⟩⟩
  · cases h
def TD1_8 : Tab := TD1_7.add 20 F_laws_toBall
theorem TD1_8_ok : TD1_8.Ok Tryd.prog := TD1_7_ok.add ok_laws_toBall
theorem eq_laws_eqMaze (aw : Int) (ah : Int) (ac : List UInt8) (au : Bool) (bw : Int) (bh : Int) (bc : List UInt8) (bu : Bool) (K : V → Prop) : VC_laws_eqMaze aw ah ac au bw bh bc bu K = vbody Tryd.prog (vin Tryd.prog TD1_8 annTD1 3) TD1_8.looks (annTD1 26) 26 [.agg [.int .i64 aw, .int .i64 ah, .str ac, .bool au], .agg [.int .i64 bw, .int .i64 bh, .str bc, .bool bu]] [] (fun v _ => K v) := by kernel_rfl
theorem ok_laws_eqMaze : OK Tryd.prog 26 F_laws_eqMaze.spec := (vbody_ok (vin_ok TD1_8_ok annTD1 3) TD1_8_ok.looks _ _).ofF fun args m p R h hp => by
  unfold F_laws_eqMaze at h
  split at h
  · injection h with h; injection h with h1 h2; subst h1; subst h2
    exact ⟨rfl, (congrArg At (eq_laws_eqMaze _ _ _ _ _ _ _ _ _)).mp ⟨vc_laws_eqMaze _ _ _ _ _ _ _ _ hp⟩⟩
  · cases h
def TD1_9 : Tab := TD1_8.add 26 F_laws_eqMaze
theorem TD1_9_ok : TD1_9.Ok Tryd.prog := TD1_8_ok.add ok_laws_eqMaze
theorem eq_laws_eqBall (ax : Int) (ay : Int) (ad : Int) (bx : Int) (by_ : Int) (bd : Int) (K : V → Prop) : VC_laws_eqBall ax ay ad bx by_ bd K = vbody Tryd.prog (vin Tryd.prog TD1_9 annTD1 3) TD1_9.looks (annTD1 27) 27 [.agg [.int .i64 ax, .int .i64 ay, .int .i64 ad], .agg [.int .i64 bx, .int .i64 by_, .int .i64 bd]] [] (fun v _ => K v) := by kernel_rfl
theorem ok_laws_eqBall : OK Tryd.prog 27 F_laws_eqBall.spec := (vbody_ok (vin_ok TD1_9_ok annTD1 3) TD1_9_ok.looks _ _).ofF fun args m p R h hp => by
  unfold F_laws_eqBall at h
  split at h
  · injection h with h; injection h with h1 h2; subst h1; subst h2
    exact ⟨rfl, (congrArg At (eq_laws_eqBall _ _ _ _ _ _ _)).mp ⟨vc_laws_eqBall _ _ _ _ _ _ hp⟩⟩
  · cases h
def TD1_10 : Tab := TD1_9.add 27 F_laws_eqBall
theorem TD1_10_ok : TD1_10.Ok Tryd.prog := TD1_9_ok.add ok_laws_eqBall
theorem eq_spec_miBall (mw : Int) (mh : Int) (mc : List UInt8) (mu : Bool) (bx : Int) (by_ : Int) (bd : Int) (K : V → Prop) : VC_spec_miBall mw mh mc mu bx by_ bd K = vbody Tryd.prog (vin Tryd.prog TD1_10 annTD1 3) TD1_10.looks (annTD1 50) 50 [.agg [.int .i64 mw, .int .i64 mh, .str mc, .bool mu], .agg [.int .i64 bx, .int .i64 by_, .int .i64 bd]] [] (fun v _ => K v) := by kernel_rfl
theorem ok_spec_miBall : OK Tryd.prog 50 F_spec_miBall.spec := (vbody_ok (vin_ok TD1_10_ok annTD1 3) TD1_10_ok.looks _ _).ofF fun args m p R h hp => by
  unfold F_spec_miBall at h
  split at h
  · injection h with h; injection h with h1 h2; subst h1; subst h2
    exact ⟨rfl, (congrArg At (eq_spec_miBall _ _ _ _ _ _ _ _)).mp ⟨vc_spec_miBall _ _ _ _ _ _ _ hp⟩⟩
  · cases h
def TD1_11 : Tab := TD1_10.add 50 F_spec_miBall
theorem TD1_11_ok : TD1_11.Ok Tryd.prog := TD1_10_ok.add ok_spec_miBall
theorem eq_impl_IsBall (mw : Int) (mh : Int) (mc : List UInt8) (mu : Bool) (bx : Int) (by_ : Int) (bd : Int) (K : V → Prop) : VC_impl_IsBall mw mh mc mu bx by_ bd K = vbody Tryd.prog (vin Tryd.prog TD1_11 annTD1 3) TD1_11.looks (annTD1 21) 21 [.agg [.int .i64 mw, .int .i64 mh, .str mc, .bool mu], .agg [.int .i64 bx, .int .i64 by_, .int .i64 bd]] [] (fun v _ => K v) := by kernel_rfl
theorem ok_impl_IsBall : OK Tryd.prog 21 F_impl_IsBall.spec := (vbody_ok (vin_ok TD1_11_ok annTD1 3) TD1_11_ok.looks _ _).ofF fun args m p R h hp => by
  unfold F_impl_IsBall at h
  split at h
  · injection h with h; injection h with h1 h2; subst h1; subst h2
    exact ⟨rfl, (congrArg At (eq_impl_IsBall _ _ _ _ _ _ _ _)).mp ⟨vc_impl_IsBall _ _ _ _ _ _ _ hp⟩⟩
  · cases h
def TD1_12 : Tab := TD1_11.add 21 F_impl_IsBall
theorem TD1_12_ok : TD1_12.Ok Tryd.prog := TD1_11_ok.add ok_impl_IsBall
theorem eq_spec_miEntry (mw : Int) (mh : Int) (mc : List UInt8) (mu : Bool) (k : Int) (K : V → Prop) : VC_spec_miEntry mw mh mc mu k K = vbody Tryd.prog (vin Tryd.prog TD1_12 annTD1 3) TD1_12.looks (annTD1 59) 59 [.agg [.int .i64 mw, .int .i64 mh, .str mc, .bool mu], .int .i64 k] [] (fun v _ => K v) := by kernel_rfl
theorem ok_spec_miEntry : OK Tryd.prog 59 F_spec_miEntry.spec := (vbody_ok (vin_ok TD1_12_ok annTD1 3) TD1_12_ok.looks _ _).ofF fun args m p R h hp => by
  unfold F_spec_miEntry at h
  split at h
  · injection h with h; injection h with h1 h2; subst h1; subst h2
    exact ⟨rfl, (congrArg At (eq_spec_miEntry _ _ _ _ _ _)).mp ⟨vc_spec_miEntry _ _ _ _ _ hp⟩⟩
  · cases h
def TD1_13 : Tab := TD1_12.add 59 F_spec_miEntry
theorem TD1_13_ok : TD1_13.Ok Tryd.prog := TD1_12_ok.add ok_spec_miEntry
theorem eq_impl_entry (mw : Int) (mh : Int) (mc : List UInt8) (mu : Bool) (k : Int) (K : V → Prop) : VC_impl_entry mw mh mc mu k K = vbody Tryd.prog (vin Tryd.prog TD1_13 annTD1 3) TD1_13.looks (annTD1 61) 61 [.agg [.int .i64 mw, .int .i64 mh, .str mc, .bool mu], .int .i64 k] [] (fun v _ => K v) := by kernel_rfl
theorem ok_impl_entry : OK Tryd.prog 61 F_impl_entry.spec := (vbody_ok (vin_ok TD1_13_ok annTD1 3) TD1_13_ok.looks _ _).ofF fun args m p R h hp => by
  unfold F_impl_entry at h
  split at h
  · injection h with h; injection h with h1 h2; subst h1; subst h2
    exact ⟨rfl, (congrArg At (eq_impl_entry _ _ _ _ _ _)).mp ⟨vc_impl_entry _ _ _ _ _ hp⟩⟩
  · cases h
def TD1_14 : Tab := TD1_13.add 61 F_impl_entry
theorem TD1_14_ok : TD1_14.Ok Tryd.prog := TD1_13_ok.add ok_impl_entry
theorem eq_spec_miEnd (mw : Int) (mh : Int) (mc : List UInt8) (mu : Bool) (k : Int) (K : V → Prop) : VC_spec_miEnd mw mh mc mu k K = vbody Tryd.prog (vin Tryd.prog TD1_14 annTD1 3) TD1_14.looks (annTD1 58) 58 [.agg [.int .i64 mw, .int .i64 mh, .str mc, .bool mu], .int .i64 k] [] (fun v _ => K v) := by kernel_rfl
theorem ok_spec_miEnd : OK Tryd.prog 58 F_spec_miEnd.spec := (vbody_ok (vin_ok TD1_14_ok annTD1 3) TD1_14_ok.looks _ _).ofF fun args m p R h hp => by
  unfold F_spec_miEnd at h
  split at h
  · injection h with h; injection h with h1 h2; subst h1; subst h2
    exact ⟨rfl, (congrArg At (eq_spec_miEnd _ _ _ _ _ _)).mp ⟨vc_spec_miEnd _ _ _ _ _ hp⟩⟩
  · cases h
def TD1_15 : Tab := TD1_14.add 58 F_spec_miEnd
theorem TD1_15_ok : TD1_15.Ok Tryd.prog := TD1_14_ok.add ok_spec_miEnd
theorem eq_spec_miHit (mw : Int) (mh : Int) (mc : List UInt8) (mu : Bool) (bx : Int) (by_ : Int) (bd : Int) (K : V → Prop) : VC_spec_miHit mw mh mc mu bx by_ bd K = vbody Tryd.prog (vin Tryd.prog TD1_15 annTD1 3) TD1_15.looks (annTD1 54) 54 [.agg [.int .i64 mw, .int .i64 mh, .str mc, .bool mu], .agg [.int .i64 bx, .int .i64 by_, .int .i64 bd]] [] (fun v _ => K v) := by kernel_rfl
theorem ok_spec_miHit : OK Tryd.prog 54 F_spec_miHit.spec := (vbody_ok (vin_ok TD1_15_ok annTD1 3) TD1_15_ok.looks _ _).ofF fun args m p R h hp => by
  unfold F_spec_miHit at h
  split at h
  · injection h with h; injection h with h1 h2; subst h1; subst h2
    exact ⟨rfl, (congrArg At (eq_spec_miHit _ _ _ _ _ _ _ _)).mp ⟨vc_spec_miHit _ _ _ _ _ _ _ hp⟩⟩
  · cases h
def TD1_16 : Tab := TD1_15.add 54 F_spec_miHit
theorem TD1_16_ok : TD1_16.Ok Tryd.prog := TD1_15_ok.add ok_spec_miHit
theorem eq_impl_otherMirror (b : Int) (K : V → Prop) : VC_impl_otherMirror b K = vbody Tryd.prog (vin Tryd.prog TD1_16 annTD1 3) TD1_16.looks (annTD1 83) 83 [.int .u8 b] [] (fun v _ => K v) := by kernel_rfl
theorem ok_impl_otherMirror : OK Tryd.prog 83 F_impl_otherMirror.spec := (vbody_ok (vin_ok TD1_16_ok annTD1 3) TD1_16_ok.looks _ _).ofF fun args m p R h hp => by
  unfold F_impl_otherMirror at h
  split at h
  · injection h with h; injection h with h1 h2; subst h1; subst h2
    exact ⟨rfl, (congrArg At (eq_impl_otherMirror _ _)).mp ⟨vc_impl_otherMirror _ hp⟩⟩
  · cases h
def TD1_17 : Tab := TD1_16.add 83 F_impl_otherMirror
theorem TD1_17_ok : TD1_17.Ok Tryd.prog := TD1_16_ok.add ok_impl_otherMirror
theorem eq_impl_wayBehind (b : Int) (d : Int) (K : V → Prop) : VC_impl_wayBehind b d K = vbody Tryd.prog (vin Tryd.prog TD1_17 annTD1 3) TD1_17.looks (annTD1 84) 84 [.int .u8 b, .int .i64 d] [] (fun v _ => K v) := by kernel_rfl
theorem ok_impl_wayBehind : OK Tryd.prog 84 F_impl_wayBehind.spec := (vbody_ok (vin_ok TD1_17_ok annTD1 3) TD1_17_ok.looks _ _).ofF fun args m p R h hp => by
  unfold F_impl_wayBehind at h
  split at h
  · injection h with h; injection h with h1 h2; subst h1; subst h2
    exact ⟨rfl, (congrArg At (eq_impl_wayBehind _ _ _)).mp ⟨vc_impl_wayBehind _ _ hp⟩⟩
  · cases h
def TD1_18 : Tab := TD1_17.add 84 F_impl_wayBehind
theorem TD1_18_ok : TD1_18.Ok Tryd.prog := TD1_17_ok.add ok_impl_wayBehind
theorem eq_impl_direction (d : Int) (K : V → Prop) : VC_impl_direction d K = vbody Tryd.prog (vin Tryd.prog TD1_18 annTD1 3) TD1_18.looks (annTD1 85) 85 [.int .i64 d] [] (fun v _ => K v) := by kernel_rfl
theorem ok_impl_direction : OK Tryd.prog 85 F_impl_direction.spec := (vbody_ok (vin_ok TD1_18_ok annTD1 3) TD1_18_ok.looks _ _).ofF fun args m p R h hp => by
  unfold F_impl_direction at h
  split at h
  · injection h with h; injection h with h1 h2; subst h1; subst h2
    exact ⟨rfl, (congrArg At (eq_impl_direction _ _)).mp ⟨vc_impl_direction _ hp⟩⟩
  · cases h
def TD1_19 : Tab := TD1_18.add 85 F_impl_direction
theorem TD1_19_ok : TD1_19.Ok Tryd.prog := TD1_18_ok.add ok_impl_direction
theorem eq_impl_roll_goOn  (mw : Int) (mh : Int) (mc : List UInt8) (mu : Bool) (l : List UInt8) (bx : Int) (by_ : Int) (bd : Int) (en : Int) (hn : Int) (K : V → List Blk → Prop) : VC_impl_roll_goOn  mw mh mc mu l bx by_ bd en hn K = vbody Tryd.prog (vin Tryd.prog TD1_19 annTD1 3) TD1_19.looks (annTD1 56) 56 [.ptr 0 0] [⟨.mix [.int .i64 mw, .int .i64 mh, .str mc, .bool mu] 81 l [.int .i64 bx, .int .i64 by_, .int .i64 bd, .int .i64 en, .int .i64 hn], 68, .box⟩] (K) := by kernel_rfl
theorem ok_impl_roll_goOn : OK Tryd.prog 56 F_impl_roll_goOn.spec := (vbody_ok (vin_ok TD1_19_ok annTD1 3) TD1_19_ok.looks _ _).ofG fun args m p R M h hp => by
  unfold F_impl_roll_goOn at h
  split at h
  · injection h with h; injection h with h1 h2; injection h2 with h2 h3; subst h1; subst h2; subst h3
    exact (congrArg At (eq_impl_roll_goOn _ _ _ _ _ _ _ _ _ _ _)).mp ⟨vc_impl_roll_goOn _ _ _ _ _ _ _ _ _ _ hp⟩
  · cases h
def TD1_20 : Tab := TD1_19.addG 56 F_impl_roll_goOn
theorem TD1_20_ok : TD1_20.Ok Tryd.prog := TD1_19_ok.addG ok_impl_roll_goOn
theorem eq_impl_roll_goOut  (mw : Int) (mh : Int) (mc : List UInt8) (mu : Bool) (l : List UInt8) (bx : Int) (by_ : Int) (bd : Int) (en : Int) (hn : Int) (K : V → List Blk → Prop) : VC_impl_roll_goOut  mw mh mc mu l bx by_ bd en hn K = vbody Tryd.prog (vin Tryd.prog TD1_20 annTD1 3) TD1_20.looks (annTD1 69) 69 [.ptr 0 0] [⟨.mix [.int .i64 mw, .int .i64 mh, .str mc, .bool mu] 81 l [.int .i64 bx, .int .i64 by_, .int .i64 bd, .int .i64 en, .int .i64 hn], 68, .box⟩] (K) := by kernel_rfl
theorem ok_impl_roll_goOut : OK Tryd.prog 69 F_impl_roll_goOut.spec := (vbody_ok (vin_ok TD1_20_ok annTD1 3) TD1_20_ok.looks _ _).ofG fun args m p R M h hp => by
  unfold F_impl_roll_goOut at h
  split at h
  · injection h with h; injection h with h1 h2; injection h2 with h2 h3; subst h1; subst h2; subst h3
    exact (congrArg At (eq_impl_roll_goOut _ _ _ _ _ _ _ _ _ _ _)).mp ⟨vc_impl_roll_goOut _ _ _ _ _ _ _ _ _ _ hp⟩
  · cases h
def TD1_21 : Tab := TD1_20.addG 69 F_impl_roll_goOut
theorem TD1_21_ok : TD1_21.Ok Tryd.prog := TD1_20_ok.addG ok_impl_roll_goOut
theorem eq_impl_endOf (mw : Int) (mh : Int) (mc : List UInt8) (mu : Bool) (bx : Int) (by_ : Int) (bd : Int) (K : V → Prop) : VC_impl_endOf mw mh mc mu bx by_ bd K = vbody Tryd.prog (vin Tryd.prog TD1_21 annTD1 3) TD1_21.looks (annTD1 64) 64 [.agg [.int .i64 mw, .int .i64 mh, .str mc, .bool mu], .agg [.int .i64 bx, .int .i64 by_, .int .i64 bd]] [] (fun v _ => K v) := by kernel_rfl
theorem ok_impl_endOf : OK Tryd.prog 64 F_impl_endOf.spec := (vbody_ok (vin_ok TD1_21_ok annTD1 3) TD1_21_ok.looks _ _).ofF fun args m p R h hp => by
  unfold F_impl_endOf at h
  split at h
  · injection h with h; injection h with h1 h2; subst h1; subst h2
    exact ⟨rfl, (congrArg At (eq_impl_endOf _ _ _ _ _ _ _ _)).mp ⟨vc_impl_endOf _ _ _ _ _ _ _ hp⟩⟩
  · cases h
def TD1_22 : Tab := TD1_21.add 64 F_impl_endOf
theorem TD1_22_ok : TD1_22.Ok Tryd.prog := TD1_21_ok.add ok_impl_endOf
theorem eq_impl_roll_send (k : Int) (mw : Int) (mh : Int) (mc : List UInt8) (mu : Bool) (l : List UInt8) (bx : Int) (by_ : Int) (bd : Int) (en : Int) (hn : Int) (K : V → List Blk → Prop) : VC_impl_roll_send k mw mh mc mu l bx by_ bd en hn K = vbody Tryd.prog (vin Tryd.prog TD1_22 annTD1 3) TD1_22.looks (annTD1 67) 67 [.ptr 0 0, .int .i64 k] [⟨.mix [.int .i64 mw, .int .i64 mh, .str mc, .bool mu] 81 l [.int .i64 bx, .int .i64 by_, .int .i64 bd, .int .i64 en, .int .i64 hn], 68, .box⟩] (K) := by kernel_rfl
theorem ok_impl_roll_send : OK Tryd.prog 67 F_impl_roll_send.spec := (vbody_ok (vin_ok TD1_22_ok annTD1 3) TD1_22_ok.looks _ _).ofG fun args m p R M h hp => by
  unfold F_impl_roll_send at h
  split at h
  · injection h with h; injection h with h1 h2; injection h2 with h2 h3; subst h1; subst h2; subst h3
    exact (congrArg At (eq_impl_roll_send _ _ _ _ _ _ _ _ _ _ _ _)).mp ⟨vc_impl_roll_send _ _ _ _ _ _ _ _ _ _ _ hp⟩
  · cases h
def TD1_23 : Tab := TD1_22.addG 67 F_impl_roll_send
theorem TD1_23_ok : TD1_23.Ok Tryd.prog := TD1_22_ok.addG ok_impl_roll_send
theorem eq_spec_miAt (mw : Int) (mh : Int) (mc : List UInt8) (mu : Bool) (bx : Int) (by_ : Int) (bd : Int) (K : V → Prop) : VC_spec_miAt mw mh mc mu bx by_ bd K = vbody Tryd.prog (vin Tryd.prog TD1_23 annTD1 3) TD1_23.looks (annTD1 86) 86 [.agg [.int .i64 mw, .int .i64 mh, .str mc, .bool mu], .agg [.int .i64 bx, .int .i64 by_, .int .i64 bd]] [] (fun v _ => K v) := by kernel_rfl
theorem ok_spec_miAt : OK Tryd.prog 86 F_spec_miAt.spec := (vbody_ok (vin_ok TD1_23_ok annTD1 3) TD1_23_ok.looks _ _).ofF fun args m p R h hp => by
  unfold F_spec_miAt at h
  split at h
  · injection h with h; injection h with h1 h2; subst h1; subst h2
    exact ⟨rfl, (congrArg At (eq_spec_miAt _ _ _ _ _ _ _ _)).mp ⟨vc_spec_miAt _ _ _ _ _ _ _ hp⟩⟩
  · cases h
def TD1_24 : Tab := TD1_23.add 86 F_spec_miAt
theorem TD1_24_ok : TD1_24.Ok Tryd.prog := TD1_23_ok.add ok_spec_miAt
theorem eq_spec_miOut (mw : Int) (mh : Int) (mc : List UInt8) (mu : Bool) (bx : Int) (by_ : Int) (bd : Int) (K : V → Prop) : VC_spec_miOut mw mh mc mu bx by_ bd K = vbody Tryd.prog (vin Tryd.prog TD1_24 annTD1 3) TD1_24.looks (annTD1 87) 87 [.agg [.int .i64 mw, .int .i64 mh, .str mc, .bool mu], .agg [.int .i64 bx, .int .i64 by_, .int .i64 bd]] [] (fun v _ => K v) := by kernel_rfl
theorem ok_spec_miOut : OK Tryd.prog 87 F_spec_miOut.spec := (vbody_ok (vin_ok TD1_24_ok annTD1 3) TD1_24_ok.looks _ _).ofF fun args m p R h hp => by
  unfold F_spec_miOut at h
  split at h
  · injection h with h; injection h with h1 h2; subst h1; subst h2
    exact ⟨rfl, (congrArg At (eq_spec_miOut _ _ _ _ _ _ _ _)).mp ⟨vc_spec_miOut _ _ _ _ _ _ _ hp⟩⟩
  · cases h
def TD1_25 : Tab := TD1_24.add 87 F_spec_miOut
theorem TD1_25_ok : TD1_25.Ok Tryd.prog := TD1_24_ok.add ok_spec_miOut
theorem eq_spec_miRun (mw : Int) (mh : Int) (mc : List UInt8) (mu : Bool) (bx : Int) (by_ : Int) (bd : Int) (K : V → Prop) : VC_spec_miRun mw mh mc mu bx by_ bd K = vbody Tryd.prog (vin Tryd.prog TD1_25 annTD1 3) TD1_25.looks (annTD1 62) 62 [.agg [.int .i64 mw, .int .i64 mh, .str mc, .bool mu], .agg [.int .i64 bx, .int .i64 by_, .int .i64 bd]] [] (fun v _ => K v) := by kernel_rfl
theorem ok_spec_miRun : OK Tryd.prog 62 F_spec_miRun.spec := (vbody_ok (vin_ok TD1_25_ok annTD1 3) TD1_25_ok.looks _ _).ofF fun args m p R h hp => by
  unfold F_spec_miRun at h
  split at h
  · injection h with h; injection h with h1 h2; subst h1; subst h2
    exact ⟨rfl, (congrArg At (eq_spec_miRun _ _ _ _ _ _ _ _)).mp ⟨vc_spec_miRun _ _ _ _ _ _ _ hp⟩⟩
  · cases h
def TD1_26 : Tab := TD1_25.add 62 F_spec_miRun
theorem TD1_26_ok : TD1_26.Ok Tryd.prog := TD1_25_ok.add ok_spec_miRun
theorem eq_spec_ExitOf (mw : Int) (mh : Int) (mc : List UInt8) (mu : Bool) (bx : Int) (by_ : Int) (bd : Int) (K : V → Prop) : VC_spec_ExitOf mw mh mc mu bx by_ bd K = vbody Tryd.prog (vin Tryd.prog TD1_26 annTD1 3) TD1_26.looks (annTD1 30) 30 [.agg [.int .i64 mw, .int .i64 mh, .str mc, .bool mu], .agg [.int .i64 bx, .int .i64 by_, .int .i64 bd]] [] (fun v _ => K v) := by kernel_rfl
theorem ok_spec_ExitOf : OK Tryd.prog 30 F_spec_ExitOf.spec := (vbody_ok (vin_ok TD1_26_ok annTD1 3) TD1_26_ok.looks _ _).ofF fun args m p R h hp => by
  unfold F_spec_ExitOf at h
  split at h
  · injection h with h; injection h with h1 h2; subst h1; subst h2
    exact ⟨rfl, (congrArg At (eq_spec_ExitOf _ _ _ _ _ _ _ _)).mp ⟨vc_spec_ExitOf _ _ _ _ _ _ _ hp⟩⟩
  · cases h
def TD1_27 : Tab := TD1_26.add 30 F_spec_ExitOf
theorem TD1_27_ok : TD1_27.Ok Tryd.prog := TD1_26_ok.add ok_spec_ExitOf
theorem eq_impl_ExitOf (mw : Int) (mh : Int) (mc : List UInt8) (mu : Bool) (bx : Int) (by_ : Int) (bd : Int) (K : V → Prop) : VC_impl_ExitOf mw mh mc mu bx by_ bd K = vbody Tryd.prog (vin Tryd.prog TD1_27 annTD1 3) TD1_27.looks (annTD1 31) 31 [.agg [.int .i64 mw, .int .i64 mh, .str mc, .bool mu], .agg [.int .i64 bx, .int .i64 by_, .int .i64 bd]] [] (fun v _ => K v) := by kernel_rfl
theorem ok_impl_ExitOf : OK Tryd.prog 31 F_impl_ExitOf.spec := (vbody_ok (vin_ok TD1_27_ok annTD1 3) TD1_27_ok.looks _ _).ofF fun args m p R h hp => by
  unfold F_impl_ExitOf at h
  split at h
  · injection h with h; injection h with h1 h2; subst h1; subst h2
    exact ⟨rfl, (congrArg At (eq_impl_ExitOf _ _ _ _ _ _ _ _)).mp ⟨vc_impl_ExitOf _ _ _ _ _ _ _ hp⟩⟩
  · cases h
def TD1_28 : Tab := TD1_27.add 31 F_impl_ExitOf
theorem TD1_28_ok : TD1_28.Ok Tryd.prog := TD1_27_ok.add ok_impl_ExitOf
theorem eq_spec_HitsOfBall (mw : Int) (mh : Int) (mc : List UInt8) (mu : Bool) (bx : Int) (by_ : Int) (bd : Int) (K : V → Prop) : VC_spec_HitsOfBall mw mh mc mu bx by_ bd K = vbody Tryd.prog (vin Tryd.prog TD1_28 annTD1 3) TD1_28.looks (annTD1 34) 34 [.agg [.int .i64 mw, .int .i64 mh, .str mc, .bool mu], .agg [.int .i64 bx, .int .i64 by_, .int .i64 bd]] [] (fun v _ => K v) := by kernel_rfl
theorem ok_spec_HitsOfBall : OK Tryd.prog 34 F_spec_HitsOfBall.spec := (vbody_ok (vin_ok TD1_28_ok annTD1 3) TD1_28_ok.looks _ _).ofF fun args m p R h hp => by
  unfold F_spec_HitsOfBall at h
  split at h
  · injection h with h; injection h with h1 h2; subst h1; subst h2
    exact ⟨rfl, (congrArg At (eq_spec_HitsOfBall _ _ _ _ _ _ _ _)).mp ⟨vc_spec_HitsOfBall _ _ _ _ _ _ _ hp⟩⟩
  · cases h
def TD1_29 : Tab := TD1_28.add 34 F_spec_HitsOfBall
theorem TD1_29_ok : TD1_29.Ok Tryd.prog := TD1_28_ok.add ok_spec_HitsOfBall
theorem eq_impl_HitsOfBall (mw : Int) (mh : Int) (mc : List UInt8) (mu : Bool) (bx : Int) (by_ : Int) (bd : Int) (K : V → Prop) : VC_impl_HitsOfBall mw mh mc mu bx by_ bd K = vbody Tryd.prog (vin Tryd.prog TD1_29 annTD1 3) TD1_29.looks (annTD1 35) 35 [.agg [.int .i64 mw, .int .i64 mh, .str mc, .bool mu], .agg [.int .i64 bx, .int .i64 by_, .int .i64 bd]] [] (fun v _ => K v) := by kernel_rfl
theorem ok_impl_HitsOfBall : OK Tryd.prog 35 F_impl_HitsOfBall.spec := (vbody_ok (vin_ok TD1_29_ok annTD1 3) TD1_29_ok.looks _ _).ofF fun args m p R h hp => by
  unfold F_impl_HitsOfBall at h
  split at h
  · injection h with h; injection h with h1 h2; subst h1; subst h2
    exact ⟨rfl, (congrArg At (eq_impl_HitsOfBall _ _ _ _ _ _ _ _)).mp ⟨vc_impl_HitsOfBall _ _ _ _ _ _ _ hp⟩⟩
  · cases h
def TD1_30 : Tab := TD1_29.add 35 F_impl_HitsOfBall
theorem TD1_30_ok : TD1_30.Ok Tryd.prog := TD1_29_ok.add ok_impl_HitsOfBall
theorem eq_spec_MazeAfterBall (mw : Int) (mh : Int) (mc : List UInt8) (mu : Bool) (bx : Int) (by_ : Int) (bd : Int) (K : V → Prop) : VC_spec_MazeAfterBall mw mh mc mu bx by_ bd K = vbody Tryd.prog (vin Tryd.prog TD1_30 annTD1 3) TD1_30.looks (annTD1 32) 32 [.agg [.int .i64 mw, .int .i64 mh, .str mc, .bool mu], .agg [.int .i64 bx, .int .i64 by_, .int .i64 bd]] [] (fun v _ => K v) := by kernel_rfl
theorem ok_spec_MazeAfterBall : OK Tryd.prog 32 F_spec_MazeAfterBall.spec := (vbody_ok (vin_ok TD1_30_ok annTD1 3) TD1_30_ok.looks _ _).ofF fun args m p R h hp => by
  unfold F_spec_MazeAfterBall at h
  split at h
  · injection h with h; injection h with h1 h2; subst h1; subst h2
    exact ⟨rfl, (congrArg At (eq_spec_MazeAfterBall _ _ _ _ _ _ _ _)).mp ⟨vc_spec_MazeAfterBall _ _ _ _ _ _ _ hp⟩⟩
  · cases h
def TD1_31 : Tab := TD1_30.add 32 F_spec_MazeAfterBall
theorem TD1_31_ok : TD1_31.Ok Tryd.prog := TD1_30_ok.add ok_spec_MazeAfterBall
theorem eq_impl_MazeAfterBall (mw : Int) (mh : Int) (mc : List UInt8) (mu : Bool) (bx : Int) (by_ : Int) (bd : Int) (K : V → Prop) : VC_impl_MazeAfterBall mw mh mc mu bx by_ bd K = vbody Tryd.prog (vin Tryd.prog TD1_31 annTD1 3) TD1_31.looks (annTD1 33) 33 [.agg [.int .i64 mw, .int .i64 mh, .str mc, .bool mu], .agg [.int .i64 bx, .int .i64 by_, .int .i64 bd]] [] (fun v _ => K v) := by kernel_rfl
theorem ok_impl_MazeAfterBall : OK Tryd.prog 33 F_impl_MazeAfterBall.spec := (vbody_ok (vin_ok TD1_31_ok annTD1 3) TD1_31_ok.looks _ _).ofF fun args m p R h hp => by
  unfold F_impl_MazeAfterBall at h
  split at h
  · injection h with h; injection h with h1 h2; subst h1; subst h2
    exact ⟨rfl, (congrArg At (eq_impl_MazeAfterBall _ _ _ _ _ _ _ _)).mp ⟨vc_impl_MazeAfterBall _ _ _ _ _ _ _ hp⟩⟩
  · cases h
def TD1_32 : Tab := TD1_31.add 33 F_impl_MazeAfterBall
theorem TD1_32_ok : TD1_32.Ok Tryd.prog := TD1_31_ok.add ok_impl_MazeAfterBall
theorem eq_spec_l1Most (a : Int) (b : Int) (K : V → Prop) : VC_spec_l1Most a b K = vbody Tryd.prog (vin Tryd.prog TD1_32 annTD1 3) TD1_32.looks (annTD1 70) 70 [.int .i64 a, .int .i64 b] [] (fun v _ => K v) := by kernel_rfl
theorem ok_spec_l1Most : OK Tryd.prog 70 F_spec_l1Most.spec := (vbody_ok (vin_ok TD1_32_ok annTD1 3) TD1_32_ok.looks _ _).ofF fun args m p R h hp => by
  unfold F_spec_l1Most at h
  split at h
  · injection h with h; injection h with h1 h2; subst h1; subst h2
    exact ⟨rfl, (congrArg At (eq_spec_l1Most _ _ _)).mp ⟨vc_spec_l1Most _ _ hp⟩⟩
  · cases h
def TD1_33 : Tab := TD1_32.add 70 F_spec_l1Most
theorem TD1_33_ok : TD1_33.Ok Tryd.prog := TD1_32_ok.add ok_spec_l1Most
theorem eq_spec_LongestTrack (mw : Int) (mh : Int) (mc : List UInt8) (mu : Bool) (K : V → Prop) : VC_spec_LongestTrack mw mh mc mu K = vbody Tryd.prog (vin Tryd.prog TD1_33 annTD1 3) TD1_33.looks (annTD1 43) 43 [.agg [.int .i64 mw, .int .i64 mh, .str mc, .bool mu]] [] (fun v _ => K v) := by kernel_rfl
theorem ok_spec_LongestTrack : OK Tryd.prog 43 F_spec_LongestTrack.spec := (vbody_ok (vin_ok TD1_33_ok annTD1 3) TD1_33_ok.looks _ _).ofF fun args m p R h hp => by
  unfold F_spec_LongestTrack at h
  split at h
  · injection h with h; injection h with h1 h2; subst h1; subst h2
    exact ⟨rfl, (congrArg At (eq_spec_LongestTrack _ _ _ _ _)).mp ⟨vc_spec_LongestTrack _ _ _ _ hp⟩⟩
  · cases h
def TD1_34 : Tab := TD1_33.add 43 F_spec_LongestTrack
theorem TD1_34_ok : TD1_34.Ok Tryd.prog := TD1_33_ok.add ok_spec_LongestTrack
theorem eq_impl_LongestTrack (mw : Int) (mh : Int) (mc : List UInt8) (mu : Bool) (K : V → Prop) : VC_impl_LongestTrack mw mh mc mu K = vbody Tryd.prog (vin Tryd.prog TD1_34 annTD1 3) TD1_34.looks (annTD1 44) 44 [.agg [.int .i64 mw, .int .i64 mh, .str mc, .bool mu]] [] (fun v _ => K v) := by kernel_rfl
theorem ok_impl_LongestTrack : OK Tryd.prog 44 F_impl_LongestTrack.spec := (vbody_ok (vin_ok TD1_34_ok annTD1 3) TD1_34_ok.looks _ _).ofF fun args m p R h hp => by
  unfold F_impl_LongestTrack at h
  split at h
  · injection h with h; injection h with h1 h2; subst h1; subst h2
    exact ⟨rfl, (congrArg At (eq_impl_LongestTrack _ _ _ _ _)).mp ⟨vc_impl_LongestTrack _ _ _ _ hp⟩⟩
  · cases h
def TD1_35 : Tab := TD1_34.add 44 F_impl_LongestTrack
theorem TD1_35_ok : TD1_35.Ok Tryd.prog := TD1_34_ok.add ok_impl_LongestTrack
theorem eq_spec_BallsUntilSame (mw : Int) (mh : Int) (mc : List UInt8) (mu : Bool) (k : Int) (K : V → Prop) : VC_spec_BallsUntilSame mw mh mc mu k K = vbody Tryd.prog (vin Tryd.prog TD1_35 annTD1 3) TD1_35.looks (annTD1 45) 45 [.agg [.int .i64 mw, .int .i64 mh, .str mc, .bool mu], .int .i64 k] [] (fun v _ => K v) := by kernel_rfl
theorem ok_spec_BallsUntilSame : OK Tryd.prog 45 F_spec_BallsUntilSame.spec := (vbody_ok (vin_ok TD1_35_ok annTD1 3) TD1_35_ok.looks _ _).ofF fun args m p R h hp => by
  unfold F_spec_BallsUntilSame at h
  split at h
  · injection h with h; injection h with h1 h2; subst h1; subst h2
    exact ⟨rfl, (congrArg At (eq_spec_BallsUntilSame _ _ _ _ _ _)).mp ⟨vc_spec_BallsUntilSame _ _ _ _ _ hp⟩⟩
  · cases h
def TD1_36 : Tab := TD1_35.add 45 F_spec_BallsUntilSame
theorem TD1_36_ok : TD1_36.Ok Tryd.prog := TD1_35_ok.add ok_spec_BallsUntilSame
theorem eq_impl_BallsUntilSame (mw : Int) (mh : Int) (mc : List UInt8) (mu : Bool) (k : Int) (K : V → Prop) : VC_impl_BallsUntilSame mw mh mc mu k K = vbody Tryd.prog (vin Tryd.prog TD1_36 annTD1 3) TD1_36.looks (annTD1 46) 46 [.agg [.int .i64 mw, .int .i64 mh, .str mc, .bool mu], .int .i64 k] [] (fun v _ => K v) := by kernel_rfl
theorem ok_impl_BallsUntilSame : OK Tryd.prog 46 F_impl_BallsUntilSame.spec := (vbody_ok (vin_ok TD1_36_ok annTD1 3) TD1_36_ok.looks _ _).ofF fun args m p R h hp => by
  unfold F_impl_BallsUntilSame at h
  split at h
  · injection h with h; injection h with h1 h2; subst h1; subst h2
    exact ⟨rfl, (congrArg At (eq_impl_BallsUntilSame _ _ _ _ _ _)).mp ⟨vc_impl_BallsUntilSame _ _ _ _ _ hp⟩⟩
  · cases h
def TD1_37 : Tab := TD1_36.add 46 F_impl_BallsUntilSame
theorem TD1_37_ok : TD1_37.Ok Tryd.prog := TD1_36_ok.add ok_impl_BallsUntilSame
def TD1 : Tab := TD1_37
theorem TD1_ok : TD1.Ok Tryd.prog := TD1_37_ok
end Go.Proofs.YtkkpkfphfhcgoaaDoor
