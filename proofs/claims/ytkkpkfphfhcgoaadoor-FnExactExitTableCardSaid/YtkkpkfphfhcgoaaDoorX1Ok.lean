/- The contracts of this chapter. -/
import Derived.Test.YtkkpkfphfhcgoaaDoorA1Lib
import Derived.Test.YtkkpkfphfhcgoaaDoorProg
import Derived.Test.YtkkpkfphfhcgoaaDoorX1Pf
import Derived.KernelRfl
namespace Go.Proofs.YtkkpkfphfhcgoaaDoor
open Go Go.Vi
set_option linter.unusedVariables false
def annTX1 : FuncId → Nat → St → Option Ann := fun f => if f = 47 then ann_spec_miGood else if f = 69 then ann_impl_roll_goOut else if f = 62 then ann_spec_miRun else if f = 43 then ann_spec_LongestTrack else if f = 44 then ann_impl_LongestTrack else if f = 38 then ann_laws_eqIntS else if f = 39 then ann_laws_markIntS else if f = 40 then ann_laws_heldIntS else if f = 36 then ann_spec_ExitTable else if f = 37 then ann_impl_ExitTable else (fun _ _ => none)
def TX1_0 : Tab := Tab.none
theorem TX1_0_ok : TX1_0.Ok Tryd.prog := Tab.none_ok
theorem eq_spec_l1In (n : Int) (lo : Int) (hi : Int) (K : V → Prop) : VC_spec_l1In n lo hi K = vbody Tryd.prog (vin Tryd.prog TX1_0 annTX1 3) TX1_0.looks (annTX1 71) 71 [.int .i64 n, .int .i64 lo, .int .i64 hi] [] (fun v _ => K v) := by kernel_rfl
theorem ok_spec_l1In : OK Tryd.prog 71 F_spec_l1In.spec := (vbody_ok (vin_ok TX1_0_ok annTX1 3) TX1_0_ok.looks _ _).ofF fun args m p R h hp => by
  unfold F_spec_l1In at h
  split at h
  · injection h with h; injection h with h1 h2; subst h1; subst h2
    exact ⟨rfl, (congrArg At (eq_spec_l1In _ _ _ _)).mp ⟨vc_spec_l1In _ _ _ hp⟩⟩
  · cases h
def TX1_1 : Tab := TX1_0.add 71 F_spec_l1In
theorem TX1_1_ok : TX1_1.Ok Tryd.prog := TX1_0_ok.add ok_spec_l1In
theorem eq_impl_within (n : Int) (lo : Int) (hi : Int) (K : V → Prop) : VC_impl_within n lo hi K = vbody Tryd.prog (vin Tryd.prog TX1_1 annTX1 3) TX1_1.looks (annTX1 72) 72 [.int .i64 n, .int .i64 lo, .int .i64 hi] [] (fun v _ => K v) := by kernel_rfl
theorem ok_impl_within : OK Tryd.prog 72 F_impl_within.spec := (vbody_ok (vin_ok TX1_1_ok annTX1 3) TX1_1_ok.looks _ _).ofF fun args m p R h hp => by
  unfold F_impl_within at h
  split at h
  · injection h with h; injection h with h1 h2; subst h1; subst h2
    exact ⟨rfl, (congrArg At (eq_impl_within _ _ _ _)).mp ⟨vc_impl_within _ _ _ hp⟩⟩
  · cases h
def TX1_2 : Tab := TX1_1.add 72 F_impl_within
theorem TX1_2_ok : TX1_2.Ok Tryd.prog := TX1_1_ok.add ok_impl_within
theorem eq_spec_miGood (mw : Int) (mh : Int) (mc : List UInt8) (mu : Bool) (K : V → Prop) : VC_spec_miGood mw mh mc mu K = vbody Tryd.prog (vin Tryd.prog TX1_2 annTX1 3) TX1_2.looks (annTX1 47) 47 [.agg [.int .i64 mw, .int .i64 mh, .str mc, .bool mu]] [] (fun v _ => K v) := by kernel_rfl
theorem ok_spec_miGood : OK Tryd.prog 47 F_spec_miGood.spec := (vbody_ok (vin_ok TX1_2_ok annTX1 3) TX1_2_ok.looks _ _).ofF fun args m p R h hp => by
  unfold F_spec_miGood at h
  split at h
  · injection h with h; injection h with h1 h2; subst h1; subst h2
    exact ⟨rfl, (congrArg At (eq_spec_miGood _ _ _ _ _)).mp ⟨vc_spec_miGood _ _ _ _ hp⟩⟩
  · cases h
def TX1_3 : Tab := TX1_2.add 47 F_spec_miGood
theorem TX1_3_ok : TX1_3.Ok Tryd.prog := TX1_2_ok.add ok_spec_miGood
theorem ok_strings_Trim : OK Tryd.prog 49 F_strings_Trim.spec := Go.Proofs.Tryd.libTrim
def TX1_4 : Tab := TX1_3.add 49 F_strings_Trim
theorem TX1_4_ok : TX1_4.Ok Tryd.prog := TX1_3_ok.add ok_strings_Trim
theorem eq_impl_IsMaze (mw : Int) (mh : Int) (mc : List UInt8) (mu : Bool) (K : V → Prop) : VC_impl_IsMaze mw mh mc mu K = vbody Tryd.prog (vin Tryd.prog TX1_4 annTX1 3) TX1_4.looks (annTX1 18) 18 [.agg [.int .i64 mw, .int .i64 mh, .str mc, .bool mu]] [] (fun v _ => K v) := by kernel_rfl
theorem ok_impl_IsMaze : OK Tryd.prog 18 F_impl_IsMaze.spec := (vbody_ok (vin_ok TX1_4_ok annTX1 3) TX1_4_ok.looks _ _).ofF fun args m p R h hp => by
  unfold F_impl_IsMaze at h
  split at h
  · injection h with h; injection h with h1 h2; subst h1; subst h2
    exact ⟨rfl, (congrArg At (eq_impl_IsMaze _ _ _ _ _)).mp ⟨vc_impl_IsMaze _ _ _ _ hp⟩⟩
  · cases h
def TX1_5 : Tab := TX1_4.add 18 F_impl_IsMaze
theorem TX1_5_ok : TX1_5.Ok Tryd.prog := TX1_4_ok.add ok_impl_IsMaze
theorem eq_laws_szMaze (mw : Int) (mh : Int) (mc : List UInt8) (mu : Bool) (left : Int) (K : V → Prop) : VC_laws_szMaze mw mh mc mu left K = vbody Tryd.prog (vin Tryd.prog TX1_5 annTX1 3) TX1_5.looks (annTX1 15) 15 [.agg [.int .i64 mw, .int .i64 mh, .str mc, .bool mu], .int .i64 left] [] (fun v _ => K v) := by kernel_rfl
theorem ok_laws_szMaze : OK Tryd.prog 15 F_laws_szMaze.spec := (vbody_ok (vin_ok TX1_5_ok annTX1 3) TX1_5_ok.looks _ _).ofF fun args m p R h hp => by
  unfold F_laws_szMaze at h
  split at h
  · injection h with h; injection h with h1 h2; subst h1; subst h2
    exact ⟨rfl, (congrArg At (eq_laws_szMaze _ _ _ _ _ _)).mp ⟨vc_laws_szMaze _ _ _ _ _ hp⟩⟩
  · cases h
def TX1_6 : Tab := TX1_5.add 15 F_laws_szMaze
theorem TX1_6_ok : TX1_6.Ok Tryd.prog := TX1_5_ok.add ok_laws_szMaze
theorem eq_laws_toMaze (mw : Int) (mh : Int) (mc : List UInt8) (mu : Bool) (K : V → Prop) : VC_laws_toMaze mw mh mc mu K = vbody Tryd.prog (vin Tryd.prog TX1_6 annTX1 3) TX1_6.looks (annTX1 17) 17 [.agg [.int .i64 mw, .int .i64 mh, .str mc, .bool mu]] [] (fun v _ => K v) := by kernel_rfl
theorem ok_laws_toMaze : OK Tryd.prog 17 F_laws_toMaze.spec := (vbody_ok (vin_ok TX1_6_ok annTX1 3) TX1_6_ok.looks _ _).ofF fun args m p R h hp => by
  unfold F_laws_toMaze at h
  split at h
  · injection h with h; injection h with h1 h2; subst h1; subst h2
    exact ⟨rfl, (congrArg At (eq_laws_toMaze _ _ _ _ _)).mp ⟨vc_laws_toMaze _ _ _ _ hp⟩⟩
  · cases h
def TX1_7 : Tab := TX1_6.add 17 F_laws_toMaze
theorem TX1_7_ok : TX1_7.Ok Tryd.prog := TX1_6_ok.add ok_laws_toMaze
theorem eq_laws_toBall (bx : Int) (by_ : Int) (bd : Int) (K : V → Prop) : VC_laws_toBall bx by_ bd K = vbody Tryd.prog (vin Tryd.prog TX1_7 annTX1 3) TX1_7.looks (annTX1 20) 20 [.agg [.int .i64 bx, .int .i64 by_, .int .i64 bd]] [] (fun v _ => K v) := by kernel_rfl
theorem ok_laws_toBall : OK Tryd.prog 20 F_laws_toBall.spec := (vbody_ok (vin_ok TX1_7_ok annTX1 3) TX1_7_ok.looks _ _).ofF fun args m p R h hp => by
  unfold F_laws_toBall at h
  split at h
  · injection h with h; injection h with h1 h2; subst h1; subst h2
    exact ⟨rfl, (congrArg At (eq_laws_toBall _ _ _ _)).mp ⟨vc_laws_toBall _ _ _ hp⟩⟩
  · cases h
def TX1_8 : Tab := TX1_7.add 20 F_laws_toBall
theorem TX1_8_ok : TX1_8.Ok Tryd.prog := TX1_7_ok.add ok_laws_toBall
theorem eq_laws_eqMaze (aw : Int) (ah : Int) (ac : List UInt8) (au : Bool) (bw : Int) (bh : Int) (bc : List UInt8) (bu : Bool) (K : V → Prop) : VC_laws_eqMaze aw ah ac au bw bh bc bu K = vbody Tryd.prog (vin Tryd.prog TX1_8 annTX1 3) TX1_8.looks (annTX1 26) 26 [.agg [.int .i64 aw, .int .i64 ah, .str ac, .bool au], .agg [.int .i64 bw, .int .i64 bh, .str bc, .bool bu]] [] (fun v _ => K v) := by kernel_rfl
theorem ok_laws_eqMaze : OK Tryd.prog 26 F_laws_eqMaze.spec := (vbody_ok (vin_ok TX1_8_ok annTX1 3) TX1_8_ok.looks _ _).ofF fun args m p R h hp => by
  unfold F_laws_eqMaze at h
  split at h
  · injection h with h; injection h with h1 h2; subst h1; subst h2
    exact ⟨rfl, (congrArg At (eq_laws_eqMaze _ _ _ _ _ _ _ _ _)).mp ⟨vc_laws_eqMaze _ _ _ _ _ _ _ _ hp⟩⟩
  · cases h
def TX1_9 : Tab := TX1_8.add 26 F_laws_eqMaze
theorem TX1_9_ok : TX1_9.Ok Tryd.prog := TX1_8_ok.add ok_laws_eqMaze
theorem eq_laws_eqBall (ax : Int) (ay : Int) (ad : Int) (bx : Int) (by_ : Int) (bd : Int) (K : V → Prop) : VC_laws_eqBall ax ay ad bx by_ bd K = vbody Tryd.prog (vin Tryd.prog TX1_9 annTX1 3) TX1_9.looks (annTX1 27) 27 [.agg [.int .i64 ax, .int .i64 ay, .int .i64 ad], .agg [.int .i64 bx, .int .i64 by_, .int .i64 bd]] [] (fun v _ => K v) := by kernel_rfl
theorem ok_laws_eqBall : OK Tryd.prog 27 F_laws_eqBall.spec := (vbody_ok (vin_ok TX1_9_ok annTX1 3) TX1_9_ok.looks _ _).ofF fun args m p R h hp => by
  unfold F_laws_eqBall at h
  split at h
  · injection h with h; injection h with h1 h2; subst h1; subst h2
    exact ⟨rfl, (congrArg At (eq_laws_eqBall _ _ _ _ _ _ _)).mp ⟨vc_laws_eqBall _ _ _ _ _ _ hp⟩⟩
  · cases h
def TX1_10 : Tab := TX1_9.add 27 F_laws_eqBall
theorem TX1_10_ok : TX1_10.Ok Tryd.prog := TX1_9_ok.add ok_laws_eqBall
theorem eq_spec_miBall (mw : Int) (mh : Int) (mc : List UInt8) (mu : Bool) (bx : Int) (by_ : Int) (bd : Int) (K : V → Prop) : VC_spec_miBall mw mh mc mu bx by_ bd K = vbody Tryd.prog (vin Tryd.prog TX1_10 annTX1 3) TX1_10.looks (annTX1 50) 50 [.agg [.int .i64 mw, .int .i64 mh, .str mc, .bool mu], .agg [.int .i64 bx, .int .i64 by_, .int .i64 bd]] [] (fun v _ => K v) := by kernel_rfl
theorem ok_spec_miBall : OK Tryd.prog 50 F_spec_miBall.spec := (vbody_ok (vin_ok TX1_10_ok annTX1 3) TX1_10_ok.looks _ _).ofF fun args m p R h hp => by
  unfold F_spec_miBall at h
  split at h
  · injection h with h; injection h with h1 h2; subst h1; subst h2
    exact ⟨rfl, (congrArg At (eq_spec_miBall _ _ _ _ _ _ _ _)).mp ⟨vc_spec_miBall _ _ _ _ _ _ _ hp⟩⟩
  · cases h
def TX1_11 : Tab := TX1_10.add 50 F_spec_miBall
theorem TX1_11_ok : TX1_11.Ok Tryd.prog := TX1_10_ok.add ok_spec_miBall
theorem eq_impl_IsBall (mw : Int) (mh : Int) (mc : List UInt8) (mu : Bool) (bx : Int) (by_ : Int) (bd : Int) (K : V → Prop) : VC_impl_IsBall mw mh mc mu bx by_ bd K = vbody Tryd.prog (vin Tryd.prog TX1_11 annTX1 3) TX1_11.looks (annTX1 21) 21 [.agg [.int .i64 mw, .int .i64 mh, .str mc, .bool mu], .agg [.int .i64 bx, .int .i64 by_, .int .i64 bd]] [] (fun v _ => K v) := by kernel_rfl
theorem ok_impl_IsBall : OK Tryd.prog 21 F_impl_IsBall.spec := (vbody_ok (vin_ok TX1_11_ok annTX1 3) TX1_11_ok.looks _ _).ofF fun args m p R h hp => by
  unfold F_impl_IsBall at h
  split at h
  · injection h with h; injection h with h1 h2; subst h1; subst h2
    exact ⟨rfl, (congrArg At (eq_impl_IsBall _ _ _ _ _ _ _ _)).mp ⟨vc_impl_IsBall _ _ _ _ _ _ _ hp⟩⟩
  · cases h
def TX1_12 : Tab := TX1_11.add 21 F_impl_IsBall
theorem TX1_12_ok : TX1_12.Ok Tryd.prog := TX1_11_ok.add ok_impl_IsBall
theorem eq_spec_miEntry (mw : Int) (mh : Int) (mc : List UInt8) (mu : Bool) (k : Int) (K : V → Prop) : VC_spec_miEntry mw mh mc mu k K = vbody Tryd.prog (vin Tryd.prog TX1_12 annTX1 3) TX1_12.looks (annTX1 59) 59 [.agg [.int .i64 mw, .int .i64 mh, .str mc, .bool mu], .int .i64 k] [] (fun v _ => K v) := by kernel_rfl
theorem ok_spec_miEntry : OK Tryd.prog 59 F_spec_miEntry.spec := (vbody_ok (vin_ok TX1_12_ok annTX1 3) TX1_12_ok.looks _ _).ofF fun args m p R h hp => by
  unfold F_spec_miEntry at h
  split at h
  · injection h with h; injection h with h1 h2; subst h1; subst h2
    exact ⟨rfl, (congrArg At (eq_spec_miEntry _ _ _ _ _ _)).mp ⟨vc_spec_miEntry _ _ _ _ _ hp⟩⟩
  · cases h
def TX1_13 : Tab := TX1_12.add 59 F_spec_miEntry
theorem TX1_13_ok : TX1_13.Ok Tryd.prog := TX1_12_ok.add ok_spec_miEntry
theorem eq_impl_entry (mw : Int) (mh : Int) (mc : List UInt8) (mu : Bool) (k : Int) (K : V → Prop) : VC_impl_entry mw mh mc mu k K = vbody Tryd.prog (vin Tryd.prog TX1_13 annTX1 3) TX1_13.looks (annTX1 61) 61 [.agg [.int .i64 mw, .int .i64 mh, .str mc, .bool mu], .int .i64 k] [] (fun v _ => K v) := by kernel_rfl
theorem ok_impl_entry : OK Tryd.prog 61 F_impl_entry.spec := (vbody_ok (vin_ok TX1_13_ok annTX1 3) TX1_13_ok.looks _ _).ofF fun args m p R h hp => by
  unfold F_impl_entry at h
  split at h
  · injection h with h; injection h with h1 h2; subst h1; subst h2
    exact ⟨rfl, (congrArg At (eq_impl_entry _ _ _ _ _ _)).mp ⟨vc_impl_entry _ _ _ _ _ hp⟩⟩
  · cases h
def TX1_14 : Tab := TX1_13.add 61 F_impl_entry
theorem TX1_14_ok : TX1_14.Ok Tryd.prog := TX1_13_ok.add ok_impl_entry
theorem eq_spec_miEnd (mw : Int) (mh : Int) (mc : List UInt8) (mu : Bool) (k : Int) (K : V → Prop) : VC_spec_miEnd mw mh mc mu k K = vbody Tryd.prog (vin Tryd.prog TX1_14 annTX1 3) TX1_14.looks (annTX1 58) 58 [.agg [.int .i64 mw, .int .i64 mh, .str mc, .bool mu], .int .i64 k] [] (fun v _ => K v) := by kernel_rfl
theorem ok_spec_miEnd : OK Tryd.prog 58 F_spec_miEnd.spec := (vbody_ok (vin_ok TX1_14_ok annTX1 3) TX1_14_ok.looks _ _).ofF fun args m p R h hp => by
  unfold F_spec_miEnd at h
  split at h
  · injection h with h; injection h with h1 h2; subst h1; subst h2
    exact ⟨rfl, (congrArg At (eq_spec_miEnd _ _ _ _ _ _)).mp ⟨vc_spec_miEnd _ _ _ _ _ hp⟩⟩
  · cases h
def TX1_15 : Tab := TX1_14.add 58 F_spec_miEnd
theorem TX1_15_ok : TX1_15.Ok Tryd.prog := TX1_14_ok.add ok_spec_miEnd
theorem eq_spec_miHit (mw : Int) (mh : Int) (mc : List UInt8) (mu : Bool) (bx : Int) (by_ : Int) (bd : Int) (K : V → Prop) : VC_spec_miHit mw mh mc mu bx by_ bd K = vbody Tryd.prog (vin Tryd.prog TX1_15 annTX1 3) TX1_15.looks (annTX1 54) 54 [.agg [.int .i64 mw, .int .i64 mh, .str mc, .bool mu], .agg [.int .i64 bx, .int .i64 by_, .int .i64 bd]] [] (fun v _ => K v) := by kernel_rfl
theorem ok_spec_miHit : OK Tryd.prog 54 F_spec_miHit.spec := (vbody_ok (vin_ok TX1_15_ok annTX1 3) TX1_15_ok.looks _ _).ofF fun args m p R h hp => by
  unfold F_spec_miHit at h
  split at h
  · injection h with h; injection h with h1 h2; subst h1; subst h2
    exact ⟨rfl, (congrArg At (eq_spec_miHit _ _ _ _ _ _ _ _)).mp ⟨vc_spec_miHit _ _ _ _ _ _ _ hp⟩⟩
  · cases h
def TX1_16 : Tab := TX1_15.add 54 F_spec_miHit
theorem TX1_16_ok : TX1_16.Ok Tryd.prog := TX1_15_ok.add ok_spec_miHit
theorem eq_impl_otherMirror (b : Int) (K : V → Prop) : VC_impl_otherMirror b K = vbody Tryd.prog (vin Tryd.prog TX1_16 annTX1 3) TX1_16.looks (annTX1 83) 83 [.int .u8 b] [] (fun v _ => K v) := by kernel_rfl
theorem ok_impl_otherMirror : OK Tryd.prog 83 F_impl_otherMirror.spec := (vbody_ok (vin_ok TX1_16_ok annTX1 3) TX1_16_ok.looks _ _).ofF fun args m p R h hp => by
  unfold F_impl_otherMirror at h
  split at h
  · injection h with h; injection h with h1 h2; subst h1; subst h2
    exact ⟨rfl, (congrArg At (eq_impl_otherMirror _ _)).mp ⟨vc_impl_otherMirror _ hp⟩⟩
  · cases h
def TX1_17 : Tab := TX1_16.add 83 F_impl_otherMirror
theorem TX1_17_ok : TX1_17.Ok Tryd.prog := TX1_16_ok.add ok_impl_otherMirror
theorem eq_impl_wayBehind (b : Int) (d : Int) (K : V → Prop) : VC_impl_wayBehind b d K = vbody Tryd.prog (vin Tryd.prog TX1_17 annTX1 3) TX1_17.looks (annTX1 84) 84 [.int .u8 b, .int .i64 d] [] (fun v _ => K v) := by kernel_rfl
theorem ok_impl_wayBehind : OK Tryd.prog 84 F_impl_wayBehind.spec := (vbody_ok (vin_ok TX1_17_ok annTX1 3) TX1_17_ok.looks _ _).ofF fun args m p R h hp => by
  unfold F_impl_wayBehind at h
  split at h
  · injection h with h; injection h with h1 h2; subst h1; subst h2
    exact ⟨rfl, (congrArg At (eq_impl_wayBehind _ _ _)).mp ⟨vc_impl_wayBehind _ _ hp⟩⟩
  · cases h
def TX1_18 : Tab := TX1_17.add 84 F_impl_wayBehind
theorem TX1_18_ok : TX1_18.Ok Tryd.prog := TX1_17_ok.add ok_impl_wayBehind
theorem eq_impl_direction (d : Int) (K : V → Prop) : VC_impl_direction d K = vbody Tryd.prog (vin Tryd.prog TX1_18 annTX1 3) TX1_18.looks (annTX1 85) 85 [.int .i64 d] [] (fun v _ => K v) := by kernel_rfl
theorem ok_impl_direction : OK Tryd.prog 85 F_impl_direction.spec := (vbody_ok (vin_ok TX1_18_ok annTX1 3) TX1_18_ok.looks _ _).ofF fun args m p R h hp => by
  unfold F_impl_direction at h
  split at h
  · injection h with h; injection h with h1 h2; subst h1; subst h2
    exact ⟨rfl, (congrArg At (eq_impl_direction _ _)).mp ⟨vc_impl_direction _ hp⟩⟩
  · cases h
def TX1_19 : Tab := TX1_18.add 85 F_impl_direction
theorem TX1_19_ok : TX1_19.Ok Tryd.prog := TX1_18_ok.add ok_impl_direction
theorem eq_impl_roll_goOn  (mw : Int) (mh : Int) (mc : List UInt8) (mu : Bool) (l : List UInt8) (bx : Int) (by_ : Int) (bd : Int) (en : Int) (hn : Int) (K : V → List Blk → Prop) : VC_impl_roll_goOn  mw mh mc mu l bx by_ bd en hn K = vbody Tryd.prog (vin Tryd.prog TX1_19 annTX1 3) TX1_19.looks (annTX1 56) 56 [.ptr 0 0] [⟨.mix [.int .i64 mw, .int .i64 mh, .str mc, .bool mu] 81 l [.int .i64 bx, .int .i64 by_, .int .i64 bd, .int .i64 en, .int .i64 hn], 68, .box⟩] (K) := by kernel_rfl
theorem ok_impl_roll_goOn : OK Tryd.prog 56 F_impl_roll_goOn.spec := (vbody_ok (vin_ok TX1_19_ok annTX1 3) TX1_19_ok.looks _ _).ofG fun args m p R M h hp => by
  unfold F_impl_roll_goOn at h
  split at h
  · injection h with h; injection h with h1 h2; injection h2 with h2 h3; subst h1; subst h2; subst h3
    exact (congrArg At (eq_impl_roll_goOn _ _ _ _ _ _ _ _ _ _ _)).mp ⟨vc_impl_roll_goOn _ _ _ _ _ _ _ _ _ _ hp⟩
  · cases h
def TX1_20 : Tab := TX1_19.addG 56 F_impl_roll_goOn
theorem TX1_20_ok : TX1_20.Ok Tryd.prog := TX1_19_ok.addG ok_impl_roll_goOn
theorem eq_impl_roll_goOut  (mw : Int) (mh : Int) (mc : List UInt8) (mu : Bool) (l : List UInt8) (bx : Int) (by_ : Int) (bd : Int) (en : Int) (hn : Int) (K : V → List Blk → Prop) : VC_impl_roll_goOut  mw mh mc mu l bx by_ bd en hn K = vbody Tryd.prog (vin Tryd.prog TX1_20 annTX1 3) TX1_20.looks (annTX1 69) 69 [.ptr 0 0] [⟨.mix [.int .i64 mw, .int .i64 mh, .str mc, .bool mu] 81 l [.int .i64 bx, .int .i64 by_, .int .i64 bd, .int .i64 en, .int .i64 hn], 68, .box⟩] (K) := by kernel_rfl
theorem ok_impl_roll_goOut : OK Tryd.prog 69 F_impl_roll_goOut.spec := (vbody_ok (vin_ok TX1_20_ok annTX1 3) TX1_20_ok.looks _ _).ofG fun args m p R M h hp => by
  unfold F_impl_roll_goOut at h
  split at h
  · injection h with h; injection h with h1 h2; injection h2 with h2 h3; subst h1; subst h2; subst h3
    exact (congrArg At (eq_impl_roll_goOut _ _ _ _ _ _ _ _ _ _ _)).mp ⟨vc_impl_roll_goOut _ _ _ _ _ _ _ _ _ _ hp⟩
  · cases h
def TX1_21 : Tab := TX1_20.addG 69 F_impl_roll_goOut
theorem TX1_21_ok : TX1_21.Ok Tryd.prog := TX1_20_ok.addG ok_impl_roll_goOut
theorem eq_impl_endOf (mw : Int) (mh : Int) (mc : List UInt8) (mu : Bool) (bx : Int) (by_ : Int) (bd : Int) (K : V → Prop) : VC_impl_endOf mw mh mc mu bx by_ bd K = vbody Tryd.prog (vin Tryd.prog TX1_21 annTX1 3) TX1_21.looks (annTX1 64) 64 [.agg [.int .i64 mw, .int .i64 mh, .str mc, .bool mu], .agg [.int .i64 bx, .int .i64 by_, .int .i64 bd]] [] (fun v _ => K v) := by kernel_rfl
theorem ok_impl_endOf : OK Tryd.prog 64 F_impl_endOf.spec := (vbody_ok (vin_ok TX1_21_ok annTX1 3) TX1_21_ok.looks _ _).ofF fun args m p R h hp => by
  unfold F_impl_endOf at h
  split at h
  · injection h with h; injection h with h1 h2; subst h1; subst h2
    exact ⟨rfl, (congrArg At (eq_impl_endOf _ _ _ _ _ _ _ _)).mp ⟨vc_impl_endOf _ _ _ _ _ _ _ hp⟩⟩
  · cases h
def TX1_22 : Tab := TX1_21.add 64 F_impl_endOf
theorem TX1_22_ok : TX1_22.Ok Tryd.prog := TX1_21_ok.add ok_impl_endOf
theorem eq_impl_roll_send (k : Int) (mw : Int) (mh : Int) (mc : List UInt8) (mu : Bool) (l : List UInt8) (bx : Int) (by_ : Int) (bd : Int) (en : Int) (hn : Int) (K : V → List Blk → Prop) : VC_impl_roll_send k mw mh mc mu l bx by_ bd en hn K = vbody Tryd.prog (vin Tryd.prog TX1_22 annTX1 3) TX1_22.looks (annTX1 67) 67 [.ptr 0 0, .int .i64 k] [⟨.mix [.int .i64 mw, .int .i64 mh, .str mc, .bool mu] 81 l [.int .i64 bx, .int .i64 by_, .int .i64 bd, .int .i64 en, .int .i64 hn], 68, .box⟩] (K) := by kernel_rfl
theorem ok_impl_roll_send : OK Tryd.prog 67 F_impl_roll_send.spec := (vbody_ok (vin_ok TX1_22_ok annTX1 3) TX1_22_ok.looks _ _).ofG fun args m p R M h hp => by
  unfold F_impl_roll_send at h
  split at h
  · injection h with h; injection h with h1 h2; injection h2 with h2 h3; subst h1; subst h2; subst h3
    exact (congrArg At (eq_impl_roll_send _ _ _ _ _ _ _ _ _ _ _ _)).mp ⟨vc_impl_roll_send _ _ _ _ _ _ _ _ _ _ _ hp⟩
  · cases h
def TX1_23 : Tab := TX1_22.addG 67 F_impl_roll_send
theorem TX1_23_ok : TX1_23.Ok Tryd.prog := TX1_22_ok.addG ok_impl_roll_send
theorem eq_spec_miAt (mw : Int) (mh : Int) (mc : List UInt8) (mu : Bool) (bx : Int) (by_ : Int) (bd : Int) (K : V → Prop) : VC_spec_miAt mw mh mc mu bx by_ bd K = vbody Tryd.prog (vin Tryd.prog TX1_23 annTX1 3) TX1_23.looks (annTX1 86) 86 [.agg [.int .i64 mw, .int .i64 mh, .str mc, .bool mu], .agg [.int .i64 bx, .int .i64 by_, .int .i64 bd]] [] (fun v _ => K v) := by kernel_rfl
theorem ok_spec_miAt : OK Tryd.prog 86 F_spec_miAt.spec := (vbody_ok (vin_ok TX1_23_ok annTX1 3) TX1_23_ok.looks _ _).ofF fun args m p R h hp => by
  unfold F_spec_miAt at h
  split at h
  · injection h with h; injection h with h1 h2; subst h1; subst h2
    exact ⟨rfl, (congrArg At (eq_spec_miAt _ _ _ _ _ _ _ _)).mp ⟨vc_spec_miAt _ _ _ _ _ _ _ hp⟩⟩
  · cases h
def TX1_24 : Tab := TX1_23.add 86 F_spec_miAt
theorem TX1_24_ok : TX1_24.Ok Tryd.prog := TX1_23_ok.add ok_spec_miAt
theorem eq_spec_miOut (mw : Int) (mh : Int) (mc : List UInt8) (mu : Bool) (bx : Int) (by_ : Int) (bd : Int) (K : V → Prop) : VC_spec_miOut mw mh mc mu bx by_ bd K = vbody Tryd.prog (vin Tryd.prog TX1_24 annTX1 3) TX1_24.looks (annTX1 87) 87 [.agg [.int .i64 mw, .int .i64 mh, .str mc, .bool mu], .agg [.int .i64 bx, .int .i64 by_, .int .i64 bd]] [] (fun v _ => K v) := by kernel_rfl
theorem ok_spec_miOut : OK Tryd.prog 87 F_spec_miOut.spec := (vbody_ok (vin_ok TX1_24_ok annTX1 3) TX1_24_ok.looks _ _).ofF fun args m p R h hp => by
  unfold F_spec_miOut at h
  split at h
  · injection h with h; injection h with h1 h2; subst h1; subst h2
    exact ⟨rfl, (congrArg At (eq_spec_miOut _ _ _ _ _ _ _ _)).mp ⟨vc_spec_miOut _ _ _ _ _ _ _ hp⟩⟩
  · cases h
def TX1_25 : Tab := TX1_24.add 87 F_spec_miOut
theorem TX1_25_ok : TX1_25.Ok Tryd.prog := TX1_24_ok.add ok_spec_miOut
theorem eq_spec_miRun (mw : Int) (mh : Int) (mc : List UInt8) (mu : Bool) (bx : Int) (by_ : Int) (bd : Int) (K : V → Prop) : VC_spec_miRun mw mh mc mu bx by_ bd K = vbody Tryd.prog (vin Tryd.prog TX1_25 annTX1 3) TX1_25.looks (annTX1 62) 62 [.agg [.int .i64 mw, .int .i64 mh, .str mc, .bool mu], .agg [.int .i64 bx, .int .i64 by_, .int .i64 bd]] [] (fun v _ => K v) := by kernel_rfl
theorem ok_spec_miRun : OK Tryd.prog 62 F_spec_miRun.spec := (vbody_ok (vin_ok TX1_25_ok annTX1 3) TX1_25_ok.looks _ _).ofF fun args m p R h hp => by
  unfold F_spec_miRun at h
  split at h
  · injection h with h; injection h with h1 h2; subst h1; subst h2
    exact ⟨rfl, (congrArg At (eq_spec_miRun _ _ _ _ _ _ _ _)).mp ⟨vc_spec_miRun _ _ _ _ _ _ _ hp⟩⟩
  · cases h
def TX1_26 : Tab := TX1_25.add 62 F_spec_miRun
theorem TX1_26_ok : TX1_26.Ok Tryd.prog := TX1_25_ok.add ok_spec_miRun
theorem eq_spec_ExitOf (mw : Int) (mh : Int) (mc : List UInt8) (mu : Bool) (bx : Int) (by_ : Int) (bd : Int) (K : V → Prop) : VC_spec_ExitOf mw mh mc mu bx by_ bd K = vbody Tryd.prog (vin Tryd.prog TX1_26 annTX1 3) TX1_26.looks (annTX1 30) 30 [.agg [.int .i64 mw, .int .i64 mh, .str mc, .bool mu], .agg [.int .i64 bx, .int .i64 by_, .int .i64 bd]] [] (fun v _ => K v) := by kernel_rfl
theorem ok_spec_ExitOf : OK Tryd.prog 30 F_spec_ExitOf.spec := (vbody_ok (vin_ok TX1_26_ok annTX1 3) TX1_26_ok.looks _ _).ofF fun args m p R h hp => by
  unfold F_spec_ExitOf at h
  split at h
  · injection h with h; injection h with h1 h2; subst h1; subst h2
    exact ⟨rfl, (congrArg At (eq_spec_ExitOf _ _ _ _ _ _ _ _)).mp ⟨vc_spec_ExitOf _ _ _ _ _ _ _ hp⟩⟩
  · cases h
def TX1_27 : Tab := TX1_26.add 30 F_spec_ExitOf
theorem TX1_27_ok : TX1_27.Ok Tryd.prog := TX1_26_ok.add ok_spec_ExitOf
theorem eq_impl_ExitOf (mw : Int) (mh : Int) (mc : List UInt8) (mu : Bool) (bx : Int) (by_ : Int) (bd : Int) (K : V → Prop) : VC_impl_ExitOf mw mh mc mu bx by_ bd K = vbody Tryd.prog (vin Tryd.prog TX1_27 annTX1 3) TX1_27.looks (annTX1 31) 31 [.agg [.int .i64 mw, .int .i64 mh, .str mc, .bool mu], .agg [.int .i64 bx, .int .i64 by_, .int .i64 bd]] [] (fun v _ => K v) := by kernel_rfl
theorem ok_impl_ExitOf : OK Tryd.prog 31 F_impl_ExitOf.spec := (vbody_ok (vin_ok TX1_27_ok annTX1 3) TX1_27_ok.looks _ _).ofF fun args m p R h hp => by
  unfold F_impl_ExitOf at h
  split at h
  · injection h with h; injection h with h1 h2; subst h1; subst h2
    exact ⟨rfl, (congrArg At (eq_impl_ExitOf _ _ _ _ _ _ _ _)).mp ⟨vc_impl_ExitOf _ _ _ _ _ _ _ hp⟩⟩
  · cases h
def TX1_28 : Tab := TX1_27.add 31 F_impl_ExitOf
theorem TX1_28_ok : TX1_28.Ok Tryd.prog := TX1_27_ok.add ok_impl_ExitOf
theorem eq_spec_HitsOfBall (mw : Int) (mh : Int) (mc : List UInt8) (mu : Bool) (bx : Int) (by_ : Int) (bd : Int) (K : V → Prop) : VC_spec_HitsOfBall mw mh mc mu bx by_ bd K = vbody Tryd.prog (vin Tryd.prog TX1_28 annTX1 3) TX1_28.looks (annTX1 34) 34 [.agg [.int .i64 mw, .int .i64 mh, .str mc, .bool mu], .agg [.int .i64 bx, .int .i64 by_, .int .i64 bd]] [] (fun v _ => K v) := by kernel_rfl
theorem ok_spec_HitsOfBall : OK Tryd.prog 34 F_spec_HitsOfBall.spec := (vbody_ok (vin_ok TX1_28_ok annTX1 3) TX1_28_ok.looks _ _).ofF fun args m p R h hp => by
  unfold F_spec_HitsOfBall at h
  split at h
  · injection h with h; injection h with h1 h2; subst h1; subst h2
    exact ⟨rfl, (congrArg At (eq_spec_HitsOfBall _ _ _ _ _ _ _ _)).mp ⟨vc_spec_HitsOfBall _ _ _ _ _ _ _ hp⟩⟩
  · cases h
def TX1_29 : Tab := TX1_28.add 34 F_spec_HitsOfBall
theorem TX1_29_ok : TX1_29.Ok Tryd.prog := TX1_28_ok.add ok_spec_HitsOfBall
theorem eq_impl_HitsOfBall (mw : Int) (mh : Int) (mc : List UInt8) (mu : Bool) (bx : Int) (by_ : Int) (bd : Int) (K : V → Prop) : VC_impl_HitsOfBall mw mh mc mu bx by_ bd K = vbody Tryd.prog (vin Tryd.prog TX1_29 annTX1 3) TX1_29.looks (annTX1 35) 35 [.agg [.int .i64 mw, .int .i64 mh, .str mc, .bool mu], .agg [.int .i64 bx, .int .i64 by_, .int .i64 bd]] [] (fun v _ => K v) := by kernel_rfl
theorem ok_impl_HitsOfBall : OK Tryd.prog 35 F_impl_HitsOfBall.spec := (vbody_ok (vin_ok TX1_29_ok annTX1 3) TX1_29_ok.looks _ _).ofF fun args m p R h hp => by
  unfold F_impl_HitsOfBall at h
  split at h
  · injection h with h; injection h with h1 h2; subst h1; subst h2
    exact ⟨rfl, (congrArg At (eq_impl_HitsOfBall _ _ _ _ _ _ _ _)).mp ⟨vc_impl_HitsOfBall _ _ _ _ _ _ _ hp⟩⟩
  · cases h
def TX1_30 : Tab := TX1_29.add 35 F_impl_HitsOfBall
theorem TX1_30_ok : TX1_30.Ok Tryd.prog := TX1_29_ok.add ok_impl_HitsOfBall
theorem eq_spec_MazeAfterBall (mw : Int) (mh : Int) (mc : List UInt8) (mu : Bool) (bx : Int) (by_ : Int) (bd : Int) (K : V → Prop) : VC_spec_MazeAfterBall mw mh mc mu bx by_ bd K = vbody Tryd.prog (vin Tryd.prog TX1_30 annTX1 3) TX1_30.looks (annTX1 32) 32 [.agg [.int .i64 mw, .int .i64 mh, .str mc, .bool mu], .agg [.int .i64 bx, .int .i64 by_, .int .i64 bd]] [] (fun v _ => K v) := by kernel_rfl
theorem ok_spec_MazeAfterBall : OK Tryd.prog 32 F_spec_MazeAfterBall.spec := (vbody_ok (vin_ok TX1_30_ok annTX1 3) TX1_30_ok.looks _ _).ofF fun args m p R h hp => by
  unfold F_spec_MazeAfterBall at h
  split at h
  · injection h with h; injection h with h1 h2; subst h1; subst h2
    exact ⟨rfl, (congrArg At (eq_spec_MazeAfterBall _ _ _ _ _ _ _ _)).mp ⟨vc_spec_MazeAfterBall _ _ _ _ _ _ _ hp⟩⟩
  · cases h
def TX1_31 : Tab := TX1_30.add 32 F_spec_MazeAfterBall
theorem TX1_31_ok : TX1_31.Ok Tryd.prog := TX1_30_ok.add ok_spec_MazeAfterBall
theorem eq_impl_MazeAfterBall (mw : Int) (mh : Int) (mc : List UInt8) (mu : Bool) (bx : Int) (by_ : Int) (bd : Int) (K : V → Prop) : VC_impl_MazeAfterBall mw mh mc mu bx by_ bd K = vbody Tryd.prog (vin Tryd.prog TX1_31 annTX1 3) TX1_31.looks (annTX1 33) 33 [.agg [.int .i64 mw, .int .i64 mh, .str mc, .bool mu], .agg [.int .i64 bx, .int .i64 by_, .int .i64 bd]] [] (fun v _ => K v) := by kernel_rfl
theorem ok_impl_MazeAfterBall : OK Tryd.prog 33 F_impl_MazeAfterBall.spec := (vbody_ok (vin_ok TX1_31_ok annTX1 3) TX1_31_ok.looks _ _).ofF fun args m p R h hp => by
  unfold F_impl_MazeAfterBall at h
  split at h
  · injection h with h; injection h with h1 h2; subst h1; subst h2
    exact ⟨rfl, (congrArg At (eq_impl_MazeAfterBall _ _ _ _ _ _ _ _)).mp ⟨vc_impl_MazeAfterBall _ _ _ _ _ _ _ hp⟩⟩
  · cases h
def TX1_32 : Tab := TX1_31.add 33 F_impl_MazeAfterBall
theorem TX1_32_ok : TX1_32.Ok Tryd.prog := TX1_31_ok.add ok_impl_MazeAfterBall
theorem eq_spec_l1Most (a : Int) (b : Int) (K : V → Prop) : VC_spec_l1Most a b K = vbody Tryd.prog (vin Tryd.prog TX1_32 annTX1 3) TX1_32.looks (annTX1 70) 70 [.int .i64 a, .int .i64 b] [] (fun v _ => K v) := by kernel_rfl
theorem ok_spec_l1Most : OK Tryd.prog 70 F_spec_l1Most.spec := (vbody_ok (vin_ok TX1_32_ok annTX1 3) TX1_32_ok.looks _ _).ofF fun args m p R h hp => by
  unfold F_spec_l1Most at h
  split at h
  · injection h with h; injection h with h1 h2; subst h1; subst h2
    exact ⟨rfl, (congrArg At (eq_spec_l1Most _ _ _)).mp ⟨vc_spec_l1Most _ _ hp⟩⟩
  · cases h
def TX1_33 : Tab := TX1_32.add 70 F_spec_l1Most
theorem TX1_33_ok : TX1_33.Ok Tryd.prog := TX1_32_ok.add ok_spec_l1Most
theorem eq_spec_LongestTrack (mw : Int) (mh : Int) (mc : List UInt8) (mu : Bool) (K : V → Prop) : VC_spec_LongestTrack mw mh mc mu K = vbody Tryd.prog (vin Tryd.prog TX1_33 annTX1 3) TX1_33.looks (annTX1 43) 43 [.agg [.int .i64 mw, .int .i64 mh, .str mc, .bool mu]] [] (fun v _ => K v) := by kernel_rfl
theorem ok_spec_LongestTrack : OK Tryd.prog 43 F_spec_LongestTrack.spec := (vbody_ok (vin_ok TX1_33_ok annTX1 3) TX1_33_ok.looks _ _).ofF fun args m p R h hp => by
  unfold F_spec_LongestTrack at h
  split at h
  · injection h with h; injection h with h1 h2; subst h1; subst h2
    exact ⟨rfl, (congrArg At (eq_spec_LongestTrack _ _ _ _ _)).mp ⟨vc_spec_LongestTrack _ _ _ _ hp⟩⟩
  · cases h
def TX1_34 : Tab := TX1_33.add 43 F_spec_LongestTrack
theorem TX1_34_ok : TX1_34.Ok Tryd.prog := TX1_33_ok.add ok_spec_LongestTrack
theorem eq_impl_LongestTrack (mw : Int) (mh : Int) (mc : List UInt8) (mu : Bool) (K : V → Prop) : VC_impl_LongestTrack mw mh mc mu K = vbody Tryd.prog (vin Tryd.prog TX1_34 annTX1 3) TX1_34.looks (annTX1 44) 44 [.agg [.int .i64 mw, .int .i64 mh, .str mc, .bool mu]] [] (fun v _ => K v) := by kernel_rfl
theorem ok_impl_LongestTrack : OK Tryd.prog 44 F_impl_LongestTrack.spec := (vbody_ok (vin_ok TX1_34_ok annTX1 3) TX1_34_ok.looks _ _).ofF fun args m p R h hp => by
  unfold F_impl_LongestTrack at h
  split at h
  · injection h with h; injection h with h1 h2; subst h1; subst h2
    exact ⟨rfl, (congrArg At (eq_impl_LongestTrack _ _ _ _ _)).mp ⟨vc_impl_LongestTrack _ _ _ _ hp⟩⟩
  · cases h
def TX1_35 : Tab := TX1_34.add 44 F_impl_LongestTrack
theorem TX1_35_ok : TX1_35.Ok Tryd.prog := TX1_34_ok.add ok_impl_LongestTrack
theorem eq_laws_eqIntS  (n : Nat) (m : Nat) (a : List Int) (b : List Int) (K : V → List Blk → Prop) : VC_laws_eqIntS  n m a b K = vbody Tryd.prog (vin Tryd.prog TX1_35 annTX1 3) TX1_35.looks (annTX1 38) 38 [.row 0 n, .row 1 m] [⟨.ints .i64 a, 3, .row⟩, ⟨.ints .i64 b, 3, .row⟩] (K) := by kernel_rfl
theorem ok_laws_eqIntS : OK Tryd.prog 38 F_laws_eqIntS.spec := (vbody_ok (vin_ok TX1_35_ok annTX1 3) TX1_35_ok.looks _ _).ofFM fun args m p R h hp => by
  unfold F_laws_eqIntS at h
  split at h
  · injection h with h; injection h with h1 h2; subst h1; subst h2
    exact (congrArg At (eq_laws_eqIntS _ _ _ _ _)).mp ⟨vc_laws_eqIntS _ _ _ _ hp⟩
  · cases h
def TX1_36 : Tab := TX1_35.add 38 F_laws_eqIntS
theorem TX1_36_ok : TX1_36.Ok Tryd.prog := TX1_35_ok.add ok_laws_eqIntS
theorem eq_laws_markIntS (k : Int) (n : Nat) (a : List Int) (K : V → List Blk → Prop) : VC_laws_markIntS k n a K = vbody Tryd.prog (vin Tryd.prog TX1_36 annTX1 3) TX1_36.looks (annTX1 39) 39 [.row 0 n, .int .i64 k] [⟨.ints .i64 a, 3, .row⟩] (K) := by kernel_rfl
theorem ok_laws_markIntS : OK Tryd.prog 39 F_laws_markIntS.spec := (vbody_ok (vin_ok TX1_36_ok annTX1 3) TX1_36_ok.looks _ _).ofG fun args m p R M h hp => by
  unfold F_laws_markIntS at h
  split at h
  · injection h with h; injection h with h1 h2; injection h2 with h2 h3; subst h1; subst h2; subst h3
    exact (congrArg At (eq_laws_markIntS _ _ _ _)).mp ⟨vc_laws_markIntS _ _ _ hp⟩
  · cases h
def TX1_37 : Tab := TX1_36.addG 39 F_laws_markIntS
theorem TX1_37_ok : TX1_37.Ok Tryd.prog := TX1_36_ok.addG ok_laws_markIntS
theorem eq_laws_heldIntS (k : Int) (n : Nat) (a : List Int) (K : V → List Blk → Prop) : VC_laws_heldIntS k n a K = vbody Tryd.prog (vin Tryd.prog TX1_37 annTX1 3) TX1_37.looks (annTX1 40) 40 [.row 0 n, .int .i64 k] [⟨.ints .i64 a, 3, .row⟩] (K) := by kernel_rfl
theorem ok_laws_heldIntS : OK Tryd.prog 40 F_laws_heldIntS.spec := (vbody_ok (vin_ok TX1_37_ok annTX1 3) TX1_37_ok.looks _ _).ofFM fun args m p R h hp => by
  unfold F_laws_heldIntS at h
  split at h
  · injection h with h; injection h with h1 h2; subst h1; subst h2
    exact (congrArg At (eq_laws_heldIntS _ _ _ _)).mp ⟨vc_laws_heldIntS _ _ _ hp⟩
  · cases h
def TX1_38 : Tab := TX1_37.add 40 F_laws_heldIntS
theorem TX1_38_ok : TX1_38.Ok Tryd.prog := TX1_37_ok.add ok_laws_heldIntS
theorem eq_spec_ExitTable (mw : Int) (mh : Int) (mc : List UInt8) (mu : Bool) (K : V → List Blk → Prop) : VC_spec_ExitTable mw mh mc mu K = vbody Tryd.prog (vin Tryd.prog TX1_38 annTX1 3) TX1_38.looks (annTX1 36) 36 [.agg [.int .i64 mw, .int .i64 mh, .str mc, .bool mu]] [] (K) := by kernel_rfl
theorem ok_spec_ExitTable : OK Tryd.prog 36 F_spec_ExitTable.spec := (vbody_ok (vin_ok TX1_38_ok annTX1 3) TX1_38_ok.looks _ _).ofG fun args m p R M h hp => by
  unfold F_spec_ExitTable at h
  split at h
  · injection h with h; injection h with h1 h2; injection h2 with h2 h3; subst h1; subst h2; subst h3
    exact (congrArg At (eq_spec_ExitTable _ _ _ _ _)).mp ⟨vc_spec_ExitTable _ _ _ _ hp⟩
  · cases h
def TX1_39 : Tab := TX1_38.addG 36 F_spec_ExitTable
theorem TX1_39_ok : TX1_39.Ok Tryd.prog := TX1_38_ok.addG ok_spec_ExitTable
theorem eq_impl_ExitTable (mw : Int) (mh : Int) (mc : List UInt8) (mu : Bool) (K : V → List Blk → Prop) : VC_impl_ExitTable mw mh mc mu K = vbody Tryd.prog (vin Tryd.prog TX1_39 annTX1 3) TX1_39.looks (annTX1 37) 37 [.agg [.int .i64 mw, .int .i64 mh, .str mc, .bool mu]] [] (K) := by kernel_rfl
theorem ok_impl_ExitTable : OK Tryd.prog 37 F_impl_ExitTable.spec := (vbody_ok (vin_ok TX1_39_ok annTX1 3) TX1_39_ok.looks _ _).ofG fun args m p R M h hp => by
  unfold F_impl_ExitTable at h
  split at h
  · injection h with h; injection h with h1 h2; injection h2 with h2 h3; subst h1; subst h2; subst h3
    exact (congrArg At (eq_impl_ExitTable _ _ _ _ _)).mp ⟨vc_impl_ExitTable _ _ _ _ hp⟩
  · cases h
def TX1_40 : Tab := TX1_39.addG 37 F_impl_ExitTable
theorem TX1_40_ok : TX1_40.Ok Tryd.prog := TX1_39_ok.addG ok_impl_ExitTable
def TX1 : Tab := TX1_40
theorem TX1_ok : TX1.Ok Tryd.prog := TX1_40_ok
end Go.Proofs.YtkkpkfphfhcgoaaDoor
