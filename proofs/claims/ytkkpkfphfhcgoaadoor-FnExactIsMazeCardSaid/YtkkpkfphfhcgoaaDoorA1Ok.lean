/- The contracts of this chapter. -/
import Derived.Test.YtkkpkfphfhcgoaaDoorA1Lib
import Derived.Test.YtkkpkfphfhcgoaaDoorProg
import Derived.Test.YtkkpkfphfhcgoaaDoorA1Pf
import Derived.KernelRfl
namespace Go.Proofs.YtkkpkfphfhcgoaaDoor
open Go Go.Vi
set_option linter.unusedVariables false
def annTA1 : FuncId → Nat → St → Option Ann := fun f => if f = 6 then ann_laws_FnExactHitCell else if f = 47 then ann_spec_miGood else if f = 22 then ann_spec_CountMirrors else (fun _ _ => none)
def TA1_0 : Tab := Tab.none
theorem TA1_0_ok : TA1_0.Ok Tryd.prog := Tab.none_ok
theorem eq_spec_l1In (n : Int) (lo : Int) (hi : Int) (K : V → Prop) : VC_spec_l1In n lo hi K = vbody Tryd.prog (vin Tryd.prog TA1_0 annTA1 3) TA1_0.looks (annTA1 71) 71 [.int .i64 n, .int .i64 lo, .int .i64 hi] [] (fun v _ => K v) := by kernel_rfl
theorem ok_spec_l1In : OK Tryd.prog 71 F_spec_l1In.spec := (vbody_ok (vin_ok TA1_0_ok annTA1 3) TA1_0_ok.looks _ _).ofF fun args m p R h hp => by
  unfold F_spec_l1In at h
  split at h
  · injection h with h; injection h with h1 h2; subst h1; subst h2
    exact ⟨rfl, (congrArg At (eq_spec_l1In _ _ _ _)).mp ⟨vc_spec_l1In _ _ _ hp⟩⟩
  · cases h
def TA1_1 : Tab := TA1_0.add 71 F_spec_l1In
theorem TA1_1_ok : TA1_1.Ok Tryd.prog := TA1_0_ok.add ok_spec_l1In
theorem eq_impl_within (n : Int) (lo : Int) (hi : Int) (K : V → Prop) : VC_impl_within n lo hi K = vbody Tryd.prog (vin Tryd.prog TA1_1 annTA1 3) TA1_1.looks (annTA1 72) 72 [.int .i64 n, .int .i64 lo, .int .i64 hi] [] (fun v _ => K v) := by kernel_rfl
theorem ok_impl_within : OK Tryd.prog 72 F_impl_within.spec := (vbody_ok (vin_ok TA1_1_ok annTA1 3) TA1_1_ok.looks _ _).ofF fun args m p R h hp => by
  unfold F_impl_within at h
  split at h
  · injection h with h; injection h with h1 h2; subst h1; subst h2
    exact ⟨rfl, (congrArg At (eq_impl_within _ _ _ _)).mp ⟨vc_impl_within _ _ _ hp⟩⟩
  · cases h
def TA1_2 : Tab := TA1_1.add 72 F_impl_within
theorem TA1_2_ok : TA1_2.Ok Tryd.prog := TA1_1_ok.add ok_impl_within
theorem eq_spec_miGood (mw : Int) (mh : Int) (mc : List UInt8) (mu : Bool) (K : V → Prop) : VC_spec_miGood mw mh mc mu K = vbody Tryd.prog (vin Tryd.prog TA1_2 annTA1 3) TA1_2.looks (annTA1 47) 47 [.agg [.int .i64 mw, .int .i64 mh, .str mc, .bool mu]] [] (fun v _ => K v) := by kernel_rfl
theorem ok_spec_miGood : OK Tryd.prog 47 F_spec_miGood.spec := (vbody_ok (vin_ok TA1_2_ok annTA1 3) TA1_2_ok.looks _ _).ofF fun args m p R h hp => by
  unfold F_spec_miGood at h
  split at h
  · injection h with h; injection h with h1 h2; subst h1; subst h2
    exact ⟨rfl, (congrArg At (eq_spec_miGood _ _ _ _ _)).mp ⟨vc_spec_miGood _ _ _ _ hp⟩⟩
  · cases h
def TA1_3 : Tab := TA1_2.add 47 F_spec_miGood
theorem TA1_3_ok : TA1_3.Ok Tryd.prog := TA1_2_ok.add ok_spec_miGood
theorem ok_strings_Trim : OK Tryd.prog 49 F_strings_Trim.spec := Go.Proofs.Tryd.libTrim
def TA1_4 : Tab := TA1_3.add 49 F_strings_Trim
theorem TA1_4_ok : TA1_4.Ok Tryd.prog := TA1_3_ok.add ok_strings_Trim
theorem eq_impl_IsMaze (mw : Int) (mh : Int) (mc : List UInt8) (mu : Bool) (K : V → Prop) : VC_impl_IsMaze mw mh mc mu K = vbody Tryd.prog (vin Tryd.prog TA1_4 annTA1 3) TA1_4.looks (annTA1 18) 18 [.agg [.int .i64 mw, .int .i64 mh, .str mc, .bool mu]] [] (fun v _ => K v) := by kernel_rfl
theorem ok_impl_IsMaze : OK Tryd.prog 18 F_impl_IsMaze.spec := (vbody_ok (vin_ok TA1_4_ok annTA1 3) TA1_4_ok.looks _ _).ofF fun args m p R h hp => by
  unfold F_impl_IsMaze at h
  split at h
  · injection h with h; injection h with h1 h2; subst h1; subst h2
    exact ⟨rfl, (congrArg At (eq_impl_IsMaze _ _ _ _ _)).mp ⟨vc_impl_IsMaze _ _ _ _ hp⟩⟩
  · cases h
def TA1_5 : Tab := TA1_4.add 18 F_impl_IsMaze
theorem TA1_5_ok : TA1_5.Ok Tryd.prog := TA1_4_ok.add ok_impl_IsMaze
theorem eq_laws_szMaze (mw : Int) (mh : Int) (mc : List UInt8) (mu : Bool) (left : Int) (K : V → Prop) : VC_laws_szMaze mw mh mc mu left K = vbody Tryd.prog (vin Tryd.prog TA1_5 annTA1 3) TA1_5.looks (annTA1 15) 15 [.agg [.int .i64 mw, .int .i64 mh, .str mc, .bool mu], .int .i64 left] [] (fun v _ => K v) := by kernel_rfl
theorem ok_laws_szMaze : OK Tryd.prog 15 F_laws_szMaze.spec := (vbody_ok (vin_ok TA1_5_ok annTA1 3) TA1_5_ok.looks _ _).ofF fun args m p R h hp => by
  unfold F_laws_szMaze at h
  split at h
  · injection h with h; injection h with h1 h2; subst h1; subst h2
    exact ⟨rfl, (congrArg At (eq_laws_szMaze _ _ _ _ _ _)).mp ⟨vc_laws_szMaze _ _ _ _ _ hp⟩⟩
  · cases h
def TA1_6 : Tab := TA1_5.add 15 F_laws_szMaze
theorem TA1_6_ok : TA1_6.Ok Tryd.prog := TA1_5_ok.add ok_laws_szMaze
theorem eq_laws_toMaze (mw : Int) (mh : Int) (mc : List UInt8) (mu : Bool) (K : V → Prop) : VC_laws_toMaze mw mh mc mu K = vbody Tryd.prog (vin Tryd.prog TA1_6 annTA1 3) TA1_6.looks (annTA1 17) 17 [.agg [.int .i64 mw, .int .i64 mh, .str mc, .bool mu]] [] (fun v _ => K v) := by kernel_rfl
theorem ok_laws_toMaze : OK Tryd.prog 17 F_laws_toMaze.spec := (vbody_ok (vin_ok TA1_6_ok annTA1 3) TA1_6_ok.looks _ _).ofF fun args m p R h hp => by
  unfold F_laws_toMaze at h
  split at h
  · injection h with h; injection h with h1 h2; subst h1; subst h2
    exact ⟨rfl, (congrArg At (eq_laws_toMaze _ _ _ _ _)).mp ⟨vc_laws_toMaze _ _ _ _ hp⟩⟩
  · cases h
def TA1_7 : Tab := TA1_6.add 17 F_laws_toMaze
theorem TA1_7_ok : TA1_7.Ok Tryd.prog := TA1_6_ok.add ok_laws_toMaze
theorem eq_laws_toBall (bx : Int) (by_ : Int) (bd : Int) (K : V → Prop) : VC_laws_toBall bx by_ bd K = vbody Tryd.prog (vin Tryd.prog TA1_7 annTA1 3) TA1_7.looks (annTA1 20) 20 [.agg [.int .i64 bx, .int .i64 by_, .int .i64 bd]] [] (fun v _ => K v) := by kernel_rfl
theorem ok_laws_toBall : OK Tryd.prog 20 F_laws_toBall.spec := (vbody_ok (vin_ok TA1_7_ok annTA1 3) TA1_7_ok.looks _ _).ofF fun args m p R h hp => by
  unfold F_laws_toBall at h
  split at h
  · injection h with h; injection h with h1 h2; subst h1; subst h2
    exact ⟨rfl, (congrArg At (eq_laws_toBall _ _ _ _)).mp ⟨vc_laws_toBall _ _ _ hp⟩⟩
  · cases h
def TA1_8 : Tab := TA1_7.add 20 F_laws_toBall
theorem TA1_8_ok : TA1_8.Ok Tryd.prog := TA1_7_ok.add ok_laws_toBall
theorem eq_laws_eqMaze (aw : Int) (ah : Int) (ac : List UInt8) (au : Bool) (bw : Int) (bh : Int) (bc : List UInt8) (bu : Bool) (K : V → Prop) : VC_laws_eqMaze aw ah ac au bw bh bc bu K = vbody Tryd.prog (vin Tryd.prog TA1_8 annTA1 3) TA1_8.looks (annTA1 26) 26 [.agg [.int .i64 aw, .int .i64 ah, .str ac, .bool au], .agg [.int .i64 bw, .int .i64 bh, .str bc, .bool bu]] [] (fun v _ => K v) := by kernel_rfl
theorem ok_laws_eqMaze : OK Tryd.prog 26 F_laws_eqMaze.spec := (vbody_ok (vin_ok TA1_8_ok annTA1 3) TA1_8_ok.looks _ _).ofF fun args m p R h hp => by
  unfold F_laws_eqMaze at h
  split at h
  · injection h with h; injection h with h1 h2; subst h1; subst h2
    exact ⟨rfl, (congrArg At (eq_laws_eqMaze _ _ _ _ _ _ _ _ _)).mp ⟨vc_laws_eqMaze _ _ _ _ _ _ _ _ hp⟩⟩
  · cases h
def TA1_9 : Tab := TA1_8.add 26 F_laws_eqMaze
theorem TA1_9_ok : TA1_9.Ok Tryd.prog := TA1_8_ok.add ok_laws_eqMaze
theorem eq_laws_eqBall (ax : Int) (ay : Int) (ad : Int) (bx : Int) (by_ : Int) (bd : Int) (K : V → Prop) : VC_laws_eqBall ax ay ad bx by_ bd K = vbody Tryd.prog (vin Tryd.prog TA1_9 annTA1 3) TA1_9.looks (annTA1 27) 27 [.agg [.int .i64 ax, .int .i64 ay, .int .i64 ad], .agg [.int .i64 bx, .int .i64 by_, .int .i64 bd]] [] (fun v _ => K v) := by kernel_rfl
theorem ok_laws_eqBall : OK Tryd.prog 27 F_laws_eqBall.spec := (vbody_ok (vin_ok TA1_9_ok annTA1 3) TA1_9_ok.looks _ _).ofF fun args m p R h hp => by
  unfold F_laws_eqBall at h
  split at h
  · injection h with h; injection h with h1 h2; subst h1; subst h2
    exact ⟨rfl, (congrArg At (eq_laws_eqBall _ _ _ _ _ _ _)).mp ⟨vc_laws_eqBall _ _ _ _ _ _ hp⟩⟩
  · cases h
def TA1_10 : Tab := TA1_9.add 27 F_laws_eqBall
theorem TA1_10_ok : TA1_10.Ok Tryd.prog := TA1_9_ok.add ok_laws_eqBall
theorem eq_spec_miBall (mw : Int) (mh : Int) (mc : List UInt8) (mu : Bool) (bx : Int) (by_ : Int) (bd : Int) (K : V → Prop) : VC_spec_miBall mw mh mc mu bx by_ bd K = vbody Tryd.prog (vin Tryd.prog TA1_10 annTA1 3) TA1_10.looks (annTA1 50) 50 [.agg [.int .i64 mw, .int .i64 mh, .str mc, .bool mu], .agg [.int .i64 bx, .int .i64 by_, .int .i64 bd]] [] (fun v _ => K v) := by kernel_rfl
theorem ok_spec_miBall : OK Tryd.prog 50 F_spec_miBall.spec := (vbody_ok (vin_ok TA1_10_ok annTA1 3) TA1_10_ok.looks _ _).ofF fun args m p R h hp => by
  unfold F_spec_miBall at h
  split at h
  · injection h with h; injection h with h1 h2; subst h1; subst h2
    exact ⟨rfl, (congrArg At (eq_spec_miBall _ _ _ _ _ _ _ _)).mp ⟨vc_spec_miBall _ _ _ _ _ _ _ hp⟩⟩
  · cases h
def TA1_11 : Tab := TA1_10.add 50 F_spec_miBall
theorem TA1_11_ok : TA1_11.Ok Tryd.prog := TA1_10_ok.add ok_spec_miBall
theorem eq_impl_IsBall (mw : Int) (mh : Int) (mc : List UInt8) (mu : Bool) (bx : Int) (by_ : Int) (bd : Int) (K : V → Prop) : VC_impl_IsBall mw mh mc mu bx by_ bd K = vbody Tryd.prog (vin Tryd.prog TA1_11 annTA1 3) TA1_11.looks (annTA1 21) 21 [.agg [.int .i64 mw, .int .i64 mh, .str mc, .bool mu], .agg [.int .i64 bx, .int .i64 by_, .int .i64 bd]] [] (fun v _ => K v) := by kernel_rfl
theorem ok_impl_IsBall : OK Tryd.prog 21 F_impl_IsBall.spec := (vbody_ok (vin_ok TA1_11_ok annTA1 3) TA1_11_ok.looks _ _).ofF fun args m p R h hp => by
  unfold F_impl_IsBall at h
  split at h
  · injection h with h; injection h with h1 h2; subst h1; subst h2
    exact ⟨rfl, (congrArg At (eq_impl_IsBall _ _ _ _ _ _ _ _)).mp ⟨vc_impl_IsBall _ _ _ _ _ _ _ hp⟩⟩
  · cases h
def TA1_12 : Tab := TA1_11.add 21 F_impl_IsBall
theorem TA1_12_ok : TA1_12.Ok Tryd.prog := TA1_11_ok.add ok_impl_IsBall
theorem eq_spec_miEntry (mw : Int) (mh : Int) (mc : List UInt8) (mu : Bool) (k : Int) (K : V → Prop) : VC_spec_miEntry mw mh mc mu k K = vbody Tryd.prog (vin Tryd.prog TA1_12 annTA1 3) TA1_12.looks (annTA1 59) 59 [.agg [.int .i64 mw, .int .i64 mh, .str mc, .bool mu], .int .i64 k] [] (fun v _ => K v) := by kernel_rfl
theorem ok_spec_miEntry : OK Tryd.prog 59 F_spec_miEntry.spec := (vbody_ok (vin_ok TA1_12_ok annTA1 3) TA1_12_ok.looks _ _).ofF fun args m p R h hp => by
  unfold F_spec_miEntry at h
  split at h
  · injection h with h; injection h with h1 h2; subst h1; subst h2
    exact ⟨rfl, (congrArg At (eq_spec_miEntry _ _ _ _ _ _)).mp ⟨vc_spec_miEntry _ _ _ _ _ hp⟩⟩
  · cases h
def TA1_13 : Tab := TA1_12.add 59 F_spec_miEntry
theorem TA1_13_ok : TA1_13.Ok Tryd.prog := TA1_12_ok.add ok_spec_miEntry
theorem eq_impl_entry (mw : Int) (mh : Int) (mc : List UInt8) (mu : Bool) (k : Int) (K : V → Prop) : VC_impl_entry mw mh mc mu k K = vbody Tryd.prog (vin Tryd.prog TA1_13 annTA1 3) TA1_13.looks (annTA1 61) 61 [.agg [.int .i64 mw, .int .i64 mh, .str mc, .bool mu], .int .i64 k] [] (fun v _ => K v) := by kernel_rfl
theorem ok_impl_entry : OK Tryd.prog 61 F_impl_entry.spec := (vbody_ok (vin_ok TA1_13_ok annTA1 3) TA1_13_ok.looks _ _).ofF fun args m p R h hp => by
  unfold F_impl_entry at h
  split at h
  · injection h with h; injection h with h1 h2; subst h1; subst h2
    exact ⟨rfl, (congrArg At (eq_impl_entry _ _ _ _ _ _)).mp ⟨vc_impl_entry _ _ _ _ _ hp⟩⟩
  · cases h
def TA1_14 : Tab := TA1_13.add 61 F_impl_entry
theorem TA1_14_ok : TA1_14.Ok Tryd.prog := TA1_13_ok.add ok_impl_entry
theorem eq_spec_miEnd (mw : Int) (mh : Int) (mc : List UInt8) (mu : Bool) (k : Int) (K : V → Prop) : VC_spec_miEnd mw mh mc mu k K = vbody Tryd.prog (vin Tryd.prog TA1_14 annTA1 3) TA1_14.looks (annTA1 58) 58 [.agg [.int .i64 mw, .int .i64 mh, .str mc, .bool mu], .int .i64 k] [] (fun v _ => K v) := by kernel_rfl
theorem ok_spec_miEnd : OK Tryd.prog 58 F_spec_miEnd.spec := (vbody_ok (vin_ok TA1_14_ok annTA1 3) TA1_14_ok.looks _ _).ofF fun args m p R h hp => by
  unfold F_spec_miEnd at h
  split at h
  · injection h with h; injection h with h1 h2; subst h1; subst h2
    exact ⟨rfl, (congrArg At (eq_spec_miEnd _ _ _ _ _ _)).mp ⟨vc_spec_miEnd _ _ _ _ _ hp⟩⟩
  · cases h
def TA1_15 : Tab := TA1_14.add 58 F_spec_miEnd
theorem TA1_15_ok : TA1_15.Ok Tryd.prog := TA1_14_ok.add ok_spec_miEnd
theorem eq_spec_miHit (mw : Int) (mh : Int) (mc : List UInt8) (mu : Bool) (bx : Int) (by_ : Int) (bd : Int) (K : V → Prop) : VC_spec_miHit mw mh mc mu bx by_ bd K = vbody Tryd.prog (vin Tryd.prog TA1_15 annTA1 3) TA1_15.looks (annTA1 54) 54 [.agg [.int .i64 mw, .int .i64 mh, .str mc, .bool mu], .agg [.int .i64 bx, .int .i64 by_, .int .i64 bd]] [] (fun v _ => K v) := by kernel_rfl
theorem ok_spec_miHit : OK Tryd.prog 54 F_spec_miHit.spec := (vbody_ok (vin_ok TA1_15_ok annTA1 3) TA1_15_ok.looks _ _).ofF fun args m p R h hp => by
  unfold F_spec_miHit at h
  split at h
  · injection h with h; injection h with h1 h2; subst h1; subst h2
    exact ⟨rfl, (congrArg At (eq_spec_miHit _ _ _ _ _ _ _ _)).mp ⟨vc_spec_miHit _ _ _ _ _ _ _ hp⟩⟩
  · cases h
def TA1_16 : Tab := TA1_15.add 54 F_spec_miHit
theorem TA1_16_ok : TA1_16.Ok Tryd.prog := TA1_15_ok.add ok_spec_miHit
theorem eq_impl_otherMirror (b : Int) (K : V → Prop) : VC_impl_otherMirror b K = vbody Tryd.prog (vin Tryd.prog TA1_16 annTA1 3) TA1_16.looks (annTA1 83) 83 [.int .u8 b] [] (fun v _ => K v) := by kernel_rfl
theorem ok_impl_otherMirror : OK Tryd.prog 83 F_impl_otherMirror.spec := (vbody_ok (vin_ok TA1_16_ok annTA1 3) TA1_16_ok.looks _ _).ofF fun args m p R h hp => by
  unfold F_impl_otherMirror at h
  split at h
  · injection h with h; injection h with h1 h2; subst h1; subst h2
    exact ⟨rfl, (congrArg At (eq_impl_otherMirror _ _)).mp ⟨vc_impl_otherMirror _ hp⟩⟩
  · cases h
def TA1_17 : Tab := TA1_16.add 83 F_impl_otherMirror
theorem TA1_17_ok : TA1_17.Ok Tryd.prog := TA1_16_ok.add ok_impl_otherMirror
theorem eq_impl_wayBehind (b : Int) (d : Int) (K : V → Prop) : VC_impl_wayBehind b d K = vbody Tryd.prog (vin Tryd.prog TA1_17 annTA1 3) TA1_17.looks (annTA1 84) 84 [.int .u8 b, .int .i64 d] [] (fun v _ => K v) := by kernel_rfl
theorem ok_impl_wayBehind : OK Tryd.prog 84 F_impl_wayBehind.spec := (vbody_ok (vin_ok TA1_17_ok annTA1 3) TA1_17_ok.looks _ _).ofF fun args m p R h hp => by
  unfold F_impl_wayBehind at h
  split at h
  · injection h with h; injection h with h1 h2; subst h1; subst h2
    exact ⟨rfl, (congrArg At (eq_impl_wayBehind _ _ _)).mp ⟨vc_impl_wayBehind _ _ hp⟩⟩
  · cases h
def TA1_18 : Tab := TA1_17.add 84 F_impl_wayBehind
theorem TA1_18_ok : TA1_18.Ok Tryd.prog := TA1_17_ok.add ok_impl_wayBehind
theorem eq_impl_direction (d : Int) (K : V → Prop) : VC_impl_direction d K = vbody Tryd.prog (vin Tryd.prog TA1_18 annTA1 3) TA1_18.looks (annTA1 85) 85 [.int .i64 d] [] (fun v _ => K v) := by kernel_rfl
theorem ok_impl_direction : OK Tryd.prog 85 F_impl_direction.spec := (vbody_ok (vin_ok TA1_18_ok annTA1 3) TA1_18_ok.looks _ _).ofF fun args m p R h hp => by
  unfold F_impl_direction at h
  split at h
  · injection h with h; injection h with h1 h2; subst h1; subst h2
    exact ⟨rfl, (congrArg At (eq_impl_direction _ _)).mp ⟨vc_impl_direction _ hp⟩⟩
  · cases h
def TA1_19 : Tab := TA1_18.add 85 F_impl_direction
theorem TA1_19_ok : TA1_19.Ok Tryd.prog := TA1_18_ok.add ok_impl_direction
theorem eq_impl_roll_goOn  (mw : Int) (mh : Int) (mc : List UInt8) (mu : Bool) (l : List UInt8) (bx : Int) (by_ : Int) (bd : Int) (en : Int) (hn : Int) (ty : TypeId) (K : V → List Blk → Prop) : VC_impl_roll_goOn  mw mh mc mu l bx by_ bd en hn ty K = vbody Tryd.prog (vin Tryd.prog TA1_19 annTA1 3) TA1_19.looks (annTA1 56) 56 [.ptr 0 0] [⟨.mix [.int .i64 mw, .int .i64 mh, .str mc, .bool mu] 81 l [.int .i64 bx, .int .i64 by_, .int .i64 bd, .int .i64 en, .int .i64 hn], ty, .box⟩] (K) := by kernel_rfl
theorem ok_impl_roll_goOn : OK Tryd.prog 56 F_impl_roll_goOn.spec := (vbody_ok (vin_ok TA1_19_ok annTA1 3) TA1_19_ok.looks _ _).ofG fun args m p R M h hp => by
  unfold F_impl_roll_goOn at h
  split at h
  · injection h with h; injection h with h1 h2; injection h2 with h2 h3; subst h1; subst h2; subst h3
    exact (congrArg At (eq_impl_roll_goOn _ _ _ _ _ _ _ _ _ _ _ _)).mp ⟨vc_impl_roll_goOn _ _ _ _ _ _ _ _ _ _ _ hp⟩
  · cases h
def TA1_20 : Tab := TA1_19.addG 56 F_impl_roll_goOn
theorem TA1_20_ok : TA1_20.Ok Tryd.prog := TA1_19_ok.addG ok_impl_roll_goOn
theorem eq_spec_CountMirrors (mw : Int) (mh : Int) (mc : List UInt8) (mu : Bool) (K : V → Prop) : VC_spec_CountMirrors mw mh mc mu K = vbody Tryd.prog (vin Tryd.prog TA1_20 annTA1 3) TA1_20.looks (annTA1 22) 22 [.agg [.int .i64 mw, .int .i64 mh, .str mc, .bool mu]] [] (fun v _ => K v) := by kernel_rfl
theorem ok_spec_CountMirrors : OK Tryd.prog 22 F_spec_CountMirrors.spec := (vbody_ok (vin_ok TA1_20_ok annTA1 3) TA1_20_ok.looks _ _).ofF fun args m p R h hp => by
  unfold F_spec_CountMirrors at h
  split at h
  · injection h with h; injection h with h1 h2; subst h1; subst h2
    exact ⟨rfl, (congrArg At (eq_spec_CountMirrors _ _ _ _ _)).mp ⟨vc_spec_CountMirrors _ _ _ _ hp⟩⟩
  · cases h
def TA1_21 : Tab := TA1_20.add 22 F_spec_CountMirrors
theorem TA1_21_ok : TA1_21.Ok Tryd.prog := TA1_20_ok.add ok_spec_CountMirrors
theorem ok_strings_Count : OK Tryd.prog 53 F_strings_Count.spec := Go.Proofs.Tryd.libCount
def TA1_22 : Tab := TA1_21.add 53 F_strings_Count
theorem TA1_22_ok : TA1_22.Ok Tryd.prog := TA1_21_ok.add ok_strings_Count
theorem eq_impl_CountMirrors (mw : Int) (mh : Int) (mc : List UInt8) (mu : Bool) (K : V → Prop) : VC_impl_CountMirrors mw mh mc mu K = vbody Tryd.prog (vin Tryd.prog TA1_22 annTA1 3) TA1_22.looks (annTA1 23) 23 [.agg [.int .i64 mw, .int .i64 mh, .str mc, .bool mu]] [] (fun v _ => K v) := by kernel_rfl
theorem ok_impl_CountMirrors : OK Tryd.prog 23 F_impl_CountMirrors.spec := (vbody_ok (vin_ok TA1_22_ok annTA1 3) TA1_22_ok.looks _ _).ofF fun args m p R h hp => by
  unfold F_impl_CountMirrors at h
  split at h
  · injection h with h; injection h with h1 h2; subst h1; subst h2
    exact ⟨rfl, (congrArg At (eq_impl_CountMirrors _ _ _ _ _)).mp ⟨vc_impl_CountMirrors _ _ _ _ hp⟩⟩
  · cases h
def TA1_23 : Tab := TA1_22.add 23 F_impl_CountMirrors
theorem TA1_23_ok : TA1_23.Ok Tryd.prog := TA1_22_ok.add ok_impl_CountMirrors
theorem eq_spec_EntryOf (mw : Int) (mh : Int) (mc : List UInt8) (mu : Bool) (k : Int) (K : V → Prop) : VC_spec_EntryOf mw mh mc mu k K = vbody Tryd.prog (vin Tryd.prog TA1_23 annTA1 3) TA1_23.looks (annTA1 28) 28 [.agg [.int .i64 mw, .int .i64 mh, .str mc, .bool mu], .int .i64 k] [] (fun v _ => K v) := by kernel_rfl
theorem ok_spec_EntryOf : OK Tryd.prog 28 F_spec_EntryOf.spec := (vbody_ok (vin_ok TA1_23_ok annTA1 3) TA1_23_ok.looks _ _).ofF fun args m p R h hp => by
  unfold F_spec_EntryOf at h
  split at h
  · injection h with h; injection h with h1 h2; subst h1; subst h2
    exact ⟨rfl, (congrArg At (eq_spec_EntryOf _ _ _ _ _ _)).mp ⟨vc_spec_EntryOf _ _ _ _ _ hp⟩⟩
  · cases h
def TA1_24 : Tab := TA1_23.add 28 F_spec_EntryOf
theorem TA1_24_ok : TA1_24.Ok Tryd.prog := TA1_23_ok.add ok_spec_EntryOf
theorem eq_impl_EntryOf (mw : Int) (mh : Int) (mc : List UInt8) (mu : Bool) (k : Int) (K : V → Prop) : VC_impl_EntryOf mw mh mc mu k K = vbody Tryd.prog (vin Tryd.prog TA1_24 annTA1 3) TA1_24.looks (annTA1 29) 29 [.agg [.int .i64 mw, .int .i64 mh, .str mc, .bool mu], .int .i64 k] [] (fun v _ => K v) := by kernel_rfl
theorem ok_impl_EntryOf : OK Tryd.prog 29 F_impl_EntryOf.spec := (vbody_ok (vin_ok TA1_24_ok annTA1 3) TA1_24_ok.looks _ _).ofF fun args m p R h hp => by
  unfold F_impl_EntryOf at h
  split at h
  · injection h with h; injection h with h1 h2; subst h1; subst h2
    exact ⟨rfl, (congrArg At (eq_impl_EntryOf _ _ _ _ _ _)).mp ⟨vc_impl_EntryOf _ _ _ _ _ hp⟩⟩
  · cases h
def TA1_25 : Tab := TA1_24.add 29 F_impl_EntryOf
theorem TA1_25_ok : TA1_25.Ok Tryd.prog := TA1_24_ok.add ok_impl_EntryOf
theorem eq_spec_HitCell (mw : Int) (mh : Int) (mc : List UInt8) (mu : Bool) (bx : Int) (by_ : Int) (bd : Int) (K : V → Prop) : VC_spec_HitCell mw mh mc mu bx by_ bd K = vbody Tryd.prog (vin Tryd.prog TA1_25 annTA1 3) TA1_25.looks (annTA1 24) 24 [.agg [.int .i64 mw, .int .i64 mh, .str mc, .bool mu], .agg [.int .i64 bx, .int .i64 by_, .int .i64 bd]] [] (fun v _ => K v) := by kernel_rfl
theorem ok_spec_HitCell : OK Tryd.prog 24 F_spec_HitCell.spec := (vbody_ok (vin_ok TA1_25_ok annTA1 3) TA1_25_ok.looks _ _).ofF fun args m p R h hp => by
  unfold F_spec_HitCell at h
  split at h
  · injection h with h; injection h with h1 h2; subst h1; subst h2
    exact ⟨rfl, (congrArg At (eq_spec_HitCell _ _ _ _ _ _ _ _)).mp ⟨vc_spec_HitCell _ _ _ _ _ _ _ hp⟩⟩
  · cases h
def TA1_26 : Tab := TA1_25.add 24 F_spec_HitCell
theorem TA1_26_ok : TA1_26.Ok Tryd.prog := TA1_25_ok.add ok_spec_HitCell
theorem eq_impl_HitCell (mw : Int) (mh : Int) (mc : List UInt8) (mu : Bool) (bx : Int) (by_ : Int) (bd : Int) (K : V → Prop) : VC_impl_HitCell mw mh mc mu bx by_ bd K = vbody Tryd.prog (vin Tryd.prog TA1_26 annTA1 3) TA1_26.looks (annTA1 25) 25 [.agg [.int .i64 mw, .int .i64 mh, .str mc, .bool mu], .agg [.int .i64 bx, .int .i64 by_, .int .i64 bd]] [] (fun v _ => K v) := by kernel_rfl
theorem ok_impl_HitCell : OK Tryd.prog 25 F_impl_HitCell.spec := (vbody_ok (vin_ok TA1_26_ok annTA1 3) TA1_26_ok.looks _ _).ofF fun args m p R h hp => by
  unfold F_impl_HitCell at h
  split at h
  · injection h with h; injection h with h1 h2; subst h1; subst h2
    exact ⟨rfl, (congrArg At (eq_impl_HitCell _ _ _ _ _ _ _ _)).mp ⟨vc_impl_HitCell _ _ _ _ _ _ _ hp⟩⟩
  · cases h
def TA1_27 : Tab := TA1_26.add 25 F_impl_HitCell
theorem TA1_27_ok : TA1_27.Ok Tryd.prog := TA1_26_ok.add ok_impl_HitCell
def TA1 : Tab := TA1_27
theorem TA1_ok : TA1.Ok Tryd.prog := TA1_27_ok
end Go.Proofs.YtkkpkfphfhcgoaaDoor
