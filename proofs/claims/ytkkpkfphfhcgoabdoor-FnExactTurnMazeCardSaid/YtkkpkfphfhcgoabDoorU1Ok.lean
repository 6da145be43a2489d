/- The contracts of this chapter. -/
import Derived.Test.YtkkpkfphfhcgoabDoorA1LibT
import Derived.Test.YtkkpkfphfhcgoabDoorProg
import Derived.Test.YtkkpkfphfhcgoabDoorU1Pf
import Derived.KernelRfl
namespace Go.Proofs.YtkkpkfphfhcgoabDoor
open Go Go.Vi
set_option linter.unusedVariables false
def annTU1 : FuncId → Nat → St → Option Ann := fun f => if f = 54 then ann_impl_relaidCells else if f = 35 then ann_impl_relaidMaze else if f = 33 then ann_spec_miGood else if f = 15 then ann_spec_TurnMaze else if f = 18 then ann_spec_MirrorMaze else (fun _ _ => none)
def TU1_0 : Tab := Tab.none
theorem TU1_0_ok : TU1_0.Ok Tryd.prog := Tab.none_ok
theorem eq_spec_l1In (n : Int) (lo : Int) (hi : Int) (K : V → Prop) : VC_spec_l1In n lo hi K = vbody Tryd.prog (vin Tryd.prog TU1_0 annTU1 3) TU1_0.looks (annTU1 25) 25 [.int .i64 n, .int .i64 lo, .int .i64 hi] [] (fun v _ => K v) := by kernel_rfl
theorem ok_spec_l1In : OK Tryd.prog 25 F_spec_l1In.spec := (vbody_ok (vin_ok TU1_0_ok annTU1 3) TU1_0_ok.looks _ _).ofF fun args m p R h hp => by
  unfold F_spec_l1In at h
  split at h
  · injection h with h; injection h with h1 h2; subst h1; subst h2
    exact ⟨rfl, (congrArg At (eq_spec_l1In _ _ _ _)).mp ⟨vc_spec_l1In _ _ _ hp⟩⟩
  · cases h
def TU1_1 : Tab := TU1_0.add 25 F_spec_l1In
theorem TU1_1_ok : TU1_1.Ok Tryd.prog := TU1_0_ok.add ok_spec_l1In
theorem eq_impl_within (n : Int) (lo : Int) (hi : Int) (K : V → Prop) : VC_impl_within n lo hi K = vbody Tryd.prog (vin Tryd.prog TU1_1 annTU1 3) TU1_1.looks (annTU1 30) 30 [.int .i64 n, .int .i64 lo, .int .i64 hi] [] (fun v _ => K v) := by kernel_rfl
theorem ok_impl_within : OK Tryd.prog 30 F_impl_within.spec := (vbody_ok (vin_ok TU1_1_ok annTU1 3) TU1_1_ok.looks _ _).ofF fun args m p R h hp => by
  unfold F_impl_within at h
  split at h
  · injection h with h; injection h with h1 h2; subst h1; subst h2
    exact ⟨rfl, (congrArg At (eq_impl_within _ _ _ _)).mp ⟨vc_impl_within _ _ _ hp⟩⟩
  · cases h
def TU1_2 : Tab := TU1_1.add 30 F_impl_within
theorem TU1_2_ok : TU1_2.Ok Tryd.prog := TU1_1_ok.add ok_impl_within
theorem eq_spec_miGood (mw : Int) (mh : Int) (mc : List UInt8) (mu : Bool) (K : V → Prop) : VC_spec_miGood mw mh mc mu K = vbody Tryd.prog (vin Tryd.prog TU1_2 annTU1 3) TU1_2.looks (annTU1 33) 33 [.agg [.int .i64 mw, .int .i64 mh, .str mc, .bool mu]] [] (fun v _ => K v) := by kernel_rfl
theorem ok_spec_miGood : OK Tryd.prog 33 F_spec_miGood.spec := (vbody_ok (vin_ok TU1_2_ok annTU1 3) TU1_2_ok.looks _ _).ofF fun args m p R h hp => by
  unfold F_spec_miGood at h
  split at h
  · injection h with h; injection h with h1 h2; subst h1; subst h2
    exact ⟨rfl, (congrArg At (eq_spec_miGood _ _ _ _ _)).mp ⟨vc_spec_miGood _ _ _ _ hp⟩⟩
  · cases h
def TU1_3 : Tab := TU1_2.add 33 F_spec_miGood
theorem TU1_3_ok : TU1_3.Ok Tryd.prog := TU1_2_ok.add ok_spec_miGood
theorem ok_strings_Trim : OK Tryd.prog 49 F_strings_Trim.spec := Go.Proofs.Tryd.libTrim
def TU1_4 : Tab := TU1_3.add 49 F_strings_Trim
theorem TU1_4_ok : TU1_4.Ok Tryd.prog := TU1_3_ok.add ok_strings_Trim
theorem eq_impl_IsMaze (mw : Int) (mh : Int) (mc : List UInt8) (mu : Bool) (K : V → Prop) : VC_impl_IsMaze mw mh mc mu K = vbody Tryd.prog (vin Tryd.prog TU1_4 annTU1 3) TU1_4.looks (annTU1 28) 28 [.agg [.int .i64 mw, .int .i64 mh, .str mc, .bool mu]] [] (fun v _ => K v) := by kernel_rfl
theorem ok_impl_IsMaze : OK Tryd.prog 28 F_impl_IsMaze.spec := (vbody_ok (vin_ok TU1_4_ok annTU1 3) TU1_4_ok.looks _ _).ofF fun args m p R h hp => by
  unfold F_impl_IsMaze at h
  split at h
  · injection h with h; injection h with h1 h2; subst h1; subst h2
    exact ⟨rfl, (congrArg At (eq_impl_IsMaze _ _ _ _ _)).mp ⟨vc_impl_IsMaze _ _ _ _ hp⟩⟩
  · cases h
def TU1_5 : Tab := TU1_4.add 28 F_impl_IsMaze
theorem TU1_5_ok : TU1_5.Ok Tryd.prog := TU1_4_ok.add ok_impl_IsMaze
theorem eq_laws_szMaze (mw : Int) (mh : Int) (mc : List UInt8) (mu : Bool) (left : Int) (K : V → Prop) : VC_laws_szMaze mw mh mc mu left K = vbody Tryd.prog (vin Tryd.prog TU1_5 annTU1 3) TU1_5.looks (annTU1 8) 8 [.agg [.int .i64 mw, .int .i64 mh, .str mc, .bool mu], .int .i64 left] [] (fun v _ => K v) := by kernel_rfl
theorem ok_laws_szMaze : OK Tryd.prog 8 F_laws_szMaze.spec := (vbody_ok (vin_ok TU1_5_ok annTU1 3) TU1_5_ok.looks _ _).ofF fun args m p R h hp => by
  unfold F_laws_szMaze at h
  split at h
  · injection h with h; injection h with h1 h2; subst h1; subst h2
    exact ⟨rfl, (congrArg At (eq_laws_szMaze _ _ _ _ _ _)).mp ⟨vc_laws_szMaze _ _ _ _ _ hp⟩⟩
  · cases h
def TU1_6 : Tab := TU1_5.add 8 F_laws_szMaze
theorem TU1_6_ok : TU1_6.Ok Tryd.prog := TU1_5_ok.add ok_laws_szMaze
theorem eq_laws_toMaze (mw : Int) (mh : Int) (mc : List UInt8) (mu : Bool) (K : V → Prop) : VC_laws_toMaze mw mh mc mu K = vbody Tryd.prog (vin Tryd.prog TU1_6 annTU1 3) TU1_6.looks (annTU1 10) 10 [.agg [.int .i64 mw, .int .i64 mh, .str mc, .bool mu]] [] (fun v _ => K v) := by kernel_rfl
theorem ok_laws_toMaze : OK Tryd.prog 10 F_laws_toMaze.spec := (vbody_ok (vin_ok TU1_6_ok annTU1 3) TU1_6_ok.looks _ _).ofF fun args m p R h hp => by
  unfold F_laws_toMaze at h
  split at h
  · injection h with h; injection h with h1 h2; subst h1; subst h2
    exact ⟨rfl, (congrArg At (eq_laws_toMaze _ _ _ _ _)).mp ⟨vc_laws_toMaze _ _ _ _ hp⟩⟩
  · cases h
def TU1_7 : Tab := TU1_6.add 10 F_laws_toMaze
theorem TU1_7_ok : TU1_7.Ok Tryd.prog := TU1_6_ok.add ok_laws_toMaze
theorem eq_laws_eqMaze (aw : Int) (ah : Int) (ac : List UInt8) (au : Bool) (bw : Int) (bh : Int) (bc : List UInt8) (bu : Bool) (K : V → Prop) : VC_laws_eqMaze aw ah ac au bw bh bc bu K = vbody Tryd.prog (vin Tryd.prog TU1_7 annTU1 3) TU1_7.looks (annTU1 17) 17 [.agg [.int .i64 aw, .int .i64 ah, .str ac, .bool au], .agg [.int .i64 bw, .int .i64 bh, .str bc, .bool bu]] [] (fun v _ => K v) := by kernel_rfl
theorem ok_laws_eqMaze : OK Tryd.prog 17 F_laws_eqMaze.spec := (vbody_ok (vin_ok TU1_7_ok annTU1 3) TU1_7_ok.looks _ _).ofF fun args m p R h hp => by
  unfold F_laws_eqMaze at h
  split at h
  · injection h with h; injection h with h1 h2; subst h1; subst h2
    exact ⟨rfl, (congrArg At (eq_laws_eqMaze _ _ _ _ _ _ _ _ _)).mp ⟨vc_laws_eqMaze _ _ _ _ _ _ _ _ hp⟩⟩
  · cases h
def TU1_8 : Tab := TU1_7.add 17 F_laws_eqMaze
theorem TU1_8_ok : TU1_8.Ok Tryd.prog := TU1_7_ok.add ok_laws_eqMaze
theorem eq_impl_otherMirror (b : Int) (K : V → Prop) : VC_impl_otherMirror b K = vbody Tryd.prog (vin Tryd.prog TU1_8 annTU1 3) TU1_8.looks (annTU1 55) 55 [.int .u8 b] [] (fun v _ => K v) := by kernel_rfl
theorem ok_impl_otherMirror : OK Tryd.prog 55 F_impl_otherMirror.spec := (vbody_ok (vin_ok TU1_8_ok annTU1 3) TU1_8_ok.looks _ _).ofF fun args m p R h hp => by
  unfold F_impl_otherMirror at h
  split at h
  · injection h with h; injection h with h1 h2; subst h1; subst h2
    exact ⟨rfl, (congrArg At (eq_impl_otherMirror _ _)).mp ⟨vc_impl_otherMirror _ hp⟩⟩
  · cases h
def TU1_9 : Tab := TU1_8.add 55 F_impl_otherMirror
theorem TU1_9_ok : TU1_9.Ok Tryd.prog := TU1_8_ok.add ok_impl_otherMirror
theorem eq_spec_miOther (b : Int) (K : V → Prop) : VC_spec_miOther b K = vbody Tryd.prog (vin Tryd.prog TU1_9 annTU1 3) TU1_9.looks (annTU1 34) 34 [.int .u8 b] [] (fun v _ => K v) := by kernel_rfl
theorem ok_spec_miOther : OK Tryd.prog 34 F_spec_miOther.spec := (vbody_ok (vin_ok TU1_9_ok annTU1 3) TU1_9_ok.looks _ _).ofF fun args m p R h hp => by
  unfold F_spec_miOther at h
  split at h
  · injection h with h; injection h with h1 h2; subst h1; subst h2
    exact ⟨rfl, (congrArg At (eq_spec_miOther _ _)).mp ⟨vc_spec_miOther _ hp⟩⟩
  · cases h
def TU1_10 : Tab := TU1_9.add 34 F_spec_miOther
theorem TU1_10_ok : TU1_10.Ok Tryd.prog := TU1_9_ok.add ok_spec_miOther
theorem eq_impl_TurnMaze_1 (x : Int) (y : Int) (mw : Int) (mh : Int) (mc : List UInt8) (mu : Bool) (K : V → List Blk → Prop) : VC_impl_TurnMaze_1 x y mw mh mc mu K = vbody Tryd.prog (vin Tryd.prog TU1_10 annTU1 3) TU1_10.looks (annTU1 36) 36 [.int .i64 x, .int .i64 y, .ptr 0 0] [⟨.vals [.int .i64 mw, .int .i64 mh, .str mc, .bool mu], 28, .box⟩] (K) := by kernel_rfl
theorem ok_impl_TurnMaze_1 : OK Tryd.prog 36 F_impl_TurnMaze_1.spec := (vbody_ok (vin_ok TU1_10_ok annTU1 3) TU1_10_ok.looks _ _).ofFM fun args m p R h hp => by
  unfold F_impl_TurnMaze_1 at h
  split at h
  · injection h with h; injection h with h1 h2; subst h1; subst h2
    exact (congrArg At (eq_impl_TurnMaze_1 _ _ _ _ _ _ _)).mp ⟨vc_impl_TurnMaze_1 _ _ _ _ _ _ hp⟩
  · cases h
def TU1_11 : Tab := TU1_10.add 36 F_impl_TurnMaze_1
theorem TU1_11_ok : TU1_11.Ok Tryd.prog := TU1_10_ok.add ok_impl_TurnMaze_1
theorem eq_impl_MirrorMaze_1 (x : Int) (y : Int) (mw : Int) (mh : Int) (mc : List UInt8) (mu : Bool) (K : V → List Blk → Prop) : VC_impl_MirrorMaze_1 x y mw mh mc mu K = vbody Tryd.prog (vin Tryd.prog TU1_11 annTU1 3) TU1_11.looks (annTU1 37) 37 [.int .i64 x, .int .i64 y, .ptr 0 0] [⟨.vals [.int .i64 mw, .int .i64 mh, .str mc, .bool mu], 28, .box⟩] (K) := by kernel_rfl
theorem ok_impl_MirrorMaze_1 : OK Tryd.prog 37 F_impl_MirrorMaze_1.spec := (vbody_ok (vin_ok TU1_11_ok annTU1 3) TU1_11_ok.looks _ _).ofFM fun args m p R h hp => by
  unfold F_impl_MirrorMaze_1 at h
  split at h
  · injection h with h; injection h with h1 h2; subst h1; subst h2
    exact (congrArg At (eq_impl_MirrorMaze_1 _ _ _ _ _ _ _)).mp ⟨vc_impl_MirrorMaze_1 _ _ _ _ _ _ hp⟩
  · cases h
def TU1_12 : Tab := TU1_11.add 37 F_impl_MirrorMaze_1
theorem TU1_12_ok : TU1_12.Ok Tryd.prog := TU1_11_ok.add ok_impl_MirrorMaze_1
theorem eq_spec_TurnMaze (mw : Int) (mh : Int) (mc : List UInt8) (mu : Bool) (K : V → Prop) : VC_spec_TurnMaze mw mh mc mu K = vbody Tryd.prog (vin Tryd.prog TU1_12 annTU1 3) TU1_12.looks (annTU1 15) 15 [.agg [.int .i64 mw, .int .i64 mh, .str mc, .bool mu]] [] (fun v _ => K v) := by kernel_rfl
theorem ok_spec_TurnMaze : OK Tryd.prog 15 F_spec_TurnMaze.spec := (vbody_ok (vin_ok TU1_12_ok annTU1 3) TU1_12_ok.looks _ _).ofF fun args m p R h hp => by
  unfold F_spec_TurnMaze at h
  split at h
  · injection h with h; injection h with h1 h2; subst h1; subst h2
    exact ⟨rfl, (congrArg At (eq_spec_TurnMaze _ _ _ _ _)).mp ⟨vc_spec_TurnMaze _ _ _ _ hp⟩⟩
  · cases h
def TU1_13 : Tab := TU1_12.add 15 F_spec_TurnMaze
theorem TU1_13_ok : TU1_13.Ok Tryd.prog := TU1_12_ok.add ok_spec_TurnMaze
theorem eq_impl_TurnMaze (mw : Int) (mh : Int) (mc : List UInt8) (mu : Bool) (K : V → Prop) : VC_impl_TurnMaze mw mh mc mu K = vbody Tryd.prog (vin Tryd.prog TU1_13 annTU1 4) TU1_13.looks (annTU1 16) 16 [.agg [.int .i64 mw, .int .i64 mh, .str mc, .bool mu]] [] (fun v _ => K v) := by kernel_rfl
theorem ok_impl_TurnMaze : OK Tryd.prog 16 F_impl_TurnMaze.spec := (vbody_ok (vin_ok TU1_13_ok annTU1 4) TU1_13_ok.looks _ _).ofF fun args m p R h hp => by
  unfold F_impl_TurnMaze at h
  split at h
  · injection h with h; injection h with h1 h2; subst h1; subst h2
    exact ⟨rfl, (congrArg At (eq_impl_TurnMaze _ _ _ _ _)).mp ⟨vc_impl_TurnMaze _ _ _ _ hp⟩⟩
  · cases h
def TU1_14 : Tab := TU1_13.add 16 F_impl_TurnMaze
theorem TU1_14_ok : TU1_14.Ok Tryd.prog := TU1_13_ok.add ok_impl_TurnMaze
theorem eq_spec_MirrorMaze (mw : Int) (mh : Int) (mc : List UInt8) (mu : Bool) (K : V → Prop) : VC_spec_MirrorMaze mw mh mc mu K = vbody Tryd.prog (vin Tryd.prog TU1_14 annTU1 3) TU1_14.looks (annTU1 18) 18 [.agg [.int .i64 mw, .int .i64 mh, .str mc, .bool mu]] [] (fun v _ => K v) := by kernel_rfl
theorem ok_spec_MirrorMaze : OK Tryd.prog 18 F_spec_MirrorMaze.spec := (vbody_ok (vin_ok TU1_14_ok annTU1 3) TU1_14_ok.looks _ _).ofF fun args m p R h hp => by
  unfold F_spec_MirrorMaze at h
  split at h
  · injection h with h; injection h with h1 h2; subst h1; subst h2
    exact ⟨rfl, (congrArg At (eq_spec_MirrorMaze _ _ _ _ _)).mp ⟨vc_spec_MirrorMaze _ _ _ _ hp⟩⟩
  · cases h
def TU1_15 : Tab := TU1_14.add 18 F_spec_MirrorMaze
theorem TU1_15_ok : TU1_15.Ok Tryd.prog := TU1_14_ok.add ok_spec_MirrorMaze
theorem eq_impl_MirrorMaze (mw : Int) (mh : Int) (mc : List UInt8) (mu : Bool) (K : V → Prop) : VC_impl_MirrorMaze mw mh mc mu K = vbody Tryd.prog (vin Tryd.prog TU1_15 annTU1 4) TU1_15.looks (annTU1 19) 19 [.agg [.int .i64 mw, .int .i64 mh, .str mc, .bool mu]] [] (fun v _ => K v) := by kernel_rfl
theorem ok_impl_MirrorMaze : OK Tryd.prog 19 F_impl_MirrorMaze.spec := (vbody_ok (vin_ok TU1_15_ok annTU1 4) TU1_15_ok.looks _ _).ofF fun args m p R h hp => by
  unfold F_impl_MirrorMaze at h
  split at h
  · injection h with h; injection h with h1 h2; subst h1; subst h2
    exact ⟨rfl, (congrArg At (eq_impl_MirrorMaze _ _ _ _ _)).mp ⟨vc_impl_MirrorMaze _ _ _ _ hp⟩⟩
  · cases h
def TU1_16 : Tab := TU1_15.add 19 F_impl_MirrorMaze
theorem TU1_16_ok : TU1_16.Ok Tryd.prog := TU1_15_ok.add ok_impl_MirrorMaze
def TU1 : Tab := TU1_16
theorem TU1_ok : TU1.Ok Tryd.prog := TU1_16_ok
end Go.Proofs.YtkkpkfphfhcgoabDoor
