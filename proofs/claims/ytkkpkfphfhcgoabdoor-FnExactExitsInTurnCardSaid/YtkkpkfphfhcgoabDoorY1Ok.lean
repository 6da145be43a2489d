/- The contracts of this chapter. -/
import Derived.Test.YtkkpkfphfhcgoabDoorA1LibT
import Derived.Test.YtkkpkfphfhcgoabDoorProg
import Derived.Test.YtkkpkfphfhcgoabDoorY1Pf
import Derived.KernelRfl
namespace Go.Proofs.YtkkpkfphfhcgoabDoor
open Go Go.Vi
set_option linter.unusedVariables false
def annTY1 : FuncId → Nat → St → Option Ann := fun f => if f = 33 then ann_spec_miGood else if f = 52 then ann_impl_roll_goOut else if f = 26 then ann_spec_miRun else if f = 12 then ann_laws_eqIntS else if f = 13 then ann_laws_markIntS else if f = 14 then ann_laws_heldIntS else if f = 9 then ann_spec_ExitsInTurn else if f = 11 then ann_impl_ExitsInTurn else (fun _ _ => none)
def TY1_0 : Tab := Tab.none
theorem TY1_0_ok : TY1_0.Ok Tryd.prog := Tab.none_ok
theorem eq_spec_l1In (n : Int) (lo : Int) (hi : Int) (K : V → Prop) : VC_spec_l1In n lo hi K = vbody Tryd.prog (vin Tryd.prog TY1_0 annTY1 3) TY1_0.looks (annTY1 25) 25 [.int .i64 n, .int .i64 lo, .int .i64 hi] [] (fun v _ => K v) := by kernel_rfl
theorem ok_spec_l1In : OK Tryd.prog 25 F_spec_l1In.spec := (vbody_ok (vin_ok TY1_0_ok annTY1 3) TY1_0_ok.looks _ _).ofF fun args m p R h hp => by
  unfold F_spec_l1In at h
  split at h
  · injection h with h; injection h with h1 h2; subst h1; subst h2
    exact ⟨rfl, (congrArg At (eq_spec_l1In _ _ _ _)).mp ⟨vc_spec_l1In _ _ _ hp⟩⟩
  · cases h
def TY1_1 : Tab := TY1_0.add 25 F_spec_l1In
theorem TY1_1_ok : TY1_1.Ok Tryd.prog := TY1_0_ok.add ok_spec_l1In
theorem eq_impl_within (n : Int) (lo : Int) (hi : Int) (K : V → Prop) : VC_impl_within n lo hi K = vbody Tryd.prog (vin Tryd.prog TY1_1 annTY1 3) TY1_1.looks (annTY1 30) 30 [.int .i64 n, .int .i64 lo, .int .i64 hi] [] (fun v _ => K v) := by kernel_rfl
theorem ok_impl_within : OK Tryd.prog 30 F_impl_within.spec := (vbody_ok (vin_ok TY1_1_ok annTY1 3) TY1_1_ok.looks _ _).ofF fun args m p R h hp => by
  unfold F_impl_within at h
  split at h
  · injection h with h; injection h with h1 h2; subst h1; subst h2
    exact ⟨rfl, (congrArg At (eq_impl_within _ _ _ _)).mp ⟨vc_impl_within _ _ _ hp⟩⟩
  · cases h
def TY1_2 : Tab := TY1_1.add 30 F_impl_within
theorem TY1_2_ok : TY1_2.Ok Tryd.prog := TY1_1_ok.add ok_impl_within
theorem eq_spec_miGood (mw : Int) (mh : Int) (mc : List UInt8) (mu : Bool) (K : V → Prop) : VC_spec_miGood mw mh mc mu K = vbody Tryd.prog (vin Tryd.prog TY1_2 annTY1 3) TY1_2.looks (annTY1 33) 33 [.agg [.int .i64 mw, .int .i64 mh, .str mc, .bool mu]] [] (fun v _ => K v) := by kernel_rfl
theorem ok_spec_miGood : OK Tryd.prog 33 F_spec_miGood.spec := (vbody_ok (vin_ok TY1_2_ok annTY1 3) TY1_2_ok.looks _ _).ofF fun args m p R h hp => by
  unfold F_spec_miGood at h
  split at h
  · injection h with h; injection h with h1 h2; subst h1; subst h2
    exact ⟨rfl, (congrArg At (eq_spec_miGood _ _ _ _ _)).mp ⟨vc_spec_miGood _ _ _ _ hp⟩⟩
  · cases h
def TY1_3 : Tab := TY1_2.add 33 F_spec_miGood
theorem TY1_3_ok : TY1_3.Ok Tryd.prog := TY1_2_ok.add ok_spec_miGood
theorem ok_strings_Trim : OK Tryd.prog 49 F_strings_Trim.spec := Go.Proofs.Tryd.libTrim
def TY1_4 : Tab := TY1_3.add 49 F_strings_Trim
theorem TY1_4_ok : TY1_4.Ok Tryd.prog := TY1_3_ok.add ok_strings_Trim
theorem eq_impl_IsMaze (mw : Int) (mh : Int) (mc : List UInt8) (mu : Bool) (K : V → Prop) : VC_impl_IsMaze mw mh mc mu K = vbody Tryd.prog (vin Tryd.prog TY1_4 annTY1 3) TY1_4.looks (annTY1 28) 28 [.agg [.int .i64 mw, .int .i64 mh, .str mc, .bool mu]] [] (fun v _ => K v) := by kernel_rfl
theorem ok_impl_IsMaze : OK Tryd.prog 28 F_impl_IsMaze.spec := (vbody_ok (vin_ok TY1_4_ok annTY1 3) TY1_4_ok.looks _ _).ofF fun args m p R h hp => by
  unfold F_impl_IsMaze at h
  split at h
  · injection h with h; injection h with h1 h2; subst h1; subst h2
    exact ⟨rfl, (congrArg At (eq_impl_IsMaze _ _ _ _ _)).mp ⟨vc_impl_IsMaze _ _ _ _ hp⟩⟩
  · cases h
def TY1_5 : Tab := TY1_4.add 28 F_impl_IsMaze
theorem TY1_5_ok : TY1_5.Ok Tryd.prog := TY1_4_ok.add ok_impl_IsMaze
theorem eq_laws_szMaze (mw : Int) (mh : Int) (mc : List UInt8) (mu : Bool) (left : Int) (K : V → Prop) : VC_laws_szMaze mw mh mc mu left K = vbody Tryd.prog (vin Tryd.prog TY1_5 annTY1 3) TY1_5.looks (annTY1 8) 8 [.agg [.int .i64 mw, .int .i64 mh, .str mc, .bool mu], .int .i64 left] [] (fun v _ => K v) := by kernel_rfl
theorem ok_laws_szMaze : OK Tryd.prog 8 F_laws_szMaze.spec := (vbody_ok (vin_ok TY1_5_ok annTY1 3) TY1_5_ok.looks _ _).ofF fun args m p R h hp => by
  unfold F_laws_szMaze at h
  split at h
  · injection h with h; injection h with h1 h2; subst h1; subst h2
    exact ⟨rfl, (congrArg At (eq_laws_szMaze _ _ _ _ _ _)).mp ⟨vc_laws_szMaze _ _ _ _ _ hp⟩⟩
  · cases h
def TY1_6 : Tab := TY1_5.add 8 F_laws_szMaze
theorem TY1_6_ok : TY1_6.Ok Tryd.prog := TY1_5_ok.add ok_laws_szMaze
theorem eq_laws_toMaze (mw : Int) (mh : Int) (mc : List UInt8) (mu : Bool) (K : V → Prop) : VC_laws_toMaze mw mh mc mu K = vbody Tryd.prog (vin Tryd.prog TY1_6 annTY1 3) TY1_6.looks (annTY1 10) 10 [.agg [.int .i64 mw, .int .i64 mh, .str mc, .bool mu]] [] (fun v _ => K v) := by kernel_rfl
theorem ok_laws_toMaze : OK Tryd.prog 10 F_laws_toMaze.spec := (vbody_ok (vin_ok TY1_6_ok annTY1 3) TY1_6_ok.looks _ _).ofF fun args m p R h hp => by
  unfold F_laws_toMaze at h
  split at h
  · injection h with h; injection h with h1 h2; subst h1; subst h2
    exact ⟨rfl, (congrArg At (eq_laws_toMaze _ _ _ _ _)).mp ⟨vc_laws_toMaze _ _ _ _ hp⟩⟩
  · cases h
def TY1_7 : Tab := TY1_6.add 10 F_laws_toMaze
theorem TY1_7_ok : TY1_7.Ok Tryd.prog := TY1_6_ok.add ok_laws_toMaze
theorem eq_laws_eqMaze (aw : Int) (ah : Int) (ac : List UInt8) (au : Bool) (bw : Int) (bh : Int) (bc : List UInt8) (bu : Bool) (K : V → Prop) : VC_laws_eqMaze aw ah ac au bw bh bc bu K = vbody Tryd.prog (vin Tryd.prog TY1_7 annTY1 3) TY1_7.looks (annTY1 17) 17 [.agg [.int .i64 aw, .int .i64 ah, .str ac, .bool au], .agg [.int .i64 bw, .int .i64 bh, .str bc, .bool bu]] [] (fun v _ => K v) := by kernel_rfl
theorem ok_laws_eqMaze : OK Tryd.prog 17 F_laws_eqMaze.spec := (vbody_ok (vin_ok TY1_7_ok annTY1 3) TY1_7_ok.looks _ _).ofF fun args m p R h hp => by
  unfold F_laws_eqMaze at h
  split at h
  · injection h with h; injection h with h1 h2; subst h1; subst h2
    exact ⟨rfl, (congrArg At (eq_laws_eqMaze _ _ _ _ _ _ _ _ _)).mp ⟨vc_laws_eqMaze _ _ _ _ _ _ _ _ hp⟩⟩
  · cases h
def TY1_8 : Tab := TY1_7.add 17 F_laws_eqMaze
theorem TY1_8_ok : TY1_8.Ok Tryd.prog := TY1_7_ok.add ok_laws_eqMaze
theorem eq_spec_miBall (mw : Int) (mh : Int) (mc : List UInt8) (mu : Bool) (bx : Int) (by_ : Int) (bd : Int) (K : V → Prop) : VC_spec_miBall mw mh mc mu bx by_ bd K = vbody Tryd.prog (vin Tryd.prog TY1_8 annTY1 3) TY1_8.looks (annTY1 46) 46 [.agg [.int .i64 mw, .int .i64 mh, .str mc, .bool mu], .agg [.int .i64 bx, .int .i64 by_, .int .i64 bd]] [] (fun v _ => K v) := by kernel_rfl
theorem ok_spec_miBall : OK Tryd.prog 46 F_spec_miBall.spec := (vbody_ok (vin_ok TY1_8_ok annTY1 3) TY1_8_ok.looks _ _).ofF fun args m p R h hp => by
  unfold F_spec_miBall at h
  split at h
  · injection h with h; injection h with h1 h2; subst h1; subst h2
    exact ⟨rfl, (congrArg At (eq_spec_miBall _ _ _ _ _ _ _ _)).mp ⟨vc_spec_miBall _ _ _ _ _ _ _ hp⟩⟩
  · cases h
def TY1_9 : Tab := TY1_8.add 46 F_spec_miBall
theorem TY1_9_ok : TY1_9.Ok Tryd.prog := TY1_8_ok.add ok_spec_miBall
theorem eq_spec_miEntry (mw : Int) (mh : Int) (mc : List UInt8) (mu : Bool) (k : Int) (K : V → Prop) : VC_spec_miEntry mw mh mc mu k K = vbody Tryd.prog (vin Tryd.prog TY1_9 annTY1 3) TY1_9.looks (annTY1 27) 27 [.agg [.int .i64 mw, .int .i64 mh, .str mc, .bool mu], .int .i64 k] [] (fun v _ => K v) := by kernel_rfl
theorem ok_spec_miEntry : OK Tryd.prog 27 F_spec_miEntry.spec := (vbody_ok (vin_ok TY1_9_ok annTY1 3) TY1_9_ok.looks _ _).ofF fun args m p R h hp => by
  unfold F_spec_miEntry at h
  split at h
  · injection h with h; injection h with h1 h2; subst h1; subst h2
    exact ⟨rfl, (congrArg At (eq_spec_miEntry _ _ _ _ _ _)).mp ⟨vc_spec_miEntry _ _ _ _ _ hp⟩⟩
  · cases h
def TY1_10 : Tab := TY1_9.add 27 F_spec_miEntry
theorem TY1_10_ok : TY1_10.Ok Tryd.prog := TY1_9_ok.add ok_spec_miEntry
theorem eq_impl_entry (mw : Int) (mh : Int) (mc : List UInt8) (mu : Bool) (k : Int) (K : V → Prop) : VC_impl_entry mw mh mc mu k K = vbody Tryd.prog (vin Tryd.prog TY1_10 annTY1 3) TY1_10.looks (annTY1 51) 51 [.agg [.int .i64 mw, .int .i64 mh, .str mc, .bool mu], .int .i64 k] [] (fun v _ => K v) := by kernel_rfl
theorem ok_impl_entry : OK Tryd.prog 51 F_impl_entry.spec := (vbody_ok (vin_ok TY1_10_ok annTY1 3) TY1_10_ok.looks _ _).ofF fun args m p R h hp => by
  unfold F_impl_entry at h
  split at h
  · injection h with h; injection h with h1 h2; subst h1; subst h2
    exact ⟨rfl, (congrArg At (eq_impl_entry _ _ _ _ _ _)).mp ⟨vc_impl_entry _ _ _ _ _ hp⟩⟩
  · cases h
def TY1_11 : Tab := TY1_10.add 51 F_impl_entry
theorem TY1_11_ok : TY1_11.Ok Tryd.prog := TY1_10_ok.add ok_impl_entry
theorem eq_spec_miEnd (mw : Int) (mh : Int) (mc : List UInt8) (mu : Bool) (k : Int) (K : V → Prop) : VC_spec_miEnd mw mh mc mu k K = vbody Tryd.prog (vin Tryd.prog TY1_11 annTY1 3) TY1_11.looks (annTY1 24) 24 [.agg [.int .i64 mw, .int .i64 mh, .str mc, .bool mu], .int .i64 k] [] (fun v _ => K v) := by kernel_rfl
theorem ok_spec_miEnd : OK Tryd.prog 24 F_spec_miEnd.spec := (vbody_ok (vin_ok TY1_11_ok annTY1 3) TY1_11_ok.looks _ _).ofF fun args m p R h hp => by
  unfold F_spec_miEnd at h
  split at h
  · injection h with h; injection h with h1 h2; subst h1; subst h2
    exact ⟨rfl, (congrArg At (eq_spec_miEnd _ _ _ _ _ _)).mp ⟨vc_spec_miEnd _ _ _ _ _ hp⟩⟩
  · cases h
def TY1_12 : Tab := TY1_11.add 24 F_spec_miEnd
theorem TY1_12_ok : TY1_12.Ok Tryd.prog := TY1_11_ok.add ok_spec_miEnd
theorem eq_spec_miHit (mw : Int) (mh : Int) (mc : List UInt8) (mu : Bool) (bx : Int) (by_ : Int) (bd : Int) (K : V → Prop) : VC_spec_miHit mw mh mc mu bx by_ bd K = vbody Tryd.prog (vin Tryd.prog TY1_12 annTY1 3) TY1_12.looks (annTY1 45) 45 [.agg [.int .i64 mw, .int .i64 mh, .str mc, .bool mu], .agg [.int .i64 bx, .int .i64 by_, .int .i64 bd]] [] (fun v _ => K v) := by kernel_rfl
theorem ok_spec_miHit : OK Tryd.prog 45 F_spec_miHit.spec := (vbody_ok (vin_ok TY1_12_ok annTY1 3) TY1_12_ok.looks _ _).ofF fun args m p R h hp => by
  unfold F_spec_miHit at h
  split at h
  · injection h with h; injection h with h1 h2; subst h1; subst h2
    exact ⟨rfl, (congrArg At (eq_spec_miHit _ _ _ _ _ _ _ _)).mp ⟨vc_spec_miHit _ _ _ _ _ _ _ hp⟩⟩
  · cases h
def TY1_13 : Tab := TY1_12.add 45 F_spec_miHit
theorem TY1_13_ok : TY1_13.Ok Tryd.prog := TY1_12_ok.add ok_spec_miHit
theorem eq_impl_otherMirror (b : Int) (K : V → Prop) : VC_impl_otherMirror b K = vbody Tryd.prog (vin Tryd.prog TY1_13 annTY1 3) TY1_13.looks (annTY1 55) 55 [.int .u8 b] [] (fun v _ => K v) := by kernel_rfl
theorem ok_impl_otherMirror : OK Tryd.prog 55 F_impl_otherMirror.spec := (vbody_ok (vin_ok TY1_13_ok annTY1 3) TY1_13_ok.looks _ _).ofF fun args m p R h hp => by
  unfold F_impl_otherMirror at h
  split at h
  · injection h with h; injection h with h1 h2; subst h1; subst h2
    exact ⟨rfl, (congrArg At (eq_impl_otherMirror _ _)).mp ⟨vc_impl_otherMirror _ hp⟩⟩
  · cases h
def TY1_14 : Tab := TY1_13.add 55 F_impl_otherMirror
theorem TY1_14_ok : TY1_14.Ok Tryd.prog := TY1_13_ok.add ok_impl_otherMirror
theorem eq_impl_wayBehind (b : Int) (d : Int) (K : V → Prop) : VC_impl_wayBehind b d K = vbody Tryd.prog (vin Tryd.prog TY1_14 annTY1 3) TY1_14.looks (annTY1 75) 75 [.int .u8 b, .int .i64 d] [] (fun v _ => K v) := by kernel_rfl
theorem ok_impl_wayBehind : OK Tryd.prog 75 F_impl_wayBehind.spec := (vbody_ok (vin_ok TY1_14_ok annTY1 3) TY1_14_ok.looks _ _).ofF fun args m p R h hp => by
  unfold F_impl_wayBehind at h
  split at h
  · injection h with h; injection h with h1 h2; subst h1; subst h2
    exact ⟨rfl, (congrArg At (eq_impl_wayBehind _ _ _)).mp ⟨vc_impl_wayBehind _ _ hp⟩⟩
  · cases h
def TY1_15 : Tab := TY1_14.add 75 F_impl_wayBehind
theorem TY1_15_ok : TY1_15.Ok Tryd.prog := TY1_14_ok.add ok_impl_wayBehind
theorem eq_impl_direction (d : Int) (K : V → Prop) : VC_impl_direction d K = vbody Tryd.prog (vin Tryd.prog TY1_15 annTY1 3) TY1_15.looks (annTY1 76) 76 [.int .i64 d] [] (fun v _ => K v) := by kernel_rfl
theorem ok_impl_direction : OK Tryd.prog 76 F_impl_direction.spec := (vbody_ok (vin_ok TY1_15_ok annTY1 3) TY1_15_ok.looks _ _).ofF fun args m p R h hp => by
  unfold F_impl_direction at h
  split at h
  · injection h with h; injection h with h1 h2; subst h1; subst h2
    exact ⟨rfl, (congrArg At (eq_impl_direction _ _)).mp ⟨vc_impl_direction _ hp⟩⟩
  · cases h
def TY1_16 : Tab := TY1_15.add 76 F_impl_direction
theorem TY1_16_ok : TY1_16.Ok Tryd.prog := TY1_15_ok.add ok_impl_direction
theorem eq_impl_roll_goOn  (mw : Int) (mh : Int) (mc : List UInt8) (mu : Bool) (l : List UInt8) (bx : Int) (by_ : Int) (bd : Int) (en : Int) (hn : Int) (K : V → List Blk → Prop) : VC_impl_roll_goOn  mw mh mc mu l bx by_ bd en hn K = vbody Tryd.prog (vin Tryd.prog TY1_16 annTY1 3) TY1_16.looks (annTY1 68) 68 [.ptr 0 0] [⟨.mix [.int .i64 mw, .int .i64 mh, .str mc, .bool mu] 81 l [.int .i64 bx, .int .i64 by_, .int .i64 bd, .int .i64 en, .int .i64 hn], 70, .box⟩] (K) := by kernel_rfl
theorem ok_impl_roll_goOn : OK Tryd.prog 68 F_impl_roll_goOn.spec := (vbody_ok (vin_ok TY1_16_ok annTY1 3) TY1_16_ok.looks _ _).ofG fun args m p R M h hp => by
  unfold F_impl_roll_goOn at h
  split at h
  · injection h with h; injection h with h1 h2; injection h2 with h2 h3; subst h1; subst h2; subst h3
    exact (congrArg At (eq_impl_roll_goOn _ _ _ _ _ _ _ _ _ _ _)).mp ⟨vc_impl_roll_goOn _ _ _ _ _ _ _ _ _ _ hp⟩
  · cases h
def TY1_17 : Tab := TY1_16.addG 68 F_impl_roll_goOn
theorem TY1_17_ok : TY1_17.Ok Tryd.prog := TY1_16_ok.addG ok_impl_roll_goOn
theorem eq_impl_roll_goOut  (mw : Int) (mh : Int) (mc : List UInt8) (mu : Bool) (l : List UInt8) (bx : Int) (by_ : Int) (bd : Int) (en : Int) (hn : Int) (K : V → List Blk → Prop) : VC_impl_roll_goOut  mw mh mc mu l bx by_ bd en hn K = vbody Tryd.prog (vin Tryd.prog TY1_17 annTY1 3) TY1_17.looks (annTY1 52) 52 [.ptr 0 0] [⟨.mix [.int .i64 mw, .int .i64 mh, .str mc, .bool mu] 81 l [.int .i64 bx, .int .i64 by_, .int .i64 bd, .int .i64 en, .int .i64 hn], 70, .box⟩] (K) := by kernel_rfl
theorem ok_impl_roll_goOut : OK Tryd.prog 52 F_impl_roll_goOut.spec := (vbody_ok (vin_ok TY1_17_ok annTY1 3) TY1_17_ok.looks _ _).ofG fun args m p R M h hp => by
  unfold F_impl_roll_goOut at h
  split at h
  · injection h with h; injection h with h1 h2; injection h2 with h2 h3; subst h1; subst h2; subst h3
    exact (congrArg At (eq_impl_roll_goOut _ _ _ _ _ _ _ _ _ _ _)).mp ⟨vc_impl_roll_goOut _ _ _ _ _ _ _ _ _ _ hp⟩
  · cases h
def TY1_18 : Tab := TY1_17.addG 52 F_impl_roll_goOut
theorem TY1_18_ok : TY1_18.Ok Tryd.prog := TY1_17_ok.addG ok_impl_roll_goOut
theorem eq_impl_endOf (mw : Int) (mh : Int) (mc : List UInt8) (mu : Bool) (bx : Int) (by_ : Int) (bd : Int) (K : V → Prop) : VC_impl_endOf mw mh mc mu bx by_ bd K = vbody Tryd.prog (vin Tryd.prog TY1_18 annTY1 3) TY1_18.looks (annTY1 53) 53 [.agg [.int .i64 mw, .int .i64 mh, .str mc, .bool mu], .agg [.int .i64 bx, .int .i64 by_, .int .i64 bd]] [] (fun v _ => K v) := by kernel_rfl
theorem ok_impl_endOf : OK Tryd.prog 53 F_impl_endOf.spec := (vbody_ok (vin_ok TY1_18_ok annTY1 3) TY1_18_ok.looks _ _).ofF fun args m p R h hp => by
  unfold F_impl_endOf at h
  split at h
  · injection h with h; injection h with h1 h2; subst h1; subst h2
    exact ⟨rfl, (congrArg At (eq_impl_endOf _ _ _ _ _ _ _ _)).mp ⟨vc_impl_endOf _ _ _ _ _ _ _ hp⟩⟩
  · cases h
def TY1_19 : Tab := TY1_18.add 53 F_impl_endOf
theorem TY1_19_ok : TY1_19.Ok Tryd.prog := TY1_18_ok.add ok_impl_endOf
theorem eq_impl_roll_send (k : Int) (mw : Int) (mh : Int) (mc : List UInt8) (mu : Bool) (l : List UInt8) (bx : Int) (by_ : Int) (bd : Int) (en : Int) (hn : Int) (K : V → List Blk → Prop) : VC_impl_roll_send k mw mh mc mu l bx by_ bd en hn K = vbody Tryd.prog (vin Tryd.prog TY1_19 annTY1 3) TY1_19.looks (annTY1 32) 32 [.ptr 0 0, .int .i64 k] [⟨.mix [.int .i64 mw, .int .i64 mh, .str mc, .bool mu] 81 l [.int .i64 bx, .int .i64 by_, .int .i64 bd, .int .i64 en, .int .i64 hn], 70, .box⟩] (K) := by kernel_rfl
theorem ok_impl_roll_send : OK Tryd.prog 32 F_impl_roll_send.spec := (vbody_ok (vin_ok TY1_19_ok annTY1 3) TY1_19_ok.looks _ _).ofG fun args m p R M h hp => by
  unfold F_impl_roll_send at h
  split at h
  · injection h with h; injection h with h1 h2; injection h2 with h2 h3; subst h1; subst h2; subst h3
    exact (congrArg At (eq_impl_roll_send _ _ _ _ _ _ _ _ _ _ _ _)).mp ⟨vc_impl_roll_send _ _ _ _ _ _ _ _ _ _ _ hp⟩
  · cases h
def TY1_20 : Tab := TY1_19.addG 32 F_impl_roll_send
theorem TY1_20_ok : TY1_20.Ok Tryd.prog := TY1_19_ok.addG ok_impl_roll_send
theorem eq_spec_miAt (mw : Int) (mh : Int) (mc : List UInt8) (mu : Bool) (bx : Int) (by_ : Int) (bd : Int) (K : V → Prop) : VC_spec_miAt mw mh mc mu bx by_ bd K = vbody Tryd.prog (vin Tryd.prog TY1_20 annTY1 3) TY1_20.looks (annTY1 44) 44 [.agg [.int .i64 mw, .int .i64 mh, .str mc, .bool mu], .agg [.int .i64 bx, .int .i64 by_, .int .i64 bd]] [] (fun v _ => K v) := by kernel_rfl
theorem ok_spec_miAt : OK Tryd.prog 44 F_spec_miAt.spec := (vbody_ok (vin_ok TY1_20_ok annTY1 3) TY1_20_ok.looks _ _).ofF fun args m p R h hp => by
  unfold F_spec_miAt at h
  split at h
  · injection h with h; injection h with h1 h2; subst h1; subst h2
    exact ⟨rfl, (congrArg At (eq_spec_miAt _ _ _ _ _ _ _ _)).mp ⟨vc_spec_miAt _ _ _ _ _ _ _ hp⟩⟩
  · cases h
def TY1_21 : Tab := TY1_20.add 44 F_spec_miAt
theorem TY1_21_ok : TY1_21.Ok Tryd.prog := TY1_20_ok.add ok_spec_miAt
theorem eq_spec_miOut (mw : Int) (mh : Int) (mc : List UInt8) (mu : Bool) (bx : Int) (by_ : Int) (bd : Int) (K : V → Prop) : VC_spec_miOut mw mh mc mu bx by_ bd K = vbody Tryd.prog (vin Tryd.prog TY1_21 annTY1 3) TY1_21.looks (annTY1 47) 47 [.agg [.int .i64 mw, .int .i64 mh, .str mc, .bool mu], .agg [.int .i64 bx, .int .i64 by_, .int .i64 bd]] [] (fun v _ => K v) := by kernel_rfl
theorem ok_spec_miOut : OK Tryd.prog 47 F_spec_miOut.spec := (vbody_ok (vin_ok TY1_21_ok annTY1 3) TY1_21_ok.looks _ _).ofF fun args m p R h hp => by
  unfold F_spec_miOut at h
  split at h
  · injection h with h; injection h with h1 h2; subst h1; subst h2
    exact ⟨rfl, (congrArg At (eq_spec_miOut _ _ _ _ _ _ _ _)).mp ⟨vc_spec_miOut _ _ _ _ _ _ _ hp⟩⟩
  · cases h
def TY1_22 : Tab := TY1_21.add 47 F_spec_miOut
theorem TY1_22_ok : TY1_22.Ok Tryd.prog := TY1_21_ok.add ok_spec_miOut
theorem eq_spec_miRun (mw : Int) (mh : Int) (mc : List UInt8) (mu : Bool) (bx : Int) (by_ : Int) (bd : Int) (K : V → Prop) : VC_spec_miRun mw mh mc mu bx by_ bd K = vbody Tryd.prog (vin Tryd.prog TY1_22 annTY1 3) TY1_22.looks (annTY1 26) 26 [.agg [.int .i64 mw, .int .i64 mh, .str mc, .bool mu], .agg [.int .i64 bx, .int .i64 by_, .int .i64 bd]] [] (fun v _ => K v) := by kernel_rfl
theorem ok_spec_miRun : OK Tryd.prog 26 F_spec_miRun.spec := (vbody_ok (vin_ok TY1_22_ok annTY1 3) TY1_22_ok.looks _ _).ofF fun args m p R h hp => by
  unfold F_spec_miRun at h
  split at h
  · injection h with h; injection h with h1 h2; subst h1; subst h2
    exact ⟨rfl, (congrArg At (eq_spec_miRun _ _ _ _ _ _ _ _)).mp ⟨vc_spec_miRun _ _ _ _ _ _ _ hp⟩⟩
  · cases h
def TY1_23 : Tab := TY1_22.add 26 F_spec_miRun
theorem TY1_23_ok : TY1_23.Ok Tryd.prog := TY1_22_ok.add ok_spec_miRun
theorem eq_laws_eqIntS  (n : Nat) (m : Nat) (a : List Int) (b : List Int) (K : V → List Blk → Prop) : VC_laws_eqIntS  n m a b K = vbody Tryd.prog (vin Tryd.prog TY1_23 annTY1 3) TY1_23.looks (annTY1 12) 12 [.row 0 n, .row 1 m] [⟨.ints .i64 a, 3, .row⟩, ⟨.ints .i64 b, 3, .row⟩] (K) := by kernel_rfl
theorem ok_laws_eqIntS : OK Tryd.prog 12 F_laws_eqIntS.spec := (vbody_ok (vin_ok TY1_23_ok annTY1 3) TY1_23_ok.looks _ _).ofFM fun args m p R h hp => by
  unfold F_laws_eqIntS at h
  split at h
  · injection h with h; injection h with h1 h2; subst h1; subst h2
    exact (congrArg At (eq_laws_eqIntS _ _ _ _ _)).mp ⟨vc_laws_eqIntS _ _ _ _ hp⟩
  · cases h
def TY1_24 : Tab := TY1_23.add 12 F_laws_eqIntS
theorem TY1_24_ok : TY1_24.Ok Tryd.prog := TY1_23_ok.add ok_laws_eqIntS
theorem eq_laws_markIntS (k : Int) (n : Nat) (a : List Int) (K : V → List Blk → Prop) : VC_laws_markIntS k n a K = vbody Tryd.prog (vin Tryd.prog TY1_24 annTY1 3) TY1_24.looks (annTY1 13) 13 [.row 0 n, .int .i64 k] [⟨.ints .i64 a, 3, .row⟩] (K) := by kernel_rfl
theorem ok_laws_markIntS : OK Tryd.prog 13 F_laws_markIntS.spec := (vbody_ok (vin_ok TY1_24_ok annTY1 3) TY1_24_ok.looks _ _).ofG fun args m p R M h hp => by
  unfold F_laws_markIntS at h
  split at h
  · injection h with h; injection h with h1 h2; injection h2 with h2 h3; subst h1; subst h2; subst h3
    exact (congrArg At (eq_laws_markIntS _ _ _ _)).mp ⟨vc_laws_markIntS _ _ _ hp⟩
  · cases h
def TY1_25 : Tab := TY1_24.addG 13 F_laws_markIntS
theorem TY1_25_ok : TY1_25.Ok Tryd.prog := TY1_24_ok.addG ok_laws_markIntS
theorem eq_laws_heldIntS (k : Int) (n : Nat) (a : List Int) (K : V → List Blk → Prop) : VC_laws_heldIntS k n a K = vbody Tryd.prog (vin Tryd.prog TY1_25 annTY1 3) TY1_25.looks (annTY1 14) 14 [.row 0 n, .int .i64 k] [⟨.ints .i64 a, 3, .row⟩] (K) := by kernel_rfl
theorem ok_laws_heldIntS : OK Tryd.prog 14 F_laws_heldIntS.spec := (vbody_ok (vin_ok TY1_25_ok annTY1 3) TY1_25_ok.looks _ _).ofFM fun args m p R h hp => by
  unfold F_laws_heldIntS at h
  split at h
  · injection h with h; injection h with h1 h2; subst h1; subst h2
    exact (congrArg At (eq_laws_heldIntS _ _ _ _)).mp ⟨vc_laws_heldIntS _ _ _ hp⟩
  · cases h
def TY1_26 : Tab := TY1_25.add 14 F_laws_heldIntS
theorem TY1_26_ok : TY1_26.Ok Tryd.prog := TY1_25_ok.add ok_laws_heldIntS
theorem eq_spec_ExitsInTurn (mw : Int) (mh : Int) (mc : List UInt8) (mu : Bool) (k : Int) (balls : Int) (K : V → List Blk → Prop) : VC_spec_ExitsInTurn mw mh mc mu k balls K = vbody Tryd.prog (vin Tryd.prog TY1_26 annTY1 3) TY1_26.looks (annTY1 9) 9 [.agg [.int .i64 mw, .int .i64 mh, .str mc, .bool mu], .int .i64 k, .int .i64 balls] [] (K) := by kernel_rfl
theorem ok_spec_ExitsInTurn : OK Tryd.prog 9 F_spec_ExitsInTurn.spec := (vbody_ok (vin_ok TY1_26_ok annTY1 3) TY1_26_ok.looks _ _).ofG fun args m p R M h hp => by
  unfold F_spec_ExitsInTurn at h
  split at h
  · injection h with h; injection h with h1 h2; injection h2 with h2 h3; subst h1; subst h2; subst h3
    exact (congrArg At (eq_spec_ExitsInTurn _ _ _ _ _ _ _)).mp ⟨vc_spec_ExitsInTurn _ _ _ _ _ _ hp⟩
  · cases h
def TY1_27 : Tab := TY1_26.addG 9 F_spec_ExitsInTurn
theorem TY1_27_ok : TY1_27.Ok Tryd.prog := TY1_26_ok.addG ok_spec_ExitsInTurn
theorem eq_impl_ExitsInTurn (mw : Int) (mh : Int) (mc : List UInt8) (mu : Bool) (k : Int) (balls : Int) (K : V → List Blk → Prop) : VC_impl_ExitsInTurn mw mh mc mu k balls K = vbody Tryd.prog (vin Tryd.prog TY1_27 annTY1 3) TY1_27.looks (annTY1 11) 11 [.agg [.int .i64 mw, .int .i64 mh, .str mc, .bool mu], .int .i64 k, .int .i64 balls] [] (K) := by kernel_rfl
theorem ok_impl_ExitsInTurn : OK Tryd.prog 11 F_impl_ExitsInTurn.spec := (vbody_ok (vin_ok TY1_27_ok annTY1 3) TY1_27_ok.looks _ _).ofG fun args m p R M h hp => by
  unfold F_impl_ExitsInTurn at h
  split at h
  · injection h with h; injection h with h1 h2; injection h2 with h2 h3; subst h1; subst h2; subst h3
    exact (congrArg At (eq_impl_ExitsInTurn _ _ _ _ _ _ _)).mp ⟨vc_impl_ExitsInTurn _ _ _ _ _ _ hp⟩
  · cases h
def TY1_28 : Tab := TY1_27.addG 11 F_impl_ExitsInTurn
theorem TY1_28_ok : TY1_28.Ok Tryd.prog := TY1_27_ok.addG ok_impl_ExitsInTurn
def TY1 : Tab := TY1_28
theorem TY1_ok : TY1.Ok Tryd.prog := TY1_28_ok
end Go.Proofs.YtkkpkfphfhcgoabDoor
