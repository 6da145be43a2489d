/- The contracts of this chapter. -/
import Derived.Test.YteleacldecambaaDoorA1LibT
import Derived.Test.YteleacldecambaaDoorProg
import Derived.Test.YteleacldecambaaDoorK2Pf
import Derived.KernelRfl
namespace Go.Proofs.YteleacldecambaaDoor
open Go Go.Vi
set_option linter.unusedVariables false
def annTK2 : FuncId → Nat → St → Option Ann := fun f => if f = 27 then ann_spec_miGood else (fun _ _ => none)
def TK2_0 : Tab := Tab.none
theorem TK2_0_ok : TK2_0.Ok Tryd.prog := Tab.none_ok
theorem eq_spec_l1In (n : Int) (lo : Int) (hi : Int) (K : V → Prop) : VC_spec_l1In n lo hi K = vbody Tryd.prog (vin Tryd.prog TK2_0 annTK2 3) TK2_0.looks (annTK2 40) 40 [.int .i64 n, .int .i64 lo, .int .i64 hi] [] (fun v _ => K v) := by kernel_rfl
theorem ok_spec_l1In : OK Tryd.prog 40 F_spec_l1In.spec := (vbody_ok (vin_ok TK2_0_ok annTK2 3) TK2_0_ok.looks _ _).ofF fun args m p R h hp => by
  unfold F_spec_l1In at h
  split at h
  · injection h with h; injection h with h1 h2; subst h1; subst h2
    exact ⟨rfl, (congrArg At (eq_spec_l1In _ _ _ _)).mp ⟨vc_spec_l1In _ _ _ hp⟩⟩
  · cases h
def TK2_1 : Tab := TK2_0.add 40 F_spec_l1In
theorem TK2_1_ok : TK2_1.Ok Tryd.prog := TK2_0_ok.add ok_spec_l1In
theorem eq_impl_within (n : Int) (lo : Int) (hi : Int) (K : V → Prop) : VC_impl_within n lo hi K = vbody Tryd.prog (vin Tryd.prog TK2_1 annTK2 3) TK2_1.looks (annTK2 56) 56 [.int .i64 n, .int .i64 lo, .int .i64 hi] [] (fun v _ => K v) := by kernel_rfl
theorem ok_impl_within : OK Tryd.prog 56 F_impl_within.spec := (vbody_ok (vin_ok TK2_1_ok annTK2 3) TK2_1_ok.looks _ _).ofF fun args m p R h hp => by
  unfold F_impl_within at h
  split at h
  · injection h with h; injection h with h1 h2; subst h1; subst h2
    exact ⟨rfl, (congrArg At (eq_impl_within _ _ _ _)).mp ⟨vc_impl_within _ _ _ hp⟩⟩
  · cases h
def TK2_2 : Tab := TK2_1.add 56 F_impl_within
theorem TK2_2_ok : TK2_2.Ok Tryd.prog := TK2_1_ok.add ok_impl_within
theorem eq_spec_miGood (mw : Int) (mh : Int) (mc : List UInt8) (mu : Bool) (K : V → Prop) : VC_spec_miGood mw mh mc mu K = vbody Tryd.prog (vin Tryd.prog TK2_2 annTK2 3) TK2_2.looks (annTK2 27) 27 [.agg [.int .i64 mw, .int .i64 mh, .str mc, .bool mu]] [] (fun v _ => K v) := by kernel_rfl
theorem ok_spec_miGood : OK Tryd.prog 27 F_spec_miGood.spec := (vbody_ok (vin_ok TK2_2_ok annTK2 3) TK2_2_ok.looks _ _).ofF fun args m p R h hp => by
  unfold F_spec_miGood at h
  split at h
  · injection h with h; injection h with h1 h2; subst h1; subst h2
    exact ⟨rfl, (congrArg At (eq_spec_miGood _ _ _ _ _)).mp ⟨vc_spec_miGood _ _ _ _ hp⟩⟩
  · cases h
def TK2_3 : Tab := TK2_2.add 27 F_spec_miGood
theorem TK2_3_ok : TK2_3.Ok Tryd.prog := TK2_2_ok.add ok_spec_miGood
theorem ok_strings_Trim : OK Tryd.prog 47 F_strings_Trim.spec := Go.Proofs.Tryd.libTrim
def TK2_4 : Tab := TK2_3.add 47 F_strings_Trim
theorem TK2_4_ok : TK2_4.Ok Tryd.prog := TK2_3_ok.add ok_strings_Trim
theorem eq_impl_IsMaze (mw : Int) (mh : Int) (mc : List UInt8) (mu : Bool) (K : V → Prop) : VC_impl_IsMaze mw mh mc mu K = vbody Tryd.prog (vin Tryd.prog TK2_4 annTK2 3) TK2_4.looks (annTK2 31) 31 [.agg [.int .i64 mw, .int .i64 mh, .str mc, .bool mu]] [] (fun v _ => K v) := by kernel_rfl
theorem ok_impl_IsMaze : OK Tryd.prog 31 F_impl_IsMaze.spec := (vbody_ok (vin_ok TK2_4_ok annTK2 3) TK2_4_ok.looks _ _).ofF fun args m p R h hp => by
  unfold F_impl_IsMaze at h
  split at h
  · injection h with h; injection h with h1 h2; subst h1; subst h2
    exact ⟨rfl, (congrArg At (eq_impl_IsMaze _ _ _ _ _)).mp ⟨vc_impl_IsMaze _ _ _ _ hp⟩⟩
  · cases h
def TK2_5 : Tab := TK2_4.add 31 F_impl_IsMaze
theorem TK2_5_ok : TK2_5.Ok Tryd.prog := TK2_4_ok.add ok_impl_IsMaze
theorem eq_laws_szMaze (mw : Int) (mh : Int) (mc : List UInt8) (mu : Bool) (left : Int) (K : V → Prop) : VC_laws_szMaze mw mh mc mu left K = vbody Tryd.prog (vin Tryd.prog TK2_5 annTK2 3) TK2_5.looks (annTK2 7) 7 [.agg [.int .i64 mw, .int .i64 mh, .str mc, .bool mu], .int .i64 left] [] (fun v _ => K v) := by kernel_rfl
theorem ok_laws_szMaze : OK Tryd.prog 7 F_laws_szMaze.spec := (vbody_ok (vin_ok TK2_5_ok annTK2 3) TK2_5_ok.looks _ _).ofF fun args m p R h hp => by
  unfold F_laws_szMaze at h
  split at h
  · injection h with h; injection h with h1 h2; subst h1; subst h2
    exact ⟨rfl, (congrArg At (eq_laws_szMaze _ _ _ _ _ _)).mp ⟨vc_laws_szMaze _ _ _ _ _ hp⟩⟩
  · cases h
def TK2_6 : Tab := TK2_5.add 7 F_laws_szMaze
theorem TK2_6_ok : TK2_6.Ok Tryd.prog := TK2_5_ok.add ok_laws_szMaze
theorem eq_laws_toMaze (mw : Int) (mh : Int) (mc : List UInt8) (mu : Bool) (K : V → Prop) : VC_laws_toMaze mw mh mc mu K = vbody Tryd.prog (vin Tryd.prog TK2_6 annTK2 3) TK2_6.looks (annTK2 9) 9 [.agg [.int .i64 mw, .int .i64 mh, .str mc, .bool mu]] [] (fun v _ => K v) := by kernel_rfl
theorem ok_laws_toMaze : OK Tryd.prog 9 F_laws_toMaze.spec := (vbody_ok (vin_ok TK2_6_ok annTK2 3) TK2_6_ok.looks _ _).ofF fun args m p R h hp => by
  unfold F_laws_toMaze at h
  split at h
  · injection h with h; injection h with h1 h2; subst h1; subst h2
    exact ⟨rfl, (congrArg At (eq_laws_toMaze _ _ _ _ _)).mp ⟨vc_laws_toMaze _ _ _ _ hp⟩⟩
  · cases h
def TK2_7 : Tab := TK2_6.add 9 F_laws_toMaze
theorem TK2_7_ok : TK2_7.Ok Tryd.prog := TK2_6_ok.add ok_laws_toMaze
theorem eq_laws_toBall (bx : Int) (by_ : Int) (bd : Int) (K : V → Prop) : VC_laws_toBall bx by_ bd K = vbody Tryd.prog (vin Tryd.prog TK2_7 annTK2 3) TK2_7.looks (annTK2 10) 10 [.agg [.int .i64 bx, .int .i64 by_, .int .i64 bd]] [] (fun v _ => K v) := by kernel_rfl
theorem ok_laws_toBall : OK Tryd.prog 10 F_laws_toBall.spec := (vbody_ok (vin_ok TK2_7_ok annTK2 3) TK2_7_ok.looks _ _).ofF fun args m p R h hp => by
  unfold F_laws_toBall at h
  split at h
  · injection h with h; injection h with h1 h2; subst h1; subst h2
    exact ⟨rfl, (congrArg At (eq_laws_toBall _ _ _ _)).mp ⟨vc_laws_toBall _ _ _ hp⟩⟩
  · cases h
def TK2_8 : Tab := TK2_7.add 10 F_laws_toBall
theorem TK2_8_ok : TK2_8.Ok Tryd.prog := TK2_7_ok.add ok_laws_toBall
theorem eq_laws_eqMaze (aw : Int) (ah : Int) (ac : List UInt8) (au : Bool) (bw : Int) (bh : Int) (bc : List UInt8) (bu : Bool) (K : V → Prop) : VC_laws_eqMaze aw ah ac au bw bh bc bu K = vbody Tryd.prog (vin Tryd.prog TK2_8 annTK2 3) TK2_8.looks (annTK2 12) 12 [.agg [.int .i64 aw, .int .i64 ah, .str ac, .bool au], .agg [.int .i64 bw, .int .i64 bh, .str bc, .bool bu]] [] (fun v _ => K v) := by kernel_rfl
theorem ok_laws_eqMaze : OK Tryd.prog 12 F_laws_eqMaze.spec := (vbody_ok (vin_ok TK2_8_ok annTK2 3) TK2_8_ok.looks _ _).ofF fun args m p R h hp => by
  unfold F_laws_eqMaze at h
  split at h
  · injection h with h; injection h with h1 h2; subst h1; subst h2
    exact ⟨rfl, (congrArg At (eq_laws_eqMaze _ _ _ _ _ _ _ _ _)).mp ⟨vc_laws_eqMaze _ _ _ _ _ _ _ _ hp⟩⟩
  · cases h
def TK2_9 : Tab := TK2_8.add 12 F_laws_eqMaze
theorem TK2_9_ok : TK2_9.Ok Tryd.prog := TK2_8_ok.add ok_laws_eqMaze
theorem eq_laws_eqBall (ax : Int) (ay : Int) (ad : Int) (bx : Int) (by_ : Int) (bd : Int) (K : V → Prop) : VC_laws_eqBall ax ay ad bx by_ bd K = vbody Tryd.prog (vin Tryd.prog TK2_9 annTK2 3) TK2_9.looks (annTK2 13) 13 [.agg [.int .i64 ax, .int .i64 ay, .int .i64 ad], .agg [.int .i64 bx, .int .i64 by_, .int .i64 bd]] [] (fun v _ => K v) := by kernel_rfl
theorem ok_laws_eqBall : OK Tryd.prog 13 F_laws_eqBall.spec := (vbody_ok (vin_ok TK2_9_ok annTK2 3) TK2_9_ok.looks _ _).ofF fun args m p R h hp => by
  unfold F_laws_eqBall at h
  split at h
  · injection h with h; injection h with h1 h2; subst h1; subst h2
    exact ⟨rfl, (congrArg At (eq_laws_eqBall _ _ _ _ _ _ _)).mp ⟨vc_laws_eqBall _ _ _ _ _ _ hp⟩⟩
  · cases h
def TK2_10 : Tab := TK2_9.add 13 F_laws_eqBall
theorem TK2_10_ok : TK2_10.Ok Tryd.prog := TK2_9_ok.add ok_laws_eqBall
theorem eq_spec_miBall (mw : Int) (mh : Int) (mc : List UInt8) (mu : Bool) (bx : Int) (by_ : Int) (bd : Int) (K : V → Prop) : VC_spec_miBall mw mh mc mu bx by_ bd K = vbody Tryd.prog (vin Tryd.prog TK2_10 annTK2 3) TK2_10.looks (annTK2 21) 21 [.agg [.int .i64 mw, .int .i64 mh, .str mc, .bool mu], .agg [.int .i64 bx, .int .i64 by_, .int .i64 bd]] [] (fun v _ => K v) := by kernel_rfl
theorem ok_spec_miBall : OK Tryd.prog 21 F_spec_miBall.spec := (vbody_ok (vin_ok TK2_10_ok annTK2 3) TK2_10_ok.looks _ _).ofF fun args m p R h hp => by
  unfold F_spec_miBall at h
  split at h
  · injection h with h; injection h with h1 h2; subst h1; subst h2
    exact ⟨rfl, (congrArg At (eq_spec_miBall _ _ _ _ _ _ _ _)).mp ⟨vc_spec_miBall _ _ _ _ _ _ _ hp⟩⟩
  · cases h
def TK2_11 : Tab := TK2_10.add 21 F_spec_miBall
theorem TK2_11_ok : TK2_11.Ok Tryd.prog := TK2_10_ok.add ok_spec_miBall
theorem eq_impl_IsBall (mw : Int) (mh : Int) (mc : List UInt8) (mu : Bool) (bx : Int) (by_ : Int) (bd : Int) (K : V → Prop) : VC_impl_IsBall mw mh mc mu bx by_ bd K = vbody Tryd.prog (vin Tryd.prog TK2_11 annTK2 3) TK2_11.looks (annTK2 23) 23 [.agg [.int .i64 mw, .int .i64 mh, .str mc, .bool mu], .agg [.int .i64 bx, .int .i64 by_, .int .i64 bd]] [] (fun v _ => K v) := by kernel_rfl
theorem ok_impl_IsBall : OK Tryd.prog 23 F_impl_IsBall.spec := (vbody_ok (vin_ok TK2_11_ok annTK2 3) TK2_11_ok.looks _ _).ofF fun args m p R h hp => by
  unfold F_impl_IsBall at h
  split at h
  · injection h with h; injection h with h1 h2; subst h1; subst h2
    exact ⟨rfl, (congrArg At (eq_impl_IsBall _ _ _ _ _ _ _ _)).mp ⟨vc_impl_IsBall _ _ _ _ _ _ _ hp⟩⟩
  · cases h
def TK2_12 : Tab := TK2_11.add 23 F_impl_IsBall
theorem TK2_12_ok : TK2_12.Ok Tryd.prog := TK2_11_ok.add ok_impl_IsBall
theorem eq_spec_miEntry (mw : Int) (mh : Int) (mc : List UInt8) (mu : Bool) (k : Int) (K : V → Prop) : VC_spec_miEntry mw mh mc mu k K = vbody Tryd.prog (vin Tryd.prog TK2_12 annTK2 3) TK2_12.looks (annTK2 29) 29 [.agg [.int .i64 mw, .int .i64 mh, .str mc, .bool mu], .int .i64 k] [] (fun v _ => K v) := by kernel_rfl
theorem ok_spec_miEntry : OK Tryd.prog 29 F_spec_miEntry.spec := (vbody_ok (vin_ok TK2_12_ok annTK2 3) TK2_12_ok.looks _ _).ofF fun args m p R h hp => by
  unfold F_spec_miEntry at h
  split at h
  · injection h with h; injection h with h1 h2; subst h1; subst h2
    exact ⟨rfl, (congrArg At (eq_spec_miEntry _ _ _ _ _ _)).mp ⟨vc_spec_miEntry _ _ _ _ _ hp⟩⟩
  · cases h
def TK2_13 : Tab := TK2_12.add 29 F_spec_miEntry
theorem TK2_13_ok : TK2_13.Ok Tryd.prog := TK2_12_ok.add ok_spec_miEntry
theorem eq_spec_miHit (mw : Int) (mh : Int) (mc : List UInt8) (mu : Bool) (bx : Int) (by_ : Int) (bd : Int) (K : V → Prop) : VC_spec_miHit mw mh mc mu bx by_ bd K = vbody Tryd.prog (vin Tryd.prog TK2_13 annTK2 3) TK2_13.looks (annTK2 22) 22 [.agg [.int .i64 mw, .int .i64 mh, .str mc, .bool mu], .agg [.int .i64 bx, .int .i64 by_, .int .i64 bd]] [] (fun v _ => K v) := by kernel_rfl
theorem ok_spec_miHit : OK Tryd.prog 22 F_spec_miHit.spec := (vbody_ok (vin_ok TK2_13_ok annTK2 3) TK2_13_ok.looks _ _).ofF fun args m p R h hp => by
  unfold F_spec_miHit at h
  split at h
  · injection h with h; injection h with h1 h2; subst h1; subst h2
    exact ⟨rfl, (congrArg At (eq_spec_miHit _ _ _ _ _ _ _ _)).mp ⟨vc_spec_miHit _ _ _ _ _ _ _ hp⟩⟩
  · cases h
def TK2_14 : Tab := TK2_13.add 22 F_spec_miHit
theorem TK2_14_ok : TK2_14.Ok Tryd.prog := TK2_13_ok.add ok_spec_miHit
theorem eq_impl_otherMirror (b : Int) (K : V → Prop) : VC_impl_otherMirror b K = vbody Tryd.prog (vin Tryd.prog TK2_14 annTK2 3) TK2_14.looks (annTK2 43) 43 [.int .u8 b] [] (fun v _ => K v) := by kernel_rfl
theorem ok_impl_otherMirror : OK Tryd.prog 43 F_impl_otherMirror.spec := (vbody_ok (vin_ok TK2_14_ok annTK2 3) TK2_14_ok.looks _ _).ofF fun args m p R h hp => by
  unfold F_impl_otherMirror at h
  split at h
  · injection h with h; injection h with h1 h2; subst h1; subst h2
    exact ⟨rfl, (congrArg At (eq_impl_otherMirror _ _)).mp ⟨vc_impl_otherMirror _ hp⟩⟩
  · cases h
def TK2_15 : Tab := TK2_14.add 43 F_impl_otherMirror
theorem TK2_15_ok : TK2_15.Ok Tryd.prog := TK2_14_ok.add ok_impl_otherMirror
theorem eq_impl_wayBehind (b : Int) (d : Int) (K : V → Prop) : VC_impl_wayBehind b d K = vbody Tryd.prog (vin Tryd.prog TK2_15 annTK2 3) TK2_15.looks (annTK2 44) 44 [.int .u8 b, .int .i64 d] [] (fun v _ => K v) := by kernel_rfl
theorem ok_impl_wayBehind : OK Tryd.prog 44 F_impl_wayBehind.spec := (vbody_ok (vin_ok TK2_15_ok annTK2 3) TK2_15_ok.looks _ _).ofF fun args m p R h hp => by
  unfold F_impl_wayBehind at h
  split at h
  · injection h with h; injection h with h1 h2; subst h1; subst h2
    exact ⟨rfl, (congrArg At (eq_impl_wayBehind _ _ _)).mp ⟨vc_impl_wayBehind _ _ hp⟩⟩
  · cases h
def TK2_16 : Tab := TK2_15.add 44 F_impl_wayBehind
theorem TK2_16_ok : TK2_16.Ok Tryd.prog := TK2_15_ok.add ok_impl_wayBehind
theorem eq_impl_direction (d : Int) (K : V → Prop) : VC_impl_direction d K = vbody Tryd.prog (vin Tryd.prog TK2_16 annTK2 3) TK2_16.looks (annTK2 45) 45 [.int .i64 d] [] (fun v _ => K v) := by kernel_rfl
theorem ok_impl_direction : OK Tryd.prog 45 F_impl_direction.spec := (vbody_ok (vin_ok TK2_16_ok annTK2 3) TK2_16_ok.looks _ _).ofF fun args m p R h hp => by
  unfold F_impl_direction at h
  split at h
  · injection h with h; injection h with h1 h2; subst h1; subst h2
    exact ⟨rfl, (congrArg At (eq_impl_direction _ _)).mp ⟨vc_impl_direction _ hp⟩⟩
  · cases h
def TK2_17 : Tab := TK2_16.add 45 F_impl_direction
theorem TK2_17_ok : TK2_17.Ok Tryd.prog := TK2_16_ok.add ok_impl_direction
theorem eq_impl_roll_goOn  (mw : Int) (mh : Int) (mc : List UInt8) (mu : Bool) (l : List UInt8) (bx : Int) (by_ : Int) (bd : Int) (en : Int) (hn : Int) (K : V → List Blk → Prop) : VC_impl_roll_goOn  mw mh mc mu l bx by_ bd en hn K = vbody Tryd.prog (vin Tryd.prog TK2_17 annTK2 3) TK2_17.looks (annTK2 25) 25 [.ptr 0 0] [⟨.mix [.int .i64 mw, .int .i64 mh, .str mc, .bool mu] 81 l [.int .i64 bx, .int .i64 by_, .int .i64 bd, .int .i64 en, .int .i64 hn], 57, .box⟩] (K) := by kernel_rfl
theorem ok_impl_roll_goOn : OK Tryd.prog 25 F_impl_roll_goOn.spec := (vbody_ok (vin_ok TK2_17_ok annTK2 3) TK2_17_ok.looks _ _).ofG fun args m p R M h hp => by
  unfold F_impl_roll_goOn at h
  split at h
  · injection h with h; injection h with h1 h2; injection h2 with h2 h3; subst h1; subst h2; subst h3
    exact (congrArg At (eq_impl_roll_goOn _ _ _ _ _ _ _ _ _ _ _)).mp ⟨vc_impl_roll_goOn _ _ _ _ _ _ _ _ _ _ hp⟩
  · cases h
def TK2_18 : Tab := TK2_17.addG 25 F_impl_roll_goOn
theorem TK2_18_ok : TK2_18.Ok Tryd.prog := TK2_17_ok.addG ok_impl_roll_goOn
theorem eq_spec_HitCell (mw : Int) (mh : Int) (mc : List UInt8) (mu : Bool) (bx : Int) (by_ : Int) (bd : Int) (K : V → Prop) : VC_spec_HitCell mw mh mc mu bx by_ bd K = vbody Tryd.prog (vin Tryd.prog TK2_18 annTK2 3) TK2_18.looks (annTK2 8) 8 [.agg [.int .i64 mw, .int .i64 mh, .str mc, .bool mu], .agg [.int .i64 bx, .int .i64 by_, .int .i64 bd]] [] (fun v _ => K v) := by kernel_rfl
theorem ok_spec_HitCell : OK Tryd.prog 8 F_spec_HitCell.spec := (vbody_ok (vin_ok TK2_18_ok annTK2 3) TK2_18_ok.looks _ _).ofF fun args m p R h hp => by
  unfold F_spec_HitCell at h
  split at h
  · injection h with h; injection h with h1 h2; subst h1; subst h2
    exact ⟨rfl, (congrArg At (eq_spec_HitCell _ _ _ _ _ _ _ _)).mp ⟨vc_spec_HitCell _ _ _ _ _ _ _ hp⟩⟩
  · cases h
def TK2_19 : Tab := TK2_18.add 8 F_spec_HitCell
theorem TK2_19_ok : TK2_19.Ok Tryd.prog := TK2_18_ok.add ok_spec_HitCell
theorem eq_impl_HitCell (mw : Int) (mh : Int) (mc : List UInt8) (mu : Bool) (bx : Int) (by_ : Int) (bd : Int) (K : V → Prop) : VC_impl_HitCell mw mh mc mu bx by_ bd K = vbody Tryd.prog (vin Tryd.prog TK2_19 annTK2 3) TK2_19.looks (annTK2 11) 11 [.agg [.int .i64 mw, .int .i64 mh, .str mc, .bool mu], .agg [.int .i64 bx, .int .i64 by_, .int .i64 bd]] [] (fun v _ => K v) := by kernel_rfl
theorem ok_impl_HitCell : OK Tryd.prog 11 F_impl_HitCell.spec := (vbody_ok (vin_ok TK2_19_ok annTK2 3) TK2_19_ok.looks _ _).ofF fun args m p R h hp => by
  unfold F_impl_HitCell at h
  split at h
  · injection h with h; injection h with h1 h2; subst h1; subst h2
    exact ⟨rfl, (congrArg At (eq_impl_HitCell _ _ _ _ _ _ _ _)).mp ⟨vc_impl_HitCell _ _ _ _ _ _ _ hp⟩⟩
  · cases h
def TK2_20 : Tab := TK2_19.add 11 F_impl_HitCell
theorem TK2_20_ok : TK2_20.Ok Tryd.prog := TK2_19_ok.add ok_impl_HitCell
def TK2 : Tab := TK2_20
theorem TK2_ok : TK2.Ok Tryd.prog := TK2_20_ok
end Go.Proofs.YteleacldecambaaDoor
