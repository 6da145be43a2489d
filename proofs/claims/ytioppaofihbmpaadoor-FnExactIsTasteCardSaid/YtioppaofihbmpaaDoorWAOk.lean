/- The contracts of this chapter. -/
import Derived.Test.YtioppaofihbmpaaDoorWALib
import Derived.Test.YtioppaofihbmpaaDoorProg
import Derived.Test.YtioppaofihbmpaaDoorWAPf
import Derived.KernelRfl
namespace Go.Proofs.YtioppaofihbmpaaDoor
open Go Go.Vi
set_option linter.unusedVariables false
def annTWA : FuncId → Nat → St → Option Ann := fun f => if f = 42 then ann_spec_wmGood else if f = 47 then ann_spec_wmTaste else if f = 19 then ann_impl_IsTaste else if f = 48 then ann_spec_wmCount else (fun _ _ => none)
def TWA_0 : Tab := Tab.none
theorem TWA_0_ok : TWA_0.Ok Tryd.prog := Tab.none_ok
theorem eq_spec_l1In (n : Int) (lo : Int) (hi : Int) (K : V → Prop) : VC_spec_l1In n lo hi K = vbody Tryd.prog (vin Tryd.prog TWA_0 annTWA 3) TWA_0.looks (annTWA 50) 50 [.int .i64 n, .int .i64 lo, .int .i64 hi] [] (fun v _ => K v) := by kernel_rfl
theorem ok_spec_l1In : OK Tryd.prog 50 F_spec_l1In.spec := (vbody_ok (vin_ok TWA_0_ok annTWA 3) TWA_0_ok.looks _ _).ofF fun args m p R h hp => by
  unfold F_spec_l1In at h
  split at h
  · injection h with h; injection h with h1 h2; subst h1; subst h2
    exact ⟨rfl, (congrArg At (eq_spec_l1In _ _ _ _)).mp ⟨vc_spec_l1In _ _ _ hp⟩⟩
  · cases h
def TWA_1 : Tab := TWA_0.add 50 F_spec_l1In
theorem TWA_1_ok : TWA_1.Ok Tryd.prog := TWA_0_ok.add ok_spec_l1In
theorem eq_impl_within (n : Int) (lo : Int) (hi : Int) (K : V → Prop) : VC_impl_within n lo hi K = vbody Tryd.prog (vin Tryd.prog TWA_1 annTWA 3) TWA_1.looks (annTWA 56) 56 [.int .i64 n, .int .i64 lo, .int .i64 hi] [] (fun v _ => K v) := by kernel_rfl
theorem ok_impl_within : OK Tryd.prog 56 F_impl_within.spec := (vbody_ok (vin_ok TWA_1_ok annTWA 3) TWA_1_ok.looks _ _).ofF fun args m p R h hp => by
  unfold F_impl_within at h
  split at h
  · injection h with h; injection h with h1 h2; subst h1; subst h2
    exact ⟨rfl, (congrArg At (eq_impl_within _ _ _ _)).mp ⟨vc_impl_within _ _ _ hp⟩⟩
  · cases h
def TWA_2 : Tab := TWA_1.add 56 F_impl_within
theorem TWA_2_ok : TWA_2.Ok Tryd.prog := TWA_1_ok.add ok_impl_within
theorem eq_spec_wmGood (mw : Int) (mh : Int) (mr : List UInt8) (mn : List UInt8) (mx : Int) (my : Int) (md : Int) (K : V → Prop) : VC_spec_wmGood mw mh mr mn mx my md K = vbody Tryd.prog (vin Tryd.prog TWA_2 annTWA 3) TWA_2.looks (annTWA 42) 42 [.agg [.int .i64 mw, .int .i64 mh, .str mr, .str mn, .int .i64 mx, .int .i64 my, .int .i64 md]] [] (fun v _ => K v) := by kernel_rfl
theorem ok_spec_wmGood : OK Tryd.prog 42 F_spec_wmGood.spec := (vbody_ok (vin_ok TWA_2_ok annTWA 3) TWA_2_ok.looks _ _).ofF fun args m p R h hp => by
  unfold F_spec_wmGood at h
  split at h
  · injection h with h; injection h with h1 h2; subst h1; subst h2
    exact ⟨rfl, (congrArg At (eq_spec_wmGood _ _ _ _ _ _ _ _)).mp ⟨vc_spec_wmGood _ _ _ _ _ _ _ hp⟩⟩
  · cases h
def TWA_3 : Tab := TWA_2.add 42 F_spec_wmGood
theorem TWA_3_ok : TWA_3.Ok Tryd.prog := TWA_2_ok.add ok_spec_wmGood
theorem ok_strings_Trim : OK Tryd.prog 68 F_strings_Trim.spec := Go.Proofs.Tryd.libTrim
def TWA_4 : Tab := TWA_3.add 68 F_strings_Trim
theorem TWA_4_ok : TWA_4.Ok Tryd.prog := TWA_3_ok.add ok_strings_Trim
theorem eq_impl_isGrid (a : Int) (b : Int) (K : V → Prop) : VC_impl_isGrid a b K = vbody Tryd.prog (vin Tryd.prog TWA_4 annTWA 3) TWA_4.looks (annTWA 43) 43 [.int .i64 a, .int .i64 b] [] (fun v _ => K v) := by kernel_rfl
theorem ok_impl_isGrid : OK Tryd.prog 43 F_impl_isGrid.spec := (vbody_ok (vin_ok TWA_4_ok annTWA 3) TWA_4_ok.looks _ _).ofF fun args m p R h hp => by
  unfold F_impl_isGrid at h
  split at h
  · injection h with h; injection h with h1 h2; subst h1; subst h2
    exact ⟨rfl, (congrArg At (eq_impl_isGrid _ _ _)).mp ⟨vc_impl_isGrid _ _ hp⟩⟩
  · cases h
def TWA_5 : Tab := TWA_4.add 43 F_impl_isGrid
theorem TWA_5_ok : TWA_5.Ok Tryd.prog := TWA_4_ok.add ok_impl_isGrid
theorem eq_impl_hasNode (mw : Int) (mh : Int) (mr : List UInt8) (mn : List UInt8) (mx : Int) (my : Int) (md : Int) (x : Int) (y : Int) (K : V → Prop) : VC_impl_hasNode mw mh mr mn mx my md x y K = vbody Tryd.prog (vin Tryd.prog TWA_5 annTWA 3) TWA_5.looks (annTWA 44) 44 [.agg [.int .i64 mw, .int .i64 mh, .str mr, .str mn, .int .i64 mx, .int .i64 my, .int .i64 md], .int .i64 x, .int .i64 y] [] (fun v _ => K v) := by kernel_rfl
theorem ok_impl_hasNode : OK Tryd.prog 44 F_impl_hasNode.spec := (vbody_ok (vin_ok TWA_5_ok annTWA 3) TWA_5_ok.looks _ _).ofF fun args m p R h hp => by
  unfold F_impl_hasNode at h
  split at h
  · injection h with h; injection h with h1 h2; subst h1; subst h2
    exact ⟨rfl, (congrArg At (eq_impl_hasNode _ _ _ _ _ _ _ _ _ _)).mp ⟨vc_impl_hasNode _ _ _ _ _ _ _ _ _ hp⟩⟩
  · cases h
def TWA_6 : Tab := TWA_5.add 44 F_impl_hasNode
theorem TWA_6_ok : TWA_6.Ok Tryd.prog := TWA_5_ok.add ok_impl_hasNode
theorem eq_impl_isWay (d : Int) (K : V → Prop) : VC_impl_isWay d K = vbody Tryd.prog (vin Tryd.prog TWA_6 annTWA 3) TWA_6.looks (annTWA 45) 45 [.int .i64 d] [] (fun v _ => K v) := by kernel_rfl
theorem ok_impl_isWay : OK Tryd.prog 45 F_impl_isWay.spec := (vbody_ok (vin_ok TWA_6_ok annTWA 3) TWA_6_ok.looks _ _).ofF fun args m p R h hp => by
  unfold F_impl_isWay at h
  split at h
  · injection h with h; injection h with h1 h2; subst h1; subst h2
    exact ⟨rfl, (congrArg At (eq_impl_isWay _ _)).mp ⟨vc_impl_isWay _ hp⟩⟩
  · cases h
def TWA_7 : Tab := TWA_6.add 45 F_impl_isWay
theorem TWA_7_ok : TWA_7.Ok Tryd.prog := TWA_6_ok.add ok_impl_isWay
theorem eq_impl_areLines (s : List UInt8) (n : Int) (K : V → Prop) : VC_impl_areLines s n K = vbody Tryd.prog (vin Tryd.prog TWA_7 annTWA 3) TWA_7.looks (annTWA 46) 46 [.str s, .int .i64 n] [] (fun v _ => K v) := by kernel_rfl
theorem ok_impl_areLines : OK Tryd.prog 46 F_impl_areLines.spec := (vbody_ok (vin_ok TWA_7_ok annTWA 3) TWA_7_ok.looks _ _).ofF fun args m p R h hp => by
  unfold F_impl_areLines at h
  split at h
  · injection h with h; injection h with h1 h2; subst h1; subst h2
    exact ⟨rfl, (congrArg At (eq_impl_areLines _ _ _)).mp ⟨vc_impl_areLines _ _ hp⟩⟩
  · cases h
def TWA_8 : Tab := TWA_7.add 46 F_impl_areLines
theorem TWA_8_ok : TWA_8.Ok Tryd.prog := TWA_7_ok.add ok_impl_areLines
theorem eq_impl_IsWorm (mw : Int) (mh : Int) (mr : List UInt8) (mn : List UInt8) (mx : Int) (my : Int) (md : Int) (K : V → Prop) : VC_impl_IsWorm mw mh mr mn mx my md K = vbody Tryd.prog (vin Tryd.prog TWA_8 annTWA 3) TWA_8.looks (annTWA 17) 17 [.agg [.int .i64 mw, .int .i64 mh, .str mr, .str mn, .int .i64 mx, .int .i64 my, .int .i64 md]] [] (fun v _ => K v) := by kernel_rfl
theorem ok_impl_IsWorm : OK Tryd.prog 17 F_impl_IsWorm.spec := (vbody_ok (vin_ok TWA_8_ok annTWA 3) TWA_8_ok.looks _ _).ofF fun args m p R h hp => by
  unfold F_impl_IsWorm at h
  split at h
  · injection h with h; injection h with h1 h2; subst h1; subst h2
    exact ⟨rfl, (congrArg At (eq_impl_IsWorm _ _ _ _ _ _ _ _)).mp ⟨vc_impl_IsWorm _ _ _ _ _ _ _ hp⟩⟩
  · cases h
def TWA_9 : Tab := TWA_8.add 17 F_impl_IsWorm
theorem TWA_9_ok : TWA_9.Ok Tryd.prog := TWA_8_ok.add ok_impl_IsWorm
theorem eq_laws_szWorm (mw : Int) (mh : Int) (mr : List UInt8) (mn : List UInt8) (mx : Int) (my : Int) (md : Int) (left : Int) (K : V → Prop) : VC_laws_szWorm mw mh mr mn mx my md left K = vbody Tryd.prog (vin Tryd.prog TWA_9 annTWA 3) TWA_9.looks (annTWA 14) 14 [.agg [.int .i64 mw, .int .i64 mh, .str mr, .str mn, .int .i64 mx, .int .i64 my, .int .i64 md], .int .i64 left] [] (fun v _ => K v) := by kernel_rfl
theorem ok_laws_szWorm : OK Tryd.prog 14 F_laws_szWorm.spec := (vbody_ok (vin_ok TWA_9_ok annTWA 3) TWA_9_ok.looks _ _).ofF fun args m p R h hp => by
  unfold F_laws_szWorm at h
  split at h
  · injection h with h; injection h with h1 h2; subst h1; subst h2
    exact ⟨rfl, (congrArg At (eq_laws_szWorm _ _ _ _ _ _ _ _ _)).mp ⟨vc_laws_szWorm _ _ _ _ _ _ _ _ hp⟩⟩
  · cases h
def TWA_10 : Tab := TWA_9.add 14 F_laws_szWorm
theorem TWA_10_ok : TWA_10.Ok Tryd.prog := TWA_9_ok.add ok_laws_szWorm
theorem eq_laws_toWorm (mw : Int) (mh : Int) (mr : List UInt8) (mn : List UInt8) (mx : Int) (my : Int) (md : Int) (K : V → Prop) : VC_laws_toWorm mw mh mr mn mx my md K = vbody Tryd.prog (vin Tryd.prog TWA_10 annTWA 3) TWA_10.looks (annTWA 16) 16 [.agg [.int .i64 mw, .int .i64 mh, .str mr, .str mn, .int .i64 mx, .int .i64 my, .int .i64 md]] [] (fun v _ => K v) := by kernel_rfl
theorem ok_laws_toWorm : OK Tryd.prog 16 F_laws_toWorm.spec := (vbody_ok (vin_ok TWA_10_ok annTWA 3) TWA_10_ok.looks _ _).ofF fun args m p R h hp => by
  unfold F_laws_toWorm at h
  split at h
  · injection h with h; injection h with h1 h2; subst h1; subst h2
    exact ⟨rfl, (congrArg At (eq_laws_toWorm _ _ _ _ _ _ _ _)).mp ⟨vc_laws_toWorm _ _ _ _ _ _ _ hp⟩⟩
  · cases h
def TWA_11 : Tab := TWA_10.add 16 F_laws_toWorm
theorem TWA_11_ok : TWA_11.Ok Tryd.prog := TWA_10_ok.add ok_laws_toWorm
theorem eq_laws_eqWorm (aw : Int) (ah : Int) (ar : List UInt8) (an : List UInt8) (ax : Int) (ay : Int) (ad : Int) (bw : Int) (bh : Int) (br : List UInt8) (bn : List UInt8) (bx : Int) (by_ : Int) (bd : Int) (K : V → Prop) : VC_laws_eqWorm aw ah ar an ax ay ad bw bh br bn bx by_ bd K = vbody Tryd.prog (vin Tryd.prog TWA_11 annTWA 3) TWA_11.looks (annTWA 26) 26 [.agg [.int .i64 aw, .int .i64 ah, .str ar, .str an, .int .i64 ax, .int .i64 ay, .int .i64 ad], .agg [.int .i64 bw, .int .i64 bh, .str br, .str bn, .int .i64 bx, .int .i64 by_, .int .i64 bd]] [] (fun v _ => K v) := by kernel_rfl
theorem ok_laws_eqWorm : OK Tryd.prog 26 F_laws_eqWorm.spec := (vbody_ok (vin_ok TWA_11_ok annTWA 3) TWA_11_ok.looks _ _).ofF fun args m p R h hp => by
  unfold F_laws_eqWorm at h
  split at h
  · injection h with h; injection h with h1 h2; subst h1; subst h2
    exact ⟨rfl, (congrArg At (eq_laws_eqWorm _ _ _ _ _ _ _ _ _ _ _ _ _ _ _)).mp ⟨vc_laws_eqWorm _ _ _ _ _ _ _ _ _ _ _ _ _ _ hp⟩⟩
  · cases h
def TWA_12 : Tab := TWA_11.add 26 F_laws_eqWorm
theorem TWA_12_ok : TWA_12.Ok Tryd.prog := TWA_11_ok.add ok_laws_eqWorm
theorem eq_spec_wmTastes  (K : V → List Blk → Prop) : VC_spec_wmTastes  K = vbody Tryd.prog (vin Tryd.prog TWA_12 annTWA 3) TWA_12.looks (annTWA 69) 69 [] [] (K) := by kernel_rfl
theorem ok_spec_wmTastes : OK Tryd.prog 69 F_spec_wmTastes.spec := (vbody_ok (vin_ok TWA_12_ok annTWA 3) TWA_12_ok.looks _ _).ofG fun args m p R M h hp => by
  unfold F_spec_wmTastes at h
  split at h
  · injection h with h; injection h with h1 h2; injection h2 with h2 h3; subst h1; subst h2; subst h3
    exact (congrArg At (eq_spec_wmTastes  _)).mp ⟨vc_spec_wmTastes  hp⟩
  · cases h
def TWA_13 : Tab := TWA_12.addG 69 F_spec_wmTastes
theorem TWA_13_ok : TWA_13.Ok Tryd.prog := TWA_12_ok.addG ok_spec_wmTastes
theorem eq_spec_wmTaste (t : List UInt8) (K : V → Prop) : VC_spec_wmTaste t K = vbody Tryd.prog (vin Tryd.prog TWA_13 annTWA 3) TWA_13.looks (annTWA 47) 47 [.str t] [] (fun v _ => K v) := by kernel_rfl
theorem ok_spec_wmTaste : OK Tryd.prog 47 F_spec_wmTaste.spec := (vbody_ok (vin_ok TWA_13_ok annTWA 3) TWA_13_ok.looks _ _).ofF fun args m p R h hp => by
  unfold F_spec_wmTaste at h
  split at h
  · injection h with h; injection h with h1 h2; subst h1; subst h2
    exact ⟨rfl, (congrArg At (eq_spec_wmTaste _ _)).mp ⟨vc_spec_wmTaste _ hp⟩⟩
  · cases h
def TWA_14 : Tab := TWA_13.add 47 F_spec_wmTaste
theorem TWA_14_ok : TWA_14.Ok Tryd.prog := TWA_13_ok.add ok_spec_wmTaste
theorem eq_impl_IsTaste (t : List UInt8) (g0 : List UInt8) (g1 : List UInt8) (g2 : List UInt8) (g3 : List UInt8) (g4 : List UInt8) (g5 : List UInt8) (K : V → List Blk → Prop) : VC_impl_IsTaste t g0 g1 g2 g3 g4 g5 K = vbody Tryd.prog (vin Tryd.prog TWA_14 annTWA 3) TWA_14.looks (annTWA 19) 19 [.str t] [⟨.vals [.str g0, .str g1, .str g2, .str g3, .str g4, .str g5], 9, .gl 0⟩] (K) := by kernel_rfl
theorem ok_impl_IsTaste : OK Tryd.prog 19 F_impl_IsTaste.spec := (vbody_ok (vin_ok TWA_14_ok annTWA 3) TWA_14_ok.looks _ _).ofFM fun args m p R h hp => by
  unfold F_impl_IsTaste at h
  split at h
  · injection h with h; injection h with h1 h2; subst h1; subst h2
    exact (congrArg At (eq_impl_IsTaste _ _ _ _ _ _ _ _)).mp ⟨vc_impl_IsTaste _ _ _ _ _ _ _ hp⟩
  · cases h
def TWA_15 : Tab := TWA_14.add 19 F_impl_IsTaste
theorem TWA_15_ok : TWA_15.Ok Tryd.prog := TWA_14_ok.add ok_impl_IsTaste
theorem eq_spec_wmCount (s : List UInt8) (K : V → Prop) : VC_spec_wmCount s K = vbody Tryd.prog (vin Tryd.prog TWA_15 annTWA 3) TWA_15.looks (annTWA 48) 48 [.str s] [] (fun v _ => K v) := by kernel_rfl
theorem ok_spec_wmCount : OK Tryd.prog 48 F_spec_wmCount.spec := (vbody_ok (vin_ok TWA_15_ok annTWA 3) TWA_15_ok.looks _ _).ofF fun args m p R h hp => by
  unfold F_spec_wmCount at h
  split at h
  · injection h with h; injection h with h1 h2; subst h1; subst h2
    exact ⟨rfl, (congrArg At (eq_spec_wmCount _ _)).mp ⟨vc_spec_wmCount _ hp⟩⟩
  · cases h
def TWA_16 : Tab := TWA_15.add 48 F_spec_wmCount
theorem TWA_16_ok : TWA_16.Ok Tryd.prog := TWA_15_ok.add ok_spec_wmCount
theorem ok_strings_Count : OK Tryd.prog 49 F_strings_Count.spec := Go.Proofs.Tryd.libCount
def TWA_17 : Tab := TWA_16.add 49 F_strings_Count
theorem TWA_17_ok : TWA_17.Ok Tryd.prog := TWA_16_ok.add ok_strings_Count
def TWA : Tab := TWA_17
theorem TWA_ok : TWA.Ok Tryd.prog := TWA_17_ok
end Go.Proofs.YtioppaofihbmpaaDoor
