/- The contracts of this chapter. -/
import Derived.Test.YtioppaofihbmpaaDoorWALib
import Derived.Test.YtioppaofihbmpaaDoorProg
import Derived.Test.YtioppaofihbmpaaDoorWCPf
import Derived.KernelRfl
namespace Go.Proofs.YtioppaofihbmpaaDoor
open Go Go.Vi
set_option linter.unusedVariables false
def annTWC : FuncId → Nat → St → Option Ann := fun f => if f = 42 then ann_spec_wmGood else if f = 47 then ann_spec_wmTaste else if f = 19 then ann_impl_IsTaste else if f = 48 then ann_spec_wmCount else if f = 53 then ann_impl_crawler_linesAt else if f = 57 then ann_impl_crawler_goOn else if f = 51 then ann_spec_wmAt else if f = 55 then ann_spec_wmEat else if f = 27 then ann_spec_WormAfter else if f = 28 then ann_impl_WormAfter else if f = 35 then ann_laws_eqIntS else if f = 36 then ann_laws_markIntS else if f = 37 then ann_laws_heldIntS else if f = 59 then ann_spec_wmLife else if f = 60 then ann_impl_lived else (fun _ _ => none)
def TWC_0 : Tab := Tab.none
theorem TWC_0_ok : TWC_0.Ok Tryd.prog := Tab.none_ok
theorem eq_spec_l1In (n : Int) (lo : Int) (hi : Int) (K : V → Prop) : VC_spec_l1In n lo hi K = vbody Tryd.prog (vin Tryd.prog TWC_0 annTWC 3) TWC_0.looks (annTWC 50) 50 [.int .i64 n, .int .i64 lo, .int .i64 hi] [] (fun v _ => K v) := by kernel_rfl
theorem ok_spec_l1In : OK Tryd.prog 50 F_spec_l1In.spec := (vbody_ok (vin_ok TWC_0_ok annTWC 3) TWC_0_ok.looks _ _).ofF fun args m p R h hp => by
  unfold F_spec_l1In at h
  split at h
  · injection h with h; injection h with h1 h2; subst h1; subst h2
    exact ⟨rfl, (congrArg At (eq_spec_l1In _ _ _ _)).mp ⟨vc_spec_l1In _ _ _ hp⟩⟩
  · cases h
def TWC_1 : Tab := TWC_0.add 50 F_spec_l1In
theorem TWC_1_ok : TWC_1.Ok Tryd.prog := TWC_0_ok.add ok_spec_l1In
theorem eq_impl_within (n : Int) (lo : Int) (hi : Int) (K : V → Prop) : VC_impl_within n lo hi K = vbody Tryd.prog (vin Tryd.prog TWC_1 annTWC 3) TWC_1.looks (annTWC 56) 56 [.int .i64 n, .int .i64 lo, .int .i64 hi] [] (fun v _ => K v) := by kernel_rfl
theorem ok_impl_within : OK Tryd.prog 56 F_impl_within.spec := (vbody_ok (vin_ok TWC_1_ok annTWC 3) TWC_1_ok.looks _ _).ofF fun args m p R h hp => by
  unfold F_impl_within at h
  split at h
  · injection h with h; injection h with h1 h2; subst h1; subst h2
    exact ⟨rfl, (congrArg At (eq_impl_within _ _ _ _)).mp ⟨vc_impl_within _ _ _ hp⟩⟩
  · cases h
def TWC_2 : Tab := TWC_1.add 56 F_impl_within
theorem TWC_2_ok : TWC_2.Ok Tryd.prog := TWC_1_ok.add ok_impl_within
theorem eq_spec_wmGood (mw : Int) (mh : Int) (mr : List UInt8) (mn : List UInt8) (mx : Int) (my : Int) (md : Int) (K : V → Prop) : VC_spec_wmGood mw mh mr mn mx my md K = vbody Tryd.prog (vin Tryd.prog TWC_2 annTWC 3) TWC_2.looks (annTWC 42) 42 [.agg [.int .i64 mw, .int .i64 mh, .str mr, .str mn, .int .i64 mx, .int .i64 my, .int .i64 md]] [] (fun v _ => K v) := by kernel_rfl
theorem ok_spec_wmGood : OK Tryd.prog 42 F_spec_wmGood.spec := (vbody_ok (vin_ok TWC_2_ok annTWC 3) TWC_2_ok.looks _ _).ofF fun args m p R h hp => by
  unfold F_spec_wmGood at h
  split at h
  · injection h with h; injection h with h1 h2; subst h1; subst h2
    exact ⟨rfl, (congrArg At (eq_spec_wmGood _ _ _ _ _ _ _ _)).mp ⟨vc_spec_wmGood _ _ _ _ _ _ _ hp⟩⟩
  · cases h
def TWC_3 : Tab := TWC_2.add 42 F_spec_wmGood
theorem TWC_3_ok : TWC_3.Ok Tryd.prog := TWC_2_ok.add ok_spec_wmGood
theorem ok_strings_Trim : OK Tryd.prog 68 F_strings_Trim.spec := Go.Proofs.Tryd.libTrim
def TWC_4 : Tab := TWC_3.add 68 F_strings_Trim
theorem TWC_4_ok : TWC_4.Ok Tryd.prog := TWC_3_ok.add ok_strings_Trim
theorem eq_impl_isGrid (a : Int) (b : Int) (K : V → Prop) : VC_impl_isGrid a b K = vbody Tryd.prog (vin Tryd.prog TWC_4 annTWC 3) TWC_4.looks (annTWC 43) 43 [.int .i64 a, .int .i64 b] [] (fun v _ => K v) := by kernel_rfl
theorem ok_impl_isGrid : OK Tryd.prog 43 F_impl_isGrid.spec := (vbody_ok (vin_ok TWC_4_ok annTWC 3) TWC_4_ok.looks _ _).ofF fun args m p R h hp => by
  unfold F_impl_isGrid at h
  split at h
  · injection h with h; injection h with h1 h2; subst h1; subst h2
    exact ⟨rfl, (congrArg At (eq_impl_isGrid _ _ _)).mp ⟨vc_impl_isGrid _ _ hp⟩⟩
  · cases h
def TWC_5 : Tab := TWC_4.add 43 F_impl_isGrid
theorem TWC_5_ok : TWC_5.Ok Tryd.prog := TWC_4_ok.add ok_impl_isGrid
theorem eq_impl_hasNode (mw : Int) (mh : Int) (mr : List UInt8) (mn : List UInt8) (mx : Int) (my : Int) (md : Int) (x : Int) (y : Int) (K : V → Prop) : VC_impl_hasNode mw mh mr mn mx my md x y K = vbody Tryd.prog (vin Tryd.prog TWC_5 annTWC 3) TWC_5.looks (annTWC 44) 44 [.agg [.int .i64 mw, .int .i64 mh, .str mr, .str mn, .int .i64 mx, .int .i64 my, .int .i64 md], .int .i64 x, .int .i64 y] [] (fun v _ => K v) := by kernel_rfl
theorem ok_impl_hasNode : OK Tryd.prog 44 F_impl_hasNode.spec := (vbody_ok (vin_ok TWC_5_ok annTWC 3) TWC_5_ok.looks _ _).ofF fun args m p R h hp => by
  unfold F_impl_hasNode at h
  split at h
  · injection h with h; injection h with h1 h2; subst h1; subst h2
    exact ⟨rfl, (congrArg At (eq_impl_hasNode _ _ _ _ _ _ _ _ _ _)).mp ⟨vc_impl_hasNode _ _ _ _ _ _ _ _ _ hp⟩⟩
  · cases h
def TWC_6 : Tab := TWC_5.add 44 F_impl_hasNode
theorem TWC_6_ok : TWC_6.Ok Tryd.prog := TWC_5_ok.add ok_impl_hasNode
theorem eq_impl_isWay (d : Int) (K : V → Prop) : VC_impl_isWay d K = vbody Tryd.prog (vin Tryd.prog TWC_6 annTWC 3) TWC_6.looks (annTWC 45) 45 [.int .i64 d] [] (fun v _ => K v) := by kernel_rfl
theorem ok_impl_isWay : OK Tryd.prog 45 F_impl_isWay.spec := (vbody_ok (vin_ok TWC_6_ok annTWC 3) TWC_6_ok.looks _ _).ofF fun args m p R h hp => by
  unfold F_impl_isWay at h
  split at h
  · injection h with h; injection h with h1 h2; subst h1; subst h2
    exact ⟨rfl, (congrArg At (eq_impl_isWay _ _)).mp ⟨vc_impl_isWay _ hp⟩⟩
  · cases h
def TWC_7 : Tab := TWC_6.add 45 F_impl_isWay
theorem TWC_7_ok : TWC_7.Ok Tryd.prog := TWC_6_ok.add ok_impl_isWay
theorem eq_impl_areLines (s : List UInt8) (n : Int) (K : V → Prop) : VC_impl_areLines s n K = vbody Tryd.prog (vin Tryd.prog TWC_7 annTWC 3) TWC_7.looks (annTWC 46) 46 [.str s, .int .i64 n] [] (fun v _ => K v) := by kernel_rfl
theorem ok_impl_areLines : OK Tryd.prog 46 F_impl_areLines.spec := (vbody_ok (vin_ok TWC_7_ok annTWC 3) TWC_7_ok.looks _ _).ofF fun args m p R h hp => by
  unfold F_impl_areLines at h
  split at h
  · injection h with h; injection h with h1 h2; subst h1; subst h2
    exact ⟨rfl, (congrArg At (eq_impl_areLines _ _ _)).mp ⟨vc_impl_areLines _ _ hp⟩⟩
  · cases h
def TWC_8 : Tab := TWC_7.add 46 F_impl_areLines
theorem TWC_8_ok : TWC_8.Ok Tryd.prog := TWC_7_ok.add ok_impl_areLines
theorem eq_impl_IsWorm (mw : Int) (mh : Int) (mr : List UInt8) (mn : List UInt8) (mx : Int) (my : Int) (md : Int) (K : V → Prop) : VC_impl_IsWorm mw mh mr mn mx my md K = vbody Tryd.prog (vin Tryd.prog TWC_8 annTWC 3) TWC_8.looks (annTWC 17) 17 [.agg [.int .i64 mw, .int .i64 mh, .str mr, .str mn, .int .i64 mx, .int .i64 my, .int .i64 md]] [] (fun v _ => K v) := by kernel_rfl
theorem ok_impl_IsWorm : OK Tryd.prog 17 F_impl_IsWorm.spec := (vbody_ok (vin_ok TWC_8_ok annTWC 3) TWC_8_ok.looks _ _).ofF fun args m p R h hp => by
  unfold F_impl_IsWorm at h
  split at h
  · injection h with h; injection h with h1 h2; subst h1; subst h2
    exact ⟨rfl, (congrArg At (eq_impl_IsWorm _ _ _ _ _ _ _ _)).mp ⟨vc_impl_IsWorm _ _ _ _ _ _ _ hp⟩⟩
  · cases h
def TWC_9 : Tab := TWC_8.add 17 F_impl_IsWorm
theorem TWC_9_ok : TWC_9.Ok Tryd.prog := TWC_8_ok.add ok_impl_IsWorm
theorem eq_laws_szWorm (mw : Int) (mh : Int) (mr : List UInt8) (mn : List UInt8) (mx : Int) (my : Int) (md : Int) (left : Int) (K : V → Prop) : VC_laws_szWorm mw mh mr mn mx my md left K = vbody Tryd.prog (vin Tryd.prog TWC_9 annTWC 3) TWC_9.looks (annTWC 14) 14 [.agg [.int .i64 mw, .int .i64 mh, .str mr, .str mn, .int .i64 mx, .int .i64 my, .int .i64 md], .int .i64 left] [] (fun v _ => K v) := by kernel_rfl
theorem ok_laws_szWorm : OK Tryd.prog 14 F_laws_szWorm.spec := (vbody_ok (vin_ok TWC_9_ok annTWC 3) TWC_9_ok.looks _ _).ofF fun args m p R h hp => by
  unfold F_laws_szWorm at h
  split at h
  · injection h with h; injection h with h1 h2; subst h1; subst h2
    exact ⟨rfl, (congrArg At (eq_laws_szWorm _ _ _ _ _ _ _ _ _)).mp ⟨vc_laws_szWorm _ _ _ _ _ _ _ _ hp⟩⟩
  · cases h
def TWC_10 : Tab := TWC_9.add 14 F_laws_szWorm
theorem TWC_10_ok : TWC_10.Ok Tryd.prog := TWC_9_ok.add ok_laws_szWorm
theorem eq_laws_toWorm (mw : Int) (mh : Int) (mr : List UInt8) (mn : List UInt8) (mx : Int) (my : Int) (md : Int) (K : V → Prop) : VC_laws_toWorm mw mh mr mn mx my md K = vbody Tryd.prog (vin Tryd.prog TWC_10 annTWC 3) TWC_10.looks (annTWC 16) 16 [.agg [.int .i64 mw, .int .i64 mh, .str mr, .str mn, .int .i64 mx, .int .i64 my, .int .i64 md]] [] (fun v _ => K v) := by kernel_rfl
theorem ok_laws_toWorm : OK Tryd.prog 16 F_laws_toWorm.spec := (vbody_ok (vin_ok TWC_10_ok annTWC 3) TWC_10_ok.looks _ _).ofF fun args m p R h hp => by
  unfold F_laws_toWorm at h
  split at h
  · injection h with h; injection h with h1 h2; subst h1; subst h2
    exact ⟨rfl, (congrArg At (eq_laws_toWorm _ _ _ _ _ _ _ _)).mp ⟨vc_laws_toWorm _ _ _ _ _ _ _ hp⟩⟩
  · cases h
def TWC_11 : Tab := TWC_10.add 16 F_laws_toWorm
theorem TWC_11_ok : TWC_11.Ok Tryd.prog := TWC_10_ok.add ok_laws_toWorm
theorem eq_laws_eqWorm (aw : Int) (ah : Int) (ar : List UInt8) (an : List UInt8) (ax : Int) (ay : Int) (ad : Int) (bw : Int) (bh : Int) (br : List UInt8) (bn : List UInt8) (bx : Int) (by_ : Int) (bd : Int) (K : V → Prop) : VC_laws_eqWorm aw ah ar an ax ay ad bw bh br bn bx by_ bd K = vbody Tryd.prog (vin Tryd.prog TWC_11 annTWC 3) TWC_11.looks (annTWC 26) 26 [.agg [.int .i64 aw, .int .i64 ah, .str ar, .str an, .int .i64 ax, .int .i64 ay, .int .i64 ad], .agg [.int .i64 bw, .int .i64 bh, .str br, .str bn, .int .i64 bx, .int .i64 by_, .int .i64 bd]] [] (fun v _ => K v) := by kernel_rfl
theorem ok_laws_eqWorm : OK Tryd.prog 26 F_laws_eqWorm.spec := (vbody_ok (vin_ok TWC_11_ok annTWC 3) TWC_11_ok.looks _ _).ofF fun args m p R h hp => by
  unfold F_laws_eqWorm at h
  split at h
  · injection h with h; injection h with h1 h2; subst h1; subst h2
    exact ⟨rfl, (congrArg At (eq_laws_eqWorm _ _ _ _ _ _ _ _ _ _ _ _ _ _ _)).mp ⟨vc_laws_eqWorm _ _ _ _ _ _ _ _ _ _ _ _ _ _ hp⟩⟩
  · cases h
def TWC_12 : Tab := TWC_11.add 26 F_laws_eqWorm
theorem TWC_12_ok : TWC_12.Ok Tryd.prog := TWC_11_ok.add ok_laws_eqWorm
theorem eq_spec_wmTastes  (K : V → List Blk → Prop) : VC_spec_wmTastes  K = vbody Tryd.prog (vin Tryd.prog TWC_12 annTWC 3) TWC_12.looks (annTWC 69) 69 [] [] (K) := by kernel_rfl
theorem ok_spec_wmTastes : OK Tryd.prog 69 F_spec_wmTastes.spec := (vbody_ok (vin_ok TWC_12_ok annTWC 3) TWC_12_ok.looks _ _).ofG fun args m p R M h hp => by
  unfold F_spec_wmTastes at h
  split at h
  · injection h with h; injection h with h1 h2; injection h2 with h2 h3; subst h1; subst h2; subst h3
    exact (congrArg At (eq_spec_wmTastes  _)).mp ⟨vc_spec_wmTastes  hp⟩
  · cases h
def TWC_13 : Tab := TWC_12.addG 69 F_spec_wmTastes
theorem TWC_13_ok : TWC_13.Ok Tryd.prog := TWC_12_ok.addG ok_spec_wmTastes
theorem eq_spec_wmTaste (t : List UInt8) (K : V → Prop) : VC_spec_wmTaste t K = vbody Tryd.prog (vin Tryd.prog TWC_13 annTWC 3) TWC_13.looks (annTWC 47) 47 [.str t] [] (fun v _ => K v) := by kernel_rfl
theorem ok_spec_wmTaste : OK Tryd.prog 47 F_spec_wmTaste.spec := (vbody_ok (vin_ok TWC_13_ok annTWC 3) TWC_13_ok.looks _ _).ofF fun args m p R h hp => by
  unfold F_spec_wmTaste at h
  split at h
  · injection h with h; injection h with h1 h2; subst h1; subst h2
    exact ⟨rfl, (congrArg At (eq_spec_wmTaste _ _)).mp ⟨vc_spec_wmTaste _ hp⟩⟩
  · cases h
def TWC_14 : Tab := TWC_13.add 47 F_spec_wmTaste
theorem TWC_14_ok : TWC_14.Ok Tryd.prog := TWC_13_ok.add ok_spec_wmTaste
theorem eq_impl_IsTaste (t : List UInt8) (g0 : List UInt8) (g1 : List UInt8) (g2 : List UInt8) (g3 : List UInt8) (g4 : List UInt8) (g5 : List UInt8) (K : V → List Blk → Prop) : VC_impl_IsTaste t g0 g1 g2 g3 g4 g5 K = vbody Tryd.prog (vin Tryd.prog TWC_14 annTWC 3) TWC_14.looks (annTWC 19) 19 [.str t] [⟨.vals [.str g0, .str g1, .str g2, .str g3, .str g4, .str g5], 9, .gl 0⟩] (K) := by kernel_rfl
theorem ok_impl_IsTaste : OK Tryd.prog 19 F_impl_IsTaste.spec := (vbody_ok (vin_ok TWC_14_ok annTWC 3) TWC_14_ok.looks _ _).ofFM fun args m p R h hp => by
  unfold F_impl_IsTaste at h
  split at h
  · injection h with h; injection h with h1 h2; subst h1; subst h2
    exact (congrArg At (eq_impl_IsTaste _ _ _ _ _ _ _ _)).mp ⟨vc_impl_IsTaste _ _ _ _ _ _ _ hp⟩
  · cases h
def TWC_15 : Tab := TWC_14.add 19 F_impl_IsTaste
theorem TWC_15_ok : TWC_15.Ok Tryd.prog := TWC_14_ok.add ok_impl_IsTaste
theorem eq_spec_wmCount (s : List UInt8) (K : V → Prop) : VC_spec_wmCount s K = vbody Tryd.prog (vin Tryd.prog TWC_15 annTWC 3) TWC_15.looks (annTWC 48) 48 [.str s] [] (fun v _ => K v) := by kernel_rfl
theorem ok_spec_wmCount : OK Tryd.prog 48 F_spec_wmCount.spec := (vbody_ok (vin_ok TWC_15_ok annTWC 3) TWC_15_ok.looks _ _).ofF fun args m p R h hp => by
  unfold F_spec_wmCount at h
  split at h
  · injection h with h; injection h with h1 h2; subst h1; subst h2
    exact ⟨rfl, (congrArg At (eq_spec_wmCount _ _)).mp ⟨vc_spec_wmCount _ hp⟩⟩
  · cases h
def TWC_16 : Tab := TWC_15.add 48 F_spec_wmCount
theorem TWC_16_ok : TWC_16.Ok Tryd.prog := TWC_15_ok.add ok_spec_wmCount
theorem ok_strings_Count : OK Tryd.prog 49 F_strings_Count.spec := Go.Proofs.Tryd.libCount
def TWC_17 : Tab := TWC_16.add 49 F_strings_Count
theorem TWC_17_ok : TWC_17.Ok Tryd.prog := TWC_16_ok.add ok_strings_Count
theorem eq_spec_l1Mod (n : Int) (m : Int) (K : V → Prop) : VC_spec_l1Mod n m K = vbody Tryd.prog (vin Tryd.prog TWC_17 annTWC 3) TWC_17.looks (annTWC 79) 79 [.int .i64 n, .int .i64 m] [] (fun v _ => K v) := by kernel_rfl
theorem ok_spec_l1Mod : OK Tryd.prog 79 F_spec_l1Mod.spec := (vbody_ok (vin_ok TWC_17_ok annTWC 3) TWC_17_ok.looks _ _).ofF fun args m p R h hp => by
  unfold F_spec_l1Mod at h
  split at h
  · injection h with h; injection h with h1 h2; subst h1; subst h2
    exact ⟨rfl, (congrArg At (eq_spec_l1Mod _ _ _)).mp ⟨vc_spec_l1Mod _ _ hp⟩⟩
  · cases h
def TWC_18 : Tab := TWC_17.add 79 F_spec_l1Mod
theorem TWC_18_ok : TWC_18.Ok Tryd.prog := TWC_17_ok.add ok_spec_l1Mod
theorem eq_spec_woTurn (b : Int) (K : V → Prop) : VC_spec_woTurn b K = vbody Tryd.prog (vin Tryd.prog TWC_18 annTWC 3) TWC_18.looks (annTWC 74) 74 [.int .u8 b] [] (fun v _ => K v) := by kernel_rfl
theorem ok_spec_woTurn : OK Tryd.prog 74 F_spec_woTurn.spec := (vbody_ok (vin_ok TWC_18_ok annTWC 3) TWC_18_ok.looks _ _).ofF fun args m p R h hp => by
  unfold F_spec_woTurn at h
  split at h
  · injection h with h; injection h with h1 h2; subst h1; subst h2
    exact ⟨rfl, (congrArg At (eq_spec_woTurn _ _)).mp ⟨vc_spec_woTurn _ hp⟩⟩
  · cases h
def TWC_19 : Tab := TWC_18.add 74 F_spec_woTurn
theorem TWC_19_ok : TWC_19.Ok Tryd.prog := TWC_18_ok.add ok_spec_woTurn
theorem eq_impl_quarters (b : Int) (K : V → Prop) : VC_impl_quarters b K = vbody Tryd.prog (vin Tryd.prog TWC_19 annTWC 3) TWC_19.looks (annTWC 75) 75 [.int .u8 b] [] (fun v _ => K v) := by kernel_rfl
theorem ok_impl_quarters : OK Tryd.prog 75 F_impl_quarters.spec := (vbody_ok (vin_ok TWC_19_ok annTWC 3) TWC_19_ok.looks _ _).ofF fun args m p R h hp => by
  unfold F_impl_quarters at h
  split at h
  · injection h with h; injection h with h1 h2; subst h1; subst h2
    exact ⟨rfl, (congrArg At (eq_impl_quarters _ _)).mp ⟨vc_impl_quarters _ hp⟩⟩
  · cases h
def TWC_20 : Tab := TWC_19.add 75 F_impl_quarters
theorem TWC_20_ok : TWC_20.Ok Tryd.prog := TWC_19_ok.add ok_impl_quarters
theorem eq_impl_direction (d : Int) (K : V → Prop) : VC_impl_direction d K = vbody Tryd.prog (vin Tryd.prog TWC_20 annTWC 3) TWC_20.looks (annTWC 91) 91 [.int .i64 d] [] (fun v _ => K v) := by kernel_rfl
theorem ok_impl_direction : OK Tryd.prog 91 F_impl_direction.spec := (vbody_ok (vin_ok TWC_20_ok annTWC 3) TWC_20_ok.looks _ _).ofF fun args m p R h hp => by
  unfold F_impl_direction at h
  split at h
  · injection h with h; injection h with h1 h2; subst h1; subst h2
    exact ⟨rfl, (congrArg At (eq_impl_direction _ _)).mp ⟨vc_impl_direction _ hp⟩⟩
  · cases h
def TWC_21 : Tab := TWC_20.add 91 F_impl_direction
theorem TWC_21_ok : TWC_21.Ok Tryd.prog := TWC_20_ok.add ok_impl_direction
theorem eq_impl_board_turned (br : List UInt8) (bw : Int) (bh : Int) (bc : List UInt8) (bx : Int) (by_ : Int) (bd : Int) (q : Int) (K : V → Prop) : VC_impl_board_turned br bw bh bc bx by_ bd q K = vbody Tryd.prog (vin Tryd.prog TWC_21 annTWC 3) TWC_21.looks (annTWC 80) 80 [.agg [.str br, .int .i64 bw, .int .i64 bh, .str bc, .int .i64 bx, .int .i64 by_, .int .i64 bd], .int .i64 q] [] (fun v _ => K v) := by kernel_rfl
theorem ok_impl_board_turned : OK Tryd.prog 80 F_impl_board_turned.spec := (vbody_ok (vin_ok TWC_21_ok annTWC 3) TWC_21_ok.looks _ _).ofF fun args m p R h hp => by
  unfold F_impl_board_turned at h
  split at h
  · injection h with h; injection h with h1 h2; subst h1; subst h2
    exact ⟨rfl, (congrArg At (eq_impl_board_turned _ _ _ _ _ _ _ _ _)).mp ⟨vc_impl_board_turned _ _ _ _ _ _ _ _ hp⟩⟩
  · cases h
def TWC_22 : Tab := TWC_21.add 80 F_impl_board_turned
theorem TWC_22_ok : TWC_22.Ok Tryd.prog := TWC_21_ok.add ok_impl_board_turned
theorem eq_impl_board_moved (br : List UInt8) (bw : Int) (bh : Int) (bc : List UInt8) (bx : Int) (by_ : Int) (bd : Int) (k : Int) (K : V → Prop) : VC_impl_board_moved br bw bh bc bx by_ bd k K = vbody Tryd.prog (vin Tryd.prog TWC_22 annTWC 3) TWC_22.looks (annTWC 82) 82 [.agg [.str br, .int .i64 bw, .int .i64 bh, .str bc, .int .i64 bx, .int .i64 by_, .int .i64 bd], .int .i64 k] [] (fun v _ => K v) := by kernel_rfl
theorem ok_impl_board_moved : OK Tryd.prog 82 F_impl_board_moved.spec := (vbody_ok (vin_ok TWC_22_ok annTWC 3) TWC_22_ok.looks _ _).ofF fun args m p R h hp => by
  unfold F_impl_board_moved at h
  split at h
  · injection h with h; injection h with h1 h2; subst h1; subst h2
    exact ⟨rfl, (congrArg At (eq_impl_board_moved _ _ _ _ _ _ _ _ _)).mp ⟨vc_impl_board_moved _ _ _ _ _ _ _ _ hp⟩⟩
  · cases h
def TWC_23 : Tab := TWC_22.add 82 F_impl_board_moved
theorem TWC_23_ok : TWC_23.Ok Tryd.prog := TWC_22_ok.add ok_impl_board_moved
theorem eq_impl_crawler_nodes (cr : List UInt8) (cw : Int) (ch : Int) (cc : List UInt8) (cx : Int) (cy : Int) (cd : Int) (cl : List UInt8) (K : V → Prop) : VC_impl_crawler_nodes cr cw ch cc cx cy cd cl K = vbody Tryd.prog (vin Tryd.prog TWC_23 annTWC 3) TWC_23.looks (annTWC 76) 76 [.agg [.str cr, .int .i64 cw, .int .i64 ch, .str cc, .int .i64 cx, .int .i64 cy, .int .i64 cd, .str cl]] [] (fun v _ => K v) := by kernel_rfl
theorem ok_impl_crawler_nodes : OK Tryd.prog 76 F_impl_crawler_nodes.spec := (vbody_ok (vin_ok TWC_23_ok annTWC 3) TWC_23_ok.looks _ _).ofF fun args m p R h hp => by
  unfold F_impl_crawler_nodes at h
  split at h
  · injection h with h; injection h with h1 h2; subst h1; subst h2
    exact ⟨rfl, (congrArg At (eq_impl_crawler_nodes _ _ _ _ _ _ _ _ _)).mp ⟨vc_impl_crawler_nodes _ _ _ _ _ _ _ _ hp⟩⟩
  · cases h
def TWC_24 : Tab := TWC_23.add 76 F_impl_crawler_nodes
theorem TWC_24_ok : TWC_24.Ok Tryd.prog := TWC_23_ok.add ok_impl_crawler_nodes
theorem eq_impl_crawler_node (cr : List UInt8) (cw : Int) (ch : Int) (cc : List UInt8) (cx : Int) (cy : Int) (cd : Int) (cl : List UInt8) (K : V → Prop) : VC_impl_crawler_node cr cw ch cc cx cy cd cl K = vbody Tryd.prog (vin Tryd.prog TWC_24 annTWC 3) TWC_24.looks (annTWC 77) 77 [.agg [.str cr, .int .i64 cw, .int .i64 ch, .str cc, .int .i64 cx, .int .i64 cy, .int .i64 cd, .str cl]] [] (fun v _ => K v) := by kernel_rfl
theorem ok_impl_crawler_node : OK Tryd.prog 77 F_impl_crawler_node.spec := (vbody_ok (vin_ok TWC_24_ok annTWC 3) TWC_24_ok.looks _ _).ofF fun args m p R h hp => by
  unfold F_impl_crawler_node at h
  split at h
  · injection h with h; injection h with h1 h2; subst h1; subst h2
    exact ⟨rfl, (congrArg At (eq_impl_crawler_node _ _ _ _ _ _ _ _ _)).mp ⟨vc_impl_crawler_node _ _ _ _ _ _ _ _ hp⟩⟩
  · cases h
def TWC_25 : Tab := TWC_24.add 77 F_impl_crawler_node
theorem TWC_25_ok : TWC_25.Ok Tryd.prog := TWC_24_ok.add ok_impl_crawler_node
theorem eq_impl_crawler_seenFrom (cr : List UInt8) (cw : Int) (ch : Int) (cc : List UInt8) (cx : Int) (cy : Int) (cd : Int) (cl : List UInt8) (k : Int) (q : Int) (K : V → Prop) : VC_impl_crawler_seenFrom cr cw ch cc cx cy cd cl k q K = vbody Tryd.prog (vin Tryd.prog TWC_25 annTWC 3) TWC_25.looks (annTWC 73) 73 [.agg [.str cr, .int .i64 cw, .int .i64 ch, .str cc, .int .i64 cx, .int .i64 cy, .int .i64 cd, .str cl], .int .i64 k, .int .i64 q] [] (fun v _ => K v) := by kernel_rfl
theorem ok_impl_crawler_seenFrom : OK Tryd.prog 73 F_impl_crawler_seenFrom.spec := (vbody_ok (vin_ok TWC_25_ok annTWC 3) TWC_25_ok.looks _ _).ofF fun args m p R h hp => by
  unfold F_impl_crawler_seenFrom at h
  split at h
  · injection h with h; injection h with h1 h2; subst h1; subst h2
    exact ⟨rfl, (congrArg At (eq_impl_crawler_seenFrom _ _ _ _ _ _ _ _ _ _ _)).mp ⟨vc_impl_crawler_seenFrom _ _ _ _ _ _ _ _ _ _ hp⟩⟩
  · cases h
def TWC_26 : Tab := TWC_25.add 73 F_impl_crawler_seenFrom
theorem TWC_26_ok : TWC_26.Ok Tryd.prog := TWC_25_ok.add ok_impl_crawler_seenFrom
theorem eq_impl_crawler_heading (cr : List UInt8) (cw : Int) (ch : Int) (cc : List UInt8) (cx : Int) (cy : Int) (cd : Int) (cl : List UInt8) (q : Int) (K : V → Prop) : VC_impl_crawler_heading cr cw ch cc cx cy cd cl q K = vbody Tryd.prog (vin Tryd.prog TWC_26 annTWC 3) TWC_26.looks (annTWC 64) 64 [.agg [.str cr, .int .i64 cw, .int .i64 ch, .str cc, .int .i64 cx, .int .i64 cy, .int .i64 cd, .str cl], .int .i64 q] [] (fun v _ => K v) := by kernel_rfl
theorem ok_impl_crawler_heading : OK Tryd.prog 64 F_impl_crawler_heading.spec := (vbody_ok (vin_ok TWC_26_ok annTWC 3) TWC_26_ok.looks _ _).ofF fun args m p R h hp => by
  unfold F_impl_crawler_heading at h
  split at h
  · injection h with h; injection h with h1 h2; subst h1; subst h2
    exact ⟨rfl, (congrArg At (eq_impl_crawler_heading _ _ _ _ _ _ _ _ _ _)).mp ⟨vc_impl_crawler_heading _ _ _ _ _ _ _ _ _ hp⟩⟩
  · cases h
def TWC_27 : Tab := TWC_26.add 64 F_impl_crawler_heading
theorem TWC_27_ok : TWC_27.Ok Tryd.prog := TWC_26_ok.add ok_impl_crawler_heading
theorem eq_impl_crawler_crawled (cr : List UInt8) (cw : Int) (ch : Int) (cc : List UInt8) (cx : Int) (cy : Int) (cd : Int) (cl : List UInt8) (K : V → Prop) : VC_impl_crawler_crawled cr cw ch cc cx cy cd cl K = vbody Tryd.prog (vin Tryd.prog TWC_27 annTWC 3) TWC_27.looks (annTWC 67) 67 [.agg [.str cr, .int .i64 cw, .int .i64 ch, .str cc, .int .i64 cx, .int .i64 cy, .int .i64 cd, .str cl]] [] (fun v _ => K v) := by kernel_rfl
theorem ok_impl_crawler_crawled : OK Tryd.prog 67 F_impl_crawler_crawled.spec := (vbody_ok (vin_ok TWC_27_ok annTWC 3) TWC_27_ok.looks _ _).ofF fun args m p R h hp => by
  unfold F_impl_crawler_crawled at h
  split at h
  · injection h with h; injection h with h1 h2; subst h1; subst h2
    exact ⟨rfl, (congrArg At (eq_impl_crawler_crawled _ _ _ _ _ _ _ _ _)).mp ⟨vc_impl_crawler_crawled _ _ _ _ _ _ _ _ hp⟩⟩
  · cases h
def TWC_28 : Tab := TWC_27.add 67 F_impl_crawler_crawled
theorem TWC_28_ok : TWC_28.Ok Tryd.prog := TWC_27_ok.add ok_impl_crawler_crawled
theorem eq_impl_crawler_lineAhead (cr : List UInt8) (cw : Int) (ch : Int) (cc : List UInt8) (cx : Int) (cy : Int) (cd : Int) (cl : List UInt8) (K : V → Prop) : VC_impl_crawler_lineAhead cr cw ch cc cx cy cd cl K = vbody Tryd.prog (vin Tryd.prog TWC_28 annTWC 3) TWC_28.looks (annTWC 81) 81 [.agg [.str cr, .int .i64 cw, .int .i64 ch, .str cc, .int .i64 cx, .int .i64 cy, .int .i64 cd, .str cl]] [] (fun v _ => K v) := by kernel_rfl
theorem ok_impl_crawler_lineAhead : OK Tryd.prog 81 F_impl_crawler_lineAhead.spec := (vbody_ok (vin_ok TWC_28_ok annTWC 3) TWC_28_ok.looks _ _).ofF fun args m p R h hp => by
  unfold F_impl_crawler_lineAhead at h
  split at h
  · injection h with h; injection h with h1 h2; subst h1; subst h2
    exact ⟨rfl, (congrArg At (eq_impl_crawler_lineAhead _ _ _ _ _ _ _ _ _)).mp ⟨vc_impl_crawler_lineAhead _ _ _ _ _ _ _ _ hp⟩⟩
  · cases h
def TWC_29 : Tab := TWC_28.add 81 F_impl_crawler_lineAhead
theorem TWC_29_ok : TWC_29.Ok Tryd.prog := TWC_28_ok.add ok_impl_crawler_lineAhead
theorem eq_impl_crawler_hasLineAhead (cr : List UInt8) (cw : Int) (ch : Int) (cc : List UInt8) (cx : Int) (cy : Int) (cd : Int) (cl : List UInt8) (K : V → Prop) : VC_impl_crawler_hasLineAhead cr cw ch cc cx cy cd cl K = vbody Tryd.prog (vin Tryd.prog TWC_29 annTWC 3) TWC_29.looks (annTWC 65) 65 [.agg [.str cr, .int .i64 cw, .int .i64 ch, .str cc, .int .i64 cx, .int .i64 cy, .int .i64 cd, .str cl]] [] (fun v _ => K v) := by kernel_rfl
theorem ok_impl_crawler_hasLineAhead : OK Tryd.prog 65 F_impl_crawler_hasLineAhead.spec := (vbody_ok (vin_ok TWC_29_ok annTWC 3) TWC_29_ok.looks _ _).ofF fun args m p R h hp => by
  unfold F_impl_crawler_hasLineAhead at h
  split at h
  · injection h with h; injection h with h1 h2; subst h1; subst h2
    exact ⟨rfl, (congrArg At (eq_impl_crawler_hasLineAhead _ _ _ _ _ _ _ _ _)).mp ⟨vc_impl_crawler_hasLineAhead _ _ _ _ _ _ _ _ hp⟩⟩
  · cases h
def TWC_30 : Tab := TWC_29.add 65 F_impl_crawler_hasLineAhead
theorem TWC_30_ok : TWC_30.Ok Tryd.prog := TWC_29_ok.add ok_impl_crawler_hasLineAhead
theorem eq_impl_crawler_withLineAhead (cr : List UInt8) (cw : Int) (ch : Int) (cc : List UInt8) (cx : Int) (cy : Int) (cd : Int) (cl : List UInt8) (s : List UInt8) (K : V → Prop) : VC_impl_crawler_withLineAhead cr cw ch cc cx cy cd cl s K = vbody Tryd.prog (vin Tryd.prog TWC_30 annTWC 3) TWC_30.looks (annTWC 66) 66 [.agg [.str cr, .int .i64 cw, .int .i64 ch, .str cc, .int .i64 cx, .int .i64 cy, .int .i64 cd, .str cl], .str s] [] (fun v _ => K v) := by kernel_rfl
theorem ok_impl_crawler_withLineAhead : OK Tryd.prog 66 F_impl_crawler_withLineAhead.spec := (vbody_ok (vin_ok TWC_30_ok annTWC 3) TWC_30_ok.looks _ _).ofF fun args m p R h hp => by
  unfold F_impl_crawler_withLineAhead at h
  split at h
  · injection h with h; injection h with h1 h2; subst h1; subst h2
    exact ⟨rfl, (congrArg At (eq_impl_crawler_withLineAhead _ _ _ _ _ _ _ _ _ _)).mp ⟨vc_impl_crawler_withLineAhead _ _ _ _ _ _ _ _ _ hp⟩⟩
  · cases h
def TWC_31 : Tab := TWC_30.add 66 F_impl_crawler_withLineAhead
theorem TWC_31_ok : TWC_31.Ok Tryd.prog := TWC_30_ok.add ok_impl_crawler_withLineAhead
theorem eq_impl_crawler_worm (cr : List UInt8) (cw : Int) (ch : Int) (cc : List UInt8) (cx : Int) (cy : Int) (cd : Int) (cl : List UInt8) (K : V → Prop) : VC_impl_crawler_worm cr cw ch cc cx cy cd cl K = vbody Tryd.prog (vin Tryd.prog TWC_31 annTWC 3) TWC_31.looks (annTWC 58) 58 [.agg [.str cr, .int .i64 cw, .int .i64 ch, .str cc, .int .i64 cx, .int .i64 cy, .int .i64 cd, .str cl]] [] (fun v _ => K v) := by kernel_rfl
theorem ok_impl_crawler_worm : OK Tryd.prog 58 F_impl_crawler_worm.spec := (vbody_ok (vin_ok TWC_31_ok annTWC 3) TWC_31_ok.looks _ _).ofF fun args m p R h hp => by
  unfold F_impl_crawler_worm at h
  split at h
  · injection h with h; injection h with h1 h2; subst h1; subst h2
    exact ⟨rfl, (congrArg At (eq_impl_crawler_worm _ _ _ _ _ _ _ _ _)).mp ⟨vc_impl_crawler_worm _ _ _ _ _ _ _ _ hp⟩⟩
  · cases h
def TWC_32 : Tab := TWC_31.add 58 F_impl_crawler_worm
theorem TWC_32_ok : TWC_32.Ok Tryd.prog := TWC_31_ok.add ok_impl_crawler_worm
theorem eq_impl_crawlerOf (mw : Int) (mh : Int) (mr : List UInt8) (mn : List UInt8) (mx : Int) (my : Int) (md : Int) (K : V → Prop) : VC_impl_crawlerOf mw mh mr mn mx my md K = vbody Tryd.prog (vin Tryd.prog TWC_32 annTWC 3) TWC_32.looks (annTWC 52) 52 [.agg [.int .i64 mw, .int .i64 mh, .str mr, .str mn, .int .i64 mx, .int .i64 my, .int .i64 md]] [] (fun v _ => K v) := by kernel_rfl
theorem ok_impl_crawlerOf : OK Tryd.prog 52 F_impl_crawlerOf.spec := (vbody_ok (vin_ok TWC_32_ok annTWC 3) TWC_32_ok.looks _ _).ofF fun args m p R h hp => by
  unfold F_impl_crawlerOf at h
  split at h
  · injection h with h; injection h with h1 h2; subst h1; subst h2
    exact ⟨rfl, (congrArg At (eq_impl_crawlerOf _ _ _ _ _ _ _ _)).mp ⟨vc_impl_crawlerOf _ _ _ _ _ _ _ hp⟩⟩
  · cases h
def TWC_33 : Tab := TWC_32.add 52 F_impl_crawlerOf
theorem TWC_33_ok : TWC_33.Ok Tryd.prog := TWC_32_ok.add ok_impl_crawlerOf
theorem eq_impl_crawler_linesAt (cr : List UInt8) (cw : Int) (ch : Int) (cc : List UInt8) (cx : Int) (cy : Int) (cd : Int) (cl : List UInt8) (k : Int) (K : V → Prop) : VC_impl_crawler_linesAt cr cw ch cc cx cy cd cl k K = vbody Tryd.prog (vin Tryd.prog TWC_33 annTWC 3) TWC_33.looks (annTWC 53) 53 [.agg [.str cr, .int .i64 cw, .int .i64 ch, .str cc, .int .i64 cx, .int .i64 cy, .int .i64 cd, .str cl], .int .i64 k] [] (fun v _ => K v) := by kernel_rfl
theorem ok_impl_crawler_linesAt : OK Tryd.prog 53 F_impl_crawler_linesAt.spec := (vbody_ok (vin_ok TWC_33_ok annTWC 3) TWC_33_ok.looks _ _).ofF fun args m p R h hp => by
  unfold F_impl_crawler_linesAt at h
  split at h
  · injection h with h; injection h with h1 h2; subst h1; subst h2
    exact ⟨rfl, (congrArg At (eq_impl_crawler_linesAt _ _ _ _ _ _ _ _ _ _)).mp ⟨vc_impl_crawler_linesAt _ _ _ _ _ _ _ _ _ hp⟩⟩
  · cases h
def TWC_34 : Tab := TWC_33.add 53 F_impl_crawler_linesAt
theorem TWC_34_ok : TWC_34.Ok Tryd.prog := TWC_33_ok.add ok_impl_crawler_linesAt
theorem eq_impl_crawler_goOn (cr : List UInt8) (cw : Int) (ch : Int) (cc : List UInt8) (cx : Int) (cy : Int) (cd : Int) (cl : List UInt8) (t : List UInt8) (K : V → Prop) : VC_impl_crawler_goOn cr cw ch cc cx cy cd cl t K = vbody Tryd.prog (vin Tryd.prog TWC_34 annTWC 3) TWC_34.looks (annTWC 57) 57 [.agg [.str cr, .int .i64 cw, .int .i64 ch, .str cc, .int .i64 cx, .int .i64 cy, .int .i64 cd, .str cl], .str t] [] (fun v _ => K v) := by kernel_rfl
theorem ok_impl_crawler_goOn : OK Tryd.prog 57 F_impl_crawler_goOn.spec := (vbody_ok (vin_ok TWC_34_ok annTWC 3) TWC_34_ok.looks _ _).ofF fun args m p R h hp => by
  unfold F_impl_crawler_goOn at h
  split at h
  · injection h with h; injection h with h1 h2; subst h1; subst h2
    exact ⟨rfl, (congrArg At (eq_impl_crawler_goOn _ _ _ _ _ _ _ _ _ _)).mp ⟨vc_impl_crawler_goOn _ _ _ _ _ _ _ _ _ hp⟩⟩
  · cases h
def TWC_35 : Tab := TWC_34.add 57 F_impl_crawler_goOn
theorem TWC_35_ok : TWC_35.Ok Tryd.prog := TWC_34_ok.add ok_impl_crawler_goOn
theorem eq_spec_wmLine (mw : Int) (mh : Int) (mr : List UInt8) (mn : List UInt8) (mx : Int) (my : Int) (md : Int) (x : Int) (y : Int) (q : Int) (K : V → Prop) : VC_spec_wmLine mw mh mr mn mx my md x y q K = vbody Tryd.prog (vin Tryd.prog TWC_35 annTWC 3) TWC_35.looks (annTWC 78) 78 [.agg [.int .i64 mw, .int .i64 mh, .str mr, .str mn, .int .i64 mx, .int .i64 my, .int .i64 md], .int .i64 x, .int .i64 y, .int .i64 q] [] (fun v _ => K v) := by kernel_rfl
theorem ok_spec_wmLine : OK Tryd.prog 78 F_spec_wmLine.spec := (vbody_ok (vin_ok TWC_35_ok annTWC 3) TWC_35_ok.looks _ _).ofF fun args m p R h hp => by
  unfold F_spec_wmLine at h
  split at h
  · injection h with h; injection h with h1 h2; subst h1; subst h2
    exact ⟨rfl, (congrArg At (eq_spec_wmLine _ _ _ _ _ _ _ _ _ _ _)).mp ⟨vc_spec_wmLine _ _ _ _ _ _ _ _ _ _ hp⟩⟩
  · cases h
def TWC_36 : Tab := TWC_35.add 78 F_spec_wmLine
theorem TWC_36_ok : TWC_36.Ok Tryd.prog := TWC_35_ok.add ok_spec_wmLine
theorem eq_spec_wmHas (mw : Int) (mh : Int) (mr : List UInt8) (mn : List UInt8) (mx : Int) (my : Int) (md : Int) (x : Int) (y : Int) (q : Int) (K : V → Prop) : VC_spec_wmHas mw mh mr mn mx my md x y q K = vbody Tryd.prog (vin Tryd.prog TWC_36 annTWC 3) TWC_36.looks (annTWC 61) 61 [.agg [.int .i64 mw, .int .i64 mh, .str mr, .str mn, .int .i64 mx, .int .i64 my, .int .i64 md], .int .i64 x, .int .i64 y, .int .i64 q] [] (fun v _ => K v) := by kernel_rfl
theorem ok_spec_wmHas : OK Tryd.prog 61 F_spec_wmHas.spec := (vbody_ok (vin_ok TWC_36_ok annTWC 3) TWC_36_ok.looks _ _).ofF fun args m p R h hp => by
  unfold F_spec_wmHas at h
  split at h
  · injection h with h; injection h with h1 h2; subst h1; subst h2
    exact ⟨rfl, (congrArg At (eq_spec_wmHas _ _ _ _ _ _ _ _ _ _ _)).mp ⟨vc_spec_wmHas _ _ _ _ _ _ _ _ _ _ hp⟩⟩
  · cases h
def TWC_37 : Tab := TWC_36.add 61 F_spec_wmHas
theorem TWC_37_ok : TWC_37.Ok Tryd.prog := TWC_36_ok.add ok_spec_wmHas
theorem eq_spec_wmAt (mw : Int) (mh : Int) (mr : List UInt8) (mn : List UInt8) (mx : Int) (my : Int) (md : Int) (x : Int) (y : Int) (K : V → Prop) : VC_spec_wmAt mw mh mr mn mx my md x y K = vbody Tryd.prog (vin Tryd.prog TWC_37 annTWC 3) TWC_37.looks (annTWC 51) 51 [.agg [.int .i64 mw, .int .i64 mh, .str mr, .str mn, .int .i64 mx, .int .i64 my, .int .i64 md], .int .i64 x, .int .i64 y] [] (fun v _ => K v) := by kernel_rfl
theorem ok_spec_wmAt : OK Tryd.prog 51 F_spec_wmAt.spec := (vbody_ok (vin_ok TWC_37_ok annTWC 3) TWC_37_ok.looks _ _).ofF fun args m p R h hp => by
  unfold F_spec_wmAt at h
  split at h
  · injection h with h; injection h with h1 h2; subst h1; subst h2
    exact ⟨rfl, (congrArg At (eq_spec_wmAt _ _ _ _ _ _ _ _ _ _)).mp ⟨vc_spec_wmAt _ _ _ _ _ _ _ _ _ hp⟩⟩
  · cases h
def TWC_38 : Tab := TWC_37.add 51 F_spec_wmAt
theorem TWC_38_ok : TWC_38.Ok Tryd.prog := TWC_37_ok.add ok_spec_wmAt
theorem eq_spec_wmSet (x : Int) (y : Int) (q : Int) (s : List UInt8) (mw : Int) (mh : Int) (mr : List UInt8) (mn : List UInt8) (mx : Int) (my : Int) (md : Int) (e : TypeId) (K : V → List Blk → Prop) : VC_spec_wmSet x y q s mw mh mr mn mx my md e K = vbody Tryd.prog (vin Tryd.prog TWC_38 annTWC 3) TWC_38.looks (annTWC 62) 62 [.ptr 0 0, .int .i64 x, .int .i64 y, .int .i64 q, .str s] [⟨.vals [.int .i64 mw, .int .i64 mh, .str mr, .str mn, .int .i64 mx, .int .i64 my, .int .i64 md], e, .box⟩] (K) := by kernel_rfl
theorem ok_spec_wmSet : OK Tryd.prog 62 F_spec_wmSet.spec := (vbody_ok (vin_ok TWC_38_ok annTWC 3) TWC_38_ok.looks _ _).ofG fun args m p R M h hp => by
  unfold F_spec_wmSet at h
  split at h
  · injection h with h; injection h with h1 h2; injection h2 with h2 h3; subst h1; subst h2; subst h3
    exact (congrArg At (eq_spec_wmSet _ _ _ _ _ _ _ _ _ _ _ _ _)).mp ⟨vc_spec_wmSet _ _ _ _ _ _ _ _ _ _ _ _ hp⟩
  · cases h
def TWC_39 : Tab := TWC_38.addG 62 F_spec_wmSet
theorem TWC_39_ok : TWC_39.Ok Tryd.prog := TWC_38_ok.addG ok_spec_wmSet
theorem eq_spec_wmGo (q : Int) (k : Int) (mw : Int) (mh : Int) (mr : List UInt8) (mn : List UInt8) (mx : Int) (my : Int) (md : Int) (e : TypeId) (K : V → List Blk → Prop) : VC_spec_wmGo q k mw mh mr mn mx my md e K = vbody Tryd.prog (vin Tryd.prog TWC_39 annTWC 3) TWC_39.looks (annTWC 63) 63 [.ptr 0 0, .int .i64 q, .int .i64 k] [⟨.vals [.int .i64 mw, .int .i64 mh, .str mr, .str mn, .int .i64 mx, .int .i64 my, .int .i64 md], e, .box⟩] (K) := by kernel_rfl
theorem ok_spec_wmGo : OK Tryd.prog 63 F_spec_wmGo.spec := (vbody_ok (vin_ok TWC_39_ok annTWC 3) TWC_39_ok.looks _ _).ofG fun args m p R M h hp => by
  unfold F_spec_wmGo at h
  split at h
  · injection h with h; injection h with h1 h2; injection h2 with h2 h3; subst h1; subst h2; subst h3
    exact (congrArg At (eq_spec_wmGo _ _ _ _ _ _ _ _ _ _ _)).mp ⟨vc_spec_wmGo _ _ _ _ _ _ _ _ _ _ hp⟩
  · cases h
def TWC_40 : Tab := TWC_39.addG 63 F_spec_wmGo
theorem TWC_40_ok : TWC_40.Ok Tryd.prog := TWC_39_ok.addG ok_spec_wmGo
theorem eq_spec_wmEat (t : List UInt8) (mw : Int) (mh : Int) (mr : List UInt8) (mn : List UInt8) (mx : Int) (my : Int) (md : Int) (e : TypeId) (K : V → List Blk → Prop) : VC_spec_wmEat t mw mh mr mn mx my md e K = vbody Tryd.prog (vin Tryd.prog TWC_40 annTWC 3) TWC_40.looks (annTWC 55) 55 [.ptr 0 0, .str t] [⟨.vals [.int .i64 mw, .int .i64 mh, .str mr, .str mn, .int .i64 mx, .int .i64 my, .int .i64 md], e, .box⟩] (K) := by kernel_rfl
theorem ok_spec_wmEat : OK Tryd.prog 55 F_spec_wmEat.spec := (vbody_ok (vin_ok TWC_40_ok annTWC 3) TWC_40_ok.looks _ _).ofG fun args m p R M h hp => by
  unfold F_spec_wmEat at h
  split at h
  · injection h with h; injection h with h1 h2; injection h2 with h2 h3; subst h1; subst h2; subst h3
    exact (congrArg At (eq_spec_wmEat _ _ _ _ _ _ _ _ _ _)).mp ⟨vc_spec_wmEat _ _ _ _ _ _ _ _ _ hp⟩
  · cases h
def TWC_41 : Tab := TWC_40.addG 55 F_spec_wmEat
theorem TWC_41_ok : TWC_41.Ok Tryd.prog := TWC_40_ok.addG ok_spec_wmEat
theorem eq_spec_wmAsked (mw : Int) (mh : Int) (mr : List UInt8) (mn : List UInt8) (mx : Int) (my : Int) (md : Int) (t : List UInt8) (K : V → Prop) : VC_spec_wmAsked mw mh mr mn mx my md t K = vbody Tryd.prog (vin Tryd.prog TWC_41 annTWC 3) TWC_41.looks (annTWC 54) 54 [.agg [.int .i64 mw, .int .i64 mh, .str mr, .str mn, .int .i64 mx, .int .i64 my, .int .i64 md], .str t] [] (fun v _ => K v) := by kernel_rfl
theorem ok_spec_wmAsked : OK Tryd.prog 54 F_spec_wmAsked.spec := (vbody_ok (vin_ok TWC_41_ok annTWC 3) TWC_41_ok.looks _ _).ofF fun args m p R h hp => by
  unfold F_spec_wmAsked at h
  split at h
  · injection h with h; injection h with h1 h2; subst h1; subst h2
    exact ⟨rfl, (congrArg At (eq_spec_wmAsked _ _ _ _ _ _ _ _ _)).mp ⟨vc_spec_wmAsked _ _ _ _ _ _ _ _ hp⟩⟩
  · cases h
def TWC_42 : Tab := TWC_41.add 54 F_spec_wmAsked
theorem TWC_42_ok : TWC_42.Ok Tryd.prog := TWC_41_ok.add ok_spec_wmAsked
theorem eq_spec_LinesAt (mw : Int) (mh : Int) (mr : List UInt8) (mn : List UInt8) (mx : Int) (my : Int) (md : Int) (x : Int) (y : Int) (K : V → Prop) : VC_spec_LinesAt mw mh mr mn mx my md x y K = vbody Tryd.prog (vin Tryd.prog TWC_42 annTWC 3) TWC_42.looks (annTWC 22) 22 [.agg [.int .i64 mw, .int .i64 mh, .str mr, .str mn, .int .i64 mx, .int .i64 my, .int .i64 md], .int .i64 x, .int .i64 y] [] (fun v _ => K v) := by kernel_rfl
theorem ok_spec_LinesAt : OK Tryd.prog 22 F_spec_LinesAt.spec := (vbody_ok (vin_ok TWC_42_ok annTWC 3) TWC_42_ok.looks _ _).ofF fun args m p R h hp => by
  unfold F_spec_LinesAt at h
  split at h
  · injection h with h; injection h with h1 h2; subst h1; subst h2
    exact ⟨rfl, (congrArg At (eq_spec_LinesAt _ _ _ _ _ _ _ _ _ _)).mp ⟨vc_spec_LinesAt _ _ _ _ _ _ _ _ _ hp⟩⟩
  · cases h
def TWC_43 : Tab := TWC_42.add 22 F_spec_LinesAt
theorem TWC_43_ok : TWC_43.Ok Tryd.prog := TWC_42_ok.add ok_spec_LinesAt
theorem eq_impl_LinesAt (mw : Int) (mh : Int) (mr : List UInt8) (mn : List UInt8) (mx : Int) (my : Int) (md : Int) (x : Int) (y : Int) (K : V → Prop) : VC_impl_LinesAt mw mh mr mn mx my md x y K = vbody Tryd.prog (vin Tryd.prog TWC_43 annTWC 3) TWC_43.looks (annTWC 23) 23 [.agg [.int .i64 mw, .int .i64 mh, .str mr, .str mn, .int .i64 mx, .int .i64 my, .int .i64 md], .int .i64 x, .int .i64 y] [] (fun v _ => K v) := by kernel_rfl
theorem ok_impl_LinesAt : OK Tryd.prog 23 F_impl_LinesAt.spec := (vbody_ok (vin_ok TWC_43_ok annTWC 3) TWC_43_ok.looks _ _).ofF fun args m p R h hp => by
  unfold F_impl_LinesAt at h
  split at h
  · injection h with h; injection h with h1 h2; subst h1; subst h2
    exact ⟨rfl, (congrArg At (eq_impl_LinesAt _ _ _ _ _ _ _ _ _ _)).mp ⟨vc_impl_LinesAt _ _ _ _ _ _ _ _ _ hp⟩⟩
  · cases h
def TWC_44 : Tab := TWC_43.add 23 F_impl_LinesAt
theorem TWC_44_ok : TWC_44.Ok Tryd.prog := TWC_43_ok.add ok_impl_LinesAt
theorem eq_spec_EatLine (mw : Int) (mh : Int) (mr : List UInt8) (mn : List UInt8) (mx : Int) (my : Int) (md : Int) (t : List UInt8) (K : V → Prop) : VC_spec_EatLine mw mh mr mn mx my md t K = vbody Tryd.prog (vin Tryd.prog TWC_44 annTWC 3) TWC_44.looks (annTWC 24) 24 [.agg [.int .i64 mw, .int .i64 mh, .str mr, .str mn, .int .i64 mx, .int .i64 my, .int .i64 md], .str t] [] (fun v _ => K v) := by kernel_rfl
theorem ok_spec_EatLine : OK Tryd.prog 24 F_spec_EatLine.spec := (vbody_ok (vin_ok TWC_44_ok annTWC 3) TWC_44_ok.looks _ _).ofF fun args m p R h hp => by
  unfold F_spec_EatLine at h
  split at h
  · injection h with h; injection h with h1 h2; subst h1; subst h2
    exact ⟨rfl, (congrArg At (eq_spec_EatLine _ _ _ _ _ _ _ _ _)).mp ⟨vc_spec_EatLine _ _ _ _ _ _ _ _ hp⟩⟩
  · cases h
def TWC_45 : Tab := TWC_44.add 24 F_spec_EatLine
theorem TWC_45_ok : TWC_45.Ok Tryd.prog := TWC_44_ok.add ok_spec_EatLine
theorem eq_spec_WormAfter (mw : Int) (mh : Int) (mr : List UInt8) (mn : List UInt8) (mx : Int) (my : Int) (md : Int) (t : List UInt8) (k : Int) (K : V → Prop) : VC_spec_WormAfter mw mh mr mn mx my md t k K = vbody Tryd.prog (vin Tryd.prog TWC_45 annTWC 3) TWC_45.looks (annTWC 27) 27 [.agg [.int .i64 mw, .int .i64 mh, .str mr, .str mn, .int .i64 mx, .int .i64 my, .int .i64 md], .str t, .int .i64 k] [] (fun v _ => K v) := by kernel_rfl
theorem ok_spec_WormAfter : OK Tryd.prog 27 F_spec_WormAfter.spec := (vbody_ok (vin_ok TWC_45_ok annTWC 3) TWC_45_ok.looks _ _).ofF fun args m p R h hp => by
  unfold F_spec_WormAfter at h
  split at h
  · injection h with h; injection h with h1 h2; subst h1; subst h2
    exact ⟨rfl, (congrArg At (eq_spec_WormAfter _ _ _ _ _ _ _ _ _ _)).mp ⟨vc_spec_WormAfter _ _ _ _ _ _ _ _ _ hp⟩⟩
  · cases h
def TWC_46 : Tab := TWC_45.add 27 F_spec_WormAfter
theorem TWC_46_ok : TWC_46.Ok Tryd.prog := TWC_45_ok.add ok_spec_WormAfter
theorem eq_impl_WormAfter (mw : Int) (mh : Int) (mr : List UInt8) (mn : List UInt8) (mx : Int) (my : Int) (md : Int) (t : List UInt8) (k : Int) (g0 : List UInt8) (g1 : List UInt8) (g2 : List UInt8) (g3 : List UInt8) (g4 : List UInt8) (g5 : List UInt8) (K : V → List Blk → Prop) : VC_impl_WormAfter mw mh mr mn mx my md t k g0 g1 g2 g3 g4 g5 K = vbody Tryd.prog (vin Tryd.prog TWC_46 annTWC 3) TWC_46.looks (annTWC 28) 28 [.agg [.int .i64 mw, .int .i64 mh, .str mr, .str mn, .int .i64 mx, .int .i64 my, .int .i64 md], .str t, .int .i64 k] [⟨.vals [.str g0, .str g1, .str g2, .str g3, .str g4, .str g5], 9, .gl 0⟩] (K) := by kernel_rfl
theorem ok_impl_WormAfter : OK Tryd.prog 28 F_impl_WormAfter.spec := (vbody_ok (vin_ok TWC_46_ok annTWC 3) TWC_46_ok.looks _ _).ofFM fun args m p R h hp => by
  unfold F_impl_WormAfter at h
  split at h
  · injection h with h; injection h with h1 h2; subst h1; subst h2
    exact (congrArg At (eq_impl_WormAfter _ _ _ _ _ _ _ _ _ _ _ _ _ _ _ _)).mp ⟨vc_impl_WormAfter _ _ _ _ _ _ _ _ _ _ _ _ _ _ _ hp⟩
  · cases h
def TWC_47 : Tab := TWC_46.add 28 F_impl_WormAfter
theorem TWC_47_ok : TWC_47.Ok Tryd.prog := TWC_46_ok.add ok_impl_WormAfter
theorem eq_impl_EatLine (mw : Int) (mh : Int) (mr : List UInt8) (mn : List UInt8) (mx : Int) (my : Int) (md : Int) (t : List UInt8) (g0 : List UInt8) (g1 : List UInt8) (g2 : List UInt8) (g3 : List UInt8) (g4 : List UInt8) (g5 : List UInt8) (K : V → List Blk → Prop) : VC_impl_EatLine mw mh mr mn mx my md t g0 g1 g2 g3 g4 g5 K = vbody Tryd.prog (vin Tryd.prog TWC_47 annTWC 3) TWC_47.looks (annTWC 25) 25 [.agg [.int .i64 mw, .int .i64 mh, .str mr, .str mn, .int .i64 mx, .int .i64 my, .int .i64 md], .str t] [⟨.vals [.str g0, .str g1, .str g2, .str g3, .str g4, .str g5], 9, .gl 0⟩] (K) := by kernel_rfl
theorem ok_impl_EatLine : OK Tryd.prog 25 F_impl_EatLine.spec := (vbody_ok (vin_ok TWC_47_ok annTWC 3) TWC_47_ok.looks _ _).ofFM fun args m p R h hp => by
  unfold F_impl_EatLine at h
  split at h
  · injection h with h; injection h with h1 h2; subst h1; subst h2
    exact (congrArg At (eq_impl_EatLine _ _ _ _ _ _ _ _ _ _ _ _ _ _ _)).mp ⟨vc_impl_EatLine _ _ _ _ _ _ _ _ _ _ _ _ _ _ hp⟩
  · cases h
def TWC_48 : Tab := TWC_47.add 25 F_impl_EatLine
theorem TWC_48_ok : TWC_48.Ok Tryd.prog := TWC_47_ok.add ok_impl_EatLine
theorem eq_spec_GiveBack (mw : Int) (mh : Int) (mr : List UInt8) (mn : List UInt8) (mx : Int) (my : Int) (md : Int) (q : Int) (K : V → Prop) : VC_spec_GiveBack mw mh mr mn mx my md q K = vbody Tryd.prog (vin Tryd.prog TWC_48 annTWC 3) TWC_48.looks (annTWC 40) 40 [.agg [.int .i64 mw, .int .i64 mh, .str mr, .str mn, .int .i64 mx, .int .i64 my, .int .i64 md], .int .i64 q] [] (fun v _ => K v) := by kernel_rfl
theorem ok_spec_GiveBack : OK Tryd.prog 40 F_spec_GiveBack.spec := (vbody_ok (vin_ok TWC_48_ok annTWC 3) TWC_48_ok.looks _ _).ofF fun args m p R h hp => by
  unfold F_spec_GiveBack at h
  split at h
  · injection h with h; injection h with h1 h2; subst h1; subst h2
    exact ⟨rfl, (congrArg At (eq_spec_GiveBack _ _ _ _ _ _ _ _ _)).mp ⟨vc_spec_GiveBack _ _ _ _ _ _ _ _ hp⟩⟩
  · cases h
def TWC_49 : Tab := TWC_48.add 40 F_spec_GiveBack
theorem TWC_49_ok : TWC_49.Ok Tryd.prog := TWC_48_ok.add ok_spec_GiveBack
theorem eq_impl_GiveBack (mw : Int) (mh : Int) (mr : List UInt8) (mn : List UInt8) (mx : Int) (my : Int) (md : Int) (q : Int) (K : V → Prop) : VC_impl_GiveBack mw mh mr mn mx my md q K = vbody Tryd.prog (vin Tryd.prog TWC_49 annTWC 3) TWC_49.looks (annTWC 41) 41 [.agg [.int .i64 mw, .int .i64 mh, .str mr, .str mn, .int .i64 mx, .int .i64 my, .int .i64 md], .int .i64 q] [] (fun v _ => K v) := by kernel_rfl
theorem ok_impl_GiveBack : OK Tryd.prog 41 F_impl_GiveBack.spec := (vbody_ok (vin_ok TWC_49_ok annTWC 3) TWC_49_ok.looks _ _).ofF fun args m p R h hp => by
  unfold F_impl_GiveBack at h
  split at h
  · injection h with h; injection h with h1 h2; subst h1; subst h2
    exact ⟨rfl, (congrArg At (eq_impl_GiveBack _ _ _ _ _ _ _ _ _)).mp ⟨vc_impl_GiveBack _ _ _ _ _ _ _ _ hp⟩⟩
  · cases h
def TWC_50 : Tab := TWC_49.add 41 F_impl_GiveBack
theorem TWC_50_ok : TWC_50.Ok Tryd.prog := TWC_49_ok.add ok_impl_GiveBack
theorem eq_laws_eqIntS  (n : Nat) (m : Nat) (a : List Int) (b : List Int) (e : TypeId) (k : Kind) (f : TypeId) (q : Kind) (K : V → List Blk → Prop) : VC_laws_eqIntS  n m a b e k f q K = vbody Tryd.prog (vin Tryd.prog TWC_50 annTWC 3) TWC_50.looks (annTWC 35) 35 [.row 0 n, .row 1 m] [⟨.ints .i64 a, e, k⟩, ⟨.ints .i64 b, f, q⟩] (K) := by kernel_rfl
theorem ok_laws_eqIntS : OK Tryd.prog 35 F_laws_eqIntS.spec := (vbody_ok (vin_ok TWC_50_ok annTWC 3) TWC_50_ok.looks _ _).ofFM fun args m p R h hp => by
  unfold F_laws_eqIntS at h
  split at h
  · injection h with h; injection h with h1 h2; subst h1; subst h2
    exact (congrArg At (eq_laws_eqIntS _ _ _ _ _ _ _ _ _)).mp ⟨vc_laws_eqIntS _ _ _ _ _ _ _ _ hp⟩
  · cases h
def TWC_51 : Tab := TWC_50.add 35 F_laws_eqIntS
theorem TWC_51_ok : TWC_51.Ok Tryd.prog := TWC_50_ok.add ok_laws_eqIntS
theorem eq_laws_markIntS (k : Int) (n : Nat) (a : List Int) (K : V → List Blk → Prop) : VC_laws_markIntS k n a K = vbody Tryd.prog (vin Tryd.prog TWC_51 annTWC 3) TWC_51.looks (annTWC 36) 36 [.row 0 n, .int .i64 k] [⟨.ints .i64 (a), 3, .row⟩] (K) := by kernel_rfl
theorem ok_laws_markIntS : OK Tryd.prog 36 F_laws_markIntS.spec := (vbody_ok (vin_ok TWC_51_ok annTWC 3) TWC_51_ok.looks _ _).ofG fun args m p R M h hp => by
  unfold F_laws_markIntS at h
  split at h
  · injection h with h; injection h with h1 h2; injection h2 with h2 h3; subst h1; subst h2; subst h3
    exact (congrArg At (eq_laws_markIntS _ _ _ _)).mp ⟨vc_laws_markIntS _ _ _ hp⟩
  · cases h
def TWC_52 : Tab := TWC_51.addG 36 F_laws_markIntS
theorem TWC_52_ok : TWC_52.Ok Tryd.prog := TWC_51_ok.addG ok_laws_markIntS
theorem eq_laws_heldIntS (q : Int) (n : Nat) (a : List Int) (e : TypeId) (k : Kind) (K : V → List Blk → Prop) : VC_laws_heldIntS q n a e k K = vbody Tryd.prog (vin Tryd.prog TWC_52 annTWC 3) TWC_52.looks (annTWC 37) 37 [.row 0 n, .int .i64 q] [⟨.ints .i64 a, e, k⟩] (K) := by kernel_rfl
theorem ok_laws_heldIntS : OK Tryd.prog 37 F_laws_heldIntS.spec := (vbody_ok (vin_ok TWC_52_ok annTWC 3) TWC_52_ok.looks _ _).ofFM fun args m p R h hp => by
  unfold F_laws_heldIntS at h
  split at h
  · injection h with h; injection h with h1 h2; subst h1; subst h2
    exact (congrArg At (eq_laws_heldIntS _ _ _ _ _ _)).mp ⟨vc_laws_heldIntS _ _ _ _ _ hp⟩
  · cases h
def TWC_53 : Tab := TWC_52.add 37 F_laws_heldIntS
theorem TWC_53_ok : TWC_53.Ok Tryd.prog := TWC_52_ok.add ok_laws_heldIntS
theorem eq_spec_wmLife (mw : Int) (mh : Int) (mr : List UInt8) (mn : List UInt8) (mx : Int) (my : Int) (md : Int) (t : List UInt8) (K : V → List Blk → Prop) : VC_spec_wmLife mw mh mr mn mx my md t K = vbody Tryd.prog (vin Tryd.prog TWC_53 annTWC 3) TWC_53.looks (annTWC 59) 59 [.agg [.int .i64 mw, .int .i64 mh, .str mr, .str mn, .int .i64 mx, .int .i64 my, .int .i64 md], .str t] [] (K) := by kernel_rfl
theorem ok_spec_wmLife : OK Tryd.prog 59 F_spec_wmLife.spec := (vbody_ok (vin_ok TWC_53_ok annTWC 3) TWC_53_ok.looks _ _).ofG fun args m p R M h hp => by
  unfold F_spec_wmLife at h
  split at h
  · injection h with h; injection h with h1 h2; injection h2 with h2 h3; subst h1; subst h2; subst h3
    exact (congrArg At (eq_spec_wmLife _ _ _ _ _ _ _ _ _)).mp ⟨vc_spec_wmLife _ _ _ _ _ _ _ _ hp⟩
  · cases h
def TWC_54 : Tab := TWC_53.addG 59 F_spec_wmLife
theorem TWC_54_ok : TWC_54.Ok Tryd.prog := TWC_53_ok.addG ok_spec_wmLife
theorem eq_impl_lived (mw : Int) (mh : Int) (mr : List UInt8) (mn : List UInt8) (mx : Int) (my : Int) (md : Int) (t : List UInt8) (g0 : List UInt8) (g1 : List UInt8) (g2 : List UInt8) (g3 : List UInt8) (g4 : List UInt8) (g5 : List UInt8) (K : V → List Blk → Prop) : VC_impl_lived mw mh mr mn mx my md t g0 g1 g2 g3 g4 g5 K = vbody Tryd.prog (vin Tryd.prog TWC_54 annTWC 3) TWC_54.looks (annTWC 60) 60 [.agg [.int .i64 mw, .int .i64 mh, .str mr, .str mn, .int .i64 mx, .int .i64 my, .int .i64 md], .str t] [⟨.vals [.str g0, .str g1, .str g2, .str g3, .str g4, .str g5], 9, .gl 0⟩] (K) := by kernel_rfl
theorem ok_impl_lived : OK Tryd.prog 60 F_impl_lived.spec := (vbody_ok (vin_ok TWC_54_ok annTWC 3) TWC_54_ok.looks _ _).ofG fun args m p R M h hp => by
  unfold F_impl_lived at h
  split at h
  · injection h with h; injection h with h1 h2; injection h2 with h2 h3; subst h1; subst h2; subst h3
    exact (congrArg At (eq_impl_lived _ _ _ _ _ _ _ _ _ _ _ _ _ _ _)).mp ⟨vc_impl_lived _ _ _ _ _ _ _ _ _ _ _ _ _ _ hp⟩
  · cases h
def TWC_55 : Tab := TWC_54.addG 60 F_impl_lived
theorem TWC_55_ok : TWC_55.Ok Tryd.prog := TWC_54_ok.addG ok_impl_lived
theorem eq_spec_LifeOf (mw : Int) (mh : Int) (mr : List UInt8) (mn : List UInt8) (mx : Int) (my : Int) (md : Int) (t : List UInt8) (K : V → Prop) : VC_spec_LifeOf mw mh mr mn mx my md t K = vbody Tryd.prog (vin Tryd.prog TWC_55 annTWC 3) TWC_55.looks (annTWC 29) 29 [.agg [.int .i64 mw, .int .i64 mh, .str mr, .str mn, .int .i64 mx, .int .i64 my, .int .i64 md], .str t] [] (fun v _ => K v) := by kernel_rfl
theorem ok_spec_LifeOf : OK Tryd.prog 29 F_spec_LifeOf.spec := (vbody_ok (vin_ok TWC_55_ok annTWC 3) TWC_55_ok.looks _ _).ofF fun args m p R h hp => by
  unfold F_spec_LifeOf at h
  split at h
  · injection h with h; injection h with h1 h2; subst h1; subst h2
    exact ⟨rfl, (congrArg At (eq_spec_LifeOf _ _ _ _ _ _ _ _ _)).mp ⟨vc_spec_LifeOf _ _ _ _ _ _ _ _ hp⟩⟩
  · cases h
def TWC_56 : Tab := TWC_55.add 29 F_spec_LifeOf
theorem TWC_56_ok : TWC_56.Ok Tryd.prog := TWC_55_ok.add ok_spec_LifeOf
theorem eq_impl_LifeOf (mw : Int) (mh : Int) (mr : List UInt8) (mn : List UInt8) (mx : Int) (my : Int) (md : Int) (t : List UInt8) (g0 : List UInt8) (g1 : List UInt8) (g2 : List UInt8) (g3 : List UInt8) (g4 : List UInt8) (g5 : List UInt8) (K : V → List Blk → Prop) : VC_impl_LifeOf mw mh mr mn mx my md t g0 g1 g2 g3 g4 g5 K = vbody Tryd.prog (vin Tryd.prog TWC_56 annTWC 3) TWC_56.looks (annTWC 30) 30 [.agg [.int .i64 mw, .int .i64 mh, .str mr, .str mn, .int .i64 mx, .int .i64 my, .int .i64 md], .str t] [⟨.vals [.str g0, .str g1, .str g2, .str g3, .str g4, .str g5], 9, .gl 0⟩] (K) := by kernel_rfl
theorem ok_impl_LifeOf : OK Tryd.prog 30 F_impl_LifeOf.spec := (vbody_ok (vin_ok TWC_56_ok annTWC 3) TWC_56_ok.looks _ _).ofFM fun args m p R h hp => by
  unfold F_impl_LifeOf at h
  split at h
  · injection h with h; injection h with h1 h2; subst h1; subst h2
    exact (congrArg At (eq_impl_LifeOf _ _ _ _ _ _ _ _ _ _ _ _ _ _ _)).mp ⟨vc_impl_LifeOf _ _ _ _ _ _ _ _ _ _ _ _ _ _ hp⟩
  · cases h
def TWC_57 : Tab := TWC_56.add 30 F_impl_LifeOf
theorem TWC_57_ok : TWC_57.Ok Tryd.prog := TWC_56_ok.add ok_impl_LifeOf
theorem eq_spec_DeathOf (mw : Int) (mh : Int) (mr : List UInt8) (mn : List UInt8) (mx : Int) (my : Int) (md : Int) (t : List UInt8) (K : V → Prop) : VC_spec_DeathOf mw mh mr mn mx my md t K = vbody Tryd.prog (vin Tryd.prog TWC_57 annTWC 3) TWC_57.looks (annTWC 31) 31 [.agg [.int .i64 mw, .int .i64 mh, .str mr, .str mn, .int .i64 mx, .int .i64 my, .int .i64 md], .str t] [] (fun v _ => K v) := by kernel_rfl
theorem ok_spec_DeathOf : OK Tryd.prog 31 F_spec_DeathOf.spec := (vbody_ok (vin_ok TWC_57_ok annTWC 3) TWC_57_ok.looks _ _).ofF fun args m p R h hp => by
  unfold F_spec_DeathOf at h
  split at h
  · injection h with h; injection h with h1 h2; subst h1; subst h2
    exact ⟨rfl, (congrArg At (eq_spec_DeathOf _ _ _ _ _ _ _ _ _)).mp ⟨vc_spec_DeathOf _ _ _ _ _ _ _ _ hp⟩⟩
  · cases h
def TWC_58 : Tab := TWC_57.add 31 F_spec_DeathOf
theorem TWC_58_ok : TWC_58.Ok Tryd.prog := TWC_57_ok.add ok_spec_DeathOf
theorem eq_impl_DeathOf (mw : Int) (mh : Int) (mr : List UInt8) (mn : List UInt8) (mx : Int) (my : Int) (md : Int) (t : List UInt8) (g0 : List UInt8) (g1 : List UInt8) (g2 : List UInt8) (g3 : List UInt8) (g4 : List UInt8) (g5 : List UInt8) (K : V → List Blk → Prop) : VC_impl_DeathOf mw mh mr mn mx my md t g0 g1 g2 g3 g4 g5 K = vbody Tryd.prog (vin Tryd.prog TWC_58 annTWC 3) TWC_58.looks (annTWC 32) 32 [.agg [.int .i64 mw, .int .i64 mh, .str mr, .str mn, .int .i64 mx, .int .i64 my, .int .i64 md], .str t] [⟨.vals [.str g0, .str g1, .str g2, .str g3, .str g4, .str g5], 9, .gl 0⟩] (K) := by kernel_rfl
theorem ok_impl_DeathOf : OK Tryd.prog 32 F_impl_DeathOf.spec := (vbody_ok (vin_ok TWC_58_ok annTWC 3) TWC_58_ok.looks _ _).ofFM fun args m p R h hp => by
  unfold F_impl_DeathOf at h
  split at h
  · injection h with h; injection h with h1 h2; subst h1; subst h2
    exact (congrArg At (eq_impl_DeathOf _ _ _ _ _ _ _ _ _ _ _ _ _ _ _)).mp ⟨vc_impl_DeathOf _ _ _ _ _ _ _ _ _ _ _ _ _ _ hp⟩
  · cases h
def TWC_59 : Tab := TWC_58.add 32 F_impl_DeathOf
theorem TWC_59_ok : TWC_59.Ok Tryd.prog := TWC_58_ok.add ok_impl_DeathOf
theorem eq_spec_MealsOfWorm (mw : Int) (mh : Int) (mr : List UInt8) (mn : List UInt8) (mx : Int) (my : Int) (md : Int) (t : List UInt8) (K : V → Prop) : VC_spec_MealsOfWorm mw mh mr mn mx my md t K = vbody Tryd.prog (vin Tryd.prog TWC_59 annTWC 3) TWC_59.looks (annTWC 38) 38 [.agg [.int .i64 mw, .int .i64 mh, .str mr, .str mn, .int .i64 mx, .int .i64 my, .int .i64 md], .str t] [] (fun v _ => K v) := by kernel_rfl
theorem ok_spec_MealsOfWorm : OK Tryd.prog 38 F_spec_MealsOfWorm.spec := (vbody_ok (vin_ok TWC_59_ok annTWC 3) TWC_59_ok.looks _ _).ofF fun args m p R h hp => by
  unfold F_spec_MealsOfWorm at h
  split at h
  · injection h with h; injection h with h1 h2; subst h1; subst h2
    exact ⟨rfl, (congrArg At (eq_spec_MealsOfWorm _ _ _ _ _ _ _ _ _)).mp ⟨vc_spec_MealsOfWorm _ _ _ _ _ _ _ _ hp⟩⟩
  · cases h
def TWC_60 : Tab := TWC_59.add 38 F_spec_MealsOfWorm
theorem TWC_60_ok : TWC_60.Ok Tryd.prog := TWC_59_ok.add ok_spec_MealsOfWorm
theorem eq_impl_MealsOfWorm (mw : Int) (mh : Int) (mr : List UInt8) (mn : List UInt8) (mx : Int) (my : Int) (md : Int) (t : List UInt8) (g0 : List UInt8) (g1 : List UInt8) (g2 : List UInt8) (g3 : List UInt8) (g4 : List UInt8) (g5 : List UInt8) (K : V → List Blk → Prop) : VC_impl_MealsOfWorm mw mh mr mn mx my md t g0 g1 g2 g3 g4 g5 K = vbody Tryd.prog (vin Tryd.prog TWC_60 annTWC 3) TWC_60.looks (annTWC 39) 39 [.agg [.int .i64 mw, .int .i64 mh, .str mr, .str mn, .int .i64 mx, .int .i64 my, .int .i64 md], .str t] [⟨.vals [.str g0, .str g1, .str g2, .str g3, .str g4, .str g5], 9, .gl 0⟩] (K) := by kernel_rfl
theorem ok_impl_MealsOfWorm : OK Tryd.prog 39 F_impl_MealsOfWorm.spec := (vbody_ok (vin_ok TWC_60_ok annTWC 3) TWC_60_ok.looks _ _).ofFM fun args m p R h hp => by
  unfold F_impl_MealsOfWorm at h
  split at h
  · injection h with h; injection h with h1 h2; subst h1; subst h2
    exact (congrArg At (eq_impl_MealsOfWorm _ _ _ _ _ _ _ _ _ _ _ _ _ _ _)).mp ⟨vc_impl_MealsOfWorm _ _ _ _ _ _ _ _ _ _ _ _ _ _ hp⟩
  · cases h
def TWC_61 : Tab := TWC_60.add 39 F_impl_MealsOfWorm
theorem TWC_61_ok : TWC_61.Ok Tryd.prog := TWC_60_ok.add ok_impl_MealsOfWorm
theorem eq_spec_TrackOfWorm (mw : Int) (mh : Int) (mr : List UInt8) (mn : List UInt8) (mx : Int) (my : Int) (md : Int) (t : List UInt8) (K : V → List Blk → Prop) : VC_spec_TrackOfWorm mw mh mr mn mx my md t K = vbody Tryd.prog (vin Tryd.prog TWC_61 annTWC 3) TWC_61.looks (annTWC 33) 33 [.agg [.int .i64 mw, .int .i64 mh, .str mr, .str mn, .int .i64 mx, .int .i64 my, .int .i64 md], .str t] [] (K) := by kernel_rfl
theorem ok_spec_TrackOfWorm : OK Tryd.prog 33 F_spec_TrackOfWorm.spec := (vbody_ok (vin_ok TWC_61_ok annTWC 3) TWC_61_ok.looks _ _).ofG fun args m p R M h hp => by
  unfold F_spec_TrackOfWorm at h
  split at h
  · injection h with h; injection h with h1 h2; injection h2 with h2 h3; subst h1; subst h2; subst h3
    exact (congrArg At (eq_spec_TrackOfWorm _ _ _ _ _ _ _ _ _)).mp ⟨vc_spec_TrackOfWorm _ _ _ _ _ _ _ _ hp⟩
  · cases h
def TWC_62 : Tab := TWC_61.addG 33 F_spec_TrackOfWorm
theorem TWC_62_ok : TWC_62.Ok Tryd.prog := TWC_61_ok.addG ok_spec_TrackOfWorm
theorem eq_impl_TrackOfWorm (mw : Int) (mh : Int) (mr : List UInt8) (mn : List UInt8) (mx : Int) (my : Int) (md : Int) (t : List UInt8) (g0 : List UInt8) (g1 : List UInt8) (g2 : List UInt8) (g3 : List UInt8) (g4 : List UInt8) (g5 : List UInt8) (K : V → List Blk → Prop) : VC_impl_TrackOfWorm mw mh mr mn mx my md t g0 g1 g2 g3 g4 g5 K = vbody Tryd.prog (vin Tryd.prog TWC_62 annTWC 3) TWC_62.looks (annTWC 34) 34 [.agg [.int .i64 mw, .int .i64 mh, .str mr, .str mn, .int .i64 mx, .int .i64 my, .int .i64 md], .str t] [⟨.vals [.str g0, .str g1, .str g2, .str g3, .str g4, .str g5], 9, .gl 0⟩] (K) := by kernel_rfl
theorem ok_impl_TrackOfWorm : OK Tryd.prog 34 F_impl_TrackOfWorm.spec := (vbody_ok (vin_ok TWC_62_ok annTWC 3) TWC_62_ok.looks _ _).ofG fun args m p R M h hp => by
  unfold F_impl_TrackOfWorm at h
  split at h
  · injection h with h; injection h with h1 h2; injection h2 with h2 h3; subst h1; subst h2; subst h3
    exact (congrArg At (eq_impl_TrackOfWorm _ _ _ _ _ _ _ _ _ _ _ _ _ _ _)).mp ⟨vc_impl_TrackOfWorm _ _ _ _ _ _ _ _ _ _ _ _ _ _ hp⟩
  · cases h
def TWC_63 : Tab := TWC_62.addG 34 F_impl_TrackOfWorm
theorem TWC_63_ok : TWC_63.Ok Tryd.prog := TWC_62_ok.addG ok_impl_TrackOfWorm
def TWC : Tab := TWC_63
theorem TWC_ok : TWC.Ok Tryd.prog := TWC_63_ok
end Go.Proofs.YtioppaofihbmpaaDoor
