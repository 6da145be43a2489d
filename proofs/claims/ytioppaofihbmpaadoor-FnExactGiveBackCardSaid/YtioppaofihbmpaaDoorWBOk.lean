/- The contracts of this chapter. -/
import Derived.Test.YtioppaofihbmpaaDoorWALib
import Derived.Test.YtioppaofihbmpaaDoorProg
import Derived.Test.YtioppaofihbmpaaDoorWBPf
import Derived.KernelRfl
namespace Go.Proofs.YtioppaofihbmpaaDoor
open Go Go.Vi
set_option linter.unusedVariables false
def annTWB : FuncId → Nat → St → Option Ann := fun f => if f = 42 then ann_spec_wmGood else if f = 47 then ann_spec_wmTaste else if f = 19 then ann_impl_IsTaste else if f = 48 then ann_spec_wmCount else if f = 53 then ann_impl_crawler_linesAt else if f = 57 then ann_impl_crawler_goOn else if f = 51 then ann_spec_wmAt else if f = 55 then ann_spec_wmEat else if f = 27 then ann_spec_WormAfter else if f = 28 then ann_impl_WormAfter else (fun _ _ => none)
def TWB_0 : Tab := Tab.none
theorem TWB_0_ok : TWB_0.Ok Tryd.prog := Tab.none_ok
theorem eq_spec_l1In (n : Int) (lo : Int) (hi : Int) (K : V → Prop) : VC_spec_l1In n lo hi K = vbody Tryd.prog (vin Tryd.prog TWB_0 annTWB 3) TWB_0.looks (annTWB 50) 50 [.int .i64 n, .int .i64 lo, .int .i64 hi] [] (fun v _ => K v) := by kernel_rfl
theorem ok_spec_l1In : OK Tryd.prog 50 F_spec_l1In.spec := (vbody_ok (vin_ok TWB_0_ok annTWB 3) TWB_0_ok.looks _ _).ofF fun args m p R h hp => by
  unfold F_spec_l1In at h
  split at h
  · injection h with h; injection h with h1 h2; subst h1; subst h2
    exact ⟨rfl, (congrArg At (eq_spec_l1In _ _ _ _)).mp ⟨vc_spec_l1In _ _ _ hp⟩⟩
  · cases h
def TWB_1 : Tab := TWB_0.add 50 F_spec_l1In
theorem TWB_1_ok : TWB_1.Ok Tryd.prog := TWB_0_ok.add ok_spec_l1In
theorem eq_impl_within (n : Int) (lo : Int) (hi : Int) (K : V → Prop) : VC_impl_within n lo hi K = vbody Tryd.prog (vin Tryd.prog TWB_1 annTWB 3) TWB_1.looks (annTWB 56) 56 [.int .i64 n, .int .i64 lo, .int .i64 hi] [] (fun v _ => K v) := by kernel_rfl
theorem ok_impl_within : OK Tryd.prog 56 F_impl_within.spec := (vbody_ok (vin_ok TWB_1_ok annTWB 3) TWB_1_ok.looks _ _).ofF fun args m p R h hp => by
  unfold F_impl_within at h
  split at h
  · injection h with h; injection h with h1 h2; subst h1; subst h2
    exact ⟨rfl, (congrArg At (eq_impl_within _ _ _ _)).mp ⟨vc_impl_within _ _ _ hp⟩⟩
  · cases h
def TWB_2 : Tab := TWB_1.add 56 F_impl_within
theorem TWB_2_ok : TWB_2.Ok Tryd.prog := TWB_1_ok.add ok_impl_within
theorem eq_spec_wmGood (mw : Int) (mh : Int) (mr : List UInt8) (mn : List UInt8) (mx : Int) (my : Int) (md : Int) (K : V → Prop) : VC_spec_wmGood mw mh mr mn mx my md K = vbody Tryd.prog (vin Tryd.prog TWB_2 annTWB 3) TWB_2.looks (annTWB 42) 42 [.agg [.int .i64 mw, .int .i64 mh, .str mr, .str mn, .int .i64 mx, .int .i64 my, .int .i64 md]] [] (fun v _ => K v) := by kernel_rfl
theorem ok_spec_wmGood : OK Tryd.prog 42 F_spec_wmGood.spec := (vbody_ok (vin_ok TWB_2_ok annTWB 3) TWB_2_ok.looks _ _).ofF fun args m p R h hp => by
  unfold F_spec_wmGood at h
  split at h
  · injection h with h; injection h with h1 h2; subst h1; subst h2
    exact ⟨rfl, (congrArg At (eq_spec_wmGood _ _ _ _ _ _ _ _)).mp ⟨vc_spec_wmGood _ _ _ _ _ _ _ hp⟩⟩
  · cases h
def TWB_3 : Tab := TWB_2.add 42 F_spec_wmGood
theorem TWB_3_ok : TWB_3.Ok Tryd.prog := TWB_2_ok.add ok_spec_wmGood
theorem ok_strings_Trim : OK Tryd.prog 68 F_strings_Trim.spec := Go.Proofs.Tryd.libTrim
def TWB_4 : Tab := TWB_3.add 68 F_strings_Trim
theorem TWB_4_ok : TWB_4.Ok Tryd.prog := TWB_3_ok.add ok_strings_Trim
theorem eq_impl_isGrid (a : Int) (b : Int) (K : V → Prop) : VC_impl_isGrid a b K = vbody Tryd.prog (vin Tryd.prog TWB_4 annTWB 3) TWB_4.looks (annTWB 43) 43 [.int .i64 a, .int .i64 b] [] (fun v _ => K v) := by kernel_rfl
theorem ok_impl_isGrid : OK Tryd.prog 43 F_impl_isGrid.spec := (vbody_ok (vin_ok TWB_4_ok annTWB 3) TWB_4_ok.looks _ _).ofF fun args m p R h hp => by
  unfold F_impl_isGrid at h
  split at h
  · injection h with h; injection h with h1 h2; subst h1; subst h2
    exact ⟨rfl, (congrArg At (eq_impl_isGrid _ _ _)).mp ⟨vc_impl_isGrid _ _ hp⟩⟩
  · cases h
def TWB_5 : Tab := TWB_4.add 43 F_impl_isGrid
theorem TWB_5_ok : TWB_5.Ok Tryd.prog := TWB_4_ok.add ok_impl_isGrid
theorem eq_impl_hasNode (mw : Int) (mh : Int) (mr : List UInt8) (mn : List UInt8) (mx : Int) (my : Int) (md : Int) (x : Int) (y : Int) (K : V → Prop) : VC_impl_hasNode mw mh mr mn mx my md x y K = vbody Tryd.prog (vin Tryd.prog TWB_5 annTWB 3) TWB_5.looks (annTWB 44) 44 [.agg [.int .i64 mw, .int .i64 mh, .str mr, .str mn, .int .i64 mx, .int .i64 my, .int .i64 md], .int .i64 x, .int .i64 y] [] (fun v _ => K v) := by kernel_rfl
theorem ok_impl_hasNode : OK Tryd.prog 44 F_impl_hasNode.spec := (vbody_ok (vin_ok TWB_5_ok annTWB 3) TWB_5_ok.looks _ _).ofF fun args m p R h hp => by
  unfold F_impl_hasNode at h
  split at h
  · injection h with h; injection h with h1 h2; subst h1; subst h2
    exact ⟨rfl, (congrArg At (eq_impl_hasNode _ _ _ _ _ _ _ _ _ _)).mp ⟨vc_impl_hasNode _ _ _ _ _ _ _ _ _ hp⟩⟩
  · cases h
def TWB_6 : Tab := TWB_5.add 44 F_impl_hasNode
theorem TWB_6_ok : TWB_6.Ok Tryd.prog := TWB_5_ok.add ok_impl_hasNode
theorem eq_impl_isWay (d : Int) (K : V → Prop) : VC_impl_isWay d K = vbody Tryd.prog (vin Tryd.prog TWB_6 annTWB 3) TWB_6.looks (annTWB 45) 45 [.int .i64 d] [] (fun v _ => K v) := by kernel_rfl
theorem ok_impl_isWay : OK Tryd.prog 45 F_impl_isWay.spec := (vbody_ok (vin_ok TWB_6_ok annTWB 3) TWB_6_ok.looks _ _).ofF fun args m p R h hp => by
  unfold F_impl_isWay at h
  split at h
  · injection h with h; injection h with h1 h2; subst h1; subst h2
    exact ⟨rfl, (congrArg At (eq_impl_isWay _ _)).mp ⟨vc_impl_isWay _ hp⟩⟩
  · cases h
def TWB_7 : Tab := TWB_6.add 45 F_impl_isWay
theorem TWB_7_ok : TWB_7.Ok Tryd.prog := TWB_6_ok.add ok_impl_isWay
theorem eq_impl_areLines (s : List UInt8) (n : Int) (K : V → Prop) : VC_impl_areLines s n K = vbody Tryd.prog (vin Tryd.prog TWB_7 annTWB 3) TWB_7.looks (annTWB 46) 46 [.str s, .int .i64 n] [] (fun v _ => K v) := by kernel_rfl
theorem ok_impl_areLines : OK Tryd.prog 46 F_impl_areLines.spec := (vbody_ok (vin_ok TWB_7_ok annTWB 3) TWB_7_ok.looks _ _).ofF fun args m p R h hp => by
  unfold F_impl_areLines at h
  split at h
  · injection h with h; injection h with h1 h2; subst h1; subst h2
    exact ⟨rfl, (congrArg At (eq_impl_areLines _ _ _)).mp ⟨vc_impl_areLines _ _ hp⟩⟩
  · cases h
def TWB_8 : Tab := TWB_7.add 46 F_impl_areLines
theorem TWB_8_ok : TWB_8.Ok Tryd.prog := TWB_7_ok.add ok_impl_areLines
theorem eq_impl_IsWorm (mw : Int) (mh : Int) (mr : List UInt8) (mn : List UInt8) (mx : Int) (my : Int) (md : Int) (K : V → Prop) : VC_impl_IsWorm mw mh mr mn mx my md K = vbody Tryd.prog (vin Tryd.prog TWB_8 annTWB 3) TWB_8.looks (annTWB 17) 17 [.agg [.int .i64 mw, .int .i64 mh, .str mr, .str mn, .int .i64 mx, .int .i64 my, .int .i64 md]] [] (fun v _ => K v) := by kernel_rfl
theorem ok_impl_IsWorm : OK Tryd.prog 17 F_impl_IsWorm.spec := (vbody_ok (vin_ok TWB_8_ok annTWB 3) TWB_8_ok.looks _ _).ofF fun args m p R h hp => by
  unfold F_impl_IsWorm at h
  split at h
  · injection h with h; injection h with h1 h2; subst h1; subst h2
    exact ⟨rfl, (congrArg At (eq_impl_IsWorm _ _ _ _ _ _ _ _)).mp ⟨vc_impl_IsWorm _ _ _ _ _ _ _ hp⟩⟩
  · cases h
def TWB_9 : Tab := TWB_8.add 17 F_impl_IsWorm
theorem TWB_9_ok : TWB_9.Ok Tryd.prog := TWB_8_ok.add ok_impl_IsWorm
theorem eq_laws_szWorm (mw : Int) (mh : Int) (mr : List UInt8) (mn : List UInt8) (mx : Int) (my : Int) (md : Int) (left : Int) (K : V → Prop) : VC_laws_szWorm mw mh mr mn mx my md left K = vbody Tryd.prog (vin Tryd.prog TWB_9 annTWB 3) TWB_9.looks (annTWB 14) 14 [.agg [.int .i64 mw, .int .i64 mh, .str mr, .str mn, .int .i64 mx, .int .i64 my, .int .i64 md], .int .i64 left] [] (fun v _ => K v) := by kernel_rfl
theorem ok_laws_szWorm : OK Tryd.prog 14 F_laws_szWorm.spec := (vbody_ok (vin_ok TWB_9_ok annTWB 3) TWB_9_ok.looks _ _).ofF fun args m p R h hp => by
  unfold F_laws_szWorm at h
  split at h
  · injection h with h; injection h with h1 h2; subst h1; subst h2
    exact ⟨rfl, (congrArg At (eq_laws_szWorm _ _ _ _ _ _ _ _ _)).mp ⟨vc_laws_szWorm _ _ _ _ _ _ _ _ hp⟩⟩
  · cases h
def TWB_10 : Tab := TWB_9.add 14 F_laws_szWorm
theorem TWB_10_ok : TWB_10.Ok Tryd.prog := TWB_9_ok.add ok_laws_szWorm
theorem eq_laws_toWorm (mw : Int) (mh : Int) (mr : List UInt8) (mn : List UInt8) (mx : Int) (my : Int) (md : Int) (K : V → Prop) : VC_laws_toWorm mw mh mr mn mx my md K = vbody Tryd.prog (vin Tryd.prog TWB_10 annTWB 3) TWB_10.looks (annTWB 16) 16 [.agg [.int .i64 mw, .int .i64 mh, .str mr, .str mn, .int .i64 mx, .int .i64 my, .int .i64 md]] [] (fun v _ => K v) := by kernel_rfl
theorem ok_laws_toWorm : OK Tryd.prog 16 F_laws_toWorm.spec := (vbody_ok (vin_ok TWB_10_ok annTWB 3) TWB_10_ok.looks _ _).ofF fun args m p R h hp => by
  unfold F_laws_toWorm at h
  split at h
  · injection h with h; injection h with h1 h2; subst h1; subst h2
    exact ⟨rfl, (congrArg At (eq_laws_toWorm _ _ _ _ _ _ _ _)).mp ⟨vc_laws_toWorm _ _ _ _ _ _ _ hp⟩⟩
  · cases h
def TWB_11 : Tab := TWB_10.add 16 F_laws_toWorm
theorem TWB_11_ok : TWB_11.Ok Tryd.prog := TWB_10_ok.add ok_laws_toWorm
theorem eq_laws_eqWorm (aw : Int) (ah : Int) (ar : List UInt8) (an : List UInt8) (ax : Int) (ay : Int) (ad : Int) (bw : Int) (bh : Int) (br : List UInt8) (bn : List UInt8) (bx : Int) (by_ : Int) (bd : Int) (K : V → Prop) : VC_laws_eqWorm aw ah ar an ax ay ad bw bh br bn bx by_ bd K = vbody Tryd.prog (vin Tryd.prog TWB_11 annTWB 3) TWB_11.looks (annTWB 26) 26 [.agg [.int .i64 aw, .int .i64 ah, .str ar, .str an, .int .i64 ax, .int .i64 ay, .int .i64 ad], .agg [.int .i64 bw, .int .i64 bh, .str br, .str bn, .int .i64 bx, .int .i64 by_, .int .i64 bd]] [] (fun v _ => K v) := by kernel_rfl
theorem ok_laws_eqWorm : OK Tryd.prog 26 F_laws_eqWorm.spec := (vbody_ok (vin_ok TWB_11_ok annTWB 3) TWB_11_ok.looks _ _).ofF fun args m p R h hp => by
  unfold F_laws_eqWorm at h
  split at h
  · injection h with h; injection h with h1 h2; subst h1; subst h2
    exact ⟨rfl, (congrArg At (eq_laws_eqWorm _ _ _ _ _ _ _ _ _ _ _ _ _ _ _)).mp ⟨vc_laws_eqWorm _ _ _ _ _ _ _ _ _ _ _ _ _ _ hp⟩⟩
  · cases h
def TWB_12 : Tab := TWB_11.add 26 F_laws_eqWorm
theorem TWB_12_ok : TWB_12.Ok Tryd.prog := TWB_11_ok.add ok_laws_eqWorm
theorem eq_spec_wmTastes  (K : V → List Blk → Prop) : VC_spec_wmTastes  K = vbody Tryd.prog (vin Tryd.prog TWB_12 annTWB 3) TWB_12.looks (annTWB 69) 69 [] [] (K) := by kernel_rfl
theorem ok_spec_wmTastes : OK Tryd.prog 69 F_spec_wmTastes.spec := (vbody_ok (vin_ok TWB_12_ok annTWB 3) TWB_12_ok.looks _ _).ofG fun args m p R M h hp => by
  unfold F_spec_wmTastes at h
  split at h
  · injection h with h; injection h with h1 h2; injection h2 with h2 h3; subst h1; subst h2; subst h3
    exact (congrArg At (eq_spec_wmTastes  _)).mp ⟨vc_spec_wmTastes  hp⟩
  · cases h
def TWB_13 : Tab := TWB_12.addG 69 F_spec_wmTastes
theorem TWB_13_ok : TWB_13.Ok Tryd.prog := TWB_12_ok.addG ok_spec_wmTastes
theorem eq_spec_wmTaste (t : List UInt8) (K : V → Prop) : VC_spec_wmTaste t K = vbody Tryd.prog (vin Tryd.prog TWB_13 annTWB 3) TWB_13.looks (annTWB 47) 47 [.str t] [] (fun v _ => K v) := by kernel_rfl
theorem ok_spec_wmTaste : OK Tryd.prog 47 F_spec_wmTaste.spec := (vbody_ok (vin_ok TWB_13_ok annTWB 3) TWB_13_ok.looks _ _).ofF fun args m p R h hp => by
  unfold F_spec_wmTaste at h
  split at h
  · injection h with h; injection h with h1 h2; subst h1; subst h2
    exact ⟨rfl, (congrArg At (eq_spec_wmTaste _ _)).mp ⟨vc_spec_wmTaste _ hp⟩⟩
  · cases h
def TWB_14 : Tab := TWB_13.add 47 F_spec_wmTaste
theorem TWB_14_ok : TWB_14.Ok Tryd.prog := TWB_13_ok.add ok_spec_wmTaste
theorem eq_impl_IsTaste (t : List UInt8) (g0 : List UInt8) (g1 : List UInt8) (g2 : List UInt8) (g3 : List UInt8) (g4 : List UInt8) (g5 : List UInt8) (K : V → List Blk → Prop) : VC_impl_IsTaste t g0 g1 g2 g3 g4 g5 K = vbody Tryd.prog (vin Tryd.prog TWB_14 annTWB 3) TWB_14.looks (annTWB 19) 19 [.str t] [⟨.vals [.str g0, .str g1, .str g2, .str g3, .str g4, .str g5], 9, .gl 0⟩] (K) := by kernel_rfl
theorem ok_impl_IsTaste : OK Tryd.prog 19 F_impl_IsTaste.spec := (vbody_ok (vin_ok TWB_14_ok annTWB 3) TWB_14_ok.looks _ _).ofFM fun args m p R h hp => by
  unfold F_impl_IsTaste at h
  split at h
  · injection h with h; injection h with h1 h2; subst h1; subst h2
    exact (congrArg At (eq_impl_IsTaste _ _ _ _ _ _ _ _)).mp ⟨vc_impl_IsTaste _ _ _ _ _ _ _ hp⟩
  · cases h
def TWB_15 : Tab := TWB_14.add 19 F_impl_IsTaste
theorem TWB_15_ok : TWB_15.Ok Tryd.prog := TWB_14_ok.add ok_impl_IsTaste
theorem eq_spec_wmCount (s : List UInt8) (K : V → Prop) : VC_spec_wmCount s K = vbody Tryd.prog (vin Tryd.prog TWB_15 annTWB 3) TWB_15.looks (annTWB 48) 48 [.str s] [] (fun v _ => K v) := by kernel_rfl
theorem ok_spec_wmCount : OK Tryd.prog 48 F_spec_wmCount.spec := (vbody_ok (vin_ok TWB_15_ok annTWB 3) TWB_15_ok.looks _ _).ofF fun args m p R h hp => by
  unfold F_spec_wmCount at h
  split at h
  · injection h with h; injection h with h1 h2; subst h1; subst h2
    exact ⟨rfl, (congrArg At (eq_spec_wmCount _ _)).mp ⟨vc_spec_wmCount _ hp⟩⟩
  · cases h
def TWB_16 : Tab := TWB_15.add 48 F_spec_wmCount
theorem TWB_16_ok : TWB_16.Ok Tryd.prog := TWB_15_ok.add ok_spec_wmCount
theorem ok_strings_Count : OK Tryd.prog 49 F_strings_Count.spec := Go.Proofs.Tryd.libCount
def TWB_17 : Tab := TWB_16.add 49 F_strings_Count
theorem TWB_17_ok : TWB_17.Ok Tryd.prog := TWB_16_ok.add ok_strings_Count
theorem eq_spec_l1Mod (n : Int) (m : Int) (K : V → Prop) : VC_spec_l1Mod n m K = vbody Tryd.prog (vin Tryd.prog TWB_17 annTWB 3) TWB_17.looks (annTWB 79) 79 [.int .i64 n, .int .i64 m] [] (fun v _ => K v) := by kernel_rfl
theorem ok_spec_l1Mod : OK Tryd.prog 79 F_spec_l1Mod.spec := (vbody_ok (vin_ok TWB_17_ok annTWB 3) TWB_17_ok.looks _ _).ofF fun args m p R h hp => by
  unfold F_spec_l1Mod at h
  split at h
  · injection h with h; injection h with h1 h2; subst h1; subst h2
    exact ⟨rfl, (congrArg At (eq_spec_l1Mod _ _ _)).mp ⟨vc_spec_l1Mod _ _ hp⟩⟩
  · cases h
def TWB_18 : Tab := TWB_17.add 79 F_spec_l1Mod
theorem TWB_18_ok : TWB_18.Ok Tryd.prog := TWB_17_ok.add ok_spec_l1Mod
theorem eq_spec_woTurn (b : Int) (K : V → Prop) : VC_spec_woTurn b K = vbody Tryd.prog (vin Tryd.prog TWB_18 annTWB 3) TWB_18.looks (annTWB 74) 74 [.int .u8 b] [] (fun v _ => K v) := by kernel_rfl
theorem ok_spec_woTurn : OK Tryd.prog 74 F_spec_woTurn.spec := (vbody_ok (vin_ok TWB_18_ok annTWB 3) TWB_18_ok.looks _ _).ofF fun args m p R h hp => by
  unfold F_spec_woTurn at h
  split at h
  · injection h with h; injection h with h1 h2; subst h1; subst h2
    exact ⟨rfl, (congrArg At (eq_spec_woTurn _ _)).mp ⟨vc_spec_woTurn _ hp⟩⟩
  · cases h
def TWB_19 : Tab := TWB_18.add 74 F_spec_woTurn
theorem TWB_19_ok : TWB_19.Ok Tryd.prog := TWB_18_ok.add ok_spec_woTurn
theorem eq_impl_quarters (b : Int) (K : V → Prop) : VC_impl_quarters b K = vbody Tryd.prog (vin Tryd.prog TWB_19 annTWB 3) TWB_19.looks (annTWB 75) 75 [.int .u8 b] [] (fun v _ => K v) := by kernel_rfl
theorem ok_impl_quarters : OK Tryd.prog 75 F_impl_quarters.spec := (vbody_ok (vin_ok TWB_19_ok annTWB 3) TWB_19_ok.looks _ _).ofF fun args m p R h hp => by
  unfold F_impl_quarters at h
  split at h
  · injection h with h; injection h with h1 h2; subst h1; subst h2
    exact ⟨rfl, (congrArg At (eq_impl_quarters _ _)).mp ⟨vc_impl_quarters _ hp⟩⟩
  · cases h
def TWB_20 : Tab := TWB_19.add 75 F_impl_quarters
theorem TWB_20_ok : TWB_20.Ok Tryd.prog := TWB_19_ok.add ok_impl_quarters
theorem eq_impl_direction (d : Int) (K : V → Prop) : VC_impl_direction d K = vbody Tryd.prog (vin Tryd.prog TWB_20 annTWB 3) TWB_20.looks (annTWB 91) 91 [.int .i64 d] [] (fun v _ => K v) := by kernel_rfl
theorem ok_impl_direction : OK Tryd.prog 91 F_impl_direction.spec := (vbody_ok (vin_ok TWB_20_ok annTWB 3) TWB_20_ok.looks _ _).ofF fun args m p R h hp => by
  unfold F_impl_direction at h
  split at h
  · injection h with h; injection h with h1 h2; subst h1; subst h2
    exact ⟨rfl, (congrArg At (eq_impl_direction _ _)).mp ⟨vc_impl_direction _ hp⟩⟩
  · cases h
def TWB_21 : Tab := TWB_20.add 91 F_impl_direction
theorem TWB_21_ok : TWB_21.Ok Tryd.prog := TWB_20_ok.add ok_impl_direction
theorem eq_impl_board_turned (br : List UInt8) (bw : Int) (bh : Int) (bc : List UInt8) (bx : Int) (by_ : Int) (bd : Int) (q : Int) (K : V → Prop) : VC_impl_board_turned br bw bh bc bx by_ bd q K = vbody Tryd.prog (vin Tryd.prog TWB_21 annTWB 3) TWB_21.looks (annTWB 80) 80 [.agg [.str br, .int .i64 bw, .int .i64 bh, .str bc, .int .i64 bx, .int .i64 by_, .int .i64 bd], .int .i64 q] [] (fun v _ => K v) := by kernel_rfl
theorem ok_impl_board_turned : OK Tryd.prog 80 F_impl_board_turned.spec := (vbody_ok (vin_ok TWB_21_ok annTWB 3) TWB_21_ok.looks _ _).ofF fun args m p R h hp => by
  unfold F_impl_board_turned at h
  split at h
  · injection h with h; injection h with h1 h2; subst h1; subst h2
    exact ⟨rfl, (congrArg At (eq_impl_board_turned _ _ _ _ _ _ _ _ _)).mp ⟨vc_impl_board_turned _ _ _ _ _ _ _ _ hp⟩⟩
  · cases h
def TWB_22 : Tab := TWB_21.add 80 F_impl_board_turned
theorem TWB_22_ok : TWB_22.Ok Tryd.prog := TWB_21_ok.add ok_impl_board_turned
theorem eq_impl_board_moved (br : List UInt8) (bw : Int) (bh : Int) (bc : List UInt8) (bx : Int) (by_ : Int) (bd : Int) (k : Int) (K : V → Prop) : VC_impl_board_moved br bw bh bc bx by_ bd k K = vbody Tryd.prog (vin Tryd.prog TWB_22 annTWB 3) TWB_22.looks (annTWB 82) 82 [.agg [.str br, .int .i64 bw, .int .i64 bh, .str bc, .int .i64 bx, .int .i64 by_, .int .i64 bd], .int .i64 k] [] (fun v _ => K v) := by kernel_rfl
theorem ok_impl_board_moved : OK Tryd.prog 82 F_impl_board_moved.spec := (vbody_ok (vin_ok TWB_22_ok annTWB 3) TWB_22_ok.looks _ _).ofF fun args m p R h hp => by
  unfold F_impl_board_moved at h
  split at h
  · injection h with h; injection h with h1 h2; subst h1; subst h2
    exact ⟨rfl, (congrArg At (eq_impl_board_moved _ _ _ _ _ _ _ _ _)).mp ⟨vc_impl_board_moved _ _ _ _ _ _ _ _ hp⟩⟩
  · cases h
def TWB_23 : Tab := TWB_22.add 82 F_impl_board_moved
theorem TWB_23_ok : TWB_23.Ok Tryd.prog := TWB_22_ok.add ok_impl_board_moved
theorem eq_impl_crawler_nodes (cr : List UInt8) (cw : Int) (ch : Int) (cc : List UInt8) (cx : Int) (cy : Int) (cd : Int) (cl : List UInt8) (K : V → Prop) : VC_impl_crawler_nodes cr cw ch cc cx cy cd cl K = vbody Tryd.prog (vin Tryd.prog TWB_23 annTWB 3) TWB_23.looks (annTWB 76) 76 [.agg [.str cr, .int .i64 cw, .int .i64 ch, .str cc, .int .i64 cx, .int .i64 cy, .int .i64 cd, .str cl]] [] (fun v _ => K v) := by kernel_rfl
theorem ok_impl_crawler_nodes : OK Tryd.prog 76 F_impl_crawler_nodes.spec := (vbody_ok (vin_ok TWB_23_ok annTWB 3) TWB_23_ok.looks _ _).ofF fun args m p R h hp => by
  unfold F_impl_crawler_nodes at h
  split at h
  · injection h with h; injection h with h1 h2; subst h1; subst h2
    exact ⟨rfl, (congrArg At (eq_impl_crawler_nodes _ _ _ _ _ _ _ _ _)).mp ⟨vc_impl_crawler_nodes _ _ _ _ _ _ _ _ hp⟩⟩
  · cases h
def TWB_24 : Tab := TWB_23.add 76 F_impl_crawler_nodes
theorem TWB_24_ok : TWB_24.Ok Tryd.prog := TWB_23_ok.add ok_impl_crawler_nodes
theorem eq_impl_crawler_node (cr : List UInt8) (cw : Int) (ch : Int) (cc : List UInt8) (cx : Int) (cy : Int) (cd : Int) (cl : List UInt8) (K : V → Prop) : VC_impl_crawler_node cr cw ch cc cx cy cd cl K = vbody Tryd.prog (vin Tryd.prog TWB_24 annTWB 3) TWB_24.looks (annTWB 77) 77 [.agg [.str cr, .int .i64 cw, .int .i64 ch, .str cc, .int .i64 cx, .int .i64 cy, .int .i64 cd, .str cl]] [] (fun v _ => K v) := by kernel_rfl
theorem ok_impl_crawler_node : OK Tryd.prog 77 F_impl_crawler_node.spec := (vbody_ok (vin_ok TWB_24_ok annTWB 3) TWB_24_ok.looks _ _).ofF fun args m p R h hp => by
  unfold F_impl_crawler_node at h
  split at h
  · injection h with h; injection h with h1 h2; subst h1; subst h2
    exact ⟨rfl, (congrArg At (eq_impl_crawler_node _ _ _ _ _ _ _ _ _)).mp ⟨vc_impl_crawler_node _ _ _ _ _ _ _ _ hp⟩⟩
  · cases h
def TWB_25 : Tab := TWB_24.add 77 F_impl_crawler_node
theorem TWB_25_ok : TWB_25.Ok Tryd.prog := TWB_24_ok.add ok_impl_crawler_node
theorem eq_impl_crawler_seenFrom (cr : List UInt8) (cw : Int) (ch : Int) (cc : List UInt8) (cx : Int) (cy : Int) (cd : Int) (cl : List UInt8) (k : Int) (q : Int) (K : V → Prop) : VC_impl_crawler_seenFrom cr cw ch cc cx cy cd cl k q K = vbody Tryd.prog (vin Tryd.prog TWB_25 annTWB 3) TWB_25.looks (annTWB 73) 73 [.agg [.str cr, .int .i64 cw, .int .i64 ch, .str cc, .int .i64 cx, .int .i64 cy, .int .i64 cd, .str cl], .int .i64 k, .int .i64 q] [] (fun v _ => K v) := by kernel_rfl
theorem ok_impl_crawler_seenFrom : OK Tryd.prog 73 F_impl_crawler_seenFrom.spec := (vbody_ok (vin_ok TWB_25_ok annTWB 3) TWB_25_ok.looks _ _).ofF fun args m p R h hp => by
  unfold F_impl_crawler_seenFrom at h
  split at h
  · injection h with h; injection h with h1 h2; subst h1; subst h2
    exact ⟨rfl, (congrArg At (eq_impl_crawler_seenFrom _ _ _ _ _ _ _ _ _ _ _)).mp ⟨vc_impl_crawler_seenFrom _ _ _ _ _ _ _ _ _ _ hp⟩⟩
  · cases h
def TWB_26 : Tab := TWB_25.add 73 F_impl_crawler_seenFrom
theorem TWB_26_ok : TWB_26.Ok Tryd.prog := TWB_25_ok.add ok_impl_crawler_seenFrom
theorem eq_impl_crawler_heading (cr : List UInt8) (cw : Int) (ch : Int) (cc : List UInt8) (cx : Int) (cy : Int) (cd : Int) (cl : List UInt8) (q : Int) (K : V → Prop) : VC_impl_crawler_heading cr cw ch cc cx cy cd cl q K = vbody Tryd.prog (vin Tryd.prog TWB_26 annTWB 3) TWB_26.looks (annTWB 64) 64 [.agg [.str cr, .int .i64 cw, .int .i64 ch, .str cc, .int .i64 cx, .int .i64 cy, .int .i64 cd, .str cl], .int .i64 q] [] (fun v _ => K v) := by kernel_rfl
theorem ok_impl_crawler_heading : OK Tryd.prog 64 F_impl_crawler_heading.spec := (vbody_ok (vin_ok TWB_26_ok annTWB 3) TWB_26_ok.looks _ _).ofF fun args m p R h hp => by
  unfold F_impl_crawler_heading at h
  split at h
  · injection h with h; injection h with h1 h2; subst h1; subst h2
    exact ⟨rfl, (congrArg At (eq_impl_crawler_heading _ _ _ _ _ _ _ _ _ _)).mp ⟨vc_impl_crawler_heading _ _ _ _ _ _ _ _ _ hp⟩⟩
  · cases h
def TWB_27 : Tab := TWB_26.add 64 F_impl_crawler_heading
theorem TWB_27_ok : TWB_27.Ok Tryd.prog := TWB_26_ok.add ok_impl_crawler_heading
theorem eq_impl_crawler_crawled (cr : List UInt8) (cw : Int) (ch : Int) (cc : List UInt8) (cx : Int) (cy : Int) (cd : Int) (cl : List UInt8) (K : V → Prop) : VC_impl_crawler_crawled cr cw ch cc cx cy cd cl K = vbody Tryd.prog (vin Tryd.prog TWB_27 annTWB 3) TWB_27.looks (annTWB 67) 67 [.agg [.str cr, .int .i64 cw, .int .i64 ch, .str cc, .int .i64 cx, .int .i64 cy, .int .i64 cd, .str cl]] [] (fun v _ => K v) := by kernel_rfl
theorem ok_impl_crawler_crawled : OK Tryd.prog 67 F_impl_crawler_crawled.spec := (vbody_ok (vin_ok TWB_27_ok annTWB 3) TWB_27_ok.looks _ _).ofF fun args m p R h hp => by
  unfold F_impl_crawler_crawled at h
  split at h
  · injection h with h; injection h with h1 h2; subst h1; subst h2
    exact ⟨rfl, (congrArg At (eq_impl_crawler_crawled _ _ _ _ _ _ _ _ _)).mp ⟨vc_impl_crawler_crawled _ _ _ _ _ _ _ _ hp⟩⟩
  · cases h
def TWB_28 : Tab := TWB_27.add 67 F_impl_crawler_crawled
theorem TWB_28_ok : TWB_28.Ok Tryd.prog := TWB_27_ok.add ok_impl_crawler_crawled
theorem eq_impl_crawler_lineAhead (cr : List UInt8) (cw : Int) (ch : Int) (cc : List UInt8) (cx : Int) (cy : Int) (cd : Int) (cl : List UInt8) (K : V → Prop) : VC_impl_crawler_lineAhead cr cw ch cc cx cy cd cl K = vbody Tryd.prog (vin Tryd.prog TWB_28 annTWB 3) TWB_28.looks (annTWB 81) 81 [.agg [.str cr, .int .i64 cw, .int .i64 ch, .str cc, .int .i64 cx, .int .i64 cy, .int .i64 cd, .str cl]] [] (fun v _ => K v) := by kernel_rfl
theorem ok_impl_crawler_lineAhead : OK Tryd.prog 81 F_impl_crawler_lineAhead.spec := (vbody_ok (vin_ok TWB_28_ok annTWB 3) TWB_28_ok.looks _ _).ofF fun args m p R h hp => by
  unfold F_impl_crawler_lineAhead at h
  split at h
  · injection h with h; injection h with h1 h2; subst h1; subst h2
    exact ⟨rfl, (congrArg At (eq_impl_crawler_lineAhead _ _ _ _ _ _ _ _ _)).mp ⟨vc_impl_crawler_lineAhead _ _ _ _ _ _ _ _ hp⟩⟩
  · cases h
def TWB_29 : Tab := TWB_28.add 81 F_impl_crawler_lineAhead
theorem TWB_29_ok : TWB_29.Ok Tryd.prog := TWB_28_ok.add ok_impl_crawler_lineAhead
theorem eq_impl_crawler_hasLineAhead (cr : List UInt8) (cw : Int) (ch : Int) (cc : List UInt8) (cx : Int) (cy : Int) (cd : Int) (cl : List UInt8) (K : V → Prop) : VC_impl_crawler_hasLineAhead cr cw ch cc cx cy cd cl K = vbody Tryd.prog (vin Tryd.prog TWB_29 annTWB 3) TWB_29.looks (annTWB 65) 65 [.agg [.str cr, .int .i64 cw, .int .i64 ch, .str cc, .int .i64 cx, .int .i64 cy, .int .i64 cd, .str cl]] [] (fun v _ => K v) := by kernel_rfl
theorem ok_impl_crawler_hasLineAhead : OK Tryd.prog 65 F_impl_crawler_hasLineAhead.spec := (vbody_ok (vin_ok TWB_29_ok annTWB 3) TWB_29_ok.looks _ _).ofF fun args m p R h hp => by
  unfold F_impl_crawler_hasLineAhead at h
  split at h
  · injection h with h; injection h with h1 h2; subst h1; subst h2
    exact ⟨rfl, (congrArg At (eq_impl_crawler_hasLineAhead _ _ _ _ _ _ _ _ _)).mp ⟨vc_impl_crawler_hasLineAhead _ _ _ _ _ _ _ _ hp⟩⟩
  · cases h
def TWB_30 : Tab := TWB_29.add 65 F_impl_crawler_hasLineAhead
theorem TWB_30_ok : TWB_30.Ok Tryd.prog := TWB_29_ok.add ok_impl_crawler_hasLineAhead
theorem eq_impl_crawler_withLineAhead (cr : List UInt8) (cw : Int) (ch : Int) (cc : List UInt8) (cx : Int) (cy : Int) (cd : Int) (cl : List UInt8) (s : List UInt8) (K : V → Prop) : VC_impl_crawler_withLineAhead cr cw ch cc cx cy cd cl s K = vbody Tryd.prog (vin Tryd.prog TWB_30 annTWB 3) TWB_30.looks (annTWB 66) 66 [.agg [.str cr, .int .i64 cw, .int .i64 ch, .str cc, .int .i64 cx, .int .i64 cy, .int .i64 cd, .str cl], .str s] [] (fun v _ => K v) := by kernel_rfl
theorem ok_impl_crawler_withLineAhead : OK Tryd.prog 66 F_impl_crawler_withLineAhead.spec := (vbody_ok (vin_ok TWB_30_ok annTWB 3) TWB_30_ok.looks _ _).ofF fun args m p R h hp => by
  unfold F_impl_crawler_withLineAhead at h
  split at h
  · injection h with h; injection h with h1 h2; subst h1; subst h2
    exact ⟨rfl, (congrArg At (eq_impl_crawler_withLineAhead _ _ _ _ _ _ _ _ _ _)).mp ⟨vc_impl_crawler_withLineAhead _ _ _ _ _ _ _ _ _ hp⟩⟩
  · cases h
def TWB_31 : Tab := TWB_30.add 66 F_impl_crawler_withLineAhead
theorem TWB_31_ok : TWB_31.Ok Tryd.prog := TWB_30_ok.add ok_impl_crawler_withLineAhead
theorem eq_impl_crawler_worm (cr : List UInt8) (cw : Int) (ch : Int) (cc : List UInt8) (cx : Int) (cy : Int) (cd : Int) (cl : List UInt8) (K : V → Prop) : VC_impl_crawler_worm cr cw ch cc cx cy cd cl K = vbody Tryd.prog (vin Tryd.prog TWB_31 annTWB 3) TWB_31.looks (annTWB 58) 58 [.agg [.str cr, .int .i64 cw, .int .i64 ch, .str cc, .int .i64 cx, .int .i64 cy, .int .i64 cd, .str cl]] [] (fun v _ => K v) := by kernel_rfl
theorem ok_impl_crawler_worm : OK Tryd.prog 58 F_impl_crawler_worm.spec := (vbody_ok (vin_ok TWB_31_ok annTWB 3) TWB_31_ok.looks _ _).ofF fun args m p R h hp => by
  unfold F_impl_crawler_worm at h
  split at h
  · injection h with h; injection h with h1 h2; subst h1; subst h2
    exact ⟨rfl, (congrArg At (eq_impl_crawler_worm _ _ _ _ _ _ _ _ _)).mp ⟨vc_impl_crawler_worm _ _ _ _ _ _ _ _ hp⟩⟩
  · cases h
def TWB_32 : Tab := TWB_31.add 58 F_impl_crawler_worm
theorem TWB_32_ok : TWB_32.Ok Tryd.prog := TWB_31_ok.add ok_impl_crawler_worm
theorem eq_impl_crawlerOf (mw : Int) (mh : Int) (mr : List UInt8) (mn : List UInt8) (mx : Int) (my : Int) (md : Int) (K : V → Prop) : VC_impl_crawlerOf mw mh mr mn mx my md K = vbody Tryd.prog (vin Tryd.prog TWB_32 annTWB 3) TWB_32.looks (annTWB 52) 52 [.agg [.int .i64 mw, .int .i64 mh, .str mr, .str mn, .int .i64 mx, .int .i64 my, .int .i64 md]] [] (fun v _ => K v) := by kernel_rfl
theorem ok_impl_crawlerOf : OK Tryd.prog 52 F_impl_crawlerOf.spec := (vbody_ok (vin_ok TWB_32_ok annTWB 3) TWB_32_ok.looks _ _).ofF fun args m p R h hp => by
  unfold F_impl_crawlerOf at h
  split at h
  · injection h with h; injection h with h1 h2; subst h1; subst h2
    exact ⟨rfl, (congrArg At (eq_impl_crawlerOf _ _ _ _ _ _ _ _)).mp ⟨vc_impl_crawlerOf _ _ _ _ _ _ _ hp⟩⟩
  · cases h
def TWB_33 : Tab := TWB_32.add 52 F_impl_crawlerOf
theorem TWB_33_ok : TWB_33.Ok Tryd.prog := TWB_32_ok.add ok_impl_crawlerOf
theorem eq_impl_crawler_linesAt (cr : List UInt8) (cw : Int) (ch : Int) (cc : List UInt8) (cx : Int) (cy : Int) (cd : Int) (cl : List UInt8) (k : Int) (K : V → Prop) : VC_impl_crawler_linesAt cr cw ch cc cx cy cd cl k K = vbody Tryd.prog (vin Tryd.prog TWB_33 annTWB 3) TWB_33.looks (annTWB 53) 53 [.agg [.str cr, .int .i64 cw, .int .i64 ch, .str cc, .int .i64 cx, .int .i64 cy, .int .i64 cd, .str cl], .int .i64 k] [] (fun v _ => K v) := by kernel_rfl
theorem ok_impl_crawler_linesAt : OK Tryd.prog 53 F_impl_crawler_linesAt.spec := (vbody_ok (vin_ok TWB_33_ok annTWB 3) TWB_33_ok.looks _ _).ofF fun args m p R h hp => by
  unfold F_impl_crawler_linesAt at h
  split at h
  · injection h with h; injection h with h1 h2; subst h1; subst h2
    exact ⟨rfl, (congrArg At (eq_impl_crawler_linesAt _ _ _ _ _ _ _ _ _ _)).mp ⟨vc_impl_crawler_linesAt _ _ _ _ _ _ _ _ _ hp⟩⟩
  · cases h
def TWB_34 : Tab := TWB_33.add 53 F_impl_crawler_linesAt
theorem TWB_34_ok : TWB_34.Ok Tryd.prog := TWB_33_ok.add ok_impl_crawler_linesAt
theorem eq_impl_crawler_goOn (cr : List UInt8) (cw : Int) (ch : Int) (cc : List UInt8) (cx : Int) (cy : Int) (cd : Int) (cl : List UInt8) (t : List UInt8) (K : V → Prop) : VC_impl_crawler_goOn cr cw ch cc cx cy cd cl t K = vbody Tryd.prog (vin Tryd.prog TWB_34 annTWB 3) TWB_34.looks (annTWB 57) 57 [.agg [.str cr, .int .i64 cw, .int .i64 ch, .str cc, .int .i64 cx, .int .i64 cy, .int .i64 cd, .str cl], .str t] [] (fun v _ => K v) := by kernel_rfl
theorem ok_impl_crawler_goOn : OK Tryd.prog 57 F_impl_crawler_goOn.spec := (vbody_ok (vin_ok TWB_34_ok annTWB 3) TWB_34_ok.looks _ _).ofF fun args m p R h hp => by
  unfold F_impl_crawler_goOn at h
  split at h
  · injection h with h; injection h with h1 h2; subst h1; subst h2
    exact ⟨rfl, (congrArg At (eq_impl_crawler_goOn _ _ _ _ _ _ _ _ _ _)).mp ⟨vc_impl_crawler_goOn _ _ _ _ _ _ _ _ _ hp⟩⟩
  · cases h
def TWB_35 : Tab := TWB_34.add 57 F_impl_crawler_goOn
theorem TWB_35_ok : TWB_35.Ok Tryd.prog := TWB_34_ok.add ok_impl_crawler_goOn
theorem eq_spec_wmLine (mw : Int) (mh : Int) (mr : List UInt8) (mn : List UInt8) (mx : Int) (my : Int) (md : Int) (x : Int) (y : Int) (q : Int) (K : V → Prop) : VC_spec_wmLine mw mh mr mn mx my md x y q K = vbody Tryd.prog (vin Tryd.prog TWB_35 annTWB 3) TWB_35.looks (annTWB 78) 78 [.agg [.int .i64 mw, .int .i64 mh, .str mr, .str mn, .int .i64 mx, .int .i64 my, .int .i64 md], .int .i64 x, .int .i64 y, .int .i64 q] [] (fun v _ => K v) := by kernel_rfl
theorem ok_spec_wmLine : OK Tryd.prog 78 F_spec_wmLine.spec := (vbody_ok (vin_ok TWB_35_ok annTWB 3) TWB_35_ok.looks _ _).ofF fun args m p R h hp => by
  unfold F_spec_wmLine at h
  split at h
  · injection h with h; injection h with h1 h2; subst h1; subst h2
    exact ⟨rfl, (congrArg At (eq_spec_wmLine _ _ _ _ _ _ _ _ _ _ _)).mp ⟨vc_spec_wmLine _ _ _ _ _ _ _ _ _ _ hp⟩⟩
  · cases h
def TWB_36 : Tab := TWB_35.add 78 F_spec_wmLine
theorem TWB_36_ok : TWB_36.Ok Tryd.prog := TWB_35_ok.add ok_spec_wmLine
theorem eq_spec_wmHas (mw : Int) (mh : Int) (mr : List UInt8) (mn : List UInt8) (mx : Int) (my : Int) (md : Int) (x : Int) (y : Int) (q : Int) (K : V → Prop) : VC_spec_wmHas mw mh mr mn mx my md x y q K = vbody Tryd.prog (vin Tryd.prog TWB_36 annTWB 3) TWB_36.looks (annTWB 61) 61 [.agg [.int .i64 mw, .int .i64 mh, .str mr, .str mn, .int .i64 mx, .int .i64 my, .int .i64 md], .int .i64 x, .int .i64 y, .int .i64 q] [] (fun v _ => K v) := by kernel_rfl
theorem ok_spec_wmHas : OK Tryd.prog 61 F_spec_wmHas.spec := (vbody_ok (vin_ok TWB_36_ok annTWB 3) TWB_36_ok.looks _ _).ofF fun args m p R h hp => by
  unfold F_spec_wmHas at h
  split at h
  · injection h with h; injection h with h1 h2; subst h1; subst h2
    exact ⟨rfl, (congrArg At (eq_spec_wmHas _ _ _ _ _ _ _ _ _ _ _)).mp ⟨vc_spec_wmHas _ _ _ _ _ _ _ _ _ _ hp⟩⟩
  · cases h
def TWB_37 : Tab := TWB_36.add 61 F_spec_wmHas
theorem TWB_37_ok : TWB_37.Ok Tryd.prog := TWB_36_ok.add ok_spec_wmHas
theorem eq_spec_wmAt (mw : Int) (mh : Int) (mr : List UInt8) (mn : List UInt8) (mx : Int) (my : Int) (md : Int) (x : Int) (y : Int) (K : V → Prop) : VC_spec_wmAt mw mh mr mn mx my md x y K = vbody Tryd.prog (vin Tryd.prog TWB_37 annTWB 3) TWB_37.looks (annTWB 51) 51 [.agg [.int .i64 mw, .int .i64 mh, .str mr, .str mn, .int .i64 mx, .int .i64 my, .int .i64 md], .int .i64 x, .int .i64 y] [] (fun v _ => K v) := by kernel_rfl
theorem ok_spec_wmAt : OK Tryd.prog 51 F_spec_wmAt.spec := (vbody_ok (vin_ok TWB_37_ok annTWB 3) TWB_37_ok.looks _ _).ofF fun args m p R h hp => by
  unfold F_spec_wmAt at h
  split at h
  · injection h with h; injection h with h1 h2; subst h1; subst h2
    exact ⟨rfl, (congrArg At (eq_spec_wmAt _ _ _ _ _ _ _ _ _ _)).mp ⟨vc_spec_wmAt _ _ _ _ _ _ _ _ _ hp⟩⟩
  · cases h
def TWB_38 : Tab := TWB_37.add 51 F_spec_wmAt
theorem TWB_38_ok : TWB_38.Ok Tryd.prog := TWB_37_ok.add ok_spec_wmAt
theorem eq_spec_wmSet (x : Int) (y : Int) (q : Int) (s : List UInt8) (mw : Int) (mh : Int) (mr : List UInt8) (mn : List UInt8) (mx : Int) (my : Int) (md : Int) (e : TypeId) (K : V → List Blk → Prop) : VC_spec_wmSet x y q s mw mh mr mn mx my md e K = vbody Tryd.prog (vin Tryd.prog TWB_38 annTWB 3) TWB_38.looks (annTWB 62) 62 [.ptr 0 0, .int .i64 x, .int .i64 y, .int .i64 q, .str s] [⟨.vals [.int .i64 mw, .int .i64 mh, .str mr, .str mn, .int .i64 mx, .int .i64 my, .int .i64 md], e, .box⟩] (K) := by kernel_rfl
theorem ok_spec_wmSet : OK Tryd.prog 62 F_spec_wmSet.spec := (vbody_ok (vin_ok TWB_38_ok annTWB 3) TWB_38_ok.looks _ _).ofG fun args m p R M h hp => by
  unfold F_spec_wmSet at h
  split at h
  · injection h with h; injection h with h1 h2; injection h2 with h2 h3; subst h1; subst h2; subst h3
    exact (congrArg At (eq_spec_wmSet _ _ _ _ _ _ _ _ _ _ _ _ _)).mp ⟨vc_spec_wmSet _ _ _ _ _ _ _ _ _ _ _ _ hp⟩
  · cases h
def TWB_39 : Tab := TWB_38.addG 62 F_spec_wmSet
theorem TWB_39_ok : TWB_39.Ok Tryd.prog := TWB_38_ok.addG ok_spec_wmSet
theorem eq_spec_wmGo (q : Int) (k : Int) (mw : Int) (mh : Int) (mr : List UInt8) (mn : List UInt8) (mx : Int) (my : Int) (md : Int) (e : TypeId) (K : V → List Blk → Prop) : VC_spec_wmGo q k mw mh mr mn mx my md e K = vbody Tryd.prog (vin Tryd.prog TWB_39 annTWB 3) TWB_39.looks (annTWB 63) 63 [.ptr 0 0, .int .i64 q, .int .i64 k] [⟨.vals [.int .i64 mw, .int .i64 mh, .str mr, .str mn, .int .i64 mx, .int .i64 my, .int .i64 md], e, .box⟩] (K) := by kernel_rfl
theorem ok_spec_wmGo : OK Tryd.prog 63 F_spec_wmGo.spec := (vbody_ok (vin_ok TWB_39_ok annTWB 3) TWB_39_ok.looks _ _).ofG fun args m p R M h hp => by
  unfold F_spec_wmGo at h
  split at h
  · injection h with h; injection h with h1 h2; injection h2 with h2 h3; subst h1; subst h2; subst h3
    exact (congrArg At (eq_spec_wmGo _ _ _ _ _ _ _ _ _ _ _)).mp ⟨vc_spec_wmGo _ _ _ _ _ _ _ _ _ _ hp⟩
  · cases h
def TWB_40 : Tab := TWB_39.addG 63 F_spec_wmGo
theorem TWB_40_ok : TWB_40.Ok Tryd.prog := TWB_39_ok.addG ok_spec_wmGo
theorem eq_spec_wmEat (t : List UInt8) (mw : Int) (mh : Int) (mr : List UInt8) (mn : List UInt8) (mx : Int) (my : Int) (md : Int) (e : TypeId) (K : V → List Blk → Prop) : VC_spec_wmEat t mw mh mr mn mx my md e K = vbody Tryd.prog (vin Tryd.prog TWB_40 annTWB 3) TWB_40.looks (annTWB 55) 55 [.ptr 0 0, .str t] [⟨.vals [.int .i64 mw, .int .i64 mh, .str mr, .str mn, .int .i64 mx, .int .i64 my, .int .i64 md], e, .box⟩] (K) := by kernel_rfl
theorem ok_spec_wmEat : OK Tryd.prog 55 F_spec_wmEat.spec := (vbody_ok (vin_ok TWB_40_ok annTWB 3) TWB_40_ok.looks _ _).ofG fun args m p R M h hp => by
  unfold F_spec_wmEat at h
  split at h
  · injection h with h; injection h with h1 h2; injection h2 with h2 h3; subst h1; subst h2; subst h3
    exact (congrArg At (eq_spec_wmEat _ _ _ _ _ _ _ _ _ _)).mp ⟨vc_spec_wmEat _ _ _ _ _ _ _ _ _ hp⟩
  · cases h
def TWB_41 : Tab := TWB_40.addG 55 F_spec_wmEat
theorem TWB_41_ok : TWB_41.Ok Tryd.prog := TWB_40_ok.addG ok_spec_wmEat
theorem eq_spec_wmAsked (mw : Int) (mh : Int) (mr : List UInt8) (mn : List UInt8) (mx : Int) (my : Int) (md : Int) (t : List UInt8) (K : V → Prop) : VC_spec_wmAsked mw mh mr mn mx my md t K = vbody Tryd.prog (vin Tryd.prog TWB_41 annTWB 3) TWB_41.looks (annTWB 54) 54 [.agg [.int .i64 mw, .int .i64 mh, .str mr, .str mn, .int .i64 mx, .int .i64 my, .int .i64 md], .str t] [] (fun v _ => K v) := by kernel_rfl
theorem ok_spec_wmAsked : OK Tryd.prog 54 F_spec_wmAsked.spec := (vbody_ok (vin_ok TWB_41_ok annTWB 3) TWB_41_ok.looks _ _).ofF fun args m p R h hp => by
  unfold F_spec_wmAsked at h
  split at h
  · injection h with h; injection h with h1 h2; subst h1; subst h2
    exact ⟨rfl, (congrArg At (eq_spec_wmAsked _ _ _ _ _ _ _ _ _)).mp ⟨vc_spec_wmAsked _ _ _ _ _ _ _ _ hp⟩⟩
  · cases h
def TWB_42 : Tab := TWB_41.add 54 F_spec_wmAsked
theorem TWB_42_ok : TWB_42.Ok Tryd.prog := TWB_41_ok.add ok_spec_wmAsked
theorem eq_spec_LinesAt (mw : Int) (mh : Int) (mr : List UInt8) (mn : List UInt8) (mx : Int) (my : Int) (md : Int) (x : Int) (y : Int) (K : V → Prop) : VC_spec_LinesAt mw mh mr mn mx my md x y K = vbody Tryd.prog (vin Tryd.prog TWB_42 annTWB 3) TWB_42.looks (annTWB 22) 22 [.agg [.int .i64 mw, .int .i64 mh, .str mr, .str mn, .int .i64 mx, .int .i64 my, .int .i64 md], .int .i64 x, .int .i64 y] [] (fun v _ => K v) := by kernel_rfl
theorem ok_spec_LinesAt : OK Tryd.prog 22 F_spec_LinesAt.spec := (vbody_ok (vin_ok TWB_42_ok annTWB 3) TWB_42_ok.looks _ _).ofF fun args m p R h hp => by
  unfold F_spec_LinesAt at h
  split at h
  · injection h with h; injection h with h1 h2; subst h1; subst h2
    exact ⟨rfl, (congrArg At (eq_spec_LinesAt _ _ _ _ _ _ _ _ _ _)).mp ⟨vc_spec_LinesAt _ _ _ _ _ _ _ _ _ hp⟩⟩
  · cases h
def TWB_43 : Tab := TWB_42.add 22 F_spec_LinesAt
theorem TWB_43_ok : TWB_43.Ok Tryd.prog := TWB_42_ok.add ok_spec_LinesAt
theorem eq_impl_LinesAt (mw : Int) (mh : Int) (mr : List UInt8) (mn : List UInt8) (mx : Int) (my : Int) (md : Int) (x : Int) (y : Int) (K : V → Prop) : VC_impl_LinesAt mw mh mr mn mx my md x y K = vbody Tryd.prog (vin Tryd.prog TWB_43 annTWB 3) TWB_43.looks (annTWB 23) 23 [.agg [.int .i64 mw, .int .i64 mh, .str mr, .str mn, .int .i64 mx, .int .i64 my, .int .i64 md], .int .i64 x, .int .i64 y] [] (fun v _ => K v) := by kernel_rfl
theorem ok_impl_LinesAt : OK Tryd.prog 23 F_impl_LinesAt.spec := (vbody_ok (vin_ok TWB_43_ok annTWB 3) TWB_43_ok.looks _ _).ofF fun args m p R h hp => by
  unfold F_impl_LinesAt at h
  split at h
  · injection h with h; injection h with h1 h2; subst h1; subst h2
    exact ⟨rfl, (congrArg At (eq_impl_LinesAt _ _ _ _ _ _ _ _ _ _)).mp ⟨vc_impl_LinesAt _ _ _ _ _ _ _ _ _ hp⟩⟩
  · cases h
def TWB_44 : Tab := TWB_43.add 23 F_impl_LinesAt
theorem TWB_44_ok : TWB_44.Ok Tryd.prog := TWB_43_ok.add ok_impl_LinesAt
theorem eq_spec_EatLine (mw : Int) (mh : Int) (mr : List UInt8) (mn : List UInt8) (mx : Int) (my : Int) (md : Int) (t : List UInt8) (K : V → Prop) : VC_spec_EatLine mw mh mr mn mx my md t K = vbody Tryd.prog (vin Tryd.prog TWB_44 annTWB 3) TWB_44.looks (annTWB 24) 24 [.agg [.int .i64 mw, .int .i64 mh, .str mr, .str mn, .int .i64 mx, .int .i64 my, .int .i64 md], .str t] [] (fun v _ => K v) := by kernel_rfl
theorem ok_spec_EatLine : OK Tryd.prog 24 F_spec_EatLine.spec := (vbody_ok (vin_ok TWB_44_ok annTWB 3) TWB_44_ok.looks _ _).ofF fun args m p R h hp => by
  unfold F_spec_EatLine at h
  split at h
  · injection h with h; injection h with h1 h2; subst h1; subst h2
    exact ⟨rfl, (congrArg At (eq_spec_EatLine _ _ _ _ _ _ _ _ _)).mp ⟨vc_spec_EatLine _ _ _ _ _ _ _ _ hp⟩⟩
  · cases h
def TWB_45 : Tab := TWB_44.add 24 F_spec_EatLine
theorem TWB_45_ok : TWB_45.Ok Tryd.prog := TWB_44_ok.add ok_spec_EatLine
theorem eq_spec_WormAfter (mw : Int) (mh : Int) (mr : List UInt8) (mn : List UInt8) (mx : Int) (my : Int) (md : Int) (t : List UInt8) (k : Int) (K : V → Prop) : VC_spec_WormAfter mw mh mr mn mx my md t k K = vbody Tryd.prog (vin Tryd.prog TWB_45 annTWB 3) TWB_45.looks (annTWB 27) 27 [.agg [.int .i64 mw, .int .i64 mh, .str mr, .str mn, .int .i64 mx, .int .i64 my, .int .i64 md], .str t, .int .i64 k] [] (fun v _ => K v) := by kernel_rfl
theorem ok_spec_WormAfter : OK Tryd.prog 27 F_spec_WormAfter.spec := (vbody_ok (vin_ok TWB_45_ok annTWB 3) TWB_45_ok.looks _ _).ofF fun args m p R h hp => by
  unfold F_spec_WormAfter at h
  split at h
  · injection h with h; injection h with h1 h2; subst h1; subst h2
    exact ⟨rfl, (congrArg At (eq_spec_WormAfter _ _ _ _ _ _ _ _ _ _)).mp ⟨vc_spec_WormAfter _ _ _ _ _ _ _ _ _ hp⟩⟩
  · cases h
def TWB_46 : Tab := TWB_45.add 27 F_spec_WormAfter
theorem TWB_46_ok : TWB_46.Ok Tryd.prog := TWB_45_ok.add ok_spec_WormAfter
theorem eq_impl_WormAfter (mw : Int) (mh : Int) (mr : List UInt8) (mn : List UInt8) (mx : Int) (my : Int) (md : Int) (t : List UInt8) (k : Int) (g0 : List UInt8) (g1 : List UInt8) (g2 : List UInt8) (g3 : List UInt8) (g4 : List UInt8) (g5 : List UInt8) (K : V → List Blk → Prop) : VC_impl_WormAfter mw mh mr mn mx my md t k g0 g1 g2 g3 g4 g5 K = vbody Tryd.prog (vin Tryd.prog TWB_46 annTWB 3) TWB_46.looks (annTWB 28) 28 [.agg [.int .i64 mw, .int .i64 mh, .str mr, .str mn, .int .i64 mx, .int .i64 my, .int .i64 md], .str t, .int .i64 k] [⟨.vals [.str g0, .str g1, .str g2, .str g3, .str g4, .str g5], 9, .gl 0⟩] (K) := by kernel_rfl
theorem ok_impl_WormAfter : OK Tryd.prog 28 F_impl_WormAfter.spec := (vbody_ok (vin_ok TWB_46_ok annTWB 3) TWB_46_ok.looks _ _).ofFM fun args m p R h hp => by
  unfold F_impl_WormAfter at h
  split at h
  · injection h with h; injection h with h1 h2; subst h1; subst h2
    exact (congrArg At (eq_impl_WormAfter _ _ _ _ _ _ _ _ _ _ _ _ _ _ _ _)).mp ⟨vc_impl_WormAfter _ _ _ _ _ _ _ _ _ _ _ _ _ _ _ hp⟩
  · cases h
def TWB_47 : Tab := TWB_46.add 28 F_impl_WormAfter
theorem TWB_47_ok : TWB_47.Ok Tryd.prog := TWB_46_ok.add ok_impl_WormAfter
theorem eq_impl_EatLine (mw : Int) (mh : Int) (mr : List UInt8) (mn : List UInt8) (mx : Int) (my : Int) (md : Int) (t : List UInt8) (g0 : List UInt8) (g1 : List UInt8) (g2 : List UInt8) (g3 : List UInt8) (g4 : List UInt8) (g5 : List UInt8) (K : V → List Blk → Prop) : VC_impl_EatLine mw mh mr mn mx my md t g0 g1 g2 g3 g4 g5 K = vbody Tryd.prog (vin Tryd.prog TWB_47 annTWB 3) TWB_47.looks (annTWB 25) 25 [.agg [.int .i64 mw, .int .i64 mh, .str mr, .str mn, .int .i64 mx, .int .i64 my, .int .i64 md], .str t] [⟨.vals [.str g0, .str g1, .str g2, .str g3, .str g4, .str g5], 9, .gl 0⟩] (K) := by kernel_rfl
theorem ok_impl_EatLine : OK Tryd.prog 25 F_impl_EatLine.spec := (vbody_ok (vin_ok TWB_47_ok annTWB 3) TWB_47_ok.looks _ _).ofFM fun args m p R h hp => by
  unfold F_impl_EatLine at h
  split at h
  · injection h with h; injection h with h1 h2; subst h1; subst h2
    exact (congrArg At (eq_impl_EatLine _ _ _ _ _ _ _ _ _ _ _ _ _ _ _)).mp ⟨vc_impl_EatLine _ _ _ _ _ _ _ _ _ _ _ _ _ _ hp⟩
  · cases h
def TWB_48 : Tab := TWB_47.add 25 F_impl_EatLine
theorem TWB_48_ok : TWB_48.Ok Tryd.prog := TWB_47_ok.add ok_impl_EatLine
theorem eq_spec_GiveBack (mw : Int) (mh : Int) (mr : List UInt8) (mn : List UInt8) (mx : Int) (my : Int) (md : Int) (q : Int) (K : V → Prop) : VC_spec_GiveBack mw mh mr mn mx my md q K = vbody Tryd.prog (vin Tryd.prog TWB_48 annTWB 3) TWB_48.looks (annTWB 40) 40 [.agg [.int .i64 mw, .int .i64 mh, .str mr, .str mn, .int .i64 mx, .int .i64 my, .int .i64 md], .int .i64 q] [] (fun v _ => K v) := by kernel_rfl
theorem ok_spec_GiveBack : OK Tryd.prog 40 F_spec_GiveBack.spec := (vbody_ok (vin_ok TWB_48_ok annTWB 3) TWB_48_ok.looks _ _).ofF fun args m p R h hp => by
  unfold F_spec_GiveBack at h
  split at h
  · injection h with h; injection h with h1 h2; subst h1; subst h2
    exact ⟨rfl, (congrArg At (eq_spec_GiveBack _ _ _ _ _ _ _ _ _)).mp ⟨vc_spec_GiveBack _ _ _ _ _ _ _ _ hp⟩⟩
  · cases h
def TWB_49 : Tab := TWB_48.add 40 F_spec_GiveBack
theorem TWB_49_ok : TWB_49.Ok Tryd.prog := TWB_48_ok.add ok_spec_GiveBack
theorem eq_impl_GiveBack (mw : Int) (mh : Int) (mr : List UInt8) (mn : List UInt8) (mx : Int) (my : Int) (md : Int) (q : Int) (K : V → Prop) : VC_impl_GiveBack mw mh mr mn mx my md q K = vbody Tryd.prog (vin Tryd.prog TWB_49 annTWB 3) TWB_49.looks (annTWB 41) 41 [.agg [.int .i64 mw, .int .i64 mh, .str mr, .str mn, .int .i64 mx, .int .i64 my, .int .i64 md], .int .i64 q] [] (fun v _ => K v) := by kernel_rfl
theorem ok_impl_GiveBack : OK Tryd.prog 41 F_impl_GiveBack.spec := (vbody_ok (vin_ok TWB_49_ok annTWB 3) TWB_49_ok.looks _ _).ofF fun args m p R h hp => by
  unfold F_impl_GiveBack at h
  split at h
  · injection h with h; injection h with h1 h2; subst h1; subst h2
    exact ⟨rfl, (congrArg At (eq_impl_GiveBack _ _ _ _ _ _ _ _ _)).mp ⟨vc_impl_GiveBack _ _ _ _ _ _ _ _ hp⟩⟩
  · cases h
def TWB_50 : Tab := TWB_49.add 41 F_impl_GiveBack
theorem TWB_50_ok : TWB_50.Ok Tryd.prog := TWB_49_ok.add ok_impl_GiveBack
def TWB : Tab := TWB_50
theorem TWB_ok : TWB.Ok Tryd.prog := TWB_50_ok
end Go.Proofs.YtioppaofihbmpaaDoor
