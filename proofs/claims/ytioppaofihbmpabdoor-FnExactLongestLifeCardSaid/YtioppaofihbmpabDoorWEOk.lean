/- The contracts of this chapter. -/
import Derived.Test.YtioppaofihbmpabDoorWALib
import Derived.Test.YtioppaofihbmpabDoorProg
import Derived.Test.YtioppaofihbmpabDoorWEPf
import Derived.KernelRfl
namespace Go.Proofs.YtioppaofihbmpabDoor
open Go Go.Vi
set_option linter.unusedVariables false
def annTWE : FuncId → Nat → St → Option Ann := fun f => if f = 30 then ann_spec_wmGood else if f = 72 then ann_impl_IsTaste else if f = 39 then ann_impl_crawler_linesAt else if f = 73 then ann_impl_crawler_goOn else if f = 36 then ann_spec_wmAt else if f = 53 then ann_spec_wmEat else if f = 18 then ann_laws_eqIntS else if f = 19 then ann_laws_markIntS else if f = 20 then ann_laws_heldIntS else if f = 32 then ann_spec_wmLife else if f = 57 then ann_impl_lived else if f = 13 then ann_laws_eqStringS else if f = 35 then ann_laws_markText else if f = 14 then ann_laws_markStringS else if f = 15 then ann_laws_heldStringS else if f = 16 then ann_spec_OddNodes else if f = 17 then ann_impl_OddNodes else if f = 10 then ann_spec_LongestLife else if f = 12 then ann_impl_LongestLife else (fun _ _ => none)
def TWE_0 : Tab := Tab.none
theorem TWE_0_ok : TWE_0.Ok Tryd.prog := Tab.none_ok
theorem eq_spec_l1In (n : Int) (lo : Int) (hi : Int) (K : V → Prop) : VC_spec_l1In n lo hi K = vbody Tryd.prog (vin Tryd.prog TWE_0 annTWE 3) TWE_0.looks (annTWE 43) 43 [.int .i64 n, .int .i64 lo, .int .i64 hi] [] (fun v _ => K v) := by kernel_rfl
theorem ok_spec_l1In : OK Tryd.prog 43 F_spec_l1In.spec := (vbody_ok (vin_ok TWE_0_ok annTWE 3) TWE_0_ok.looks _ _).ofF fun args m p R h hp => by
  unfold F_spec_l1In at h
  split at h
  · injection h with h; injection h with h1 h2; subst h1; subst h2
    exact ⟨rfl, (congrArg At (eq_spec_l1In _ _ _ _)).mp ⟨vc_spec_l1In _ _ _ hp⟩⟩
  · cases h
def TWE_1 : Tab := TWE_0.add 43 F_spec_l1In
theorem TWE_1_ok : TWE_1.Ok Tryd.prog := TWE_0_ok.add ok_spec_l1In
theorem eq_impl_within (n : Int) (lo : Int) (hi : Int) (K : V → Prop) : VC_impl_within n lo hi K = vbody Tryd.prog (vin Tryd.prog TWE_1 annTWE 3) TWE_1.looks (annTWE 63) 63 [.int .i64 n, .int .i64 lo, .int .i64 hi] [] (fun v _ => K v) := by kernel_rfl
theorem ok_impl_within : OK Tryd.prog 63 F_impl_within.spec := (vbody_ok (vin_ok TWE_1_ok annTWE 3) TWE_1_ok.looks _ _).ofF fun args m p R h hp => by
  unfold F_impl_within at h
  split at h
  · injection h with h; injection h with h1 h2; subst h1; subst h2
    exact ⟨rfl, (congrArg At (eq_impl_within _ _ _ _)).mp ⟨vc_impl_within _ _ _ hp⟩⟩
  · cases h
def TWE_2 : Tab := TWE_1.add 63 F_impl_within
theorem TWE_2_ok : TWE_2.Ok Tryd.prog := TWE_1_ok.add ok_impl_within
theorem eq_spec_wmGood (mw : Int) (mh : Int) (mr : List UInt8) (mn : List UInt8) (mx : Int) (my : Int) (md : Int) (K : V → Prop) : VC_spec_wmGood mw mh mr mn mx my md K = vbody Tryd.prog (vin Tryd.prog TWE_2 annTWE 3) TWE_2.looks (annTWE 30) 30 [.agg [.int .i64 mw, .int .i64 mh, .str mr, .str mn, .int .i64 mx, .int .i64 my, .int .i64 md]] [] (fun v _ => K v) := by kernel_rfl
theorem ok_spec_wmGood : OK Tryd.prog 30 F_spec_wmGood.spec := (vbody_ok (vin_ok TWE_2_ok annTWE 3) TWE_2_ok.looks _ _).ofF fun args m p R h hp => by
  unfold F_spec_wmGood at h
  split at h
  · injection h with h; injection h with h1 h2; subst h1; subst h2
    exact ⟨rfl, (congrArg At (eq_spec_wmGood _ _ _ _ _ _ _ _)).mp ⟨vc_spec_wmGood _ _ _ _ _ _ _ hp⟩⟩
  · cases h
def TWE_3 : Tab := TWE_2.add 30 F_spec_wmGood
theorem TWE_3_ok : TWE_3.Ok Tryd.prog := TWE_2_ok.add ok_spec_wmGood
theorem ok_strings_Trim : OK Tryd.prog 71 F_strings_Trim.spec := Go.Proofs.Tryd.libTrim
def TWE_4 : Tab := TWE_3.add 71 F_strings_Trim
theorem TWE_4_ok : TWE_4.Ok Tryd.prog := TWE_3_ok.add ok_strings_Trim
theorem eq_impl_isGrid (a : Int) (b : Int) (K : V → Prop) : VC_impl_isGrid a b K = vbody Tryd.prog (vin Tryd.prog TWE_4 annTWE 3) TWE_4.looks (annTWE 54) 54 [.int .i64 a, .int .i64 b] [] (fun v _ => K v) := by kernel_rfl
theorem ok_impl_isGrid : OK Tryd.prog 54 F_impl_isGrid.spec := (vbody_ok (vin_ok TWE_4_ok annTWE 3) TWE_4_ok.looks _ _).ofF fun args m p R h hp => by
  unfold F_impl_isGrid at h
  split at h
  · injection h with h; injection h with h1 h2; subst h1; subst h2
    exact ⟨rfl, (congrArg At (eq_impl_isGrid _ _ _)).mp ⟨vc_impl_isGrid _ _ hp⟩⟩
  · cases h
def TWE_5 : Tab := TWE_4.add 54 F_impl_isGrid
theorem TWE_5_ok : TWE_5.Ok Tryd.prog := TWE_4_ok.add ok_impl_isGrid
theorem eq_impl_hasNode (mw : Int) (mh : Int) (mr : List UInt8) (mn : List UInt8) (mx : Int) (my : Int) (md : Int) (x : Int) (y : Int) (K : V → Prop) : VC_impl_hasNode mw mh mr mn mx my md x y K = vbody Tryd.prog (vin Tryd.prog TWE_5 annTWE 3) TWE_5.looks (annTWE 45) 45 [.agg [.int .i64 mw, .int .i64 mh, .str mr, .str mn, .int .i64 mx, .int .i64 my, .int .i64 md], .int .i64 x, .int .i64 y] [] (fun v _ => K v) := by kernel_rfl
theorem ok_impl_hasNode : OK Tryd.prog 45 F_impl_hasNode.spec := (vbody_ok (vin_ok TWE_5_ok annTWE 3) TWE_5_ok.looks _ _).ofF fun args m p R h hp => by
  unfold F_impl_hasNode at h
  split at h
  · injection h with h; injection h with h1 h2; subst h1; subst h2
    exact ⟨rfl, (congrArg At (eq_impl_hasNode _ _ _ _ _ _ _ _ _ _)).mp ⟨vc_impl_hasNode _ _ _ _ _ _ _ _ _ hp⟩⟩
  · cases h
def TWE_6 : Tab := TWE_5.add 45 F_impl_hasNode
theorem TWE_6_ok : TWE_6.Ok Tryd.prog := TWE_5_ok.add ok_impl_hasNode
theorem eq_impl_isWay (d : Int) (K : V → Prop) : VC_impl_isWay d K = vbody Tryd.prog (vin Tryd.prog TWE_6 annTWE 3) TWE_6.looks (annTWE 55) 55 [.int .i64 d] [] (fun v _ => K v) := by kernel_rfl
theorem ok_impl_isWay : OK Tryd.prog 55 F_impl_isWay.spec := (vbody_ok (vin_ok TWE_6_ok annTWE 3) TWE_6_ok.looks _ _).ofF fun args m p R h hp => by
  unfold F_impl_isWay at h
  split at h
  · injection h with h; injection h with h1 h2; subst h1; subst h2
    exact ⟨rfl, (congrArg At (eq_impl_isWay _ _)).mp ⟨vc_impl_isWay _ hp⟩⟩
  · cases h
def TWE_7 : Tab := TWE_6.add 55 F_impl_isWay
theorem TWE_7_ok : TWE_7.Ok Tryd.prog := TWE_6_ok.add ok_impl_isWay
theorem eq_impl_areLines (s : List UInt8) (n : Int) (K : V → Prop) : VC_impl_areLines s n K = vbody Tryd.prog (vin Tryd.prog TWE_7 annTWE 3) TWE_7.looks (annTWE 56) 56 [.str s, .int .i64 n] [] (fun v _ => K v) := by kernel_rfl
theorem ok_impl_areLines : OK Tryd.prog 56 F_impl_areLines.spec := (vbody_ok (vin_ok TWE_7_ok annTWE 3) TWE_7_ok.looks _ _).ofF fun args m p R h hp => by
  unfold F_impl_areLines at h
  split at h
  · injection h with h; injection h with h1 h2; subst h1; subst h2
    exact ⟨rfl, (congrArg At (eq_impl_areLines _ _ _)).mp ⟨vc_impl_areLines _ _ hp⟩⟩
  · cases h
def TWE_8 : Tab := TWE_7.add 56 F_impl_areLines
theorem TWE_8_ok : TWE_8.Ok Tryd.prog := TWE_7_ok.add ok_impl_areLines
theorem eq_impl_IsWorm (mw : Int) (mh : Int) (mr : List UInt8) (mn : List UInt8) (mx : Int) (my : Int) (md : Int) (K : V → Prop) : VC_impl_IsWorm mw mh mr mn mx my md K = vbody Tryd.prog (vin Tryd.prog TWE_8 annTWE 3) TWE_8.looks (annTWE 33) 33 [.agg [.int .i64 mw, .int .i64 mh, .str mr, .str mn, .int .i64 mx, .int .i64 my, .int .i64 md]] [] (fun v _ => K v) := by kernel_rfl
theorem ok_impl_IsWorm : OK Tryd.prog 33 F_impl_IsWorm.spec := (vbody_ok (vin_ok TWE_8_ok annTWE 3) TWE_8_ok.looks _ _).ofF fun args m p R h hp => by
  unfold F_impl_IsWorm at h
  split at h
  · injection h with h; injection h with h1 h2; subst h1; subst h2
    exact ⟨rfl, (congrArg At (eq_impl_IsWorm _ _ _ _ _ _ _ _)).mp ⟨vc_impl_IsWorm _ _ _ _ _ _ _ hp⟩⟩
  · cases h
def TWE_9 : Tab := TWE_8.add 33 F_impl_IsWorm
theorem TWE_9_ok : TWE_9.Ok Tryd.prog := TWE_8_ok.add ok_impl_IsWorm
theorem eq_laws_szWorm (mw : Int) (mh : Int) (mr : List UInt8) (mn : List UInt8) (mx : Int) (my : Int) (md : Int) (left : Int) (K : V → Prop) : VC_laws_szWorm mw mh mr mn mx my md left K = vbody Tryd.prog (vin Tryd.prog TWE_9 annTWE 3) TWE_9.looks (annTWE 9) 9 [.agg [.int .i64 mw, .int .i64 mh, .str mr, .str mn, .int .i64 mx, .int .i64 my, .int .i64 md], .int .i64 left] [] (fun v _ => K v) := by kernel_rfl
theorem ok_laws_szWorm : OK Tryd.prog 9 F_laws_szWorm.spec := (vbody_ok (vin_ok TWE_9_ok annTWE 3) TWE_9_ok.looks _ _).ofF fun args m p R h hp => by
  unfold F_laws_szWorm at h
  split at h
  · injection h with h; injection h with h1 h2; subst h1; subst h2
    exact ⟨rfl, (congrArg At (eq_laws_szWorm _ _ _ _ _ _ _ _ _)).mp ⟨vc_laws_szWorm _ _ _ _ _ _ _ _ hp⟩⟩
  · cases h
def TWE_10 : Tab := TWE_9.add 9 F_laws_szWorm
theorem TWE_10_ok : TWE_10.Ok Tryd.prog := TWE_9_ok.add ok_laws_szWorm
theorem eq_laws_toWorm (mw : Int) (mh : Int) (mr : List UInt8) (mn : List UInt8) (mx : Int) (my : Int) (md : Int) (K : V → Prop) : VC_laws_toWorm mw mh mr mn mx my md K = vbody Tryd.prog (vin Tryd.prog TWE_10 annTWE 3) TWE_10.looks (annTWE 11) 11 [.agg [.int .i64 mw, .int .i64 mh, .str mr, .str mn, .int .i64 mx, .int .i64 my, .int .i64 md]] [] (fun v _ => K v) := by kernel_rfl
theorem ok_laws_toWorm : OK Tryd.prog 11 F_laws_toWorm.spec := (vbody_ok (vin_ok TWE_10_ok annTWE 3) TWE_10_ok.looks _ _).ofF fun args m p R h hp => by
  unfold F_laws_toWorm at h
  split at h
  · injection h with h; injection h with h1 h2; subst h1; subst h2
    exact ⟨rfl, (congrArg At (eq_laws_toWorm _ _ _ _ _ _ _ _)).mp ⟨vc_laws_toWorm _ _ _ _ _ _ _ hp⟩⟩
  · cases h
def TWE_11 : Tab := TWE_10.add 11 F_laws_toWorm
theorem TWE_11_ok : TWE_11.Ok Tryd.prog := TWE_10_ok.add ok_laws_toWorm
theorem eq_laws_eqWorm (aw : Int) (ah : Int) (ar : List UInt8) (an : List UInt8) (ax : Int) (ay : Int) (ad : Int) (bw : Int) (bh : Int) (br : List UInt8) (bn : List UInt8) (bx : Int) (by_ : Int) (bd : Int) (K : V → Prop) : VC_laws_eqWorm aw ah ar an ax ay ad bw bh br bn bx by_ bd K = vbody Tryd.prog (vin Tryd.prog TWE_11 annTWE 3) TWE_11.looks (annTWE 25) 25 [.agg [.int .i64 aw, .int .i64 ah, .str ar, .str an, .int .i64 ax, .int .i64 ay, .int .i64 ad], .agg [.int .i64 bw, .int .i64 bh, .str br, .str bn, .int .i64 bx, .int .i64 by_, .int .i64 bd]] [] (fun v _ => K v) := by kernel_rfl
theorem ok_laws_eqWorm : OK Tryd.prog 25 F_laws_eqWorm.spec := (vbody_ok (vin_ok TWE_11_ok annTWE 3) TWE_11_ok.looks _ _).ofF fun args m p R h hp => by
  unfold F_laws_eqWorm at h
  split at h
  · injection h with h; injection h with h1 h2; subst h1; subst h2
    exact ⟨rfl, (congrArg At (eq_laws_eqWorm _ _ _ _ _ _ _ _ _ _ _ _ _ _ _)).mp ⟨vc_laws_eqWorm _ _ _ _ _ _ _ _ _ _ _ _ _ _ hp⟩⟩
  · cases h
def TWE_12 : Tab := TWE_11.add 25 F_laws_eqWorm
theorem TWE_12_ok : TWE_12.Ok Tryd.prog := TWE_11_ok.add ok_laws_eqWorm
theorem eq_spec_wmTastes  (K : V → List Blk → Prop) : VC_spec_wmTastes  K = vbody Tryd.prog (vin Tryd.prog TWE_12 annTWE 3) TWE_12.looks (annTWE 31) 31 [] [] (K) := by kernel_rfl
theorem ok_spec_wmTastes : OK Tryd.prog 31 F_spec_wmTastes.spec := (vbody_ok (vin_ok TWE_12_ok annTWE 3) TWE_12_ok.looks _ _).ofG fun args m p R M h hp => by
  unfold F_spec_wmTastes at h
  split at h
  · injection h with h; injection h with h1 h2; injection h2 with h2 h3; subst h1; subst h2; subst h3
    exact (congrArg At (eq_spec_wmTastes  _)).mp ⟨vc_spec_wmTastes  hp⟩
  · cases h
def TWE_13 : Tab := TWE_12.addG 31 F_spec_wmTastes
theorem TWE_13_ok : TWE_13.Ok Tryd.prog := TWE_12_ok.addG ok_spec_wmTastes
theorem eq_impl_IsTaste (t : List UInt8) (g0 : List UInt8) (g1 : List UInt8) (g2 : List UInt8) (g3 : List UInt8) (g4 : List UInt8) (g5 : List UInt8) (K : V → List Blk → Prop) : VC_impl_IsTaste t g0 g1 g2 g3 g4 g5 K = vbody Tryd.prog (vin Tryd.prog TWE_13 annTWE 3) TWE_13.looks (annTWE 72) 72 [.str t] [⟨.vals [.str g0, .str g1, .str g2, .str g3, .str g4, .str g5], 9, .gl 0⟩] (K) := by kernel_rfl
theorem ok_impl_IsTaste : OK Tryd.prog 72 F_impl_IsTaste.spec := (vbody_ok (vin_ok TWE_13_ok annTWE 3) TWE_13_ok.looks _ _).ofFM fun args m p R h hp => by
  unfold F_impl_IsTaste at h
  split at h
  · injection h with h; injection h with h1 h2; subst h1; subst h2
    exact (congrArg At (eq_impl_IsTaste _ _ _ _ _ _ _ _)).mp ⟨vc_impl_IsTaste _ _ _ _ _ _ _ hp⟩
  · cases h
def TWE_14 : Tab := TWE_13.add 72 F_impl_IsTaste
theorem TWE_14_ok : TWE_14.Ok Tryd.prog := TWE_13_ok.add ok_impl_IsTaste
theorem ok_strings_Count : OK Tryd.prog 79 F_strings_Count.spec := Go.Proofs.Tryd.libCount
def TWE_15 : Tab := TWE_14.add 79 F_strings_Count
theorem TWE_15_ok : TWE_15.Ok Tryd.prog := TWE_14_ok.add ok_strings_Count
theorem eq_spec_l1Mod (n : Int) (m : Int) (K : V → Prop) : VC_spec_l1Mod n m K = vbody Tryd.prog (vin Tryd.prog TWE_15 annTWE 3) TWE_15.looks (annTWE 44) 44 [.int .i64 n, .int .i64 m] [] (fun v _ => K v) := by kernel_rfl
theorem ok_spec_l1Mod : OK Tryd.prog 44 F_spec_l1Mod.spec := (vbody_ok (vin_ok TWE_15_ok annTWE 3) TWE_15_ok.looks _ _).ofF fun args m p R h hp => by
  unfold F_spec_l1Mod at h
  split at h
  · injection h with h; injection h with h1 h2; subst h1; subst h2
    exact ⟨rfl, (congrArg At (eq_spec_l1Mod _ _ _)).mp ⟨vc_spec_l1Mod _ _ hp⟩⟩
  · cases h
def TWE_16 : Tab := TWE_15.add 44 F_spec_l1Mod
theorem TWE_16_ok : TWE_16.Ok Tryd.prog := TWE_15_ok.add ok_spec_l1Mod
theorem eq_spec_woTurn (b : Int) (K : V → Prop) : VC_spec_woTurn b K = vbody Tryd.prog (vin Tryd.prog TWE_16 annTWE 3) TWE_16.looks (annTWE 69) 69 [.int .u8 b] [] (fun v _ => K v) := by kernel_rfl
theorem ok_spec_woTurn : OK Tryd.prog 69 F_spec_woTurn.spec := (vbody_ok (vin_ok TWE_16_ok annTWE 3) TWE_16_ok.looks _ _).ofF fun args m p R h hp => by
  unfold F_spec_woTurn at h
  split at h
  · injection h with h; injection h with h1 h2; subst h1; subst h2
    exact ⟨rfl, (congrArg At (eq_spec_woTurn _ _)).mp ⟨vc_spec_woTurn _ hp⟩⟩
  · cases h
def TWE_17 : Tab := TWE_16.add 69 F_spec_woTurn
theorem TWE_17_ok : TWE_17.Ok Tryd.prog := TWE_16_ok.add ok_spec_woTurn
theorem eq_impl_quarters (b : Int) (K : V → Prop) : VC_impl_quarters b K = vbody Tryd.prog (vin Tryd.prog TWE_17 annTWE 3) TWE_17.looks (annTWE 89) 89 [.int .u8 b] [] (fun v _ => K v) := by kernel_rfl
theorem ok_impl_quarters : OK Tryd.prog 89 F_impl_quarters.spec := (vbody_ok (vin_ok TWE_17_ok annTWE 3) TWE_17_ok.looks _ _).ofF fun args m p R h hp => by
  unfold F_impl_quarters at h
  split at h
  · injection h with h; injection h with h1 h2; subst h1; subst h2
    exact ⟨rfl, (congrArg At (eq_impl_quarters _ _)).mp ⟨vc_impl_quarters _ hp⟩⟩
  · cases h
def TWE_18 : Tab := TWE_17.add 89 F_impl_quarters
theorem TWE_18_ok : TWE_18.Ok Tryd.prog := TWE_17_ok.add ok_impl_quarters
theorem eq_impl_direction (d : Int) (K : V → Prop) : VC_impl_direction d K = vbody Tryd.prog (vin Tryd.prog TWE_18 annTWE 3) TWE_18.looks (annTWE 91) 91 [.int .i64 d] [] (fun v _ => K v) := by kernel_rfl
theorem ok_impl_direction : OK Tryd.prog 91 F_impl_direction.spec := (vbody_ok (vin_ok TWE_18_ok annTWE 3) TWE_18_ok.looks _ _).ofF fun args m p R h hp => by
  unfold F_impl_direction at h
  split at h
  · injection h with h; injection h with h1 h2; subst h1; subst h2
    exact ⟨rfl, (congrArg At (eq_impl_direction _ _)).mp ⟨vc_impl_direction _ hp⟩⟩
  · cases h
def TWE_19 : Tab := TWE_18.add 91 F_impl_direction
theorem TWE_19_ok : TWE_19.Ok Tryd.prog := TWE_18_ok.add ok_impl_direction
theorem eq_impl_board_turned (br : List UInt8) (bw : Int) (bh : Int) (bc : List UInt8) (bx : Int) (by_ : Int) (bd : Int) (q : Int) (K : V → Prop) : VC_impl_board_turned br bw bh bc bx by_ bd q K = vbody Tryd.prog (vin Tryd.prog TWE_19 annTWE 3) TWE_19.looks (annTWE 103) 103 [.agg [.str br, .int .i64 bw, .int .i64 bh, .str bc, .int .i64 bx, .int .i64 by_, .int .i64 bd], .int .i64 q] [] (fun v _ => K v) := by kernel_rfl
theorem ok_impl_board_turned : OK Tryd.prog 103 F_impl_board_turned.spec := (vbody_ok (vin_ok TWE_19_ok annTWE 3) TWE_19_ok.looks _ _).ofF fun args m p R h hp => by
  unfold F_impl_board_turned at h
  split at h
  · injection h with h; injection h with h1 h2; subst h1; subst h2
    exact ⟨rfl, (congrArg At (eq_impl_board_turned _ _ _ _ _ _ _ _ _)).mp ⟨vc_impl_board_turned _ _ _ _ _ _ _ _ hp⟩⟩
  · cases h
def TWE_20 : Tab := TWE_19.add 103 F_impl_board_turned
theorem TWE_20_ok : TWE_20.Ok Tryd.prog := TWE_19_ok.add ok_impl_board_turned
theorem eq_impl_board_moved (br : List UInt8) (bw : Int) (bh : Int) (bc : List UInt8) (bx : Int) (by_ : Int) (bd : Int) (k : Int) (K : V → Prop) : VC_impl_board_moved br bw bh bc bx by_ bd k K = vbody Tryd.prog (vin Tryd.prog TWE_20 annTWE 3) TWE_20.looks (annTWE 76) 76 [.agg [.str br, .int .i64 bw, .int .i64 bh, .str bc, .int .i64 bx, .int .i64 by_, .int .i64 bd], .int .i64 k] [] (fun v _ => K v) := by kernel_rfl
theorem ok_impl_board_moved : OK Tryd.prog 76 F_impl_board_moved.spec := (vbody_ok (vin_ok TWE_20_ok annTWE 3) TWE_20_ok.looks _ _).ofF fun args m p R h hp => by
  unfold F_impl_board_moved at h
  split at h
  · injection h with h; injection h with h1 h2; subst h1; subst h2
    exact ⟨rfl, (congrArg At (eq_impl_board_moved _ _ _ _ _ _ _ _ _)).mp ⟨vc_impl_board_moved _ _ _ _ _ _ _ _ hp⟩⟩
  · cases h
def TWE_21 : Tab := TWE_20.add 76 F_impl_board_moved
theorem TWE_21_ok : TWE_21.Ok Tryd.prog := TWE_20_ok.add ok_impl_board_moved
theorem eq_impl_crawler_nodes (cr : List UInt8) (cw : Int) (ch : Int) (cc : List UInt8) (cx : Int) (cy : Int) (cd : Int) (cl : List UInt8) (K : V → Prop) : VC_impl_crawler_nodes cr cw ch cc cx cy cd cl K = vbody Tryd.prog (vin Tryd.prog TWE_21 annTWE 3) TWE_21.looks (annTWE 38) 38 [.agg [.str cr, .int .i64 cw, .int .i64 ch, .str cc, .int .i64 cx, .int .i64 cy, .int .i64 cd, .str cl]] [] (fun v _ => K v) := by kernel_rfl
theorem ok_impl_crawler_nodes : OK Tryd.prog 38 F_impl_crawler_nodes.spec := (vbody_ok (vin_ok TWE_21_ok annTWE 3) TWE_21_ok.looks _ _).ofF fun args m p R h hp => by
  unfold F_impl_crawler_nodes at h
  split at h
  · injection h with h; injection h with h1 h2; subst h1; subst h2
    exact ⟨rfl, (congrArg At (eq_impl_crawler_nodes _ _ _ _ _ _ _ _ _)).mp ⟨vc_impl_crawler_nodes _ _ _ _ _ _ _ _ hp⟩⟩
  · cases h
def TWE_22 : Tab := TWE_21.add 38 F_impl_crawler_nodes
theorem TWE_22_ok : TWE_22.Ok Tryd.prog := TWE_21_ok.add ok_impl_crawler_nodes
theorem eq_impl_crawler_node (cr : List UInt8) (cw : Int) (ch : Int) (cc : List UInt8) (cx : Int) (cy : Int) (cd : Int) (cl : List UInt8) (K : V → Prop) : VC_impl_crawler_node cr cw ch cc cx cy cd cl K = vbody Tryd.prog (vin Tryd.prog TWE_22 annTWE 3) TWE_22.looks (annTWE 62) 62 [.agg [.str cr, .int .i64 cw, .int .i64 ch, .str cc, .int .i64 cx, .int .i64 cy, .int .i64 cd, .str cl]] [] (fun v _ => K v) := by kernel_rfl
theorem ok_impl_crawler_node : OK Tryd.prog 62 F_impl_crawler_node.spec := (vbody_ok (vin_ok TWE_22_ok annTWE 3) TWE_22_ok.looks _ _).ofF fun args m p R h hp => by
  unfold F_impl_crawler_node at h
  split at h
  · injection h with h; injection h with h1 h2; subst h1; subst h2
    exact ⟨rfl, (congrArg At (eq_impl_crawler_node _ _ _ _ _ _ _ _ _)).mp ⟨vc_impl_crawler_node _ _ _ _ _ _ _ _ hp⟩⟩
  · cases h
def TWE_23 : Tab := TWE_22.add 62 F_impl_crawler_node
theorem TWE_23_ok : TWE_23.Ok Tryd.prog := TWE_22_ok.add ok_impl_crawler_node
theorem eq_impl_crawler_seenFrom (cr : List UInt8) (cw : Int) (ch : Int) (cc : List UInt8) (cx : Int) (cy : Int) (cd : Int) (cl : List UInt8) (k : Int) (q : Int) (K : V → Prop) : VC_impl_crawler_seenFrom cr cw ch cc cx cy cd cl k q K = vbody Tryd.prog (vin Tryd.prog TWE_23 annTWE 3) TWE_23.looks (annTWE 58) 58 [.agg [.str cr, .int .i64 cw, .int .i64 ch, .str cc, .int .i64 cx, .int .i64 cy, .int .i64 cd, .str cl], .int .i64 k, .int .i64 q] [] (fun v _ => K v) := by kernel_rfl
theorem ok_impl_crawler_seenFrom : OK Tryd.prog 58 F_impl_crawler_seenFrom.spec := (vbody_ok (vin_ok TWE_23_ok annTWE 3) TWE_23_ok.looks _ _).ofF fun args m p R h hp => by
  unfold F_impl_crawler_seenFrom at h
  split at h
  · injection h with h; injection h with h1 h2; subst h1; subst h2
    exact ⟨rfl, (congrArg At (eq_impl_crawler_seenFrom _ _ _ _ _ _ _ _ _ _ _)).mp ⟨vc_impl_crawler_seenFrom _ _ _ _ _ _ _ _ _ _ hp⟩⟩
  · cases h
def TWE_24 : Tab := TWE_23.add 58 F_impl_crawler_seenFrom
theorem TWE_24_ok : TWE_24.Ok Tryd.prog := TWE_23_ok.add ok_impl_crawler_seenFrom
theorem eq_impl_crawler_heading (cr : List UInt8) (cw : Int) (ch : Int) (cc : List UInt8) (cx : Int) (cy : Int) (cd : Int) (cl : List UInt8) (q : Int) (K : V → Prop) : VC_impl_crawler_heading cr cw ch cc cx cy cd cl q K = vbody Tryd.prog (vin Tryd.prog TWE_24 annTWE 3) TWE_24.looks (annTWE 88) 88 [.agg [.str cr, .int .i64 cw, .int .i64 ch, .str cc, .int .i64 cx, .int .i64 cy, .int .i64 cd, .str cl], .int .i64 q] [] (fun v _ => K v) := by kernel_rfl
theorem ok_impl_crawler_heading : OK Tryd.prog 88 F_impl_crawler_heading.spec := (vbody_ok (vin_ok TWE_24_ok annTWE 3) TWE_24_ok.looks _ _).ofF fun args m p R h hp => by
  unfold F_impl_crawler_heading at h
  split at h
  · injection h with h; injection h with h1 h2; subst h1; subst h2
    exact ⟨rfl, (congrArg At (eq_impl_crawler_heading _ _ _ _ _ _ _ _ _ _)).mp ⟨vc_impl_crawler_heading _ _ _ _ _ _ _ _ _ hp⟩⟩
  · cases h
def TWE_25 : Tab := TWE_24.add 88 F_impl_crawler_heading
theorem TWE_25_ok : TWE_25.Ok Tryd.prog := TWE_24_ok.add ok_impl_crawler_heading
theorem eq_impl_crawler_crawled (cr : List UInt8) (cw : Int) (ch : Int) (cc : List UInt8) (cx : Int) (cy : Int) (cd : Int) (cl : List UInt8) (K : V → Prop) : VC_impl_crawler_crawled cr cw ch cc cx cy cd cl K = vbody Tryd.prog (vin Tryd.prog TWE_25 annTWE 3) TWE_25.looks (annTWE 61) 61 [.agg [.str cr, .int .i64 cw, .int .i64 ch, .str cc, .int .i64 cx, .int .i64 cy, .int .i64 cd, .str cl]] [] (fun v _ => K v) := by kernel_rfl
theorem ok_impl_crawler_crawled : OK Tryd.prog 61 F_impl_crawler_crawled.spec := (vbody_ok (vin_ok TWE_25_ok annTWE 3) TWE_25_ok.looks _ _).ofF fun args m p R h hp => by
  unfold F_impl_crawler_crawled at h
  split at h
  · injection h with h; injection h with h1 h2; subst h1; subst h2
    exact ⟨rfl, (congrArg At (eq_impl_crawler_crawled _ _ _ _ _ _ _ _ _)).mp ⟨vc_impl_crawler_crawled _ _ _ _ _ _ _ _ hp⟩⟩
  · cases h
def TWE_26 : Tab := TWE_25.add 61 F_impl_crawler_crawled
theorem TWE_26_ok : TWE_26.Ok Tryd.prog := TWE_25_ok.add ok_impl_crawler_crawled
theorem eq_impl_crawler_lineAhead (cr : List UInt8) (cw : Int) (ch : Int) (cc : List UInt8) (cx : Int) (cy : Int) (cd : Int) (cl : List UInt8) (K : V → Prop) : VC_impl_crawler_lineAhead cr cw ch cc cx cy cd cl K = vbody Tryd.prog (vin Tryd.prog TWE_26 annTWE 3) TWE_26.looks (annTWE 75) 75 [.agg [.str cr, .int .i64 cw, .int .i64 ch, .str cc, .int .i64 cx, .int .i64 cy, .int .i64 cd, .str cl]] [] (fun v _ => K v) := by kernel_rfl
theorem ok_impl_crawler_lineAhead : OK Tryd.prog 75 F_impl_crawler_lineAhead.spec := (vbody_ok (vin_ok TWE_26_ok annTWE 3) TWE_26_ok.looks _ _).ofF fun args m p R h hp => by
  unfold F_impl_crawler_lineAhead at h
  split at h
  · injection h with h; injection h with h1 h2; subst h1; subst h2
    exact ⟨rfl, (congrArg At (eq_impl_crawler_lineAhead _ _ _ _ _ _ _ _ _)).mp ⟨vc_impl_crawler_lineAhead _ _ _ _ _ _ _ _ hp⟩⟩
  · cases h
def TWE_27 : Tab := TWE_26.add 75 F_impl_crawler_lineAhead
theorem TWE_27_ok : TWE_27.Ok Tryd.prog := TWE_26_ok.add ok_impl_crawler_lineAhead
theorem eq_impl_crawler_hasLineAhead (cr : List UInt8) (cw : Int) (ch : Int) (cc : List UInt8) (cx : Int) (cy : Int) (cd : Int) (cl : List UInt8) (K : V → Prop) : VC_impl_crawler_hasLineAhead cr cw ch cc cx cy cd cl K = vbody Tryd.prog (vin Tryd.prog TWE_27 annTWE 3) TWE_27.looks (annTWE 59) 59 [.agg [.str cr, .int .i64 cw, .int .i64 ch, .str cc, .int .i64 cx, .int .i64 cy, .int .i64 cd, .str cl]] [] (fun v _ => K v) := by kernel_rfl
theorem ok_impl_crawler_hasLineAhead : OK Tryd.prog 59 F_impl_crawler_hasLineAhead.spec := (vbody_ok (vin_ok TWE_27_ok annTWE 3) TWE_27_ok.looks _ _).ofF fun args m p R h hp => by
  unfold F_impl_crawler_hasLineAhead at h
  split at h
  · injection h with h; injection h with h1 h2; subst h1; subst h2
    exact ⟨rfl, (congrArg At (eq_impl_crawler_hasLineAhead _ _ _ _ _ _ _ _ _)).mp ⟨vc_impl_crawler_hasLineAhead _ _ _ _ _ _ _ _ hp⟩⟩
  · cases h
def TWE_28 : Tab := TWE_27.add 59 F_impl_crawler_hasLineAhead
theorem TWE_28_ok : TWE_28.Ok Tryd.prog := TWE_27_ok.add ok_impl_crawler_hasLineAhead
theorem eq_impl_crawler_withLineAhead (cr : List UInt8) (cw : Int) (ch : Int) (cc : List UInt8) (cx : Int) (cy : Int) (cd : Int) (cl : List UInt8) (s : List UInt8) (K : V → Prop) : VC_impl_crawler_withLineAhead cr cw ch cc cx cy cd cl s K = vbody Tryd.prog (vin Tryd.prog TWE_28 annTWE 3) TWE_28.looks (annTWE 90) 90 [.agg [.str cr, .int .i64 cw, .int .i64 ch, .str cc, .int .i64 cx, .int .i64 cy, .int .i64 cd, .str cl], .str s] [] (fun v _ => K v) := by kernel_rfl
theorem ok_impl_crawler_withLineAhead : OK Tryd.prog 90 F_impl_crawler_withLineAhead.spec := (vbody_ok (vin_ok TWE_28_ok annTWE 3) TWE_28_ok.looks _ _).ofF fun args m p R h hp => by
  unfold F_impl_crawler_withLineAhead at h
  split at h
  · injection h with h; injection h with h1 h2; subst h1; subst h2
    exact ⟨rfl, (congrArg At (eq_impl_crawler_withLineAhead _ _ _ _ _ _ _ _ _ _)).mp ⟨vc_impl_crawler_withLineAhead _ _ _ _ _ _ _ _ _ hp⟩⟩
  · cases h
def TWE_29 : Tab := TWE_28.add 90 F_impl_crawler_withLineAhead
theorem TWE_29_ok : TWE_29.Ok Tryd.prog := TWE_28_ok.add ok_impl_crawler_withLineAhead
theorem eq_impl_crawler_worm (cr : List UInt8) (cw : Int) (ch : Int) (cc : List UInt8) (cx : Int) (cy : Int) (cd : Int) (cl : List UInt8) (K : V → Prop) : VC_impl_crawler_worm cr cw ch cc cx cy cd cl K = vbody Tryd.prog (vin Tryd.prog TWE_29 annTWE 3) TWE_29.looks (annTWE 74) 74 [.agg [.str cr, .int .i64 cw, .int .i64 ch, .str cc, .int .i64 cx, .int .i64 cy, .int .i64 cd, .str cl]] [] (fun v _ => K v) := by kernel_rfl
theorem ok_impl_crawler_worm : OK Tryd.prog 74 F_impl_crawler_worm.spec := (vbody_ok (vin_ok TWE_29_ok annTWE 3) TWE_29_ok.looks _ _).ofF fun args m p R h hp => by
  unfold F_impl_crawler_worm at h
  split at h
  · injection h with h; injection h with h1 h2; subst h1; subst h2
    exact ⟨rfl, (congrArg At (eq_impl_crawler_worm _ _ _ _ _ _ _ _ _)).mp ⟨vc_impl_crawler_worm _ _ _ _ _ _ _ _ hp⟩⟩
  · cases h
def TWE_30 : Tab := TWE_29.add 74 F_impl_crawler_worm
theorem TWE_30_ok : TWE_30.Ok Tryd.prog := TWE_29_ok.add ok_impl_crawler_worm
theorem eq_impl_crawlerOf (mw : Int) (mh : Int) (mr : List UInt8) (mn : List UInt8) (mx : Int) (my : Int) (md : Int) (K : V → Prop) : VC_impl_crawlerOf mw mh mr mn mx my md K = vbody Tryd.prog (vin Tryd.prog TWE_30 annTWE 3) TWE_30.looks (annTWE 37) 37 [.agg [.int .i64 mw, .int .i64 mh, .str mr, .str mn, .int .i64 mx, .int .i64 my, .int .i64 md]] [] (fun v _ => K v) := by kernel_rfl
theorem ok_impl_crawlerOf : OK Tryd.prog 37 F_impl_crawlerOf.spec := (vbody_ok (vin_ok TWE_30_ok annTWE 3) TWE_30_ok.looks _ _).ofF fun args m p R h hp => by
  unfold F_impl_crawlerOf at h
  split at h
  · injection h with h; injection h with h1 h2; subst h1; subst h2
    exact ⟨rfl, (congrArg At (eq_impl_crawlerOf _ _ _ _ _ _ _ _)).mp ⟨vc_impl_crawlerOf _ _ _ _ _ _ _ hp⟩⟩
  · cases h
def TWE_31 : Tab := TWE_30.add 37 F_impl_crawlerOf
theorem TWE_31_ok : TWE_31.Ok Tryd.prog := TWE_30_ok.add ok_impl_crawlerOf
theorem eq_impl_crawler_linesAt (cr : List UInt8) (cw : Int) (ch : Int) (cc : List UInt8) (cx : Int) (cy : Int) (cd : Int) (cl : List UInt8) (k : Int) (K : V → Prop) : VC_impl_crawler_linesAt cr cw ch cc cx cy cd cl k K = vbody Tryd.prog (vin Tryd.prog TWE_31 annTWE 3) TWE_31.looks (annTWE 39) 39 [.agg [.str cr, .int .i64 cw, .int .i64 ch, .str cc, .int .i64 cx, .int .i64 cy, .int .i64 cd, .str cl], .int .i64 k] [] (fun v _ => K v) := by kernel_rfl
theorem ok_impl_crawler_linesAt : OK Tryd.prog 39 F_impl_crawler_linesAt.spec := (vbody_ok (vin_ok TWE_31_ok annTWE 3) TWE_31_ok.looks _ _).ofF fun args m p R h hp => by
  unfold F_impl_crawler_linesAt at h
  split at h
  · injection h with h; injection h with h1 h2; subst h1; subst h2
    exact ⟨rfl, (congrArg At (eq_impl_crawler_linesAt _ _ _ _ _ _ _ _ _ _)).mp ⟨vc_impl_crawler_linesAt _ _ _ _ _ _ _ _ _ hp⟩⟩
  · cases h
def TWE_32 : Tab := TWE_31.add 39 F_impl_crawler_linesAt
theorem TWE_32_ok : TWE_32.Ok Tryd.prog := TWE_31_ok.add ok_impl_crawler_linesAt
theorem eq_impl_crawler_goOn (cr : List UInt8) (cw : Int) (ch : Int) (cc : List UInt8) (cx : Int) (cy : Int) (cd : Int) (cl : List UInt8) (t : List UInt8) (K : V → Prop) : VC_impl_crawler_goOn cr cw ch cc cx cy cd cl t K = vbody Tryd.prog (vin Tryd.prog TWE_32 annTWE 3) TWE_32.looks (annTWE 73) 73 [.agg [.str cr, .int .i64 cw, .int .i64 ch, .str cc, .int .i64 cx, .int .i64 cy, .int .i64 cd, .str cl], .str t] [] (fun v _ => K v) := by kernel_rfl
theorem ok_impl_crawler_goOn : OK Tryd.prog 73 F_impl_crawler_goOn.spec := (vbody_ok (vin_ok TWE_32_ok annTWE 3) TWE_32_ok.looks _ _).ofF fun args m p R h hp => by
  unfold F_impl_crawler_goOn at h
  split at h
  · injection h with h; injection h with h1 h2; subst h1; subst h2
    exact ⟨rfl, (congrArg At (eq_impl_crawler_goOn _ _ _ _ _ _ _ _ _ _)).mp ⟨vc_impl_crawler_goOn _ _ _ _ _ _ _ _ _ hp⟩⟩
  · cases h
def TWE_33 : Tab := TWE_32.add 73 F_impl_crawler_goOn
theorem TWE_33_ok : TWE_33.Ok Tryd.prog := TWE_32_ok.add ok_impl_crawler_goOn
theorem eq_spec_wmLine (mw : Int) (mh : Int) (mr : List UInt8) (mn : List UInt8) (mx : Int) (my : Int) (md : Int) (x : Int) (y : Int) (q : Int) (K : V → Prop) : VC_spec_wmLine mw mh mr mn mx my md x y q K = vbody Tryd.prog (vin Tryd.prog TWE_33 annTWE 3) TWE_33.looks (annTWE 60) 60 [.agg [.int .i64 mw, .int .i64 mh, .str mr, .str mn, .int .i64 mx, .int .i64 my, .int .i64 md], .int .i64 x, .int .i64 y, .int .i64 q] [] (fun v _ => K v) := by kernel_rfl
theorem ok_spec_wmLine : OK Tryd.prog 60 F_spec_wmLine.spec := (vbody_ok (vin_ok TWE_33_ok annTWE 3) TWE_33_ok.looks _ _).ofF fun args m p R h hp => by
  unfold F_spec_wmLine at h
  split at h
  · injection h with h; injection h with h1 h2; subst h1; subst h2
    exact ⟨rfl, (congrArg At (eq_spec_wmLine _ _ _ _ _ _ _ _ _ _ _)).mp ⟨vc_spec_wmLine _ _ _ _ _ _ _ _ _ _ hp⟩⟩
  · cases h
def TWE_34 : Tab := TWE_33.add 60 F_spec_wmLine
theorem TWE_34_ok : TWE_34.Ok Tryd.prog := TWE_33_ok.add ok_spec_wmLine
theorem eq_spec_wmHas (mw : Int) (mh : Int) (mr : List UInt8) (mn : List UInt8) (mx : Int) (my : Int) (md : Int) (x : Int) (y : Int) (q : Int) (K : V → Prop) : VC_spec_wmHas mw mh mr mn mx my md x y q K = vbody Tryd.prog (vin Tryd.prog TWE_34 annTWE 3) TWE_34.looks (annTWE 40) 40 [.agg [.int .i64 mw, .int .i64 mh, .str mr, .str mn, .int .i64 mx, .int .i64 my, .int .i64 md], .int .i64 x, .int .i64 y, .int .i64 q] [] (fun v _ => K v) := by kernel_rfl
theorem ok_spec_wmHas : OK Tryd.prog 40 F_spec_wmHas.spec := (vbody_ok (vin_ok TWE_34_ok annTWE 3) TWE_34_ok.looks _ _).ofF fun args m p R h hp => by
  unfold F_spec_wmHas at h
  split at h
  · injection h with h; injection h with h1 h2; subst h1; subst h2
    exact ⟨rfl, (congrArg At (eq_spec_wmHas _ _ _ _ _ _ _ _ _ _ _)).mp ⟨vc_spec_wmHas _ _ _ _ _ _ _ _ _ _ hp⟩⟩
  · cases h
def TWE_35 : Tab := TWE_34.add 40 F_spec_wmHas
theorem TWE_35_ok : TWE_35.Ok Tryd.prog := TWE_34_ok.add ok_spec_wmHas
theorem eq_spec_wmAt (mw : Int) (mh : Int) (mr : List UInt8) (mn : List UInt8) (mx : Int) (my : Int) (md : Int) (x : Int) (y : Int) (K : V → Prop) : VC_spec_wmAt mw mh mr mn mx my md x y K = vbody Tryd.prog (vin Tryd.prog TWE_35 annTWE 3) TWE_35.looks (annTWE 36) 36 [.agg [.int .i64 mw, .int .i64 mh, .str mr, .str mn, .int .i64 mx, .int .i64 my, .int .i64 md], .int .i64 x, .int .i64 y] [] (fun v _ => K v) := by kernel_rfl
theorem ok_spec_wmAt : OK Tryd.prog 36 F_spec_wmAt.spec := (vbody_ok (vin_ok TWE_35_ok annTWE 3) TWE_35_ok.looks _ _).ofF fun args m p R h hp => by
  unfold F_spec_wmAt at h
  split at h
  · injection h with h; injection h with h1 h2; subst h1; subst h2
    exact ⟨rfl, (congrArg At (eq_spec_wmAt _ _ _ _ _ _ _ _ _ _)).mp ⟨vc_spec_wmAt _ _ _ _ _ _ _ _ _ hp⟩⟩
  · cases h
def TWE_36 : Tab := TWE_35.add 36 F_spec_wmAt
theorem TWE_36_ok : TWE_36.Ok Tryd.prog := TWE_35_ok.add ok_spec_wmAt
theorem eq_spec_wmSet (x : Int) (y : Int) (q : Int) (s : List UInt8) (mw : Int) (mh : Int) (mr : List UInt8) (mn : List UInt8) (mx : Int) (my : Int) (md : Int) (e : TypeId) (K : V → List Blk → Prop) : VC_spec_wmSet x y q s mw mh mr mn mx my md e K = vbody Tryd.prog (vin Tryd.prog TWE_36 annTWE 3) TWE_36.looks (annTWE 70) 70 [.ptr 0 0, .int .i64 x, .int .i64 y, .int .i64 q, .str s] [⟨.vals [.int .i64 mw, .int .i64 mh, .str mr, .str mn, .int .i64 mx, .int .i64 my, .int .i64 md], e, .box⟩] (K) := by kernel_rfl
theorem ok_spec_wmSet : OK Tryd.prog 70 F_spec_wmSet.spec := (vbody_ok (vin_ok TWE_36_ok annTWE 3) TWE_36_ok.looks _ _).ofG fun args m p R M h hp => by
  unfold F_spec_wmSet at h
  split at h
  · injection h with h; injection h with h1 h2; injection h2 with h2 h3; subst h1; subst h2; subst h3
    exact (congrArg At (eq_spec_wmSet _ _ _ _ _ _ _ _ _ _ _ _ _)).mp ⟨vc_spec_wmSet _ _ _ _ _ _ _ _ _ _ _ _ hp⟩
  · cases h
def TWE_37 : Tab := TWE_36.addG 70 F_spec_wmSet
theorem TWE_37_ok : TWE_37.Ok Tryd.prog := TWE_36_ok.addG ok_spec_wmSet
theorem eq_spec_wmGo (q : Int) (k : Int) (mw : Int) (mh : Int) (mr : List UInt8) (mn : List UInt8) (mx : Int) (my : Int) (md : Int) (e : TypeId) (K : V → List Blk → Prop) : VC_spec_wmGo q k mw mh mr mn mx my md e K = vbody Tryd.prog (vin Tryd.prog TWE_37 annTWE 3) TWE_37.looks (annTWE 41) 41 [.ptr 0 0, .int .i64 q, .int .i64 k] [⟨.vals [.int .i64 mw, .int .i64 mh, .str mr, .str mn, .int .i64 mx, .int .i64 my, .int .i64 md], e, .box⟩] (K) := by kernel_rfl
theorem ok_spec_wmGo : OK Tryd.prog 41 F_spec_wmGo.spec := (vbody_ok (vin_ok TWE_37_ok annTWE 3) TWE_37_ok.looks _ _).ofG fun args m p R M h hp => by
  unfold F_spec_wmGo at h
  split at h
  · injection h with h; injection h with h1 h2; injection h2 with h2 h3; subst h1; subst h2; subst h3
    exact (congrArg At (eq_spec_wmGo _ _ _ _ _ _ _ _ _ _ _)).mp ⟨vc_spec_wmGo _ _ _ _ _ _ _ _ _ _ hp⟩
  · cases h
def TWE_38 : Tab := TWE_37.addG 41 F_spec_wmGo
theorem TWE_38_ok : TWE_38.Ok Tryd.prog := TWE_37_ok.addG ok_spec_wmGo
theorem eq_spec_wmEat (t : List UInt8) (mw : Int) (mh : Int) (mr : List UInt8) (mn : List UInt8) (mx : Int) (my : Int) (md : Int) (e : TypeId) (K : V → List Blk → Prop) : VC_spec_wmEat t mw mh mr mn mx my md e K = vbody Tryd.prog (vin Tryd.prog TWE_38 annTWE 3) TWE_38.looks (annTWE 53) 53 [.ptr 0 0, .str t] [⟨.vals [.int .i64 mw, .int .i64 mh, .str mr, .str mn, .int .i64 mx, .int .i64 my, .int .i64 md], e, .box⟩] (K) := by kernel_rfl
theorem ok_spec_wmEat : OK Tryd.prog 53 F_spec_wmEat.spec := (vbody_ok (vin_ok TWE_38_ok annTWE 3) TWE_38_ok.looks _ _).ofG fun args m p R M h hp => by
  unfold F_spec_wmEat at h
  split at h
  · injection h with h; injection h with h1 h2; injection h2 with h2 h3; subst h1; subst h2; subst h3
    exact (congrArg At (eq_spec_wmEat _ _ _ _ _ _ _ _ _ _)).mp ⟨vc_spec_wmEat _ _ _ _ _ _ _ _ _ hp⟩
  · cases h
def TWE_39 : Tab := TWE_38.addG 53 F_spec_wmEat
theorem TWE_39_ok : TWE_39.Ok Tryd.prog := TWE_38_ok.addG ok_spec_wmEat
theorem eq_laws_eqIntS  (n : Nat) (m : Nat) (a : List Int) (b : List Int) (e : TypeId) (k : Kind) (f : TypeId) (q : Kind) (K : V → List Blk → Prop) : VC_laws_eqIntS  n m a b e k f q K = vbody Tryd.prog (vin Tryd.prog TWE_39 annTWE 3) TWE_39.looks (annTWE 18) 18 [.row 0 n, .row 1 m] [⟨.ints .i64 a, e, k⟩, ⟨.ints .i64 b, f, q⟩] (K) := by kernel_rfl
theorem ok_laws_eqIntS : OK Tryd.prog 18 F_laws_eqIntS.spec := (vbody_ok (vin_ok TWE_39_ok annTWE 3) TWE_39_ok.looks _ _).ofFM fun args m p R h hp => by
  unfold F_laws_eqIntS at h
  split at h
  · injection h with h; injection h with h1 h2; subst h1; subst h2
    exact (congrArg At (eq_laws_eqIntS _ _ _ _ _ _ _ _ _)).mp ⟨vc_laws_eqIntS _ _ _ _ _ _ _ _ hp⟩
  · cases h
def TWE_40 : Tab := TWE_39.add 18 F_laws_eqIntS
theorem TWE_40_ok : TWE_40.Ok Tryd.prog := TWE_39_ok.add ok_laws_eqIntS
theorem eq_laws_markIntS (k : Int) (n : Nat) (a : List Int) (K : V → List Blk → Prop) : VC_laws_markIntS k n a K = vbody Tryd.prog (vin Tryd.prog TWE_40 annTWE 3) TWE_40.looks (annTWE 19) 19 [.row 0 n, .int .i64 k] [⟨.ints .i64 (a), 3, .row⟩] (K) := by kernel_rfl
theorem ok_laws_markIntS : OK Tryd.prog 19 F_laws_markIntS.spec := (vbody_ok (vin_ok TWE_40_ok annTWE 3) TWE_40_ok.looks _ _).ofG fun args m p R M h hp => by
  unfold F_laws_markIntS at h
  split at h
  · injection h with h; injection h with h1 h2; injection h2 with h2 h3; subst h1; subst h2; subst h3
    exact (congrArg At (eq_laws_markIntS _ _ _ _)).mp ⟨vc_laws_markIntS _ _ _ hp⟩
  · cases h
def TWE_41 : Tab := TWE_40.addG 19 F_laws_markIntS
theorem TWE_41_ok : TWE_41.Ok Tryd.prog := TWE_40_ok.addG ok_laws_markIntS
theorem eq_laws_heldIntS (q : Int) (n : Nat) (a : List Int) (e : TypeId) (k : Kind) (K : V → List Blk → Prop) : VC_laws_heldIntS q n a e k K = vbody Tryd.prog (vin Tryd.prog TWE_41 annTWE 3) TWE_41.looks (annTWE 20) 20 [.row 0 n, .int .i64 q] [⟨.ints .i64 a, e, k⟩] (K) := by kernel_rfl
theorem ok_laws_heldIntS : OK Tryd.prog 20 F_laws_heldIntS.spec := (vbody_ok (vin_ok TWE_41_ok annTWE 3) TWE_41_ok.looks _ _).ofFM fun args m p R h hp => by
  unfold F_laws_heldIntS at h
  split at h
  · injection h with h; injection h with h1 h2; subst h1; subst h2
    exact (congrArg At (eq_laws_heldIntS _ _ _ _ _ _)).mp ⟨vc_laws_heldIntS _ _ _ _ _ hp⟩
  · cases h
def TWE_42 : Tab := TWE_41.add 20 F_laws_heldIntS
theorem TWE_42_ok : TWE_42.Ok Tryd.prog := TWE_41_ok.add ok_laws_heldIntS
theorem eq_spec_wmLife (mw : Int) (mh : Int) (mr : List UInt8) (mn : List UInt8) (mx : Int) (my : Int) (md : Int) (t : List UInt8) (K : V → List Blk → Prop) : VC_spec_wmLife mw mh mr mn mx my md t K = vbody Tryd.prog (vin Tryd.prog TWE_42 annTWE 3) TWE_42.looks (annTWE 32) 32 [.agg [.int .i64 mw, .int .i64 mh, .str mr, .str mn, .int .i64 mx, .int .i64 my, .int .i64 md], .str t] [] (K) := by kernel_rfl
theorem ok_spec_wmLife : OK Tryd.prog 32 F_spec_wmLife.spec := (vbody_ok (vin_ok TWE_42_ok annTWE 3) TWE_42_ok.looks _ _).ofG fun args m p R M h hp => by
  unfold F_spec_wmLife at h
  split at h
  · injection h with h; injection h with h1 h2; injection h2 with h2 h3; subst h1; subst h2; subst h3
    exact (congrArg At (eq_spec_wmLife _ _ _ _ _ _ _ _ _)).mp ⟨vc_spec_wmLife _ _ _ _ _ _ _ _ hp⟩
  · cases h
def TWE_43 : Tab := TWE_42.addG 32 F_spec_wmLife
theorem TWE_43_ok : TWE_43.Ok Tryd.prog := TWE_42_ok.addG ok_spec_wmLife
theorem eq_impl_lived (mw : Int) (mh : Int) (mr : List UInt8) (mn : List UInt8) (mx : Int) (my : Int) (md : Int) (t : List UInt8) (g0 : List UInt8) (g1 : List UInt8) (g2 : List UInt8) (g3 : List UInt8) (g4 : List UInt8) (g5 : List UInt8) (K : V → List Blk → Prop) : VC_impl_lived mw mh mr mn mx my md t g0 g1 g2 g3 g4 g5 K = vbody Tryd.prog (vin Tryd.prog TWE_43 annTWE 3) TWE_43.looks (annTWE 57) 57 [.agg [.int .i64 mw, .int .i64 mh, .str mr, .str mn, .int .i64 mx, .int .i64 my, .int .i64 md], .str t] [⟨.vals [.str g0, .str g1, .str g2, .str g3, .str g4, .str g5], 9, .gl 0⟩] (K) := by kernel_rfl
theorem ok_impl_lived : OK Tryd.prog 57 F_impl_lived.spec := (vbody_ok (vin_ok TWE_43_ok annTWE 3) TWE_43_ok.looks _ _).ofG fun args m p R M h hp => by
  unfold F_impl_lived at h
  split at h
  · injection h with h; injection h with h1 h2; injection h2 with h2 h3; subst h1; subst h2; subst h3
    exact (congrArg At (eq_impl_lived _ _ _ _ _ _ _ _ _ _ _ _ _ _ _)).mp ⟨vc_impl_lived _ _ _ _ _ _ _ _ _ _ _ _ _ _ hp⟩
  · cases h
def TWE_44 : Tab := TWE_43.addG 57 F_impl_lived
theorem TWE_44_ok : TWE_44.Ok Tryd.prog := TWE_43_ok.addG ok_impl_lived
theorem eq_impl_LifeOf (mw : Int) (mh : Int) (mr : List UInt8) (mn : List UInt8) (mx : Int) (my : Int) (md : Int) (t : List UInt8) (g0 : List UInt8) (g1 : List UInt8) (g2 : List UInt8) (g3 : List UInt8) (g4 : List UInt8) (g5 : List UInt8) (K : V → List Blk → Prop) : VC_impl_LifeOf mw mh mr mn mx my md t g0 g1 g2 g3 g4 g5 K = vbody Tryd.prog (vin Tryd.prog TWE_44 annTWE 3) TWE_44.looks (annTWE 34) 34 [.agg [.int .i64 mw, .int .i64 mh, .str mr, .str mn, .int .i64 mx, .int .i64 my, .int .i64 md], .str t] [⟨.vals [.str g0, .str g1, .str g2, .str g3, .str g4, .str g5], 9, .gl 0⟩] (K) := by kernel_rfl
theorem ok_impl_LifeOf : OK Tryd.prog 34 F_impl_LifeOf.spec := (vbody_ok (vin_ok TWE_44_ok annTWE 3) TWE_44_ok.looks _ _).ofFM fun args m p R h hp => by
  unfold F_impl_LifeOf at h
  split at h
  · injection h with h; injection h with h1 h2; subst h1; subst h2
    exact (congrArg At (eq_impl_LifeOf _ _ _ _ _ _ _ _ _ _ _ _ _ _ _)).mp ⟨vc_impl_LifeOf _ _ _ _ _ _ _ _ _ _ _ _ _ _ hp⟩
  · cases h
def TWE_45 : Tab := TWE_44.add 34 F_impl_LifeOf
theorem TWE_45_ok : TWE_45.Ok Tryd.prog := TWE_44_ok.add ok_impl_LifeOf
theorem eq_laws_eqStringS  (n : Nat) (m : Nat) (a : List (List UInt8)) (b : List (List UInt8)) (e : TypeId) (k : Kind) (f : TypeId) (q : Kind) (K : V → List Blk → Prop) : VC_laws_eqStringS  n m a b e k f q K = vbody Tryd.prog (vin Tryd.prog TWE_45 annTWE 3) TWE_45.looks (annTWE 13) 13 [.row 0 n, .row 1 m] [⟨.strs (a), e, k⟩, ⟨.strs (b), f, q⟩] (K) := by kernel_rfl
theorem ok_laws_eqStringS : OK Tryd.prog 13 F_laws_eqStringS.spec := (vbody_ok (vin_ok TWE_45_ok annTWE 3) TWE_45_ok.looks _ _).ofFM fun args m p R h hp => by
  unfold F_laws_eqStringS at h
  split at h
  · injection h with h; injection h with h1 h2; subst h1; subst h2
    exact (congrArg At (eq_laws_eqStringS _ _ _ _ _ _ _ _ _)).mp ⟨vc_laws_eqStringS _ _ _ _ _ _ _ _ hp⟩
  · cases h
def TWE_46 : Tab := TWE_45.add 13 F_laws_eqStringS
theorem TWE_46_ok : TWE_46.Ok Tryd.prog := TWE_45_ok.add ok_laws_eqStringS
theorem eq_laws_markText (k : Int) (K : V → Prop) : VC_laws_markText k K = vbody Tryd.prog (vin Tryd.prog TWE_46 annTWE 3) TWE_46.looks (annTWE 35) 35 [.int .i64 k] [] (fun v _ => K v) := by kernel_rfl
theorem ok_laws_markText : OK Tryd.prog 35 F_laws_markText.spec := (vbody_ok (vin_ok TWE_46_ok annTWE 3) TWE_46_ok.looks _ _).ofF fun args m p R h hp => by
  unfold F_laws_markText at h
  split at h
  · injection h with h; injection h with h1 h2; subst h1; subst h2
    exact ⟨rfl, (congrArg At (eq_laws_markText _ _)).mp ⟨vc_laws_markText _ hp⟩⟩
  · cases h
def TWE_47 : Tab := TWE_46.add 35 F_laws_markText
theorem TWE_47_ok : TWE_47.Ok Tryd.prog := TWE_46_ok.add ok_laws_markText
theorem eq_laws_markStringS (k : Int) (n : Nat) (a : List (List UInt8)) (K : V → List Blk → Prop) : VC_laws_markStringS k n a K = vbody Tryd.prog (vin Tryd.prog TWE_47 annTWE 3) TWE_47.looks (annTWE 14) 14 [.row 0 n, .int .i64 k] [⟨.strs (a), 9, .row⟩] (K) := by kernel_rfl
theorem ok_laws_markStringS : OK Tryd.prog 14 F_laws_markStringS.spec := (vbody_ok (vin_ok TWE_47_ok annTWE 3) TWE_47_ok.looks _ _).ofG fun args m p R M h hp => by
  unfold F_laws_markStringS at h
  split at h
  · injection h with h; injection h with h1 h2; injection h2 with h2 h3; subst h1; subst h2; subst h3
    exact (congrArg At (eq_laws_markStringS _ _ _ _)).mp ⟨vc_laws_markStringS _ _ _ hp⟩
  · cases h
def TWE_48 : Tab := TWE_47.addG 14 F_laws_markStringS
theorem TWE_48_ok : TWE_48.Ok Tryd.prog := TWE_47_ok.addG ok_laws_markStringS
theorem eq_laws_heldStringS (q : Int) (n : Nat) (a : List (List UInt8)) (K : V → List Blk → Prop) : VC_laws_heldStringS q n a K = vbody Tryd.prog (vin Tryd.prog TWE_48 annTWE 3) TWE_48.looks (annTWE 15) 15 [.row 0 n, .int .i64 q] [⟨.strs (a), 9, .row⟩] (K) := by kernel_rfl
theorem ok_laws_heldStringS : OK Tryd.prog 15 F_laws_heldStringS.spec := (vbody_ok (vin_ok TWE_48_ok annTWE 3) TWE_48_ok.looks _ _).ofFM fun args m p R h hp => by
  unfold F_laws_heldStringS at h
  split at h
  · injection h with h; injection h with h1 h2; subst h1; subst h2
    exact (congrArg At (eq_laws_heldStringS _ _ _ _)).mp ⟨vc_laws_heldStringS _ _ _ hp⟩
  · cases h
def TWE_49 : Tab := TWE_48.add 15 F_laws_heldStringS
theorem TWE_49_ok : TWE_49.Ok Tryd.prog := TWE_48_ok.add ok_laws_heldStringS
theorem eq_spec_OddNodes (mw : Int) (mh : Int) (mr : List UInt8) (mn : List UInt8) (mx : Int) (my : Int) (md : Int) (K : V → List Blk → Prop) : VC_spec_OddNodes mw mh mr mn mx my md K = vbody Tryd.prog (vin Tryd.prog TWE_49 annTWE 3) TWE_49.looks (annTWE 16) 16 [.agg [.int .i64 mw, .int .i64 mh, .str mr, .str mn, .int .i64 mx, .int .i64 my, .int .i64 md]] [] (K) := by kernel_rfl
theorem ok_spec_OddNodes : OK Tryd.prog 16 F_spec_OddNodes.spec := (vbody_ok (vin_ok TWE_49_ok annTWE 3) TWE_49_ok.looks _ _).ofG fun args m p R M h hp => by
  unfold F_spec_OddNodes at h
  split at h
  · injection h with h; injection h with h1 h2; injection h2 with h2 h3; subst h1; subst h2; subst h3
    exact (congrArg At (eq_spec_OddNodes _ _ _ _ _ _ _ _)).mp ⟨vc_spec_OddNodes _ _ _ _ _ _ _ hp⟩
  · cases h
def TWE_50 : Tab := TWE_49.addG 16 F_spec_OddNodes
theorem TWE_50_ok : TWE_50.Ok Tryd.prog := TWE_49_ok.addG ok_spec_OddNodes
theorem eq_impl_OddNodes (mw : Int) (mh : Int) (mr : List UInt8) (mn : List UInt8) (mx : Int) (my : Int) (md : Int) (K : V → List Blk → Prop) : VC_impl_OddNodes mw mh mr mn mx my md K = vbody Tryd.prog (vin Tryd.prog TWE_50 annTWE 3) TWE_50.looks (annTWE 17) 17 [.agg [.int .i64 mw, .int .i64 mh, .str mr, .str mn, .int .i64 mx, .int .i64 my, .int .i64 md]] [] (K) := by kernel_rfl
theorem ok_impl_OddNodes : OK Tryd.prog 17 F_impl_OddNodes.spec := (vbody_ok (vin_ok TWE_50_ok annTWE 3) TWE_50_ok.looks _ _).ofG fun args m p R M h hp => by
  unfold F_impl_OddNodes at h
  split at h
  · injection h with h; injection h with h1 h2; injection h2 with h2 h3; subst h1; subst h2; subst h3
    exact (congrArg At (eq_impl_OddNodes _ _ _ _ _ _ _ _)).mp ⟨vc_impl_OddNodes _ _ _ _ _ _ _ hp⟩
  · cases h
def TWE_51 : Tab := TWE_50.addG 17 F_impl_OddNodes
theorem TWE_51_ok : TWE_51.Ok Tryd.prog := TWE_50_ok.addG ok_impl_OddNodes
theorem eq_spec_LongestLife (mw : Int) (mh : Int) (mr : List UInt8) (mn : List UInt8) (mx : Int) (my : Int) (md : Int) (K : V → List Blk → Prop) : VC_spec_LongestLife mw mh mr mn mx my md K = vbody Tryd.prog (vin Tryd.prog TWE_51 annTWE 3) TWE_51.looks (annTWE 10) 10 [.agg [.int .i64 mw, .int .i64 mh, .str mr, .str mn, .int .i64 mx, .int .i64 my, .int .i64 md]] [] (K) := by kernel_rfl
theorem ok_spec_LongestLife : OK Tryd.prog 10 F_spec_LongestLife.spec := (vbody_ok (vin_ok TWE_51_ok annTWE 3) TWE_51_ok.looks _ _).ofG fun args m p R M h hp => by
  unfold F_spec_LongestLife at h
  split at h
  · injection h with h; injection h with h1 h2; injection h2 with h2 h3; subst h1; subst h2; subst h3
    exact (congrArg At (eq_spec_LongestLife _ _ _ _ _ _ _ _)).mp ⟨vc_spec_LongestLife _ _ _ _ _ _ _ hp⟩
  · cases h
def TWE_52 : Tab := TWE_51.addG 10 F_spec_LongestLife
theorem TWE_52_ok : TWE_52.Ok Tryd.prog := TWE_51_ok.addG ok_spec_LongestLife
theorem eq_impl_LongestLife (mw : Int) (mh : Int) (mr : List UInt8) (mn : List UInt8) (mx : Int) (my : Int) (md : Int) (g0 : List UInt8) (g1 : List UInt8) (g2 : List UInt8) (g3 : List UInt8) (g4 : List UInt8) (g5 : List UInt8) (K : V → List Blk → Prop) : VC_impl_LongestLife mw mh mr mn mx my md g0 g1 g2 g3 g4 g5 K = vbody Tryd.prog (vin Tryd.prog TWE_52 annTWE 3) TWE_52.looks (annTWE 12) 12 [.agg [.int .i64 mw, .int .i64 mh, .str mr, .str mn, .int .i64 mx, .int .i64 my, .int .i64 md]] [⟨.vals [.str g0, .str g1, .str g2, .str g3, .str g4, .str g5], 9, .gl 0⟩] (K) := by kernel_rfl
theorem ok_impl_LongestLife : OK Tryd.prog 12 F_impl_LongestLife.spec := (vbody_ok (vin_ok TWE_52_ok annTWE 3) TWE_52_ok.looks _ _).ofG fun args m p R M h hp => by
  unfold F_impl_LongestLife at h
  split at h
  · injection h with h; injection h with h1 h2; injection h2 with h2 h3; subst h1; subst h2; subst h3
    exact (congrArg At (eq_impl_LongestLife _ _ _ _ _ _ _ _ _ _ _ _ _ _)).mp ⟨vc_impl_LongestLife _ _ _ _ _ _ _ _ _ _ _ _ _ hp⟩
  · cases h
def TWE_53 : Tab := TWE_52.addG 12 F_impl_LongestLife
theorem TWE_53_ok : TWE_53.Ok Tryd.prog := TWE_52_ok.addG ok_impl_LongestLife
def TWE : Tab := TWE_53
theorem TWE_ok : TWE.Ok Tryd.prog := TWE_53_ok
end Go.Proofs.YtioppaofihbmpabDoor
