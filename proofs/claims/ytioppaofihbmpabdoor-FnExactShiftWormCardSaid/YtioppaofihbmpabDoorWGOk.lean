/- The contracts of this chapter. -/
import Derived.Test.YtioppaofihbmpabDoorWALib
import Derived.Test.YtioppaofihbmpabDoorProg
import Derived.Test.YtioppaofihbmpabDoorWGPf
import Derived.KernelRfl
namespace Go.Proofs.YtioppaofihbmpabDoor
open Go Go.Vi
set_option linter.unusedVariables false
def annTWG : FuncId → Nat → St → Option Ann := fun f => if f = 47 then ann_impl_relaidCells else if f = 30 then ann_spec_wmGood else if f = 39 then ann_impl_crawler_linesAt else if f = 73 then ann_impl_crawler_goOn else if f = 36 then ann_spec_wmAt else if f = 53 then ann_spec_wmEat else if f = 23 then ann_spec_ShiftWorm else (fun _ _ => none)
def TWG_0 : Tab := Tab.none
theorem TWG_0_ok : TWG_0.Ok Tryd.prog := Tab.none_ok
theorem eq_spec_l1In (n : Int) (lo : Int) (hi : Int) (K : V → Prop) : VC_spec_l1In n lo hi K = vbody Tryd.prog (vin Tryd.prog TWG_0 annTWG 3) TWG_0.looks (annTWG 43) 43 [.int .i64 n, .int .i64 lo, .int .i64 hi] [] (fun v _ => K v) := by kernel_rfl
theorem ok_spec_l1In : OK Tryd.prog 43 F_spec_l1In.spec := (vbody_ok (vin_ok TWG_0_ok annTWG 3) TWG_0_ok.looks _ _).ofF fun args m p R h hp => by
  unfold F_spec_l1In at h
  split at h
  · injection h with h; injection h with h1 h2; subst h1; subst h2
    exact ⟨rfl, (congrArg At (eq_spec_l1In _ _ _ _)).mp ⟨vc_spec_l1In _ _ _ hp⟩⟩
  · cases h
def TWG_1 : Tab := TWG_0.add 43 F_spec_l1In
theorem TWG_1_ok : TWG_1.Ok Tryd.prog := TWG_0_ok.add ok_spec_l1In
theorem eq_impl_within (n : Int) (lo : Int) (hi : Int) (K : V → Prop) : VC_impl_within n lo hi K = vbody Tryd.prog (vin Tryd.prog TWG_1 annTWG 3) TWG_1.looks (annTWG 63) 63 [.int .i64 n, .int .i64 lo, .int .i64 hi] [] (fun v _ => K v) := by kernel_rfl
theorem ok_impl_within : OK Tryd.prog 63 F_impl_within.spec := (vbody_ok (vin_ok TWG_1_ok annTWG 3) TWG_1_ok.looks _ _).ofF fun args m p R h hp => by
  unfold F_impl_within at h
  split at h
  · injection h with h; injection h with h1 h2; subst h1; subst h2
    exact ⟨rfl, (congrArg At (eq_impl_within _ _ _ _)).mp ⟨vc_impl_within _ _ _ hp⟩⟩
  · cases h
def TWG_2 : Tab := TWG_1.add 63 F_impl_within
theorem TWG_2_ok : TWG_2.Ok Tryd.prog := TWG_1_ok.add ok_impl_within
theorem eq_spec_wmGood (mw : Int) (mh : Int) (mr : List UInt8) (mn : List UInt8) (mx : Int) (my : Int) (md : Int) (K : V → Prop) : VC_spec_wmGood mw mh mr mn mx my md K = vbody Tryd.prog (vin Tryd.prog TWG_2 annTWG 3) TWG_2.looks (annTWG 30) 30 [.agg [.int .i64 mw, .int .i64 mh, .str mr, .str mn, .int .i64 mx, .int .i64 my, .int .i64 md]] [] (fun v _ => K v) := by kernel_rfl
theorem ok_spec_wmGood : OK Tryd.prog 30 F_spec_wmGood.spec := (vbody_ok (vin_ok TWG_2_ok annTWG 3) TWG_2_ok.looks _ _).ofF fun args m p R h hp => by
  unfold F_spec_wmGood at h
  split at h
  · injection h with h; injection h with h1 h2; subst h1; subst h2
    exact ⟨rfl, (congrArg At (eq_spec_wmGood _ _ _ _ _ _ _ _)).mp ⟨vc_spec_wmGood _ _ _ _ _ _ _ hp⟩⟩
  · cases h
def TWG_3 : Tab := TWG_2.add 30 F_spec_wmGood
theorem TWG_3_ok : TWG_3.Ok Tryd.prog := TWG_2_ok.add ok_spec_wmGood
theorem ok_strings_Trim : OK Tryd.prog 71 F_strings_Trim.spec := Go.Proofs.Tryd.libTrim
def TWG_4 : Tab := TWG_3.add 71 F_strings_Trim
theorem TWG_4_ok : TWG_4.Ok Tryd.prog := TWG_3_ok.add ok_strings_Trim
theorem eq_impl_isGrid (a : Int) (b : Int) (K : V → Prop) : VC_impl_isGrid a b K = vbody Tryd.prog (vin Tryd.prog TWG_4 annTWG 3) TWG_4.looks (annTWG 54) 54 [.int .i64 a, .int .i64 b] [] (fun v _ => K v) := by kernel_rfl
theorem ok_impl_isGrid : OK Tryd.prog 54 F_impl_isGrid.spec := (vbody_ok (vin_ok TWG_4_ok annTWG 3) TWG_4_ok.looks _ _).ofF fun args m p R h hp => by
  unfold F_impl_isGrid at h
  split at h
  · injection h with h; injection h with h1 h2; subst h1; subst h2
    exact ⟨rfl, (congrArg At (eq_impl_isGrid _ _ _)).mp ⟨vc_impl_isGrid _ _ hp⟩⟩
  · cases h
def TWG_5 : Tab := TWG_4.add 54 F_impl_isGrid
theorem TWG_5_ok : TWG_5.Ok Tryd.prog := TWG_4_ok.add ok_impl_isGrid
theorem eq_impl_hasNode (mw : Int) (mh : Int) (mr : List UInt8) (mn : List UInt8) (mx : Int) (my : Int) (md : Int) (x : Int) (y : Int) (K : V → Prop) : VC_impl_hasNode mw mh mr mn mx my md x y K = vbody Tryd.prog (vin Tryd.prog TWG_5 annTWG 3) TWG_5.looks (annTWG 45) 45 [.agg [.int .i64 mw, .int .i64 mh, .str mr, .str mn, .int .i64 mx, .int .i64 my, .int .i64 md], .int .i64 x, .int .i64 y] [] (fun v _ => K v) := by kernel_rfl
theorem ok_impl_hasNode : OK Tryd.prog 45 F_impl_hasNode.spec := (vbody_ok (vin_ok TWG_5_ok annTWG 3) TWG_5_ok.looks _ _).ofF fun args m p R h hp => by
  unfold F_impl_hasNode at h
  split at h
  · injection h with h; injection h with h1 h2; subst h1; subst h2
    exact ⟨rfl, (congrArg At (eq_impl_hasNode _ _ _ _ _ _ _ _ _ _)).mp ⟨vc_impl_hasNode _ _ _ _ _ _ _ _ _ hp⟩⟩
  · cases h
def TWG_6 : Tab := TWG_5.add 45 F_impl_hasNode
theorem TWG_6_ok : TWG_6.Ok Tryd.prog := TWG_5_ok.add ok_impl_hasNode
theorem eq_impl_isWay (d : Int) (K : V → Prop) : VC_impl_isWay d K = vbody Tryd.prog (vin Tryd.prog TWG_6 annTWG 3) TWG_6.looks (annTWG 55) 55 [.int .i64 d] [] (fun v _ => K v) := by kernel_rfl
theorem ok_impl_isWay : OK Tryd.prog 55 F_impl_isWay.spec := (vbody_ok (vin_ok TWG_6_ok annTWG 3) TWG_6_ok.looks _ _).ofF fun args m p R h hp => by
  unfold F_impl_isWay at h
  split at h
  · injection h with h; injection h with h1 h2; subst h1; subst h2
    exact ⟨rfl, (congrArg At (eq_impl_isWay _ _)).mp ⟨vc_impl_isWay _ hp⟩⟩
  · cases h
def TWG_7 : Tab := TWG_6.add 55 F_impl_isWay
theorem TWG_7_ok : TWG_7.Ok Tryd.prog := TWG_6_ok.add ok_impl_isWay
theorem eq_impl_areLines (s : List UInt8) (n : Int) (K : V → Prop) : VC_impl_areLines s n K = vbody Tryd.prog (vin Tryd.prog TWG_7 annTWG 3) TWG_7.looks (annTWG 56) 56 [.str s, .int .i64 n] [] (fun v _ => K v) := by kernel_rfl
theorem ok_impl_areLines : OK Tryd.prog 56 F_impl_areLines.spec := (vbody_ok (vin_ok TWG_7_ok annTWG 3) TWG_7_ok.looks _ _).ofF fun args m p R h hp => by
  unfold F_impl_areLines at h
  split at h
  · injection h with h; injection h with h1 h2; subst h1; subst h2
    exact ⟨rfl, (congrArg At (eq_impl_areLines _ _ _)).mp ⟨vc_impl_areLines _ _ hp⟩⟩
  · cases h
def TWG_8 : Tab := TWG_7.add 56 F_impl_areLines
theorem TWG_8_ok : TWG_8.Ok Tryd.prog := TWG_7_ok.add ok_impl_areLines
theorem eq_impl_IsWorm (mw : Int) (mh : Int) (mr : List UInt8) (mn : List UInt8) (mx : Int) (my : Int) (md : Int) (K : V → Prop) : VC_impl_IsWorm mw mh mr mn mx my md K = vbody Tryd.prog (vin Tryd.prog TWG_8 annTWG 3) TWG_8.looks (annTWG 33) 33 [.agg [.int .i64 mw, .int .i64 mh, .str mr, .str mn, .int .i64 mx, .int .i64 my, .int .i64 md]] [] (fun v _ => K v) := by kernel_rfl
theorem ok_impl_IsWorm : OK Tryd.prog 33 F_impl_IsWorm.spec := (vbody_ok (vin_ok TWG_8_ok annTWG 3) TWG_8_ok.looks _ _).ofF fun args m p R h hp => by
  unfold F_impl_IsWorm at h
  split at h
  · injection h with h; injection h with h1 h2; subst h1; subst h2
    exact ⟨rfl, (congrArg At (eq_impl_IsWorm _ _ _ _ _ _ _ _)).mp ⟨vc_impl_IsWorm _ _ _ _ _ _ _ hp⟩⟩
  · cases h
def TWG_9 : Tab := TWG_8.add 33 F_impl_IsWorm
theorem TWG_9_ok : TWG_9.Ok Tryd.prog := TWG_8_ok.add ok_impl_IsWorm
theorem eq_laws_szWorm (mw : Int) (mh : Int) (mr : List UInt8) (mn : List UInt8) (mx : Int) (my : Int) (md : Int) (left : Int) (K : V → Prop) : VC_laws_szWorm mw mh mr mn mx my md left K = vbody Tryd.prog (vin Tryd.prog TWG_9 annTWG 3) TWG_9.looks (annTWG 9) 9 [.agg [.int .i64 mw, .int .i64 mh, .str mr, .str mn, .int .i64 mx, .int .i64 my, .int .i64 md], .int .i64 left] [] (fun v _ => K v) := by kernel_rfl
theorem ok_laws_szWorm : OK Tryd.prog 9 F_laws_szWorm.spec := (vbody_ok (vin_ok TWG_9_ok annTWG 3) TWG_9_ok.looks _ _).ofF fun args m p R h hp => by
  unfold F_laws_szWorm at h
  split at h
  · injection h with h; injection h with h1 h2; subst h1; subst h2
    exact ⟨rfl, (congrArg At (eq_laws_szWorm _ _ _ _ _ _ _ _ _)).mp ⟨vc_laws_szWorm _ _ _ _ _ _ _ _ hp⟩⟩
  · cases h
def TWG_10 : Tab := TWG_9.add 9 F_laws_szWorm
theorem TWG_10_ok : TWG_10.Ok Tryd.prog := TWG_9_ok.add ok_laws_szWorm
theorem eq_laws_toWorm (mw : Int) (mh : Int) (mr : List UInt8) (mn : List UInt8) (mx : Int) (my : Int) (md : Int) (K : V → Prop) : VC_laws_toWorm mw mh mr mn mx my md K = vbody Tryd.prog (vin Tryd.prog TWG_10 annTWG 3) TWG_10.looks (annTWG 11) 11 [.agg [.int .i64 mw, .int .i64 mh, .str mr, .str mn, .int .i64 mx, .int .i64 my, .int .i64 md]] [] (fun v _ => K v) := by kernel_rfl
theorem ok_laws_toWorm : OK Tryd.prog 11 F_laws_toWorm.spec := (vbody_ok (vin_ok TWG_10_ok annTWG 3) TWG_10_ok.looks _ _).ofF fun args m p R h hp => by
  unfold F_laws_toWorm at h
  split at h
  · injection h with h; injection h with h1 h2; subst h1; subst h2
    exact ⟨rfl, (congrArg At (eq_laws_toWorm _ _ _ _ _ _ _ _)).mp ⟨vc_laws_toWorm _ _ _ _ _ _ _ hp⟩⟩
  · cases h
def TWG_11 : Tab := TWG_10.add 11 F_laws_toWorm
theorem TWG_11_ok : TWG_11.Ok Tryd.prog := TWG_10_ok.add ok_laws_toWorm
theorem eq_laws_eqWorm (aw : Int) (ah : Int) (ar : List UInt8) (an : List UInt8) (ax : Int) (ay : Int) (ad : Int) (bw : Int) (bh : Int) (br : List UInt8) (bn : List UInt8) (bx : Int) (by_ : Int) (bd : Int) (K : V → Prop) : VC_laws_eqWorm aw ah ar an ax ay ad bw bh br bn bx by_ bd K = vbody Tryd.prog (vin Tryd.prog TWG_11 annTWG 3) TWG_11.looks (annTWG 25) 25 [.agg [.int .i64 aw, .int .i64 ah, .str ar, .str an, .int .i64 ax, .int .i64 ay, .int .i64 ad], .agg [.int .i64 bw, .int .i64 bh, .str br, .str bn, .int .i64 bx, .int .i64 by_, .int .i64 bd]] [] (fun v _ => K v) := by kernel_rfl
theorem ok_laws_eqWorm : OK Tryd.prog 25 F_laws_eqWorm.spec := (vbody_ok (vin_ok TWG_11_ok annTWG 3) TWG_11_ok.looks _ _).ofF fun args m p R h hp => by
  unfold F_laws_eqWorm at h
  split at h
  · injection h with h; injection h with h1 h2; subst h1; subst h2
    exact ⟨rfl, (congrArg At (eq_laws_eqWorm _ _ _ _ _ _ _ _ _ _ _ _ _ _ _)).mp ⟨vc_laws_eqWorm _ _ _ _ _ _ _ _ _ _ _ _ _ _ hp⟩⟩
  · cases h
def TWG_12 : Tab := TWG_11.add 25 F_laws_eqWorm
theorem TWG_12_ok : TWG_12.Ok Tryd.prog := TWG_11_ok.add ok_laws_eqWorm
theorem eq_spec_wmTastes  (K : V → List Blk → Prop) : VC_spec_wmTastes  K = vbody Tryd.prog (vin Tryd.prog TWG_12 annTWG 3) TWG_12.looks (annTWG 31) 31 [] [] (K) := by kernel_rfl
theorem ok_spec_wmTastes : OK Tryd.prog 31 F_spec_wmTastes.spec := (vbody_ok (vin_ok TWG_12_ok annTWG 3) TWG_12_ok.looks _ _).ofG fun args m p R M h hp => by
  unfold F_spec_wmTastes at h
  split at h
  · injection h with h; injection h with h1 h2; injection h2 with h2 h3; subst h1; subst h2; subst h3
    exact (congrArg At (eq_spec_wmTastes  _)).mp ⟨vc_spec_wmTastes  hp⟩
  · cases h
def TWG_13 : Tab := TWG_12.addG 31 F_spec_wmTastes
theorem TWG_13_ok : TWG_13.Ok Tryd.prog := TWG_12_ok.addG ok_spec_wmTastes
theorem ok_strings_Count : OK Tryd.prog 79 F_strings_Count.spec := Go.Proofs.Tryd.libCount
def TWG_14 : Tab := TWG_13.add 79 F_strings_Count
theorem TWG_14_ok : TWG_14.Ok Tryd.prog := TWG_13_ok.add ok_strings_Count
theorem eq_spec_l1Mod (n : Int) (m : Int) (K : V → Prop) : VC_spec_l1Mod n m K = vbody Tryd.prog (vin Tryd.prog TWG_14 annTWG 3) TWG_14.looks (annTWG 44) 44 [.int .i64 n, .int .i64 m] [] (fun v _ => K v) := by kernel_rfl
theorem ok_spec_l1Mod : OK Tryd.prog 44 F_spec_l1Mod.spec := (vbody_ok (vin_ok TWG_14_ok annTWG 3) TWG_14_ok.looks _ _).ofF fun args m p R h hp => by
  unfold F_spec_l1Mod at h
  split at h
  · injection h with h; injection h with h1 h2; subst h1; subst h2
    exact ⟨rfl, (congrArg At (eq_spec_l1Mod _ _ _)).mp ⟨vc_spec_l1Mod _ _ hp⟩⟩
  · cases h
def TWG_15 : Tab := TWG_14.add 44 F_spec_l1Mod
theorem TWG_15_ok : TWG_15.Ok Tryd.prog := TWG_14_ok.add ok_spec_l1Mod
theorem eq_spec_woTurn (b : Int) (K : V → Prop) : VC_spec_woTurn b K = vbody Tryd.prog (vin Tryd.prog TWG_15 annTWG 3) TWG_15.looks (annTWG 69) 69 [.int .u8 b] [] (fun v _ => K v) := by kernel_rfl
theorem ok_spec_woTurn : OK Tryd.prog 69 F_spec_woTurn.spec := (vbody_ok (vin_ok TWG_15_ok annTWG 3) TWG_15_ok.looks _ _).ofF fun args m p R h hp => by
  unfold F_spec_woTurn at h
  split at h
  · injection h with h; injection h with h1 h2; subst h1; subst h2
    exact ⟨rfl, (congrArg At (eq_spec_woTurn _ _)).mp ⟨vc_spec_woTurn _ hp⟩⟩
  · cases h
def TWG_16 : Tab := TWG_15.add 69 F_spec_woTurn
theorem TWG_16_ok : TWG_16.Ok Tryd.prog := TWG_15_ok.add ok_spec_woTurn
theorem eq_impl_quarters (b : Int) (K : V → Prop) : VC_impl_quarters b K = vbody Tryd.prog (vin Tryd.prog TWG_16 annTWG 3) TWG_16.looks (annTWG 89) 89 [.int .u8 b] [] (fun v _ => K v) := by kernel_rfl
theorem ok_impl_quarters : OK Tryd.prog 89 F_impl_quarters.spec := (vbody_ok (vin_ok TWG_16_ok annTWG 3) TWG_16_ok.looks _ _).ofF fun args m p R h hp => by
  unfold F_impl_quarters at h
  split at h
  · injection h with h; injection h with h1 h2; subst h1; subst h2
    exact ⟨rfl, (congrArg At (eq_impl_quarters _ _)).mp ⟨vc_impl_quarters _ hp⟩⟩
  · cases h
def TWG_17 : Tab := TWG_16.add 89 F_impl_quarters
theorem TWG_17_ok : TWG_17.Ok Tryd.prog := TWG_16_ok.add ok_impl_quarters
theorem eq_impl_direction (d : Int) (K : V → Prop) : VC_impl_direction d K = vbody Tryd.prog (vin Tryd.prog TWG_17 annTWG 3) TWG_17.looks (annTWG 91) 91 [.int .i64 d] [] (fun v _ => K v) := by kernel_rfl
theorem ok_impl_direction : OK Tryd.prog 91 F_impl_direction.spec := (vbody_ok (vin_ok TWG_17_ok annTWG 3) TWG_17_ok.looks _ _).ofF fun args m p R h hp => by
  unfold F_impl_direction at h
  split at h
  · injection h with h; injection h with h1 h2; subst h1; subst h2
    exact ⟨rfl, (congrArg At (eq_impl_direction _ _)).mp ⟨vc_impl_direction _ hp⟩⟩
  · cases h
def TWG_18 : Tab := TWG_17.add 91 F_impl_direction
theorem TWG_18_ok : TWG_18.Ok Tryd.prog := TWG_17_ok.add ok_impl_direction
theorem eq_impl_board_turned (br : List UInt8) (bw : Int) (bh : Int) (bc : List UInt8) (bx : Int) (by_ : Int) (bd : Int) (q : Int) (K : V → Prop) : VC_impl_board_turned br bw bh bc bx by_ bd q K = vbody Tryd.prog (vin Tryd.prog TWG_18 annTWG 3) TWG_18.looks (annTWG 103) 103 [.agg [.str br, .int .i64 bw, .int .i64 bh, .str bc, .int .i64 bx, .int .i64 by_, .int .i64 bd], .int .i64 q] [] (fun v _ => K v) := by kernel_rfl
theorem ok_impl_board_turned : OK Tryd.prog 103 F_impl_board_turned.spec := (vbody_ok (vin_ok TWG_18_ok annTWG 3) TWG_18_ok.looks _ _).ofF fun args m p R h hp => by
  unfold F_impl_board_turned at h
  split at h
  · injection h with h; injection h with h1 h2; subst h1; subst h2
    exact ⟨rfl, (congrArg At (eq_impl_board_turned _ _ _ _ _ _ _ _ _)).mp ⟨vc_impl_board_turned _ _ _ _ _ _ _ _ hp⟩⟩
  · cases h
def TWG_19 : Tab := TWG_18.add 103 F_impl_board_turned
theorem TWG_19_ok : TWG_19.Ok Tryd.prog := TWG_18_ok.add ok_impl_board_turned
theorem eq_impl_board_moved (br : List UInt8) (bw : Int) (bh : Int) (bc : List UInt8) (bx : Int) (by_ : Int) (bd : Int) (k : Int) (K : V → Prop) : VC_impl_board_moved br bw bh bc bx by_ bd k K = vbody Tryd.prog (vin Tryd.prog TWG_19 annTWG 3) TWG_19.looks (annTWG 76) 76 [.agg [.str br, .int .i64 bw, .int .i64 bh, .str bc, .int .i64 bx, .int .i64 by_, .int .i64 bd], .int .i64 k] [] (fun v _ => K v) := by kernel_rfl
theorem ok_impl_board_moved : OK Tryd.prog 76 F_impl_board_moved.spec := (vbody_ok (vin_ok TWG_19_ok annTWG 3) TWG_19_ok.looks _ _).ofF fun args m p R h hp => by
  unfold F_impl_board_moved at h
  split at h
  · injection h with h; injection h with h1 h2; subst h1; subst h2
    exact ⟨rfl, (congrArg At (eq_impl_board_moved _ _ _ _ _ _ _ _ _)).mp ⟨vc_impl_board_moved _ _ _ _ _ _ _ _ hp⟩⟩
  · cases h
def TWG_20 : Tab := TWG_19.add 76 F_impl_board_moved
theorem TWG_20_ok : TWG_20.Ok Tryd.prog := TWG_19_ok.add ok_impl_board_moved
theorem eq_impl_crawler_nodes (cr : List UInt8) (cw : Int) (ch : Int) (cc : List UInt8) (cx : Int) (cy : Int) (cd : Int) (cl : List UInt8) (K : V → Prop) : VC_impl_crawler_nodes cr cw ch cc cx cy cd cl K = vbody Tryd.prog (vin Tryd.prog TWG_20 annTWG 3) TWG_20.looks (annTWG 38) 38 [.agg [.str cr, .int .i64 cw, .int .i64 ch, .str cc, .int .i64 cx, .int .i64 cy, .int .i64 cd, .str cl]] [] (fun v _ => K v) := by kernel_rfl
theorem ok_impl_crawler_nodes : OK Tryd.prog 38 F_impl_crawler_nodes.spec := (vbody_ok (vin_ok TWG_20_ok annTWG 3) TWG_20_ok.looks _ _).ofF fun args m p R h hp => by
  unfold F_impl_crawler_nodes at h
  split at h
  · injection h with h; injection h with h1 h2; subst h1; subst h2
    exact ⟨rfl, (congrArg At (eq_impl_crawler_nodes _ _ _ _ _ _ _ _ _)).mp ⟨vc_impl_crawler_nodes _ _ _ _ _ _ _ _ hp⟩⟩
  · cases h
def TWG_21 : Tab := TWG_20.add 38 F_impl_crawler_nodes
theorem TWG_21_ok : TWG_21.Ok Tryd.prog := TWG_20_ok.add ok_impl_crawler_nodes
theorem eq_impl_crawler_node (cr : List UInt8) (cw : Int) (ch : Int) (cc : List UInt8) (cx : Int) (cy : Int) (cd : Int) (cl : List UInt8) (K : V → Prop) : VC_impl_crawler_node cr cw ch cc cx cy cd cl K = vbody Tryd.prog (vin Tryd.prog TWG_21 annTWG 3) TWG_21.looks (annTWG 62) 62 [.agg [.str cr, .int .i64 cw, .int .i64 ch, .str cc, .int .i64 cx, .int .i64 cy, .int .i64 cd, .str cl]] [] (fun v _ => K v) := by kernel_rfl
theorem ok_impl_crawler_node : OK Tryd.prog 62 F_impl_crawler_node.spec := (vbody_ok (vin_ok TWG_21_ok annTWG 3) TWG_21_ok.looks _ _).ofF fun args m p R h hp => by
  unfold F_impl_crawler_node at h
  split at h
  · injection h with h; injection h with h1 h2; subst h1; subst h2
    exact ⟨rfl, (congrArg At (eq_impl_crawler_node _ _ _ _ _ _ _ _ _)).mp ⟨vc_impl_crawler_node _ _ _ _ _ _ _ _ hp⟩⟩
  · cases h
def TWG_22 : Tab := TWG_21.add 62 F_impl_crawler_node
theorem TWG_22_ok : TWG_22.Ok Tryd.prog := TWG_21_ok.add ok_impl_crawler_node
theorem eq_impl_crawler_seenFrom (cr : List UInt8) (cw : Int) (ch : Int) (cc : List UInt8) (cx : Int) (cy : Int) (cd : Int) (cl : List UInt8) (k : Int) (q : Int) (K : V → Prop) : VC_impl_crawler_seenFrom cr cw ch cc cx cy cd cl k q K = vbody Tryd.prog (vin Tryd.prog TWG_22 annTWG 3) TWG_22.looks (annTWG 58) 58 [.agg [.str cr, .int .i64 cw, .int .i64 ch, .str cc, .int .i64 cx, .int .i64 cy, .int .i64 cd, .str cl], .int .i64 k, .int .i64 q] [] (fun v _ => K v) := by kernel_rfl
theorem ok_impl_crawler_seenFrom : OK Tryd.prog 58 F_impl_crawler_seenFrom.spec := (vbody_ok (vin_ok TWG_22_ok annTWG 3) TWG_22_ok.looks _ _).ofF fun args m p R h hp => by
  unfold F_impl_crawler_seenFrom at h
  split at h
  · injection h with h; injection h with h1 h2; subst h1; subst h2
    exact ⟨rfl, (congrArg At (eq_impl_crawler_seenFrom _ _ _ _ _ _ _ _ _ _ _)).mp ⟨vc_impl_crawler_seenFrom _ _ _ _ _ _ _ _ _ _ hp⟩⟩
  · cases h
def TWG_23 : Tab := TWG_22.add 58 F_impl_crawler_seenFrom
theorem TWG_23_ok : TWG_23.Ok Tryd.prog := TWG_22_ok.add ok_impl_crawler_seenFrom
theorem eq_impl_crawler_heading (cr : List UInt8) (cw : Int) (ch : Int) (cc : List UInt8) (cx : Int) (cy : Int) (cd : Int) (cl : List UInt8) (q : Int) (K : V → Prop) : VC_impl_crawler_heading cr cw ch cc cx cy cd cl q K = vbody Tryd.prog (vin Tryd.prog TWG_23 annTWG 3) TWG_23.looks (annTWG 88) 88 [.agg [.str cr, .int .i64 cw, .int .i64 ch, .str cc, .int .i64 cx, .int .i64 cy, .int .i64 cd, .str cl], .int .i64 q] [] (fun v _ => K v) := by kernel_rfl
theorem ok_impl_crawler_heading : OK Tryd.prog 88 F_impl_crawler_heading.spec := (vbody_ok (vin_ok TWG_23_ok annTWG 3) TWG_23_ok.looks _ _).ofF fun args m p R h hp => by
  unfold F_impl_crawler_heading at h
  split at h
  · injection h with h; injection h with h1 h2; subst h1; subst h2
    exact ⟨rfl, (congrArg At (eq_impl_crawler_heading _ _ _ _ _ _ _ _ _ _)).mp ⟨vc_impl_crawler_heading _ _ _ _ _ _ _ _ _ hp⟩⟩
  · cases h
def TWG_24 : Tab := TWG_23.add 88 F_impl_crawler_heading
theorem TWG_24_ok : TWG_24.Ok Tryd.prog := TWG_23_ok.add ok_impl_crawler_heading
theorem eq_impl_crawler_crawled (cr : List UInt8) (cw : Int) (ch : Int) (cc : List UInt8) (cx : Int) (cy : Int) (cd : Int) (cl : List UInt8) (K : V → Prop) : VC_impl_crawler_crawled cr cw ch cc cx cy cd cl K = vbody Tryd.prog (vin Tryd.prog TWG_24 annTWG 3) TWG_24.looks (annTWG 61) 61 [.agg [.str cr, .int .i64 cw, .int .i64 ch, .str cc, .int .i64 cx, .int .i64 cy, .int .i64 cd, .str cl]] [] (fun v _ => K v) := by kernel_rfl
theorem ok_impl_crawler_crawled : OK Tryd.prog 61 F_impl_crawler_crawled.spec := (vbody_ok (vin_ok TWG_24_ok annTWG 3) TWG_24_ok.looks _ _).ofF fun args m p R h hp => by
  unfold F_impl_crawler_crawled at h
  split at h
  · injection h with h; injection h with h1 h2; subst h1; subst h2
    exact ⟨rfl, (congrArg At (eq_impl_crawler_crawled _ _ _ _ _ _ _ _ _)).mp ⟨vc_impl_crawler_crawled _ _ _ _ _ _ _ _ hp⟩⟩
  · cases h
def TWG_25 : Tab := TWG_24.add 61 F_impl_crawler_crawled
theorem TWG_25_ok : TWG_25.Ok Tryd.prog := TWG_24_ok.add ok_impl_crawler_crawled
theorem eq_impl_crawler_lineAhead (cr : List UInt8) (cw : Int) (ch : Int) (cc : List UInt8) (cx : Int) (cy : Int) (cd : Int) (cl : List UInt8) (K : V → Prop) : VC_impl_crawler_lineAhead cr cw ch cc cx cy cd cl K = vbody Tryd.prog (vin Tryd.prog TWG_25 annTWG 3) TWG_25.looks (annTWG 75) 75 [.agg [.str cr, .int .i64 cw, .int .i64 ch, .str cc, .int .i64 cx, .int .i64 cy, .int .i64 cd, .str cl]] [] (fun v _ => K v) := by kernel_rfl
theorem ok_impl_crawler_lineAhead : OK Tryd.prog 75 F_impl_crawler_lineAhead.spec := (vbody_ok (vin_ok TWG_25_ok annTWG 3) TWG_25_ok.looks _ _).ofF fun args m p R h hp => by
  unfold F_impl_crawler_lineAhead at h
  split at h
  · injection h with h; injection h with h1 h2; subst h1; subst h2
    exact ⟨rfl, (congrArg At (eq_impl_crawler_lineAhead _ _ _ _ _ _ _ _ _)).mp ⟨vc_impl_crawler_lineAhead _ _ _ _ _ _ _ _ hp⟩⟩
  · cases h
def TWG_26 : Tab := TWG_25.add 75 F_impl_crawler_lineAhead
theorem TWG_26_ok : TWG_26.Ok Tryd.prog := TWG_25_ok.add ok_impl_crawler_lineAhead
theorem eq_impl_crawler_hasLineAhead (cr : List UInt8) (cw : Int) (ch : Int) (cc : List UInt8) (cx : Int) (cy : Int) (cd : Int) (cl : List UInt8) (K : V → Prop) : VC_impl_crawler_hasLineAhead cr cw ch cc cx cy cd cl K = vbody Tryd.prog (vin Tryd.prog TWG_26 annTWG 3) TWG_26.looks (annTWG 59) 59 [.agg [.str cr, .int .i64 cw, .int .i64 ch, .str cc, .int .i64 cx, .int .i64 cy, .int .i64 cd, .str cl]] [] (fun v _ => K v) := by kernel_rfl
theorem ok_impl_crawler_hasLineAhead : OK Tryd.prog 59 F_impl_crawler_hasLineAhead.spec := (vbody_ok (vin_ok TWG_26_ok annTWG 3) TWG_26_ok.looks _ _).ofF fun args m p R h hp => by
  unfold F_impl_crawler_hasLineAhead at h
  split at h
  · injection h with h; injection h with h1 h2; subst h1; subst h2
    exact ⟨rfl, (congrArg At (eq_impl_crawler_hasLineAhead _ _ _ _ _ _ _ _ _)).mp ⟨vc_impl_crawler_hasLineAhead _ _ _ _ _ _ _ _ hp⟩⟩
  · cases h
def TWG_27 : Tab := TWG_26.add 59 F_impl_crawler_hasLineAhead
theorem TWG_27_ok : TWG_27.Ok Tryd.prog := TWG_26_ok.add ok_impl_crawler_hasLineAhead
theorem eq_impl_crawler_withLineAhead (cr : List UInt8) (cw : Int) (ch : Int) (cc : List UInt8) (cx : Int) (cy : Int) (cd : Int) (cl : List UInt8) (s : List UInt8) (K : V → Prop) : VC_impl_crawler_withLineAhead cr cw ch cc cx cy cd cl s K = vbody Tryd.prog (vin Tryd.prog TWG_27 annTWG 3) TWG_27.looks (annTWG 90) 90 [.agg [.str cr, .int .i64 cw, .int .i64 ch, .str cc, .int .i64 cx, .int .i64 cy, .int .i64 cd, .str cl], .str s] [] (fun v _ => K v) := by kernel_rfl
theorem ok_impl_crawler_withLineAhead : OK Tryd.prog 90 F_impl_crawler_withLineAhead.spec := (vbody_ok (vin_ok TWG_27_ok annTWG 3) TWG_27_ok.looks _ _).ofF fun args m p R h hp => by
  unfold F_impl_crawler_withLineAhead at h
  split at h
  · injection h with h; injection h with h1 h2; subst h1; subst h2
    exact ⟨rfl, (congrArg At (eq_impl_crawler_withLineAhead _ _ _ _ _ _ _ _ _ _)).mp ⟨vc_impl_crawler_withLineAhead _ _ _ _ _ _ _ _ _ hp⟩⟩
  · cases h
def TWG_28 : Tab := TWG_27.add 90 F_impl_crawler_withLineAhead
theorem TWG_28_ok : TWG_28.Ok Tryd.prog := TWG_27_ok.add ok_impl_crawler_withLineAhead
theorem eq_impl_crawler_worm (cr : List UInt8) (cw : Int) (ch : Int) (cc : List UInt8) (cx : Int) (cy : Int) (cd : Int) (cl : List UInt8) (K : V → Prop) : VC_impl_crawler_worm cr cw ch cc cx cy cd cl K = vbody Tryd.prog (vin Tryd.prog TWG_28 annTWG 3) TWG_28.looks (annTWG 74) 74 [.agg [.str cr, .int .i64 cw, .int .i64 ch, .str cc, .int .i64 cx, .int .i64 cy, .int .i64 cd, .str cl]] [] (fun v _ => K v) := by kernel_rfl
theorem ok_impl_crawler_worm : OK Tryd.prog 74 F_impl_crawler_worm.spec := (vbody_ok (vin_ok TWG_28_ok annTWG 3) TWG_28_ok.looks _ _).ofF fun args m p R h hp => by
  unfold F_impl_crawler_worm at h
  split at h
  · injection h with h; injection h with h1 h2; subst h1; subst h2
    exact ⟨rfl, (congrArg At (eq_impl_crawler_worm _ _ _ _ _ _ _ _ _)).mp ⟨vc_impl_crawler_worm _ _ _ _ _ _ _ _ hp⟩⟩
  · cases h
def TWG_29 : Tab := TWG_28.add 74 F_impl_crawler_worm
theorem TWG_29_ok : TWG_29.Ok Tryd.prog := TWG_28_ok.add ok_impl_crawler_worm
theorem eq_impl_crawlerOf (mw : Int) (mh : Int) (mr : List UInt8) (mn : List UInt8) (mx : Int) (my : Int) (md : Int) (K : V → Prop) : VC_impl_crawlerOf mw mh mr mn mx my md K = vbody Tryd.prog (vin Tryd.prog TWG_29 annTWG 3) TWG_29.looks (annTWG 37) 37 [.agg [.int .i64 mw, .int .i64 mh, .str mr, .str mn, .int .i64 mx, .int .i64 my, .int .i64 md]] [] (fun v _ => K v) := by kernel_rfl
theorem ok_impl_crawlerOf : OK Tryd.prog 37 F_impl_crawlerOf.spec := (vbody_ok (vin_ok TWG_29_ok annTWG 3) TWG_29_ok.looks _ _).ofF fun args m p R h hp => by
  unfold F_impl_crawlerOf at h
  split at h
  · injection h with h; injection h with h1 h2; subst h1; subst h2
    exact ⟨rfl, (congrArg At (eq_impl_crawlerOf _ _ _ _ _ _ _ _)).mp ⟨vc_impl_crawlerOf _ _ _ _ _ _ _ hp⟩⟩
  · cases h
def TWG_30 : Tab := TWG_29.add 37 F_impl_crawlerOf
theorem TWG_30_ok : TWG_30.Ok Tryd.prog := TWG_29_ok.add ok_impl_crawlerOf
theorem eq_impl_crawler_linesAt (cr : List UInt8) (cw : Int) (ch : Int) (cc : List UInt8) (cx : Int) (cy : Int) (cd : Int) (cl : List UInt8) (k : Int) (K : V → Prop) : VC_impl_crawler_linesAt cr cw ch cc cx cy cd cl k K = vbody Tryd.prog (vin Tryd.prog TWG_30 annTWG 3) TWG_30.looks (annTWG 39) 39 [.agg [.str cr, .int .i64 cw, .int .i64 ch, .str cc, .int .i64 cx, .int .i64 cy, .int .i64 cd, .str cl], .int .i64 k] [] (fun v _ => K v) := by kernel_rfl
theorem ok_impl_crawler_linesAt : OK Tryd.prog 39 F_impl_crawler_linesAt.spec := (vbody_ok (vin_ok TWG_30_ok annTWG 3) TWG_30_ok.looks _ _).ofF fun args m p R h hp => by
  unfold F_impl_crawler_linesAt at h
  split at h
  · injection h with h; injection h with h1 h2; subst h1; subst h2
    exact ⟨rfl, (congrArg At (eq_impl_crawler_linesAt _ _ _ _ _ _ _ _ _ _)).mp ⟨vc_impl_crawler_linesAt _ _ _ _ _ _ _ _ _ hp⟩⟩
  · cases h
def TWG_31 : Tab := TWG_30.add 39 F_impl_crawler_linesAt
theorem TWG_31_ok : TWG_31.Ok Tryd.prog := TWG_30_ok.add ok_impl_crawler_linesAt
theorem eq_impl_crawler_goOn (cr : List UInt8) (cw : Int) (ch : Int) (cc : List UInt8) (cx : Int) (cy : Int) (cd : Int) (cl : List UInt8) (t : List UInt8) (K : V → Prop) : VC_impl_crawler_goOn cr cw ch cc cx cy cd cl t K = vbody Tryd.prog (vin Tryd.prog TWG_31 annTWG 3) TWG_31.looks (annTWG 73) 73 [.agg [.str cr, .int .i64 cw, .int .i64 ch, .str cc, .int .i64 cx, .int .i64 cy, .int .i64 cd, .str cl], .str t] [] (fun v _ => K v) := by kernel_rfl
theorem ok_impl_crawler_goOn : OK Tryd.prog 73 F_impl_crawler_goOn.spec := (vbody_ok (vin_ok TWG_31_ok annTWG 3) TWG_31_ok.looks _ _).ofF fun args m p R h hp => by
  unfold F_impl_crawler_goOn at h
  split at h
  · injection h with h; injection h with h1 h2; subst h1; subst h2
    exact ⟨rfl, (congrArg At (eq_impl_crawler_goOn _ _ _ _ _ _ _ _ _ _)).mp ⟨vc_impl_crawler_goOn _ _ _ _ _ _ _ _ _ hp⟩⟩
  · cases h
def TWG_32 : Tab := TWG_31.add 73 F_impl_crawler_goOn
theorem TWG_32_ok : TWG_32.Ok Tryd.prog := TWG_31_ok.add ok_impl_crawler_goOn
theorem eq_spec_wmLine (mw : Int) (mh : Int) (mr : List UInt8) (mn : List UInt8) (mx : Int) (my : Int) (md : Int) (x : Int) (y : Int) (q : Int) (K : V → Prop) : VC_spec_wmLine mw mh mr mn mx my md x y q K = vbody Tryd.prog (vin Tryd.prog TWG_32 annTWG 3) TWG_32.looks (annTWG 60) 60 [.agg [.int .i64 mw, .int .i64 mh, .str mr, .str mn, .int .i64 mx, .int .i64 my, .int .i64 md], .int .i64 x, .int .i64 y, .int .i64 q] [] (fun v _ => K v) := by kernel_rfl
theorem ok_spec_wmLine : OK Tryd.prog 60 F_spec_wmLine.spec := (vbody_ok (vin_ok TWG_32_ok annTWG 3) TWG_32_ok.looks _ _).ofF fun args m p R h hp => by
  unfold F_spec_wmLine at h
  split at h
  · injection h with h; injection h with h1 h2; subst h1; subst h2
    exact ⟨rfl, (congrArg At (eq_spec_wmLine _ _ _ _ _ _ _ _ _ _ _)).mp ⟨vc_spec_wmLine _ _ _ _ _ _ _ _ _ _ hp⟩⟩
  · cases h
def TWG_33 : Tab := TWG_32.add 60 F_spec_wmLine
theorem TWG_33_ok : TWG_33.Ok Tryd.prog := TWG_32_ok.add ok_spec_wmLine
theorem eq_spec_wmHas (mw : Int) (mh : Int) (mr : List UInt8) (mn : List UInt8) (mx : Int) (my : Int) (md : Int) (x : Int) (y : Int) (q : Int) (K : V → Prop) : VC_spec_wmHas mw mh mr mn mx my md x y q K = vbody Tryd.prog (vin Tryd.prog TWG_33 annTWG 3) TWG_33.looks (annTWG 40) 40 [.agg [.int .i64 mw, .int .i64 mh, .str mr, .str mn, .int .i64 mx, .int .i64 my, .int .i64 md], .int .i64 x, .int .i64 y, .int .i64 q] [] (fun v _ => K v) := by kernel_rfl
theorem ok_spec_wmHas : OK Tryd.prog 40 F_spec_wmHas.spec := (vbody_ok (vin_ok TWG_33_ok annTWG 3) TWG_33_ok.looks _ _).ofF fun args m p R h hp => by
  unfold F_spec_wmHas at h
  split at h
  · injection h with h; injection h with h1 h2; subst h1; subst h2
    exact ⟨rfl, (congrArg At (eq_spec_wmHas _ _ _ _ _ _ _ _ _ _ _)).mp ⟨vc_spec_wmHas _ _ _ _ _ _ _ _ _ _ hp⟩⟩
  · cases h
def TWG_34 : Tab := TWG_33.add 40 F_spec_wmHas
theorem TWG_34_ok : TWG_34.Ok Tryd.prog := TWG_33_ok.add ok_spec_wmHas
theorem eq_spec_wmAt (mw : Int) (mh : Int) (mr : List UInt8) (mn : List UInt8) (mx : Int) (my : Int) (md : Int) (x : Int) (y : Int) (K : V → Prop) : VC_spec_wmAt mw mh mr mn mx my md x y K = vbody Tryd.prog (vin Tryd.prog TWG_34 annTWG 3) TWG_34.looks (annTWG 36) 36 [.agg [.int .i64 mw, .int .i64 mh, .str mr, .str mn, .int .i64 mx, .int .i64 my, .int .i64 md], .int .i64 x, .int .i64 y] [] (fun v _ => K v) := by kernel_rfl
theorem ok_spec_wmAt : OK Tryd.prog 36 F_spec_wmAt.spec := (vbody_ok (vin_ok TWG_34_ok annTWG 3) TWG_34_ok.looks _ _).ofF fun args m p R h hp => by
  unfold F_spec_wmAt at h
  split at h
  · injection h with h; injection h with h1 h2; subst h1; subst h2
    exact ⟨rfl, (congrArg At (eq_spec_wmAt _ _ _ _ _ _ _ _ _ _)).mp ⟨vc_spec_wmAt _ _ _ _ _ _ _ _ _ hp⟩⟩
  · cases h
def TWG_35 : Tab := TWG_34.add 36 F_spec_wmAt
theorem TWG_35_ok : TWG_35.Ok Tryd.prog := TWG_34_ok.add ok_spec_wmAt
theorem eq_spec_wmSet (x : Int) (y : Int) (q : Int) (s : List UInt8) (mw : Int) (mh : Int) (mr : List UInt8) (mn : List UInt8) (mx : Int) (my : Int) (md : Int) (e : TypeId) (K : V → List Blk → Prop) : VC_spec_wmSet x y q s mw mh mr mn mx my md e K = vbody Tryd.prog (vin Tryd.prog TWG_35 annTWG 3) TWG_35.looks (annTWG 70) 70 [.ptr 0 0, .int .i64 x, .int .i64 y, .int .i64 q, .str s] [⟨.vals [.int .i64 mw, .int .i64 mh, .str mr, .str mn, .int .i64 mx, .int .i64 my, .int .i64 md], e, .box⟩] (K) := by kernel_rfl
theorem ok_spec_wmSet : OK Tryd.prog 70 F_spec_wmSet.spec := (vbody_ok (vin_ok TWG_35_ok annTWG 3) TWG_35_ok.looks _ _).ofG fun args m p R M h hp => by
  unfold F_spec_wmSet at h
  split at h
  · injection h with h; injection h with h1 h2; injection h2 with h2 h3; subst h1; subst h2; subst h3
    exact (congrArg At (eq_spec_wmSet _ _ _ _ _ _ _ _ _ _ _ _ _)).mp ⟨vc_spec_wmSet _ _ _ _ _ _ _ _ _ _ _ _ hp⟩
  · cases h
def TWG_36 : Tab := TWG_35.addG 70 F_spec_wmSet
theorem TWG_36_ok : TWG_36.Ok Tryd.prog := TWG_35_ok.addG ok_spec_wmSet
theorem eq_spec_wmGo (q : Int) (k : Int) (mw : Int) (mh : Int) (mr : List UInt8) (mn : List UInt8) (mx : Int) (my : Int) (md : Int) (e : TypeId) (K : V → List Blk → Prop) : VC_spec_wmGo q k mw mh mr mn mx my md e K = vbody Tryd.prog (vin Tryd.prog TWG_36 annTWG 3) TWG_36.looks (annTWG 41) 41 [.ptr 0 0, .int .i64 q, .int .i64 k] [⟨.vals [.int .i64 mw, .int .i64 mh, .str mr, .str mn, .int .i64 mx, .int .i64 my, .int .i64 md], e, .box⟩] (K) := by kernel_rfl
theorem ok_spec_wmGo : OK Tryd.prog 41 F_spec_wmGo.spec := (vbody_ok (vin_ok TWG_36_ok annTWG 3) TWG_36_ok.looks _ _).ofG fun args m p R M h hp => by
  unfold F_spec_wmGo at h
  split at h
  · injection h with h; injection h with h1 h2; injection h2 with h2 h3; subst h1; subst h2; subst h3
    exact (congrArg At (eq_spec_wmGo _ _ _ _ _ _ _ _ _ _ _)).mp ⟨vc_spec_wmGo _ _ _ _ _ _ _ _ _ _ hp⟩
  · cases h
def TWG_37 : Tab := TWG_36.addG 41 F_spec_wmGo
theorem TWG_37_ok : TWG_37.Ok Tryd.prog := TWG_36_ok.addG ok_spec_wmGo
theorem eq_spec_wmEat (t : List UInt8) (mw : Int) (mh : Int) (mr : List UInt8) (mn : List UInt8) (mx : Int) (my : Int) (md : Int) (e : TypeId) (K : V → List Blk → Prop) : VC_spec_wmEat t mw mh mr mn mx my md e K = vbody Tryd.prog (vin Tryd.prog TWG_37 annTWG 3) TWG_37.looks (annTWG 53) 53 [.ptr 0 0, .str t] [⟨.vals [.int .i64 mw, .int .i64 mh, .str mr, .str mn, .int .i64 mx, .int .i64 my, .int .i64 md], e, .box⟩] (K) := by kernel_rfl
theorem ok_spec_wmEat : OK Tryd.prog 53 F_spec_wmEat.spec := (vbody_ok (vin_ok TWG_37_ok annTWG 3) TWG_37_ok.looks _ _).ofG fun args m p R M h hp => by
  unfold F_spec_wmEat at h
  split at h
  · injection h with h; injection h with h1 h2; injection h2 with h2 h3; subst h1; subst h2; subst h3
    exact (congrArg At (eq_spec_wmEat _ _ _ _ _ _ _ _ _ _)).mp ⟨vc_spec_wmEat _ _ _ _ _ _ _ _ _ hp⟩
  · cases h
def TWG_38 : Tab := TWG_37.addG 53 F_spec_wmEat
theorem TWG_38_ok : TWG_38.Ok Tryd.prog := TWG_37_ok.addG ok_spec_wmEat
theorem eq_spec_ShiftWorm (mw : Int) (mh : Int) (mr : List UInt8) (mn : List UInt8) (mx : Int) (my : Int) (md : Int) (right : Int) (down : Int) (K : V → Prop) : VC_spec_ShiftWorm mw mh mr mn mx my md right down K = vbody Tryd.prog (vin Tryd.prog TWG_38 annTWG 3) TWG_38.looks (annTWG 23) 23 [.agg [.int .i64 mw, .int .i64 mh, .str mr, .str mn, .int .i64 mx, .int .i64 my, .int .i64 md], .int .i64 right, .int .i64 down] [] (fun v _ => K v) := by kernel_rfl
theorem ok_spec_ShiftWorm : OK Tryd.prog 23 F_spec_ShiftWorm.spec := (vbody_ok (vin_ok TWG_38_ok annTWG 3) TWG_38_ok.looks _ _).ofF fun args m p R h hp => by
  unfold F_spec_ShiftWorm at h
  split at h
  · injection h with h; injection h with h1 h2; subst h1; subst h2
    exact ⟨rfl, (congrArg At (eq_spec_ShiftWorm _ _ _ _ _ _ _ _ _ _)).mp ⟨vc_spec_ShiftWorm _ _ _ _ _ _ _ _ _ hp⟩⟩
  · cases h
def TWG_39 : Tab := TWG_38.add 23 F_spec_ShiftWorm
theorem TWG_39_ok : TWG_39.Ok Tryd.prog := TWG_38_ok.add ok_spec_ShiftWorm
theorem eq_impl_ShiftWorm_1 (x : Int) (y : Int) (right : Int) (down : Int) (mw : Int) (mh : Int) (mr : List UInt8) (mn : List UInt8) (mx : Int) (my : Int) (md : Int) (K : V → List Blk → Prop) : VC_impl_ShiftWorm_1 x y right down mw mh mr mn mx my md K = vbody Tryd.prog (vin Tryd.prog TWG_39 annTWG 3) TWG_39.looks (annTWG 46) 46 [.int .i64 x, .int .i64 y, .ptr 0 0, .ptr 1 0, .ptr 2 0] [⟨.vals [.int .i64 right], 3, .box⟩, ⟨.vals [.int .i64 mw, .int .i64 mh, .str mr, .str mn, .int .i64 mx, .int .i64 my, .int .i64 md], 28, .box⟩, ⟨.vals [.int .i64 down], 3, .box⟩] (K) := by kernel_rfl
theorem ok_impl_ShiftWorm_1 : OK Tryd.prog 46 F_impl_ShiftWorm_1.spec := (vbody_ok (vin_ok TWG_39_ok annTWG 3) TWG_39_ok.looks _ _).ofFM fun args m p R h hp => by
  unfold F_impl_ShiftWorm_1 at h
  split at h
  · injection h with h; injection h with h1 h2; subst h1; subst h2
    exact (congrArg At (eq_impl_ShiftWorm_1 _ _ _ _ _ _ _ _ _ _ _ _)).mp ⟨vc_impl_ShiftWorm_1 _ _ _ _ _ _ _ _ _ _ _ hp⟩
  · cases h
def TWG_40 : Tab := TWG_39.add 46 F_impl_ShiftWorm_1
theorem TWG_40_ok : TWG_40.Ok Tryd.prog := TWG_39_ok.add ok_impl_ShiftWorm_1
theorem eq_impl_ShiftWorm (mw : Int) (mh : Int) (mr : List UInt8) (mn : List UInt8) (mx : Int) (my : Int) (md : Int) (right : Int) (down : Int) (K : V → Prop) : VC_impl_ShiftWorm mw mh mr mn mx my md right down K = vbody Tryd.prog (vin Tryd.prog TWG_40 annTWG 4) TWG_40.looks (annTWG 24) 24 [.agg [.int .i64 mw, .int .i64 mh, .str mr, .str mn, .int .i64 mx, .int .i64 my, .int .i64 md], .int .i64 right, .int .i64 down] [] (fun v _ => K v) := by kernel_rfl
theorem ok_impl_ShiftWorm : OK Tryd.prog 24 F_impl_ShiftWorm.spec := (vbody_ok (vin_ok TWG_40_ok annTWG 4) TWG_40_ok.looks _ _).ofF fun args m p R h hp => by
  unfold F_impl_ShiftWorm at h
  split at h
  · injection h with h; injection h with h1 h2; subst h1; subst h2
    exact ⟨rfl, (congrArg At (eq_impl_ShiftWorm _ _ _ _ _ _ _ _ _ _)).mp ⟨vc_impl_ShiftWorm _ _ _ _ _ _ _ _ _ hp⟩⟩
  · cases h
def TWG_41 : Tab := TWG_40.add 24 F_impl_ShiftWorm
theorem TWG_41_ok : TWG_41.Ok Tryd.prog := TWG_40_ok.add ok_impl_ShiftWorm
def TWG : Tab := TWG_41
theorem TWG_ok : TWG.Ok Tryd.prog := TWG_41_ok
end Go.Proofs.YtioppaofihbmpabDoor
