/- The contracts of this chapter. -/
import Derived.Test.YtioppaofihbmpabDoorWALib
import Derived.Test.YtioppaofihbmpabDoorProg
import Derived.Test.YtioppaofihbmpabDoorWPPf
import Derived.KernelRfl
namespace Go.Proofs.YtioppaofihbmpabDoor
open Go Go.Vi
set_option linter.unusedVariables false
def annTWP : FuncId → Nat → St → Option Ann := fun f => if f = 30 then ann_spec_wmGood else if f = 39 then ann_impl_crawler_linesAt else if f = 73 then ann_impl_crawler_goOn else if f = 36 then ann_spec_wmAt else if f = 53 then ann_spec_wmEat else if f = 42 then ann_impl_crawler_reach else if f = 21 then ann_spec_PiecesLeft else if f = 22 then ann_impl_PiecesLeft else (fun _ _ => none)
def TWP_0 : Tab := Tab.none
theorem TWP_0_ok : TWP_0.Ok Tryd.prog := Tab.none_ok
theorem eq_spec_l1In (n : Int) (lo : Int) (hi : Int) (K : V → Prop) : VC_spec_l1In n lo hi K = vbody Tryd.prog (vin Tryd.prog TWP_0 annTWP 3) TWP_0.looks (annTWP 43) 43 [.int .i64 n, .int .i64 lo, .int .i64 hi] [] (fun v _ => K v) := by kernel_rfl
theorem ok_spec_l1In : OK Tryd.prog 43 F_spec_l1In.spec := (vbody_ok (vin_ok TWP_0_ok annTWP 3) TWP_0_ok.looks _ _).ofF fun args m p R h hp => by
  unfold F_spec_l1In at h
  split at h
  · injection h with h; injection h with h1 h2; subst h1; subst h2
    exact ⟨rfl, (congrArg At (eq_spec_l1In _ _ _ _)).mp ⟨vc_spec_l1In _ _ _ hp⟩⟩
  · cases h
def TWP_1 : Tab := TWP_0.add 43 F_spec_l1In
theorem TWP_1_ok : TWP_1.Ok Tryd.prog := TWP_0_ok.add ok_spec_l1In
theorem eq_impl_within (n : Int) (lo : Int) (hi : Int) (K : V → Prop) : VC_impl_within n lo hi K = vbody Tryd.prog (vin Tryd.prog TWP_1 annTWP 3) TWP_1.looks (annTWP 63) 63 [.int .i64 n, .int .i64 lo, .int .i64 hi] [] (fun v _ => K v) := by kernel_rfl
theorem ok_impl_within : OK Tryd.prog 63 F_impl_within.spec := (vbody_ok (vin_ok TWP_1_ok annTWP 3) TWP_1_ok.looks _ _).ofF fun args m p R h hp => by
  unfold F_impl_within at h
  split at h
  · injection h with h; injection h with h1 h2; subst h1; subst h2
    exact ⟨rfl, (congrArg At (eq_impl_within _ _ _ _)).mp ⟨vc_impl_within _ _ _ hp⟩⟩
  · cases h
def TWP_2 : Tab := TWP_1.add 63 F_impl_within
theorem TWP_2_ok : TWP_2.Ok Tryd.prog := TWP_1_ok.add ok_impl_within
theorem eq_spec_wmGood (mw : Int) (mh : Int) (mr : List UInt8) (mn : List UInt8) (mx : Int) (my : Int) (md : Int) (K : V → Prop) : VC_spec_wmGood mw mh mr mn mx my md K = vbody Tryd.prog (vin Tryd.prog TWP_2 annTWP 3) TWP_2.looks (annTWP 30) 30 [.agg [.int .i64 mw, .int .i64 mh, .str mr, .str mn, .int .i64 mx, .int .i64 my, .int .i64 md]] [] (fun v _ => K v) := by kernel_rfl
theorem ok_spec_wmGood : OK Tryd.prog 30 F_spec_wmGood.spec := (vbody_ok (vin_ok TWP_2_ok annTWP 3) TWP_2_ok.looks _ _).ofF fun args m p R h hp => by
  unfold F_spec_wmGood at h
  split at h
  · injection h with h; injection h with h1 h2; subst h1; subst h2
    exact ⟨rfl, (congrArg At (eq_spec_wmGood _ _ _ _ _ _ _ _)).mp ⟨vc_spec_wmGood _ _ _ _ _ _ _ hp⟩⟩
  · cases h
def TWP_3 : Tab := TWP_2.add 30 F_spec_wmGood
theorem TWP_3_ok : TWP_3.Ok Tryd.prog := TWP_2_ok.add ok_spec_wmGood
theorem ok_strings_Trim : OK Tryd.prog 71 F_strings_Trim.spec := Go.Proofs.Tryd.libTrim
def TWP_4 : Tab := TWP_3.add 71 F_strings_Trim
theorem TWP_4_ok : TWP_4.Ok Tryd.prog := TWP_3_ok.add ok_strings_Trim
theorem eq_impl_isGrid (a : Int) (b : Int) (K : V → Prop) : VC_impl_isGrid a b K = vbody Tryd.prog (vin Tryd.prog TWP_4 annTWP 3) TWP_4.looks (annTWP 54) 54 [.int .i64 a, .int .i64 b] [] (fun v _ => K v) := by kernel_rfl
theorem ok_impl_isGrid : OK Tryd.prog 54 F_impl_isGrid.spec := (vbody_ok (vin_ok TWP_4_ok annTWP 3) TWP_4_ok.looks _ _).ofF fun args m p R h hp => by
  unfold F_impl_isGrid at h
  split at h
  · injection h with h; injection h with h1 h2; subst h1; subst h2
    exact ⟨rfl, (congrArg At (eq_impl_isGrid _ _ _)).mp ⟨vc_impl_isGrid _ _ hp⟩⟩
  · cases h
def TWP_5 : Tab := TWP_4.add 54 F_impl_isGrid
theorem TWP_5_ok : TWP_5.Ok Tryd.prog := TWP_4_ok.add ok_impl_isGrid
theorem eq_impl_hasNode (mw : Int) (mh : Int) (mr : List UInt8) (mn : List UInt8) (mx : Int) (my : Int) (md : Int) (x : Int) (y : Int) (K : V → Prop) : VC_impl_hasNode mw mh mr mn mx my md x y K = vbody Tryd.prog (vin Tryd.prog TWP_5 annTWP 3) TWP_5.looks (annTWP 45) 45 [.agg [.int .i64 mw, .int .i64 mh, .str mr, .str mn, .int .i64 mx, .int .i64 my, .int .i64 md], .int .i64 x, .int .i64 y] [] (fun v _ => K v) := by kernel_rfl
theorem ok_impl_hasNode : OK Tryd.prog 45 F_impl_hasNode.spec := (vbody_ok (vin_ok TWP_5_ok annTWP 3) TWP_5_ok.looks _ _).ofF fun args m p R h hp => by
  unfold F_impl_hasNode at h
  split at h
  · injection h with h; injection h with h1 h2; subst h1; subst h2
    exact ⟨rfl, (congrArg At (eq_impl_hasNode _ _ _ _ _ _ _ _ _ _)).mp ⟨vc_impl_hasNode _ _ _ _ _ _ _ _ _ hp⟩⟩
  · cases h
def TWP_6 : Tab := TWP_5.add 45 F_impl_hasNode
theorem TWP_6_ok : TWP_6.Ok Tryd.prog := TWP_5_ok.add ok_impl_hasNode
theorem eq_impl_isWay (d : Int) (K : V → Prop) : VC_impl_isWay d K = vbody Tryd.prog (vin Tryd.prog TWP_6 annTWP 3) TWP_6.looks (annTWP 55) 55 [.int .i64 d] [] (fun v _ => K v) := by kernel_rfl
theorem ok_impl_isWay : OK Tryd.prog 55 F_impl_isWay.spec := (vbody_ok (vin_ok TWP_6_ok annTWP 3) TWP_6_ok.looks _ _).ofF fun args m p R h hp => by
  unfold F_impl_isWay at h
  split at h
  · injection h with h; injection h with h1 h2; subst h1; subst h2
    exact ⟨rfl, (congrArg At (eq_impl_isWay _ _)).mp ⟨vc_impl_isWay _ hp⟩⟩
  · cases h
def TWP_7 : Tab := TWP_6.add 55 F_impl_isWay
theorem TWP_7_ok : TWP_7.Ok Tryd.prog := TWP_6_ok.add ok_impl_isWay
theorem eq_impl_areLines (s : List UInt8) (n : Int) (K : V → Prop) : VC_impl_areLines s n K = vbody Tryd.prog (vin Tryd.prog TWP_7 annTWP 3) TWP_7.looks (annTWP 56) 56 [.str s, .int .i64 n] [] (fun v _ => K v) := by kernel_rfl
theorem ok_impl_areLines : OK Tryd.prog 56 F_impl_areLines.spec := (vbody_ok (vin_ok TWP_7_ok annTWP 3) TWP_7_ok.looks _ _).ofF fun args m p R h hp => by
  unfold F_impl_areLines at h
  split at h
  · injection h with h; injection h with h1 h2; subst h1; subst h2
    exact ⟨rfl, (congrArg At (eq_impl_areLines _ _ _)).mp ⟨vc_impl_areLines _ _ hp⟩⟩
  · cases h
def TWP_8 : Tab := TWP_7.add 56 F_impl_areLines
theorem TWP_8_ok : TWP_8.Ok Tryd.prog := TWP_7_ok.add ok_impl_areLines
theorem eq_impl_IsWorm (mw : Int) (mh : Int) (mr : List UInt8) (mn : List UInt8) (mx : Int) (my : Int) (md : Int) (K : V → Prop) : VC_impl_IsWorm mw mh mr mn mx my md K = vbody Tryd.prog (vin Tryd.prog TWP_8 annTWP 3) TWP_8.looks (annTWP 33) 33 [.agg [.int .i64 mw, .int .i64 mh, .str mr, .str mn, .int .i64 mx, .int .i64 my, .int .i64 md]] [] (fun v _ => K v) := by kernel_rfl
theorem ok_impl_IsWorm : OK Tryd.prog 33 F_impl_IsWorm.spec := (vbody_ok (vin_ok TWP_8_ok annTWP 3) TWP_8_ok.looks _ _).ofF fun args m p R h hp => by
  unfold F_impl_IsWorm at h
  split at h
  · injection h with h; injection h with h1 h2; subst h1; subst h2
    exact ⟨rfl, (congrArg At (eq_impl_IsWorm _ _ _ _ _ _ _ _)).mp ⟨vc_impl_IsWorm _ _ _ _ _ _ _ hp⟩⟩
  · cases h
def TWP_9 : Tab := TWP_8.add 33 F_impl_IsWorm
theorem TWP_9_ok : TWP_9.Ok Tryd.prog := TWP_8_ok.add ok_impl_IsWorm
theorem eq_laws_szWorm (mw : Int) (mh : Int) (mr : List UInt8) (mn : List UInt8) (mx : Int) (my : Int) (md : Int) (left : Int) (K : V → Prop) : VC_laws_szWorm mw mh mr mn mx my md left K = vbody Tryd.prog (vin Tryd.prog TWP_9 annTWP 3) TWP_9.looks (annTWP 9) 9 [.agg [.int .i64 mw, .int .i64 mh, .str mr, .str mn, .int .i64 mx, .int .i64 my, .int .i64 md], .int .i64 left] [] (fun v _ => K v) := by kernel_rfl
theorem ok_laws_szWorm : OK Tryd.prog 9 F_laws_szWorm.spec := (vbody_ok (vin_ok TWP_9_ok annTWP 3) TWP_9_ok.looks _ _).ofF fun args m p R h hp => by
  unfold F_laws_szWorm at h
  split at h
  · injection h with h; injection h with h1 h2; subst h1; subst h2
    exact ⟨rfl, (congrArg At (eq_laws_szWorm _ _ _ _ _ _ _ _ _)).mp ⟨vc_laws_szWorm _ _ _ _ _ _ _ _ hp⟩⟩
  · cases h
def TWP_10 : Tab := TWP_9.add 9 F_laws_szWorm
theorem TWP_10_ok : TWP_10.Ok Tryd.prog := TWP_9_ok.add ok_laws_szWorm
theorem eq_laws_toWorm (mw : Int) (mh : Int) (mr : List UInt8) (mn : List UInt8) (mx : Int) (my : Int) (md : Int) (K : V → Prop) : VC_laws_toWorm mw mh mr mn mx my md K = vbody Tryd.prog (vin Tryd.prog TWP_10 annTWP 3) TWP_10.looks (annTWP 11) 11 [.agg [.int .i64 mw, .int .i64 mh, .str mr, .str mn, .int .i64 mx, .int .i64 my, .int .i64 md]] [] (fun v _ => K v) := by kernel_rfl
theorem ok_laws_toWorm : OK Tryd.prog 11 F_laws_toWorm.spec := (vbody_ok (vin_ok TWP_10_ok annTWP 3) TWP_10_ok.looks _ _).ofF fun args m p R h hp => by
  unfold F_laws_toWorm at h
  split at h
  · injection h with h; injection h with h1 h2; subst h1; subst h2
    exact ⟨rfl, (congrArg At (eq_laws_toWorm _ _ _ _ _ _ _ _)).mp ⟨vc_laws_toWorm _ _ _ _ _ _ _ hp⟩⟩
  · cases h
def TWP_11 : Tab := TWP_10.add 11 F_laws_toWorm
theorem TWP_11_ok : TWP_11.Ok Tryd.prog := TWP_10_ok.add ok_laws_toWorm
theorem eq_laws_eqWorm (aw : Int) (ah : Int) (ar : List UInt8) (an : List UInt8) (ax : Int) (ay : Int) (ad : Int) (bw : Int) (bh : Int) (br : List UInt8) (bn : List UInt8) (bx : Int) (by_ : Int) (bd : Int) (K : V → Prop) : VC_laws_eqWorm aw ah ar an ax ay ad bw bh br bn bx by_ bd K = vbody Tryd.prog (vin Tryd.prog TWP_11 annTWP 3) TWP_11.looks (annTWP 25) 25 [.agg [.int .i64 aw, .int .i64 ah, .str ar, .str an, .int .i64 ax, .int .i64 ay, .int .i64 ad], .agg [.int .i64 bw, .int .i64 bh, .str br, .str bn, .int .i64 bx, .int .i64 by_, .int .i64 bd]] [] (fun v _ => K v) := by kernel_rfl
theorem ok_laws_eqWorm : OK Tryd.prog 25 F_laws_eqWorm.spec := (vbody_ok (vin_ok TWP_11_ok annTWP 3) TWP_11_ok.looks _ _).ofF fun args m p R h hp => by
  unfold F_laws_eqWorm at h
  split at h
  · injection h with h; injection h with h1 h2; subst h1; subst h2
    exact ⟨rfl, (congrArg At (eq_laws_eqWorm _ _ _ _ _ _ _ _ _ _ _ _ _ _ _)).mp ⟨vc_laws_eqWorm _ _ _ _ _ _ _ _ _ _ _ _ _ _ hp⟩⟩
  · cases h
def TWP_12 : Tab := TWP_11.add 25 F_laws_eqWorm
theorem TWP_12_ok : TWP_12.Ok Tryd.prog := TWP_11_ok.add ok_laws_eqWorm
theorem eq_spec_wmTastes  (K : V → List Blk → Prop) : VC_spec_wmTastes  K = vbody Tryd.prog (vin Tryd.prog TWP_12 annTWP 3) TWP_12.looks (annTWP 31) 31 [] [] (K) := by kernel_rfl
theorem ok_spec_wmTastes : OK Tryd.prog 31 F_spec_wmTastes.spec := (vbody_ok (vin_ok TWP_12_ok annTWP 3) TWP_12_ok.looks _ _).ofG fun args m p R M h hp => by
  unfold F_spec_wmTastes at h
  split at h
  · injection h with h; injection h with h1 h2; injection h2 with h2 h3; subst h1; subst h2; subst h3
    exact (congrArg At (eq_spec_wmTastes  _)).mp ⟨vc_spec_wmTastes  hp⟩
  · cases h
def TWP_13 : Tab := TWP_12.addG 31 F_spec_wmTastes
theorem TWP_13_ok : TWP_13.Ok Tryd.prog := TWP_12_ok.addG ok_spec_wmTastes
theorem ok_strings_Count : OK Tryd.prog 79 F_strings_Count.spec := Go.Proofs.Tryd.libCount
def TWP_14 : Tab := TWP_13.add 79 F_strings_Count
theorem TWP_14_ok : TWP_14.Ok Tryd.prog := TWP_13_ok.add ok_strings_Count
theorem eq_spec_l1Mod (n : Int) (m : Int) (K : V → Prop) : VC_spec_l1Mod n m K = vbody Tryd.prog (vin Tryd.prog TWP_14 annTWP 3) TWP_14.looks (annTWP 44) 44 [.int .i64 n, .int .i64 m] [] (fun v _ => K v) := by kernel_rfl
theorem ok_spec_l1Mod : OK Tryd.prog 44 F_spec_l1Mod.spec := (vbody_ok (vin_ok TWP_14_ok annTWP 3) TWP_14_ok.looks _ _).ofF fun args m p R h hp => by
  unfold F_spec_l1Mod at h
  split at h
  · injection h with h; injection h with h1 h2; subst h1; subst h2
    exact ⟨rfl, (congrArg At (eq_spec_l1Mod _ _ _)).mp ⟨vc_spec_l1Mod _ _ hp⟩⟩
  · cases h
def TWP_15 : Tab := TWP_14.add 44 F_spec_l1Mod
theorem TWP_15_ok : TWP_15.Ok Tryd.prog := TWP_14_ok.add ok_spec_l1Mod
theorem eq_spec_woTurn (b : Int) (K : V → Prop) : VC_spec_woTurn b K = vbody Tryd.prog (vin Tryd.prog TWP_15 annTWP 3) TWP_15.looks (annTWP 69) 69 [.int .u8 b] [] (fun v _ => K v) := by kernel_rfl
theorem ok_spec_woTurn : OK Tryd.prog 69 F_spec_woTurn.spec := (vbody_ok (vin_ok TWP_15_ok annTWP 3) TWP_15_ok.looks _ _).ofF fun args m p R h hp => by
  unfold F_spec_woTurn at h
  split at h
  · injection h with h; injection h with h1 h2; subst h1; subst h2
    exact ⟨rfl, (congrArg At (eq_spec_woTurn _ _)).mp ⟨vc_spec_woTurn _ hp⟩⟩
  · cases h
def TWP_16 : Tab := TWP_15.add 69 F_spec_woTurn
theorem TWP_16_ok : TWP_16.Ok Tryd.prog := TWP_15_ok.add ok_spec_woTurn
theorem eq_impl_quarters (b : Int) (K : V → Prop) : VC_impl_quarters b K = vbody Tryd.prog (vin Tryd.prog TWP_16 annTWP 3) TWP_16.looks (annTWP 89) 89 [.int .u8 b] [] (fun v _ => K v) := by kernel_rfl
theorem ok_impl_quarters : OK Tryd.prog 89 F_impl_quarters.spec := (vbody_ok (vin_ok TWP_16_ok annTWP 3) TWP_16_ok.looks _ _).ofF fun args m p R h hp => by
  unfold F_impl_quarters at h
  split at h
  · injection h with h; injection h with h1 h2; subst h1; subst h2
    exact ⟨rfl, (congrArg At (eq_impl_quarters _ _)).mp ⟨vc_impl_quarters _ hp⟩⟩
  · cases h
def TWP_17 : Tab := TWP_16.add 89 F_impl_quarters
theorem TWP_17_ok : TWP_17.Ok Tryd.prog := TWP_16_ok.add ok_impl_quarters
theorem eq_impl_direction (d : Int) (K : V → Prop) : VC_impl_direction d K = vbody Tryd.prog (vin Tryd.prog TWP_17 annTWP 3) TWP_17.looks (annTWP 91) 91 [.int .i64 d] [] (fun v _ => K v) := by kernel_rfl
theorem ok_impl_direction : OK Tryd.prog 91 F_impl_direction.spec := (vbody_ok (vin_ok TWP_17_ok annTWP 3) TWP_17_ok.looks _ _).ofF fun args m p R h hp => by
  unfold F_impl_direction at h
  split at h
  · injection h with h; injection h with h1 h2; subst h1; subst h2
    exact ⟨rfl, (congrArg At (eq_impl_direction _ _)).mp ⟨vc_impl_direction _ hp⟩⟩
  · cases h
def TWP_18 : Tab := TWP_17.add 91 F_impl_direction
theorem TWP_18_ok : TWP_18.Ok Tryd.prog := TWP_17_ok.add ok_impl_direction
theorem eq_impl_board_turned (br : List UInt8) (bw : Int) (bh : Int) (bc : List UInt8) (bx : Int) (by_ : Int) (bd : Int) (q : Int) (K : V → Prop) : VC_impl_board_turned br bw bh bc bx by_ bd q K = vbody Tryd.prog (vin Tryd.prog TWP_18 annTWP 3) TWP_18.looks (annTWP 103) 103 [.agg [.str br, .int .i64 bw, .int .i64 bh, .str bc, .int .i64 bx, .int .i64 by_, .int .i64 bd], .int .i64 q] [] (fun v _ => K v) := by kernel_rfl
theorem ok_impl_board_turned : OK Tryd.prog 103 F_impl_board_turned.spec := (vbody_ok (vin_ok TWP_18_ok annTWP 3) TWP_18_ok.looks _ _).ofF fun args m p R h hp => by
  unfold F_impl_board_turned at h
  split at h
  · injection h with h; injection h with h1 h2; subst h1; subst h2
    exact ⟨rfl, (congrArg At (eq_impl_board_turned _ _ _ _ _ _ _ _ _)).mp ⟨vc_impl_board_turned _ _ _ _ _ _ _ _ hp⟩⟩
  · cases h
def TWP_19 : Tab := TWP_18.add 103 F_impl_board_turned
theorem TWP_19_ok : TWP_19.Ok Tryd.prog := TWP_18_ok.add ok_impl_board_turned
theorem eq_impl_board_moved (br : List UInt8) (bw : Int) (bh : Int) (bc : List UInt8) (bx : Int) (by_ : Int) (bd : Int) (k : Int) (K : V → Prop) : VC_impl_board_moved br bw bh bc bx by_ bd k K = vbody Tryd.prog (vin Tryd.prog TWP_19 annTWP 3) TWP_19.looks (annTWP 76) 76 [.agg [.str br, .int .i64 bw, .int .i64 bh, .str bc, .int .i64 bx, .int .i64 by_, .int .i64 bd], .int .i64 k] [] (fun v _ => K v) := by kernel_rfl
theorem ok_impl_board_moved : OK Tryd.prog 76 F_impl_board_moved.spec := (vbody_ok (vin_ok TWP_19_ok annTWP 3) TWP_19_ok.looks _ _).ofF fun args m p R h hp => by
  unfold F_impl_board_moved at h
  split at h
  · injection h with h; injection h with h1 h2; subst h1; subst h2
    exact ⟨rfl, (congrArg At (eq_impl_board_moved _ _ _ _ _ _ _ _ _)).mp ⟨vc_impl_board_moved _ _ _ _ _ _ _ _ hp⟩⟩
  · cases h
def TWP_20 : Tab := TWP_19.add 76 F_impl_board_moved
theorem TWP_20_ok : TWP_20.Ok Tryd.prog := TWP_19_ok.add ok_impl_board_moved
theorem eq_impl_crawler_nodes (cr : List UInt8) (cw : Int) (ch : Int) (cc : List UInt8) (cx : Int) (cy : Int) (cd : Int) (cl : List UInt8) (K : V → Prop) : VC_impl_crawler_nodes cr cw ch cc cx cy cd cl K = vbody Tryd.prog (vin Tryd.prog TWP_20 annTWP 3) TWP_20.looks (annTWP 38) 38 [.agg [.str cr, .int .i64 cw, .int .i64 ch, .str cc, .int .i64 cx, .int .i64 cy, .int .i64 cd, .str cl]] [] (fun v _ => K v) := by kernel_rfl
theorem ok_impl_crawler_nodes : OK Tryd.prog 38 F_impl_crawler_nodes.spec := (vbody_ok (vin_ok TWP_20_ok annTWP 3) TWP_20_ok.looks _ _).ofF fun args m p R h hp => by
  unfold F_impl_crawler_nodes at h
  split at h
  · injection h with h; injection h with h1 h2; subst h1; subst h2
    exact ⟨rfl, (congrArg At (eq_impl_crawler_nodes _ _ _ _ _ _ _ _ _)).mp ⟨vc_impl_crawler_nodes _ _ _ _ _ _ _ _ hp⟩⟩
  · cases h
def TWP_21 : Tab := TWP_20.add 38 F_impl_crawler_nodes
theorem TWP_21_ok : TWP_21.Ok Tryd.prog := TWP_20_ok.add ok_impl_crawler_nodes
theorem eq_impl_crawler_node (cr : List UInt8) (cw : Int) (ch : Int) (cc : List UInt8) (cx : Int) (cy : Int) (cd : Int) (cl : List UInt8) (K : V → Prop) : VC_impl_crawler_node cr cw ch cc cx cy cd cl K = vbody Tryd.prog (vin Tryd.prog TWP_21 annTWP 3) TWP_21.looks (annTWP 62) 62 [.agg [.str cr, .int .i64 cw, .int .i64 ch, .str cc, .int .i64 cx, .int .i64 cy, .int .i64 cd, .str cl]] [] (fun v _ => K v) := by kernel_rfl
theorem ok_impl_crawler_node : OK Tryd.prog 62 F_impl_crawler_node.spec := (vbody_ok (vin_ok TWP_21_ok annTWP 3) TWP_21_ok.looks _ _).ofF fun args m p R h hp => by
  unfold F_impl_crawler_node at h
  split at h
  · injection h with h; injection h with h1 h2; subst h1; subst h2
    exact ⟨rfl, (congrArg At (eq_impl_crawler_node _ _ _ _ _ _ _ _ _)).mp ⟨vc_impl_crawler_node _ _ _ _ _ _ _ _ hp⟩⟩
  · cases h
def TWP_22 : Tab := TWP_21.add 62 F_impl_crawler_node
theorem TWP_22_ok : TWP_22.Ok Tryd.prog := TWP_21_ok.add ok_impl_crawler_node
theorem eq_impl_crawler_seenFrom (cr : List UInt8) (cw : Int) (ch : Int) (cc : List UInt8) (cx : Int) (cy : Int) (cd : Int) (cl : List UInt8) (k : Int) (q : Int) (K : V → Prop) : VC_impl_crawler_seenFrom cr cw ch cc cx cy cd cl k q K = vbody Tryd.prog (vin Tryd.prog TWP_22 annTWP 3) TWP_22.looks (annTWP 58) 58 [.agg [.str cr, .int .i64 cw, .int .i64 ch, .str cc, .int .i64 cx, .int .i64 cy, .int .i64 cd, .str cl], .int .i64 k, .int .i64 q] [] (fun v _ => K v) := by kernel_rfl
theorem ok_impl_crawler_seenFrom : OK Tryd.prog 58 F_impl_crawler_seenFrom.spec := (vbody_ok (vin_ok TWP_22_ok annTWP 3) TWP_22_ok.looks _ _).ofF fun args m p R h hp => by
  unfold F_impl_crawler_seenFrom at h
  split at h
  · injection h with h; injection h with h1 h2; subst h1; subst h2
    exact ⟨rfl, (congrArg At (eq_impl_crawler_seenFrom _ _ _ _ _ _ _ _ _ _ _)).mp ⟨vc_impl_crawler_seenFrom _ _ _ _ _ _ _ _ _ _ hp⟩⟩
  · cases h
def TWP_23 : Tab := TWP_22.add 58 F_impl_crawler_seenFrom
theorem TWP_23_ok : TWP_23.Ok Tryd.prog := TWP_22_ok.add ok_impl_crawler_seenFrom
theorem eq_impl_crawler_heading (cr : List UInt8) (cw : Int) (ch : Int) (cc : List UInt8) (cx : Int) (cy : Int) (cd : Int) (cl : List UInt8) (q : Int) (K : V → Prop) : VC_impl_crawler_heading cr cw ch cc cx cy cd cl q K = vbody Tryd.prog (vin Tryd.prog TWP_23 annTWP 3) TWP_23.looks (annTWP 88) 88 [.agg [.str cr, .int .i64 cw, .int .i64 ch, .str cc, .int .i64 cx, .int .i64 cy, .int .i64 cd, .str cl], .int .i64 q] [] (fun v _ => K v) := by kernel_rfl
theorem ok_impl_crawler_heading : OK Tryd.prog 88 F_impl_crawler_heading.spec := (vbody_ok (vin_ok TWP_23_ok annTWP 3) TWP_23_ok.looks _ _).ofF fun args m p R h hp => by
  unfold F_impl_crawler_heading at h
  split at h
  · injection h with h; injection h with h1 h2; subst h1; subst h2
    exact ⟨rfl, (congrArg At (eq_impl_crawler_heading _ _ _ _ _ _ _ _ _ _)).mp ⟨vc_impl_crawler_heading _ _ _ _ _ _ _ _ _ hp⟩⟩
  · cases h
def TWP_24 : Tab := TWP_23.add 88 F_impl_crawler_heading
theorem TWP_24_ok : TWP_24.Ok Tryd.prog := TWP_23_ok.add ok_impl_crawler_heading
theorem eq_impl_crawler_crawled (cr : List UInt8) (cw : Int) (ch : Int) (cc : List UInt8) (cx : Int) (cy : Int) (cd : Int) (cl : List UInt8) (K : V → Prop) : VC_impl_crawler_crawled cr cw ch cc cx cy cd cl K = vbody Tryd.prog (vin Tryd.prog TWP_24 annTWP 3) TWP_24.looks (annTWP 61) 61 [.agg [.str cr, .int .i64 cw, .int .i64 ch, .str cc, .int .i64 cx, .int .i64 cy, .int .i64 cd, .str cl]] [] (fun v _ => K v) := by kernel_rfl
theorem ok_impl_crawler_crawled : OK Tryd.prog 61 F_impl_crawler_crawled.spec := (vbody_ok (vin_ok TWP_24_ok annTWP 3) TWP_24_ok.looks _ _).ofF fun args m p R h hp => by
  unfold F_impl_crawler_crawled at h
  split at h
  · injection h with h; injection h with h1 h2; subst h1; subst h2
    exact ⟨rfl, (congrArg At (eq_impl_crawler_crawled _ _ _ _ _ _ _ _ _)).mp ⟨vc_impl_crawler_crawled _ _ _ _ _ _ _ _ hp⟩⟩
  · cases h
def TWP_25 : Tab := TWP_24.add 61 F_impl_crawler_crawled
theorem TWP_25_ok : TWP_25.Ok Tryd.prog := TWP_24_ok.add ok_impl_crawler_crawled
theorem eq_impl_crawler_lineAhead (cr : List UInt8) (cw : Int) (ch : Int) (cc : List UInt8) (cx : Int) (cy : Int) (cd : Int) (cl : List UInt8) (K : V → Prop) : VC_impl_crawler_lineAhead cr cw ch cc cx cy cd cl K = vbody Tryd.prog (vin Tryd.prog TWP_25 annTWP 3) TWP_25.looks (annTWP 75) 75 [.agg [.str cr, .int .i64 cw, .int .i64 ch, .str cc, .int .i64 cx, .int .i64 cy, .int .i64 cd, .str cl]] [] (fun v _ => K v) := by kernel_rfl
theorem ok_impl_crawler_lineAhead : OK Tryd.prog 75 F_impl_crawler_lineAhead.spec := (vbody_ok (vin_ok TWP_25_ok annTWP 3) TWP_25_ok.looks _ _).ofF fun args m p R h hp => by
  unfold F_impl_crawler_lineAhead at h
  split at h
  · injection h with h; injection h with h1 h2; subst h1; subst h2
    exact ⟨rfl, (congrArg At (eq_impl_crawler_lineAhead _ _ _ _ _ _ _ _ _)).mp ⟨vc_impl_crawler_lineAhead _ _ _ _ _ _ _ _ hp⟩⟩
  · cases h
def TWP_26 : Tab := TWP_25.add 75 F_impl_crawler_lineAhead
theorem TWP_26_ok : TWP_26.Ok Tryd.prog := TWP_25_ok.add ok_impl_crawler_lineAhead
theorem eq_impl_crawler_hasLineAhead (cr : List UInt8) (cw : Int) (ch : Int) (cc : List UInt8) (cx : Int) (cy : Int) (cd : Int) (cl : List UInt8) (K : V → Prop) : VC_impl_crawler_hasLineAhead cr cw ch cc cx cy cd cl K = vbody Tryd.prog (vin Tryd.prog TWP_26 annTWP 3) TWP_26.looks (annTWP 59) 59 [.agg [.str cr, .int .i64 cw, .int .i64 ch, .str cc, .int .i64 cx, .int .i64 cy, .int .i64 cd, .str cl]] [] (fun v _ => K v) := by kernel_rfl
theorem ok_impl_crawler_hasLineAhead : OK Tryd.prog 59 F_impl_crawler_hasLineAhead.spec := (vbody_ok (vin_ok TWP_26_ok annTWP 3) TWP_26_ok.looks _ _).ofF fun args m p R h hp => by
  unfold F_impl_crawler_hasLineAhead at h
  split at h
  · injection h with h; injection h with h1 h2; subst h1; subst h2
    exact ⟨rfl, (congrArg At (eq_impl_crawler_hasLineAhead _ _ _ _ _ _ _ _ _)).mp ⟨vc_impl_crawler_hasLineAhead _ _ _ _ _ _ _ _ hp⟩⟩
  · cases h
def TWP_27 : Tab := TWP_26.add 59 F_impl_crawler_hasLineAhead
theorem TWP_27_ok : TWP_27.Ok Tryd.prog := TWP_26_ok.add ok_impl_crawler_hasLineAhead
theorem eq_impl_crawler_withLineAhead (cr : List UInt8) (cw : Int) (ch : Int) (cc : List UInt8) (cx : Int) (cy : Int) (cd : Int) (cl : List UInt8) (s : List UInt8) (K : V → Prop) : VC_impl_crawler_withLineAhead cr cw ch cc cx cy cd cl s K = vbody Tryd.prog (vin Tryd.prog TWP_27 annTWP 3) TWP_27.looks (annTWP 90) 90 [.agg [.str cr, .int .i64 cw, .int .i64 ch, .str cc, .int .i64 cx, .int .i64 cy, .int .i64 cd, .str cl], .str s] [] (fun v _ => K v) := by kernel_rfl
theorem ok_impl_crawler_withLineAhead : OK Tryd.prog 90 F_impl_crawler_withLineAhead.spec := (vbody_ok (vin_ok TWP_27_ok annTWP 3) TWP_27_ok.looks _ _).ofF fun args m p R h hp => by
  unfold F_impl_crawler_withLineAhead at h
  split at h
  · injection h with h; injection h with h1 h2; subst h1; subst h2
    exact ⟨rfl, (congrArg At (eq_impl_crawler_withLineAhead _ _ _ _ _ _ _ _ _ _)).mp ⟨vc_impl_crawler_withLineAhead _ _ _ _ _ _ _ _ _ hp⟩⟩
  · cases h
def TWP_28 : Tab := TWP_27.add 90 F_impl_crawler_withLineAhead
theorem TWP_28_ok : TWP_28.Ok Tryd.prog := TWP_27_ok.add ok_impl_crawler_withLineAhead
theorem eq_impl_crawler_worm (cr : List UInt8) (cw : Int) (ch : Int) (cc : List UInt8) (cx : Int) (cy : Int) (cd : Int) (cl : List UInt8) (K : V → Prop) : VC_impl_crawler_worm cr cw ch cc cx cy cd cl K = vbody Tryd.prog (vin Tryd.prog TWP_28 annTWP 3) TWP_28.looks (annTWP 74) 74 [.agg [.str cr, .int .i64 cw, .int .i64 ch, .str cc, .int .i64 cx, .int .i64 cy, .int .i64 cd, .str cl]] [] (fun v _ => K v) := by kernel_rfl
theorem ok_impl_crawler_worm : OK Tryd.prog 74 F_impl_crawler_worm.spec := (vbody_ok (vin_ok TWP_28_ok annTWP 3) TWP_28_ok.looks _ _).ofF fun args m p R h hp => by
  unfold F_impl_crawler_worm at h
  split at h
  · injection h with h; injection h with h1 h2; subst h1; subst h2
    exact ⟨rfl, (congrArg At (eq_impl_crawler_worm _ _ _ _ _ _ _ _ _)).mp ⟨vc_impl_crawler_worm _ _ _ _ _ _ _ _ hp⟩⟩
  · cases h
def TWP_29 : Tab := TWP_28.add 74 F_impl_crawler_worm
theorem TWP_29_ok : TWP_29.Ok Tryd.prog := TWP_28_ok.add ok_impl_crawler_worm
theorem eq_impl_crawlerOf (mw : Int) (mh : Int) (mr : List UInt8) (mn : List UInt8) (mx : Int) (my : Int) (md : Int) (K : V → Prop) : VC_impl_crawlerOf mw mh mr mn mx my md K = vbody Tryd.prog (vin Tryd.prog TWP_29 annTWP 3) TWP_29.looks (annTWP 37) 37 [.agg [.int .i64 mw, .int .i64 mh, .str mr, .str mn, .int .i64 mx, .int .i64 my, .int .i64 md]] [] (fun v _ => K v) := by kernel_rfl
theorem ok_impl_crawlerOf : OK Tryd.prog 37 F_impl_crawlerOf.spec := (vbody_ok (vin_ok TWP_29_ok annTWP 3) TWP_29_ok.looks _ _).ofF fun args m p R h hp => by
  unfold F_impl_crawlerOf at h
  split at h
  · injection h with h; injection h with h1 h2; subst h1; subst h2
    exact ⟨rfl, (congrArg At (eq_impl_crawlerOf _ _ _ _ _ _ _ _)).mp ⟨vc_impl_crawlerOf _ _ _ _ _ _ _ hp⟩⟩
  · cases h
def TWP_30 : Tab := TWP_29.add 37 F_impl_crawlerOf
theorem TWP_30_ok : TWP_30.Ok Tryd.prog := TWP_29_ok.add ok_impl_crawlerOf
theorem eq_impl_crawler_linesAt (cr : List UInt8) (cw : Int) (ch : Int) (cc : List UInt8) (cx : Int) (cy : Int) (cd : Int) (cl : List UInt8) (k : Int) (K : V → Prop) : VC_impl_crawler_linesAt cr cw ch cc cx cy cd cl k K = vbody Tryd.prog (vin Tryd.prog TWP_30 annTWP 3) TWP_30.looks (annTWP 39) 39 [.agg [.str cr, .int .i64 cw, .int .i64 ch, .str cc, .int .i64 cx, .int .i64 cy, .int .i64 cd, .str cl], .int .i64 k] [] (fun v _ => K v) := by kernel_rfl
theorem ok_impl_crawler_linesAt : OK Tryd.prog 39 F_impl_crawler_linesAt.spec := (vbody_ok (vin_ok TWP_30_ok annTWP 3) TWP_30_ok.looks _ _).ofF fun args m p R h hp => by
  unfold F_impl_crawler_linesAt at h
  split at h
  · injection h with h; injection h with h1 h2; subst h1; subst h2
    exact ⟨rfl, (congrArg At (eq_impl_crawler_linesAt _ _ _ _ _ _ _ _ _ _)).mp ⟨vc_impl_crawler_linesAt _ _ _ _ _ _ _ _ _ hp⟩⟩
  · cases h
def TWP_31 : Tab := TWP_30.add 39 F_impl_crawler_linesAt
theorem TWP_31_ok : TWP_31.Ok Tryd.prog := TWP_30_ok.add ok_impl_crawler_linesAt
theorem eq_impl_crawler_goOn (cr : List UInt8) (cw : Int) (ch : Int) (cc : List UInt8) (cx : Int) (cy : Int) (cd : Int) (cl : List UInt8) (t : List UInt8) (K : V → Prop) : VC_impl_crawler_goOn cr cw ch cc cx cy cd cl t K = vbody Tryd.prog (vin Tryd.prog TWP_31 annTWP 3) TWP_31.looks (annTWP 73) 73 [.agg [.str cr, .int .i64 cw, .int .i64 ch, .str cc, .int .i64 cx, .int .i64 cy, .int .i64 cd, .str cl], .str t] [] (fun v _ => K v) := by kernel_rfl
theorem ok_impl_crawler_goOn : OK Tryd.prog 73 F_impl_crawler_goOn.spec := (vbody_ok (vin_ok TWP_31_ok annTWP 3) TWP_31_ok.looks _ _).ofF fun args m p R h hp => by
  unfold F_impl_crawler_goOn at h
  split at h
  · injection h with h; injection h with h1 h2; subst h1; subst h2
    exact ⟨rfl, (congrArg At (eq_impl_crawler_goOn _ _ _ _ _ _ _ _ _ _)).mp ⟨vc_impl_crawler_goOn _ _ _ _ _ _ _ _ _ hp⟩⟩
  · cases h
def TWP_32 : Tab := TWP_31.add 73 F_impl_crawler_goOn
theorem TWP_32_ok : TWP_32.Ok Tryd.prog := TWP_31_ok.add ok_impl_crawler_goOn
theorem eq_spec_wmLine (mw : Int) (mh : Int) (mr : List UInt8) (mn : List UInt8) (mx : Int) (my : Int) (md : Int) (x : Int) (y : Int) (q : Int) (K : V → Prop) : VC_spec_wmLine mw mh mr mn mx my md x y q K = vbody Tryd.prog (vin Tryd.prog TWP_32 annTWP 3) TWP_32.looks (annTWP 60) 60 [.agg [.int .i64 mw, .int .i64 mh, .str mr, .str mn, .int .i64 mx, .int .i64 my, .int .i64 md], .int .i64 x, .int .i64 y, .int .i64 q] [] (fun v _ => K v) := by kernel_rfl
theorem ok_spec_wmLine : OK Tryd.prog 60 F_spec_wmLine.spec := (vbody_ok (vin_ok TWP_32_ok annTWP 3) TWP_32_ok.looks _ _).ofF fun args m p R h hp => by
  unfold F_spec_wmLine at h
  split at h
  · injection h with h; injection h with h1 h2; subst h1; subst h2
    exact ⟨rfl, (congrArg At (eq_spec_wmLine _ _ _ _ _ _ _ _ _ _ _)).mp ⟨vc_spec_wmLine _ _ _ _ _ _ _ _ _ _ hp⟩⟩
  · cases h
def TWP_33 : Tab := TWP_32.add 60 F_spec_wmLine
theorem TWP_33_ok : TWP_33.Ok Tryd.prog := TWP_32_ok.add ok_spec_wmLine
theorem eq_spec_wmHas (mw : Int) (mh : Int) (mr : List UInt8) (mn : List UInt8) (mx : Int) (my : Int) (md : Int) (x : Int) (y : Int) (q : Int) (K : V → Prop) : VC_spec_wmHas mw mh mr mn mx my md x y q K = vbody Tryd.prog (vin Tryd.prog TWP_33 annTWP 3) TWP_33.looks (annTWP 40) 40 [.agg [.int .i64 mw, .int .i64 mh, .str mr, .str mn, .int .i64 mx, .int .i64 my, .int .i64 md], .int .i64 x, .int .i64 y, .int .i64 q] [] (fun v _ => K v) := by kernel_rfl
theorem ok_spec_wmHas : OK Tryd.prog 40 F_spec_wmHas.spec := (vbody_ok (vin_ok TWP_33_ok annTWP 3) TWP_33_ok.looks _ _).ofF fun args m p R h hp => by
  unfold F_spec_wmHas at h
  split at h
  · injection h with h; injection h with h1 h2; subst h1; subst h2
    exact ⟨rfl, (congrArg At (eq_spec_wmHas _ _ _ _ _ _ _ _ _ _ _)).mp ⟨vc_spec_wmHas _ _ _ _ _ _ _ _ _ _ hp⟩⟩
  · cases h
def TWP_34 : Tab := TWP_33.add 40 F_spec_wmHas
theorem TWP_34_ok : TWP_34.Ok Tryd.prog := TWP_33_ok.add ok_spec_wmHas
theorem eq_spec_wmAt (mw : Int) (mh : Int) (mr : List UInt8) (mn : List UInt8) (mx : Int) (my : Int) (md : Int) (x : Int) (y : Int) (K : V → Prop) : VC_spec_wmAt mw mh mr mn mx my md x y K = vbody Tryd.prog (vin Tryd.prog TWP_34 annTWP 3) TWP_34.looks (annTWP 36) 36 [.agg [.int .i64 mw, .int .i64 mh, .str mr, .str mn, .int .i64 mx, .int .i64 my, .int .i64 md], .int .i64 x, .int .i64 y] [] (fun v _ => K v) := by kernel_rfl
theorem ok_spec_wmAt : OK Tryd.prog 36 F_spec_wmAt.spec := (vbody_ok (vin_ok TWP_34_ok annTWP 3) TWP_34_ok.looks _ _).ofF fun args m p R h hp => by
  unfold F_spec_wmAt at h
  split at h
  · injection h with h; injection h with h1 h2; subst h1; subst h2
    exact ⟨rfl, (congrArg At (eq_spec_wmAt _ _ _ _ _ _ _ _ _ _)).mp ⟨vc_spec_wmAt _ _ _ _ _ _ _ _ _ hp⟩⟩
  · cases h
def TWP_35 : Tab := TWP_34.add 36 F_spec_wmAt
theorem TWP_35_ok : TWP_35.Ok Tryd.prog := TWP_34_ok.add ok_spec_wmAt
theorem eq_spec_wmSet (x : Int) (y : Int) (q : Int) (s : List UInt8) (mw : Int) (mh : Int) (mr : List UInt8) (mn : List UInt8) (mx : Int) (my : Int) (md : Int) (e : TypeId) (K : V → List Blk → Prop) : VC_spec_wmSet x y q s mw mh mr mn mx my md e K = vbody Tryd.prog (vin Tryd.prog TWP_35 annTWP 3) TWP_35.looks (annTWP 70) 70 [.ptr 0 0, .int .i64 x, .int .i64 y, .int .i64 q, .str s] [⟨.vals [.int .i64 mw, .int .i64 mh, .str mr, .str mn, .int .i64 mx, .int .i64 my, .int .i64 md], e, .box⟩] (K) := by kernel_rfl
theorem ok_spec_wmSet : OK Tryd.prog 70 F_spec_wmSet.spec := (vbody_ok (vin_ok TWP_35_ok annTWP 3) TWP_35_ok.looks _ _).ofG fun args m p R M h hp => by
  unfold F_spec_wmSet at h
  split at h
  · injection h with h; injection h with h1 h2; injection h2 with h2 h3; subst h1; subst h2; subst h3
    exact (congrArg At (eq_spec_wmSet _ _ _ _ _ _ _ _ _ _ _ _ _)).mp ⟨vc_spec_wmSet _ _ _ _ _ _ _ _ _ _ _ _ hp⟩
  · cases h
def TWP_36 : Tab := TWP_35.addG 70 F_spec_wmSet
theorem TWP_36_ok : TWP_36.Ok Tryd.prog := TWP_35_ok.addG ok_spec_wmSet
theorem eq_spec_wmGo (q : Int) (k : Int) (mw : Int) (mh : Int) (mr : List UInt8) (mn : List UInt8) (mx : Int) (my : Int) (md : Int) (e : TypeId) (K : V → List Blk → Prop) : VC_spec_wmGo q k mw mh mr mn mx my md e K = vbody Tryd.prog (vin Tryd.prog TWP_36 annTWP 3) TWP_36.looks (annTWP 41) 41 [.ptr 0 0, .int .i64 q, .int .i64 k] [⟨.vals [.int .i64 mw, .int .i64 mh, .str mr, .str mn, .int .i64 mx, .int .i64 my, .int .i64 md], e, .box⟩] (K) := by kernel_rfl
theorem ok_spec_wmGo : OK Tryd.prog 41 F_spec_wmGo.spec := (vbody_ok (vin_ok TWP_36_ok annTWP 3) TWP_36_ok.looks _ _).ofG fun args m p R M h hp => by
  unfold F_spec_wmGo at h
  split at h
  · injection h with h; injection h with h1 h2; injection h2 with h2 h3; subst h1; subst h2; subst h3
    exact (congrArg At (eq_spec_wmGo _ _ _ _ _ _ _ _ _ _ _)).mp ⟨vc_spec_wmGo _ _ _ _ _ _ _ _ _ _ hp⟩
  · cases h
def TWP_37 : Tab := TWP_36.addG 41 F_spec_wmGo
theorem TWP_37_ok : TWP_37.Ok Tryd.prog := TWP_36_ok.addG ok_spec_wmGo
theorem eq_spec_wmEat (t : List UInt8) (mw : Int) (mh : Int) (mr : List UInt8) (mn : List UInt8) (mx : Int) (my : Int) (md : Int) (e : TypeId) (K : V → List Blk → Prop) : VC_spec_wmEat t mw mh mr mn mx my md e K = vbody Tryd.prog (vin Tryd.prog TWP_37 annTWP 3) TWP_37.looks (annTWP 53) 53 [.ptr 0 0, .str t] [⟨.vals [.int .i64 mw, .int .i64 mh, .str mr, .str mn, .int .i64 mx, .int .i64 my, .int .i64 md], e, .box⟩] (K) := by kernel_rfl
theorem ok_spec_wmEat : OK Tryd.prog 53 F_spec_wmEat.spec := (vbody_ok (vin_ok TWP_37_ok annTWP 3) TWP_37_ok.looks _ _).ofG fun args m p R M h hp => by
  unfold F_spec_wmEat at h
  split at h
  · injection h with h; injection h with h1 h2; injection h2 with h2 h3; subst h1; subst h2; subst h3
    exact (congrArg At (eq_spec_wmEat _ _ _ _ _ _ _ _ _ _)).mp ⟨vc_spec_wmEat _ _ _ _ _ _ _ _ _ hp⟩
  · cases h
def TWP_38 : Tab := TWP_37.addG 53 F_spec_wmEat
theorem TWP_38_ok : TWP_38.Ok Tryd.prog := TWP_37_ok.addG ok_spec_wmEat
theorem eq_impl_crawler_reach (cr : List UInt8) (cw : Int) (ch : Int) (cc : List UInt8) (cx : Int) (cy : Int) (cd : Int) (cl : List UInt8) (k : Int) (n : Nat) (l : List Bool) (mm : Nat) (K : V → List Blk → Prop) : VC_impl_crawler_reach cr cw ch cc cx cy cd cl k n l mm K = vbody Tryd.prog (vin Tryd.prog (TWP_38.addG 42 (F_impl_crawler_reach mm)) annTWP 3) (TWP_38.addG 42 (F_impl_crawler_reach mm)).looks (annTWP 42) 42 [.agg [.str cr, .int .i64 cw, .int .i64 ch, .str cc, .int .i64 cx, .int .i64 cy, .int .i64 cd, .str cl], .int .i64 k, .row 0 n] [⟨.bools l, 4, .row⟩] (K) := by kernel_rfl
theorem ok_impl_crawler_reach : ∀ mm : Nat, OK Tryd.prog 42 (F_impl_crawler_reach mm).spec
  | 0 => (vbody_ok (vin_ok TWP_38_ok annTWP 3) TWP_38_ok.looks (annTWP 42) _).ofG fun args m p R M h hp => by
    unfold F_impl_crawler_reach at h
    split at h
    · injection h with h; injection h with h1 h2; injection h2 with h2 h3; subst h1; subst h2; subst h3
      exact absurd hp.1 (Nat.not_lt_zero _)
    · cases h
  | mm + 1 => (vbody_ok (vin_ok (TWP_38_ok.addG (ok_impl_crawler_reach mm)) annTWP 3) (TWP_38_ok.addG (ok_impl_crawler_reach mm)).looks _ _).ofG fun args m p R M h hp => by
    unfold F_impl_crawler_reach at h
    split at h
    · injection h with h; injection h with h1 h2; injection h2 with h2 h3; subst h1; subst h2; subst h3
      exact (congrArg At (eq_impl_crawler_reach _ _ _ _ _ _ _ _ _ _ _ mm _)).mp ⟨vc_impl_crawler_reach _ _ _ _ _ _ _ _ _ _ _ mm hp⟩
    · cases h
def TWP_39 : Tab := TWP_38.addG 42 (F_impl_crawler_reach 37)
theorem TWP_39_ok : TWP_39.Ok Tryd.prog := TWP_38_ok.addG (ok_impl_crawler_reach 37)
theorem eq_spec_PiecesLeft (mw : Int) (mh : Int) (mr : List UInt8) (mn : List UInt8) (mx : Int) (my : Int) (md : Int) (K : V → Prop) : VC_spec_PiecesLeft mw mh mr mn mx my md K = vbody Tryd.prog (vin Tryd.prog TWP_39 annTWP 3) TWP_39.looks (annTWP 21) 21 [.agg [.int .i64 mw, .int .i64 mh, .str mr, .str mn, .int .i64 mx, .int .i64 my, .int .i64 md]] [] (fun v _ => K v) := by kernel_rfl
theorem ok_spec_PiecesLeft : OK Tryd.prog 21 F_spec_PiecesLeft.spec := (vbody_ok (vin_ok TWP_39_ok annTWP 3) TWP_39_ok.looks _ _).ofF fun args m p R h hp => by
  unfold F_spec_PiecesLeft at h
  split at h
  · injection h with h; injection h with h1 h2; subst h1; subst h2
    exact ⟨rfl, (congrArg At (eq_spec_PiecesLeft _ _ _ _ _ _ _ _)).mp ⟨vc_spec_PiecesLeft _ _ _ _ _ _ _ hp⟩⟩
  · cases h
def TWP_40 : Tab := TWP_39.add 21 F_spec_PiecesLeft
theorem TWP_40_ok : TWP_40.Ok Tryd.prog := TWP_39_ok.add ok_spec_PiecesLeft
theorem eq_impl_PiecesLeft (mw : Int) (mh : Int) (mr : List UInt8) (mn : List UInt8) (mx : Int) (my : Int) (md : Int) (K : V → Prop) : VC_impl_PiecesLeft mw mh mr mn mx my md K = vbody Tryd.prog (vin Tryd.prog TWP_40 annTWP 3) TWP_40.looks (annTWP 22) 22 [.agg [.int .i64 mw, .int .i64 mh, .str mr, .str mn, .int .i64 mx, .int .i64 my, .int .i64 md]] [] (fun v _ => K v) := by kernel_rfl
theorem ok_impl_PiecesLeft : OK Tryd.prog 22 F_impl_PiecesLeft.spec := (vbody_ok (vin_ok TWP_40_ok annTWP 3) TWP_40_ok.looks _ _).ofF fun args m p R h hp => by
  unfold F_impl_PiecesLeft at h
  split at h
  · injection h with h; injection h with h1 h2; subst h1; subst h2
    exact ⟨rfl, (congrArg At (eq_impl_PiecesLeft _ _ _ _ _ _ _ _)).mp ⟨vc_impl_PiecesLeft _ _ _ _ _ _ _ hp⟩⟩
  · cases h
def TWP_41 : Tab := TWP_40.add 22 F_impl_PiecesLeft
theorem TWP_41_ok : TWP_41.Ok Tryd.prog := TWP_40_ok.add ok_impl_PiecesLeft
def TWP : Tab := TWP_41
theorem TWP_ok : TWP.Ok Tryd.prog := TWP_41_ok
end Go.Proofs.YtioppaofihbmpabDoor
