/- The contracts of this chapter. -/
import Derived.Test.YtpkokghbkamelaaDoorSPLib
import Derived.Test.YtpkokghbkamelaaDoorProg
import Derived.Test.YtpkokghbkamelaaDoorSPPf
import Derived.KernelRfl
namespace Go.Proofs.YtpkokghbkamelaaDoor
open Go Go.Vi
set_option linter.unusedVariables false
def annTSP : FuncId -> Nat -> St -> Option Ann := fun f => if f = 142 then ann_spec_woRule else if f = 104 then ann_impl_quartersOfTurn else if f = 74 then ann_laws_szRowS else if f = 78 then ann_laws_toRowS else if f = 82 then ann_laws_eqRowS else if f = 75 then ann_spec_taGood else if f = 52 then ann_impl_IsTable else if f = 123 then ann_laws_markText else if f = 83 then ann_laws_markRowS else if f = 87 then ann_laws_heldRowS else if f = 58 then ann_impl_areColours else if f = 51 then ann_spec_taScene else if f = 16 then ann_impl_IsScene else if f = 60 then ann_spec_taStep else if f = 64 then ann_impl_actor_goOn else if f = 105 then ann_impl_actor_scene else if f = 22 then ann_spec_SceneAfter else if f = 63 then ann_impl_played else if f = 28 then ann_spec_PaintedAfter else (fun _ _ => none)
def TSP_0 : Tab := Tab.none
theorem TSP_0_ok : TSP_0.Ok Tryd.prog := Tab.none_ok
theorem eq_spec_l1In (n : Int) (lo : Int) (hi : Int) (K : V -> Prop) : VC_spec_l1In n lo hi K = vbody Tryd.prog (vin Tryd.prog TSP_0 annTSP 3) TSP_0.looks (annTSP 102) 102 [.int .i64 n, .int .i64 lo, .int .i64 hi] [] (fun v _ => K v) := by kernel_rfl
theorem ok_spec_l1In : OK Tryd.prog 102 F_spec_l1In.spec := (vbody_ok (vin_ok TSP_0_ok annTSP 3) TSP_0_ok.looks _ _).ofF fun args m p R h hp => by
 unfold F_spec_l1In at h
 split at h
 ·injection h with h; injection h with h1 h2; subst h1; subst h2
  exact ⟨rfl, (congrArg At (eq_spec_l1In _ _ _ _)).mp ⟨vc_spec_l1In _ _ _ hp⟩⟩
 ·cases h
def TSP_1 : Tab := TSP_0.add 102 F_spec_l1In
theorem TSP_1_ok : TSP_1.Ok Tryd.prog := TSP_0_ok.add ok_spec_l1In
theorem eq_impl_within (n : Int) (lo : Int) (hi : Int) (K : V -> Prop) : VC_impl_within n lo hi K = vbody Tryd.prog (vin Tryd.prog TSP_1 annTSP 3) TSP_1.looks (annTSP 57) 57 [.int .i64 n, .int .i64 lo, .int .i64 hi] [] (fun v _ => K v) := by kernel_rfl
theorem ok_impl_within : OK Tryd.prog 57 F_impl_within.spec := (vbody_ok (vin_ok TSP_1_ok annTSP 3) TSP_1_ok.looks _ _).ofF fun args m p R h hp => by
 unfold F_impl_within at h
 split at h
 ·injection h with h; injection h with h1 h2; subst h1; subst h2
  exact ⟨rfl, (congrArg At (eq_impl_within _ _ _ _)).mp ⟨vc_impl_within _ _ _ hp⟩⟩
 ·cases h
def TSP_2 : Tab := TSP_1.add 57 F_impl_within
theorem TSP_2_ok : TSP_2.Ok Tryd.prog := TSP_1_ok.add ok_impl_within
theorem eq_spec_woRule (s : List UInt8) (K : V -> Prop) : VC_spec_woRule s K = vbody Tryd.prog (vin Tryd.prog TSP_2 annTSP 3) TSP_2.looks (annTSP 142) 142 [.str s] [] (fun v _ => K v) := by kernel_rfl
theorem ok_spec_woRule : OK Tryd.prog 142 F_spec_woRule.spec := (vbody_ok (vin_ok TSP_2_ok annTSP 3) TSP_2_ok.looks _ _).ofF fun args m p R h hp => by
 unfold F_spec_woRule at h
 split at h
 ·injection h with h; injection h with h1 h2; subst h1; subst h2
  exact ⟨rfl, (congrArg At (eq_spec_woRule _ _)).mp ⟨vc_spec_woRule _ hp⟩⟩
 ·cases h
def TSP_3 : Tab := TSP_2.add 142 F_spec_woRule
theorem TSP_3_ok : TSP_3.Ok Tryd.prog := TSP_2_ok.add ok_spec_woRule
theorem eq_spec_taSign (s : List UInt8) (K : V -> Prop) : VC_spec_taSign s K = vbody Tryd.prog (vin Tryd.prog TSP_3 annTSP 3) TSP_3.looks (annTSP 117) 117 [.str s] [] (fun v _ => K v) := by kernel_rfl
theorem ok_spec_taSign : OK Tryd.prog 117 F_spec_taSign.spec := (vbody_ok (vin_ok TSP_3_ok annTSP 3) TSP_3_ok.looks _ _).ofF fun args m p R h hp => by
 unfold F_spec_taSign at h
 split at h
 ·injection h with h; injection h with h1 h2; subst h1; subst h2
  exact ⟨rfl, (congrArg At (eq_spec_taSign _ _)).mp ⟨vc_spec_taSign _ hp⟩⟩
 ·cases h
def TSP_4 : Tab := TSP_3.add 117 F_spec_taSign
theorem TSP_4_ok : TSP_4.Ok Tryd.prog := TSP_3_ok.add ok_spec_taSign
theorem eq_impl_quartersOfTurn (s : List UInt8) (g0 : List UInt8) (g1 : List UInt8) (g2 : List UInt8) (g3 : List UInt8) (K : V -> List Blk -> Prop) : VC_impl_quartersOfTurn s g0 g1 g2 g3 K = vbody Tryd.prog (vin Tryd.prog TSP_4 annTSP 3) TSP_4.looks (annTSP 104) 104 [.str s] [⟨.vals [.str g0, .str g1, .str g2, .str g3], 9, .gl 0⟩] (K) := by kernel_rfl
theorem ok_impl_quartersOfTurn : OK Tryd.prog 104 F_impl_quartersOfTurn.spec := (vbody_ok (vin_ok TSP_4_ok annTSP 3) TSP_4_ok.looks _ _).ofFM fun args m p R h hp => by
 unfold F_impl_quartersOfTurn at h
 split at h
 ·injection h with h; injection h with h1 h2; subst h1; subst h2
  exact (congrArg At (eq_impl_quartersOfTurn _ _ _ _ _ _)).mp ⟨vc_impl_quartersOfTurn _ _ _ _ _ hp⟩
 ·cases h
def TSP_5 : Tab := TSP_4.add 104 F_impl_quartersOfTurn
theorem TSP_5_ok : TSP_5.Ok Tryd.prog := TSP_4_ok.add ok_impl_quartersOfTurn
theorem eq_laws_szRow (ra : Int) (rt : List UInt8) (rb : Int) (left : Int) (K : V -> Prop) : VC_laws_szRow ra rt rb left K = vbody Tryd.prog (vin Tryd.prog TSP_5 annTSP 3) TSP_5.looks (annTSP 116) 116 [.agg [.int .i64 ra, .str rt, .int .i64 rb], .int .i64 left] [] (fun v _ => K v) := by kernel_rfl
theorem ok_laws_szRow : OK Tryd.prog 116 F_laws_szRow.spec := (vbody_ok (vin_ok TSP_5_ok annTSP 3) TSP_5_ok.looks _ _).ofF fun args m p R h hp => by
 unfold F_laws_szRow at h
 split at h
 ·injection h with h; injection h with h1 h2; subst h1; subst h2
  exact ⟨rfl, (congrArg At (eq_laws_szRow _ _ _ _ _)).mp ⟨vc_laws_szRow _ _ _ _ hp⟩⟩
 ·cases h
def TSP_6 : Tab := TSP_5.add 116 F_laws_szRow
theorem TSP_6_ok : TSP_6.Ok Tryd.prog := TSP_5_ok.add ok_laws_szRow
theorem eq_laws_szRowS (left : Int) (n : Nat) (c : List Sc) (K : V -> List Blk -> Prop) : VC_laws_szRowS left n c K = vbody Tryd.prog (vin Tryd.prog TSP_6 annTSP 3) TSP_6.looks (annTSP 74) 74 [.row 0 n, .int .i64 left] [⟨.recs [.int .i64, .str, .int .i64] c, 139, .arg 3⟩] (K) := by kernel_rfl
theorem ok_laws_szRowS : OK Tryd.prog 74 F_laws_szRowS.spec := (vbody_ok (vin_ok TSP_6_ok annTSP 3) TSP_6_ok.looks _ _).ofFM fun args m p R h hp => by
 unfold F_laws_szRowS at h
 split at h
 ·injection h with h; injection h with h1 h2; subst h1; subst h2
  exact (congrArg At (eq_laws_szRowS _ _ _ _)).mp ⟨vc_laws_szRowS _ _ _ hp⟩
 ·cases h
def TSP_7 : Tab := TSP_6.add 74 F_laws_szRowS
theorem TSP_7_ok : TSP_7.Ok Tryd.prog := TSP_6_ok.add ok_laws_szRowS
theorem eq_laws_szTable (left : Int) (s : Int) (i : Int) (n : Nat) (c : List Sc) (K : V -> List Blk -> Prop) : VC_laws_szTable left s i n c K = vbody Tryd.prog (vin Tryd.prog TSP_7 annTSP 3) TSP_7.looks (annTSP 30) 30 [.agg [.int .i64 s, .int .i64 i, .row 0 n], .int .i64 left] [⟨.recs [.int .i64, .str, .int .i64] c, 139, .arg 3⟩] (K) := by kernel_rfl
theorem ok_laws_szTable : OK Tryd.prog 30 F_laws_szTable.spec := (vbody_ok (vin_ok TSP_7_ok annTSP 3) TSP_7_ok.looks _ _).ofFM fun args m p R h hp => by
 unfold F_laws_szTable at h
 split at h
 ·injection h with h; injection h with h1 h2; subst h1; subst h2
  exact (congrArg At (eq_laws_szTable _ _ _ _ _ _)).mp ⟨vc_laws_szTable _ _ _ _ _ hp⟩
 ·cases h
def TSP_8 : Tab := TSP_7.add 30 F_laws_szTable
theorem TSP_8_ok : TSP_8.Ok Tryd.prog := TSP_7_ok.add ok_laws_szTable
theorem eq_laws_toRow (ra : Int) (rt : List UInt8) (rb : Int) (K : V -> Prop) : VC_laws_toRow ra rt rb K = vbody Tryd.prog (vin Tryd.prog TSP_8 annTSP 3) TSP_8.looks (annTSP 118) 118 [.agg [.int .i64 ra, .str rt, .int .i64 rb]] [] (fun v _ => K v) := by kernel_rfl
theorem ok_laws_toRow : OK Tryd.prog 118 F_laws_toRow.spec := (vbody_ok (vin_ok TSP_8_ok annTSP 3) TSP_8_ok.looks _ _).ofF fun args m p R h hp => by
 unfold F_laws_toRow at h
 split at h
 ·injection h with h; injection h with h1 h2; subst h1; subst h2
  exact ⟨rfl, (congrArg At (eq_laws_toRow _ _ _ _)).mp ⟨vc_laws_toRow _ _ _ hp⟩⟩
 ·cases h
def TSP_9 : Tab := TSP_8.add 118 F_laws_toRow
theorem TSP_9_ok : TSP_9.Ok Tryd.prog := TSP_8_ok.add ok_laws_toRow
theorem eq_laws_toRowS  (n : Nat) (c : List Sc) (K : V -> List Blk -> Prop) : VC_laws_toRowS  n c K = vbody Tryd.prog (vin Tryd.prog TSP_9 annTSP 3) TSP_9.looks (annTSP 78) 78 [.row 0 n] [⟨.recs [.int .i64, .str, .int .i64] c, 139, .arg 3⟩] (K) := by kernel_rfl
theorem ok_laws_toRowS : OK Tryd.prog 78 F_laws_toRowS.spec := (vbody_ok (vin_ok TSP_9_ok annTSP 3) TSP_9_ok.looks _ _).ofG fun args m p R M h hp => by
 unfold F_laws_toRowS at h
 split at h
 ·injection h with h; injection h with h1 h2; injection h2 with h2 h3; subst h1; subst h2; subst h3
  exact (congrArg At (eq_laws_toRowS _ _ _)).mp ⟨vc_laws_toRowS _ _ hp⟩
 ·cases h
def TSP_10 : Tab := TSP_9.addG 78 F_laws_toRowS
theorem TSP_10_ok : TSP_10.Ok Tryd.prog := TSP_9_ok.addG ok_laws_toRowS
theorem eq_laws_toTable  (s : Int) (i : Int) (n : Nat) (c : List Sc) (K : V -> List Blk -> Prop) : VC_laws_toTable  s i n c K = vbody Tryd.prog (vin Tryd.prog TSP_10 annTSP 3) TSP_10.looks (annTSP 32) 32 [.agg [.int .i64 s, .int .i64 i, .row 0 n]] [⟨.recs [.int .i64, .str, .int .i64] c, 139, .arg 3⟩] (K) := by kernel_rfl
theorem ok_laws_toTable : OK Tryd.prog 32 F_laws_toTable.spec := (vbody_ok (vin_ok TSP_10_ok annTSP 3) TSP_10_ok.looks _ _).ofG fun args m p R M h hp => by
 unfold F_laws_toTable at h
 split at h
 ·injection h with h; injection h with h1 h2; injection h2 with h2 h3; subst h1; subst h2; subst h3
  exact (congrArg At (eq_laws_toTable _ _ _ _ _)).mp ⟨vc_laws_toTable _ _ _ _ hp⟩
 ·cases h
def TSP_11 : Tab := TSP_10.addG 32 F_laws_toTable
theorem TSP_11_ok : TSP_11.Ok Tryd.prog := TSP_10_ok.addG ok_laws_toTable
theorem eq_laws_eqRow (ra : Int) (rt : List UInt8) (rb : Int) (qa : Int) (qt : List UInt8) (qb : Int) (K : V -> Prop) : VC_laws_eqRow ra rt rb qa qt qb K = vbody Tryd.prog (vin Tryd.prog TSP_11 annTSP 3) TSP_11.looks (annTSP 122) 122 [.agg [.int .i64 ra, .str rt, .int .i64 rb], .agg [.int .i64 qa, .str qt, .int .i64 qb]] [] (fun v _ => K v) := by kernel_rfl
theorem ok_laws_eqRow : OK Tryd.prog 122 F_laws_eqRow.spec := (vbody_ok (vin_ok TSP_11_ok annTSP 3) TSP_11_ok.looks _ _).ofF fun args m p R h hp => by
 unfold F_laws_eqRow at h
 split at h
 ·injection h with h; injection h with h1 h2; subst h1; subst h2
  exact ⟨rfl, (congrArg At (eq_laws_eqRow _ _ _ _ _ _ _)).mp ⟨vc_laws_eqRow _ _ _ _ _ _ hp⟩⟩
 ·cases h
def TSP_12 : Tab := TSP_11.add 122 F_laws_eqRow
theorem TSP_12_ok : TSP_12.Ok Tryd.prog := TSP_11_ok.add ok_laws_eqRow
theorem eq_laws_eqRowS  (n : Nat) (m : Nat) (c : List Sc) (d : List Sc) (K : V -> List Blk -> Prop) : VC_laws_eqRowS  n m c d K = vbody Tryd.prog (vin Tryd.prog TSP_12 annTSP 3) TSP_12.looks (annTSP 82) 82 [.row 0 n, .row 1 m] [⟨.recs [.int .i64, .str, .int .i64] c, 96, .rows 3⟩, ⟨.recs [.int .i64, .str, .int .i64] d, 96, .rows 3⟩] (K) := by kernel_rfl
theorem ok_laws_eqRowS : OK Tryd.prog 82 F_laws_eqRowS.spec := (vbody_ok (vin_ok TSP_12_ok annTSP 3) TSP_12_ok.looks _ _).ofFM fun args m p R h hp => by
 unfold F_laws_eqRowS at h
 split at h
 ·injection h with h; injection h with h1 h2; subst h1; subst h2
  exact (congrArg At (eq_laws_eqRowS _ _ _ _ _)).mp ⟨vc_laws_eqRowS _ _ _ _ hp⟩
 ·cases h
def TSP_13 : Tab := TSP_12.add 82 F_laws_eqRowS
theorem TSP_13_ok : TSP_13.Ok Tryd.prog := TSP_12_ok.add ok_laws_eqRowS
theorem eq_laws_eqTable  (s : Int) (i : Int) (n : Nat) (c : List Sc) (p : Int) (q : Int) (m : Nat) (d : List Sc) (K : V -> List Blk -> Prop) : VC_laws_eqTable  s i n c p q m d K = vbody Tryd.prog (vin Tryd.prog TSP_13 annTSP 3) TSP_13.looks (annTSP 35) 35 [.agg [.int .i64 s, .int .i64 i, .row 0 n], .agg [.int .i64 p, .int .i64 q, .row 1 m]] [⟨.recs [.int .i64, .str, .int .i64] c, 96, .rows 3⟩, ⟨.recs [.int .i64, .str, .int .i64] d, 96, .rows 3⟩] (K) := by kernel_rfl
theorem ok_laws_eqTable : OK Tryd.prog 35 F_laws_eqTable.spec := (vbody_ok (vin_ok TSP_13_ok annTSP 3) TSP_13_ok.looks _ _).ofFM fun args m p R h hp => by
 unfold F_laws_eqTable at h
 split at h
 ·injection h with h; injection h with h1 h2; subst h1; subst h2
  exact (congrArg At (eq_laws_eqTable _ _ _ _ _ _ _ _ _)).mp ⟨vc_laws_eqTable _ _ _ _ _ _ _ _ hp⟩
 ·cases h
def TSP_14 : Tab := TSP_13.add 35 F_laws_eqTable
theorem TSP_14_ok : TSP_14.Ok Tryd.prog := TSP_13_ok.add ok_laws_eqTable
theorem eq_spec_taGood  (s : Int) (i : Int) (n : Nat) (c : List Sc) (K : V -> List Blk -> Prop) : VC_spec_taGood  s i n c K = vbody Tryd.prog (vin Tryd.prog TSP_14 annTSP 3) TSP_14.looks (annTSP 75) 75 [.agg [.int .i64 s, .int .i64 i, .row 0 n]] [⟨.recs [.int .i64, .str, .int .i64] c, 96, .rows 3⟩] (K) := by kernel_rfl
theorem ok_spec_taGood : OK Tryd.prog 75 F_spec_taGood.spec := (vbody_ok (vin_ok TSP_14_ok annTSP 3) TSP_14_ok.looks _ _).ofFM fun args m p R h hp => by
 unfold F_spec_taGood at h
 split at h
 ·injection h with h; injection h with h1 h2; subst h1; subst h2
  exact (congrArg At (eq_spec_taGood _ _ _ _ _)).mp ⟨vc_spec_taGood _ _ _ _ hp⟩
 ·cases h
def TSP_15 : Tab := TSP_14.add 75 F_spec_taGood
theorem TSP_15_ok : TSP_15.Ok Tryd.prog := TSP_14_ok.add ok_spec_taGood
theorem eq_impl_isTableSize (a : Int) (b : Int) (K : V -> Prop) : VC_impl_isTableSize a b K = vbody Tryd.prog (vin Tryd.prog TSP_15 annTSP 3) TSP_15.looks (annTSP 103) 103 [.int .i64 a, .int .i64 b] [] (fun v _ => K v) := by kernel_rfl
theorem ok_impl_isTableSize : OK Tryd.prog 103 F_impl_isTableSize.spec := (vbody_ok (vin_ok TSP_15_ok annTSP 3) TSP_15_ok.looks _ _).ofF fun args m p R h hp => by
 unfold F_impl_isTableSize at h
 split at h
 ·injection h with h; injection h with h1 h2; subst h1; subst h2
  exact ⟨rfl, (congrArg At (eq_impl_isTableSize _ _ _)).mp ⟨vc_impl_isTableSize _ _ hp⟩⟩
 ·cases h
def TSP_16 : Tab := TSP_15.add 103 F_impl_isTableSize
theorem TSP_16_ok : TSP_16.Ok Tryd.prog := TSP_15_ok.add ok_impl_isTableSize
theorem eq_impl_IsTable  (s : Int) (i : Int) (n : Nat) (c : List Sc) (g0 : List UInt8) (g1 : List UInt8) (g2 : List UInt8) (g3 : List UInt8) (K : V -> List Blk -> Prop) : VC_impl_IsTable  s i n c g0 g1 g2 g3 K = vbody Tryd.prog (vin Tryd.prog TSP_16 annTSP 3) TSP_16.looks (annTSP 52) 52 [.agg [.int .i64 s, .int .i64 i, .row 0 n]] [⟨.recs [.int .i64, .str, .int .i64] c, 96, .rows 3⟩, ⟨.vals [.str g0, .str g1, .str g2, .str g3], 9, .gl 0⟩] (K) := by kernel_rfl
theorem ok_impl_IsTable : OK Tryd.prog 52 F_impl_IsTable.spec := (vbody_ok (vin_ok TSP_16_ok annTSP 3) TSP_16_ok.looks _ _).ofFM fun args m p R h hp => by
 unfold F_impl_IsTable at h
 split at h
 ·injection h with h; injection h with h1 h2; subst h1; subst h2
  exact (congrArg At (eq_impl_IsTable _ _ _ _ _ _ _ _ _)).mp ⟨vc_impl_IsTable _ _ _ _ _ _ _ _ hp⟩
 ·cases h
def TSP_17 : Tab := TSP_16.add 52 F_impl_IsTable
theorem TSP_17_ok : TSP_17.Ok Tryd.prog := TSP_16_ok.add ok_impl_IsTable
theorem eq_laws_markText (k : Int) (K : V -> Prop) : VC_laws_markText k K = vbody Tryd.prog (vin Tryd.prog TSP_17 annTSP 3) TSP_17.looks (annTSP 123) 123 [.int .i64 k] [] (fun v _ => K v) := by kernel_rfl
theorem ok_laws_markText : OK Tryd.prog 123 F_laws_markText.spec := (vbody_ok (vin_ok TSP_17_ok annTSP 3) TSP_17_ok.looks _ _).ofF fun args m p R h hp => by
 unfold F_laws_markText at h
 split at h
 ·injection h with h; injection h with h1 h2; subst h1; subst h2
  exact ⟨rfl, (congrArg At (eq_laws_markText _ _)).mp ⟨vc_laws_markText _ hp⟩⟩
 ·cases h
def TSP_18 : Tab := TSP_17.add 123 F_laws_markText
theorem TSP_18_ok : TSP_18.Ok Tryd.prog := TSP_17_ok.add ok_laws_markText
theorem eq_laws_markRowS (k : Int) (n : Nat) (c : List Sc) (K : V -> List Blk -> Prop) : VC_laws_markRowS k n c K = vbody Tryd.prog (vin Tryd.prog TSP_18 annTSP 3) TSP_18.looks (annTSP 83) 83 [.row 0 n, .int .i64 k] [⟨.recs [.int .i64, .str, .int .i64] c, 96, .rows 3⟩] (K) := by kernel_rfl
theorem ok_laws_markRowS : OK Tryd.prog 83 F_laws_markRowS.spec := (vbody_ok (vin_ok TSP_18_ok annTSP 3) TSP_18_ok.looks _ _).ofG fun args m p R M h hp => by
 unfold F_laws_markRowS at h
 split at h
 ·injection h with h; injection h with h1 h2; injection h2 with h2 h3; subst h1; subst h2; subst h3
  exact (congrArg At (eq_laws_markRowS _ _ _ _)).mp ⟨vc_laws_markRowS _ _ _ hp⟩
 ·cases h
def TSP_19 : Tab := TSP_18.addG 83 F_laws_markRowS
theorem TSP_19_ok : TSP_19.Ok Tryd.prog := TSP_18_ok.addG ok_laws_markRowS
theorem eq_laws_markTable (k : Int) (s : Int) (i : Int) (n : Nat) (c : List Sc) (K : V -> List Blk -> Prop) : VC_laws_markTable k s i n c K = vbody Tryd.prog (vin Tryd.prog TSP_19 annTSP 3) TSP_19.looks (annTSP 36) 36 [.agg [.int .i64 s, .int .i64 i, .row 0 n], .int .i64 k] [⟨.recs [.int .i64, .str, .int .i64] c, 96, .rows 3⟩] (K) := by kernel_rfl
theorem ok_laws_markTable : OK Tryd.prog 36 F_laws_markTable.spec := (vbody_ok (vin_ok TSP_19_ok annTSP 3) TSP_19_ok.looks _ _).ofG fun args m p R M h hp => by
 unfold F_laws_markTable at h
 split at h
 ·injection h with h; injection h with h1 h2; injection h2 with h2 h3; subst h1; subst h2; subst h3
  exact (congrArg At (eq_laws_markTable _ _ _ _ _ _)).mp ⟨vc_laws_markTable _ _ _ _ _ hp⟩
 ·cases h
def TSP_20 : Tab := TSP_19.addG 36 F_laws_markTable
theorem TSP_20_ok : TSP_20.Ok Tryd.prog := TSP_19_ok.addG ok_laws_markTable
theorem eq_laws_heldRowS (k : Int) (n : Nat) (c : List Sc) (K : V -> List Blk -> Prop) : VC_laws_heldRowS k n c K = vbody Tryd.prog (vin Tryd.prog TSP_20 annTSP 3) TSP_20.looks (annTSP 87) 87 [.row 0 n, .int .i64 k] [⟨.recs [.int .i64, .str, .int .i64] c, 96, .rows 3⟩] (K) := by kernel_rfl
theorem ok_laws_heldRowS : OK Tryd.prog 87 F_laws_heldRowS.spec := (vbody_ok (vin_ok TSP_20_ok annTSP 3) TSP_20_ok.looks _ _).ofFM fun args m p R h hp => by
 unfold F_laws_heldRowS at h
 split at h
 ·injection h with h; injection h with h1 h2; subst h1; subst h2
  exact (congrArg At (eq_laws_heldRowS _ _ _ _)).mp ⟨vc_laws_heldRowS _ _ _ hp⟩
 ·cases h
def TSP_21 : Tab := TSP_20.add 87 F_laws_heldRowS
theorem TSP_21_ok : TSP_21.Ok Tryd.prog := TSP_20_ok.add ok_laws_heldRowS
theorem eq_laws_heldTable (k : Int) (s : Int) (i : Int) (n : Nat) (c : List Sc) (K : V -> List Blk -> Prop) : VC_laws_heldTable k s i n c K = vbody Tryd.prog (vin Tryd.prog TSP_21 annTSP 3) TSP_21.looks (annTSP 41) 41 [.agg [.int .i64 s, .int .i64 i, .row 0 n], .int .i64 k] [⟨.recs [.int .i64, .str, .int .i64] c, 96, .rows 3⟩] (K) := by kernel_rfl
theorem ok_laws_heldTable : OK Tryd.prog 41 F_laws_heldTable.spec := (vbody_ok (vin_ok TSP_21_ok annTSP 3) TSP_21_ok.looks _ _).ofFM fun args m p R h hp => by
 unfold F_laws_heldTable at h
 split at h
 ·injection h with h; injection h with h1 h2; subst h1; subst h2
  exact (congrArg At (eq_laws_heldTable _ _ _ _ _ _)).mp ⟨vc_laws_heldTable _ _ _ _ _ hp⟩
 ·cases h
def TSP_22 : Tab := TSP_21.add 41 F_laws_heldTable
theorem TSP_22_ok : TSP_22.Ok Tryd.prog := TSP_21_ok.add ok_laws_heldTable
theorem eq_laws_eqScene  (s : Int) (i : Int) (n : Nat) (c : List Sc) (w : Int) (h : Int) (u : List UInt8) (x : Int) (y : Int) (d : Int) (q : Int) (s_ : Int) (i_ : Int) (n_ : Nat) (c_ : List Sc) (w_ : Int) (h_ : Int) (u_ : List UInt8) (x_ : Int) (y_ : Int) (d_ : Int) (q_ : Int) (K : V -> List Blk -> Prop) : VC_laws_eqScene  s i n c w h u x y d q s_ i_ n_ c_ w_ h_ u_ x_ y_ d_ q_ K = vbody Tryd.prog (vin Tryd.prog TSP_22 annTSP 3) TSP_22.looks (annTSP 17) 17 [.agg [.int .i64 s, .int .i64 i, .row 0 n, .int .i64 w, .int .i64 h, .str u, .int .i64 x, .int .i64 y, .int .i64 d, .int .i64 q], .agg [.int .i64 s_, .int .i64 i_, .row 1 n_, .int .i64 w_, .int .i64 h_, .str u_, .int .i64 x_, .int .i64 y_, .int .i64 d_, .int .i64 q_]] [⟨.recs [.int .i64, .str, .int .i64] c, 96, .rows 3⟩, ⟨.recs [.int .i64, .str, .int .i64] c_, 96, .rows 3⟩] (K) := by kernel_rfl
theorem ok_laws_eqScene : OK Tryd.prog 17 F_laws_eqScene.spec := (vbody_ok (vin_ok TSP_22_ok annTSP 3) TSP_22_ok.looks _ _).ofFM fun args m p R h hp => by
 unfold F_laws_eqScene at h
 split at h
 ·injection h with h; injection h with h1 h2; subst h1; subst h2
  exact (congrArg At (eq_laws_eqScene _ _ _ _ _ _ _ _ _ _ _ _ _ _ _ _ _ _ _ _ _ _ _)).mp ⟨vc_laws_eqScene _ _ _ _ _ _ _ _ _ _ _ _ _ _ _ _ _ _ _ _ _ _ hp⟩
 ·cases h
def TSP_23 : Tab := TSP_22.add 17 F_laws_eqScene
theorem TSP_23_ok : TSP_23.Ok Tryd.prog := TSP_22_ok.add ok_laws_eqScene
theorem eq_laws_markScene (k : Int) (s : Int) (i : Int) (n : Nat) (c : List Sc) (w : Int) (h : Int) (u : List UInt8) (x : Int) (y : Int) (d : Int) (q : Int) (K : V -> List Blk -> Prop) : VC_laws_markScene k s i n c w h u x y d q K = vbody Tryd.prog (vin Tryd.prog TSP_23 annTSP 3) TSP_23.looks (annTSP 20) 20 [.agg [.int .i64 s, .int .i64 i, .row 0 n, .int .i64 w, .int .i64 h, .str u, .int .i64 x, .int .i64 y, .int .i64 d, .int .i64 q], .int .i64 k] [⟨.recs [.int .i64, .str, .int .i64] c, 96, .rows 3⟩] (K) := by kernel_rfl
theorem ok_laws_markScene : OK Tryd.prog 20 F_laws_markScene.spec := (vbody_ok (vin_ok TSP_23_ok annTSP 3) TSP_23_ok.looks _ _).ofG fun args m p R M h hp => by
 unfold F_laws_markScene at h
 split at h
 ·injection h with h; injection h with h1 h2; injection h2 with h2 h3; subst h1; subst h2; subst h3
  exact (congrArg At (eq_laws_markScene _ _ _ _ _ _ _ _ _ _ _ _ _)).mp ⟨vc_laws_markScene _ _ _ _ _ _ _ _ _ _ _ _ hp⟩
 ·cases h
def TSP_24 : Tab := TSP_23.addG 20 F_laws_markScene
theorem TSP_24_ok : TSP_24.Ok Tryd.prog := TSP_23_ok.addG ok_laws_markScene
theorem eq_laws_heldScene (k : Int) (s : Int) (i : Int) (n : Nat) (c : List Sc) (w : Int) (h : Int) (u : List UInt8) (x : Int) (y : Int) (d : Int) (q : Int) (K : V -> List Blk -> Prop) : VC_laws_heldScene k s i n c w h u x y d q K = vbody Tryd.prog (vin Tryd.prog TSP_24 annTSP 3) TSP_24.looks (annTSP 21) 21 [.agg [.int .i64 s, .int .i64 i, .row 0 n, .int .i64 w, .int .i64 h, .str u, .int .i64 x, .int .i64 y, .int .i64 d, .int .i64 q], .int .i64 k] [⟨.recs [.int .i64, .str, .int .i64] c, 96, .rows 3⟩] (K) := by kernel_rfl
theorem ok_laws_heldScene : OK Tryd.prog 21 F_laws_heldScene.spec := (vbody_ok (vin_ok TSP_24_ok annTSP 3) TSP_24_ok.looks _ _).ofFM fun args m p R h hp => by
 unfold F_laws_heldScene at h
 split at h
 ·injection h with h; injection h with h1 h2; subst h1; subst h2
  exact (congrArg At (eq_laws_heldScene _ _ _ _ _ _ _ _ _ _ _ _ _)).mp ⟨vc_laws_heldScene _ _ _ _ _ _ _ _ _ _ _ _ hp⟩
 ·cases h
def TSP_25 : Tab := TSP_24.add 21 F_laws_heldScene
theorem TSP_25_ok : TSP_25.Ok Tryd.prog := TSP_24_ok.add ok_laws_heldScene
theorem eq_impl_isSize (a : Int) (b : Int) (K : V -> Prop) : VC_impl_isSize a b K = vbody Tryd.prog (vin Tryd.prog TSP_25 annTSP 3) TSP_25.looks (annTSP 53) 53 [.int .i64 a, .int .i64 b] [] (fun v _ => K v) := by kernel_rfl
theorem ok_impl_isSize : OK Tryd.prog 53 F_impl_isSize.spec := (vbody_ok (vin_ok TSP_25_ok annTSP 3) TSP_25_ok.looks _ _).ofF fun args m p R h hp => by
 unfold F_impl_isSize at h
 split at h
 ·injection h with h; injection h with h1 h2; subst h1; subst h2
  exact ⟨rfl, (congrArg At (eq_impl_isSize _ _ _)).mp ⟨vc_impl_isSize _ _ hp⟩⟩
 ·cases h
def TSP_26 : Tab := TSP_25.add 53 F_impl_isSize
theorem TSP_26_ok : TSP_26.Ok Tryd.prog := TSP_25_ok.add ok_impl_isSize
theorem eq_spec_l1Num (n : Int) (K : V -> Prop) : VC_spec_l1Num n K = vbody Tryd.prog (vin Tryd.prog TSP_26 annTSP 0) TSP_26.looks (annTSP 110) 110 [.int .i64 n] [] (fun v _ => K v) := by kernel_rfl
theorem ok_spec_l1Num : OK Tryd.prog 110 F_spec_l1Num.spec := (vbody_ok (vin_ok TSP_26_ok annTSP 0) TSP_26_ok.looks _ _).ofF fun args m p R h hp => by
 unfold F_spec_l1Num at h
 split at h
 ·injection h with h; injection h with h1 h2; subst h1; subst h2
  exact ⟨rfl, (congrArg At (eq_spec_l1Num _ _)).mp ⟨vc_spec_l1Num _ hp⟩⟩
 ·cases h
def TSP_27 : Tab := TSP_26.add 110 F_spec_l1Num
theorem TSP_27_ok : TSP_27.Ok Tryd.prog := TSP_26_ok.add ok_spec_l1Num
theorem eq_strconv_FormatInt (n : Int) (b : Int) (K : V -> Prop) : VC_strconv_FormatInt n b K = vbody Tryd.prog (vin Tryd.prog TSP_27 annTSP 3) TSP_27.looks (annTSP 158) 158 [.int .i64 n, .int .i64 b] [] (fun v _ => K v) := by kernel_rfl
theorem ok_strconv_FormatInt : OK Tryd.prog 158 F_strconv_FormatInt.spec := (vbody_ok (vin_ok TSP_27_ok annTSP 3) TSP_27_ok.looks _ _).ofF fun args m p R h hp => by
 unfold F_strconv_FormatInt at h
 split at h
 ·injection h with h; injection h with h1 h2; subst h1; subst h2
  exact ⟨rfl, (congrArg At (eq_strconv_FormatInt _ _ _)).mp ⟨vc_strconv_FormatInt _ _ hp⟩⟩
 ·cases h
def TSP_28 : Tab := TSP_27.add 158 F_strconv_FormatInt
theorem TSP_28_ok : TSP_28.Ok Tryd.prog := TSP_27_ok.add ok_strconv_FormatInt
theorem eq_strconv_Itoa (n : Int) (K : V -> Prop) : VC_strconv_Itoa n K = vbody Tryd.prog (vin Tryd.prog TSP_28 annTSP 3) TSP_28.looks (annTSP 94) 94 [.int .i64 n] [] (fun v _ => K v) := by kernel_rfl
theorem ok_strconv_Itoa : OK Tryd.prog 94 F_strconv_Itoa.spec := (vbody_ok (vin_ok TSP_28_ok annTSP 3) TSP_28_ok.looks _ _).ofF fun args m p R h hp => by
 unfold F_strconv_Itoa at h
 split at h
 ·injection h with h; injection h with h1 h2; subst h1; subst h2
  exact ⟨rfl, (congrArg At (eq_strconv_Itoa _ _)).mp ⟨vc_strconv_Itoa _ hp⟩⟩
 ·cases h
def TSP_29 : Tab := TSP_28.add 94 F_strconv_Itoa
theorem TSP_29_ok : TSP_29.Ok Tryd.prog := TSP_28_ok.add ok_strconv_Itoa
theorem eq_impl_digit (b : Int) (K : V -> Prop) : VC_impl_digit b K = vbody Tryd.prog (vin Tryd.prog TSP_29 annTSP 3) TSP_29.looks (annTSP 85) 85 [.int .u8 b] [] (fun v _ => K v) := by kernel_rfl
theorem ok_impl_digit : OK Tryd.prog 85 F_impl_digit.spec := (vbody_ok (vin_ok TSP_29_ok annTSP 3) TSP_29_ok.looks _ _).ofF fun args m p R h hp => by
 unfold F_impl_digit at h
 split at h
 ·injection h with h; injection h with h1 h2; subst h1; subst h2
  exact ⟨rfl, (congrArg At (eq_impl_digit _ _)).mp ⟨vc_impl_digit _ hp⟩⟩
 ·cases h
def TSP_30 : Tab := TSP_29.add 85 F_impl_digit
theorem TSP_30_ok : TSP_30.Ok Tryd.prog := TSP_29_ok.add ok_impl_digit
theorem eq_impl_isWay (a : Int) (K : V -> Prop) : VC_impl_isWay a K = vbody Tryd.prog (vin Tryd.prog TSP_30 annTSP 3) TSP_30.looks (annTSP 56) 56 [.int .i64 a] [] (fun v _ => K v) := by kernel_rfl
theorem ok_impl_isWay : OK Tryd.prog 56 F_impl_isWay.spec := (vbody_ok (vin_ok TSP_30_ok annTSP 3) TSP_30_ok.looks _ _).ofF fun args m p R h hp => by
 unfold F_impl_isWay at h
 split at h
 ·injection h with h; injection h with h1 h2; subst h1; subst h2
  exact ⟨rfl, (congrArg At (eq_impl_isWay _ _)).mp ⟨vc_impl_isWay _ hp⟩⟩
 ·cases h
def TSP_31 : Tab := TSP_30.add 56 F_impl_isWay
theorem TSP_31_ok : TSP_31.Ok Tryd.prog := TSP_30_ok.add ok_impl_isWay
theorem eq_impl_hasCell (wr : List UInt8) (ww : Int) (wh : Int) (wc : List UInt8) (wx : Int) (wy : Int) (wd : Int) (x : Int) (y : Int) (K : V -> Prop) : VC_impl_hasCell wr ww wh wc wx wy wd x y K = vbody Tryd.prog (vin Tryd.prog TSP_31 annTSP 3) TSP_31.looks (annTSP 54) 54 [.agg [.str wr, .int .i64 ww, .int .i64 wh, .str wc, .int .i64 wx, .int .i64 wy, .int .i64 wd], .int .i64 x, .int .i64 y] [] (fun v _ => K v) := by kernel_rfl
theorem ok_impl_hasCell : OK Tryd.prog 54 F_impl_hasCell.spec := (vbody_ok (vin_ok TSP_31_ok annTSP 3) TSP_31_ok.looks _ _).ofF fun args m p R h hp => by
 unfold F_impl_hasCell at h
 split at h
 ·injection h with h; injection h with h1 h2; subst h1; subst h2
  exact ⟨rfl, (congrArg At (eq_impl_hasCell _ _ _ _ _ _ _ _ _ _)).mp ⟨vc_impl_hasCell _ _ _ _ _ _ _ _ _ hp⟩⟩
 ·cases h
def TSP_32 : Tab := TSP_31.add 54 F_impl_hasCell
theorem TSP_32_ok : TSP_32.Ok Tryd.prog := TSP_31_ok.add ok_impl_hasCell
theorem eq_impl_areColours (s : List UInt8) (k : Int) (K : V -> Prop) : VC_impl_areColours s k K = vbody Tryd.prog (vin Tryd.prog TSP_32 annTSP 3) TSP_32.looks (annTSP 58) 58 [.str s, .int .i64 k] [] (fun v _ => K v) := by kernel_rfl
theorem ok_impl_areColours : OK Tryd.prog 58 F_impl_areColours.spec := (vbody_ok (vin_ok TSP_32_ok annTSP 3) TSP_32_ok.looks _ _).ofF fun args m p R h hp => by
 unfold F_impl_areColours at h
 split at h
 ·injection h with h; injection h with h1 h2; subst h1; subst h2
  exact ⟨rfl, (congrArg At (eq_impl_areColours _ _ _)).mp ⟨vc_impl_areColours _ _ hp⟩⟩
 ·cases h
def TSP_33 : Tab := TSP_32.add 58 F_impl_areColours
theorem TSP_33_ok : TSP_33.Ok Tryd.prog := TSP_32_ok.add ok_impl_areColours
theorem eq_laws_szScene (left : Int) (s : Int) (i : Int) (n : Nat) (c : List Sc) (w : Int) (h : Int) (u : List UInt8) (x : Int) (y : Int) (d : Int) (q : Int) (K : V -> List Blk -> Prop) : VC_laws_szScene left s i n c w h u x y d q K = vbody Tryd.prog (vin Tryd.prog TSP_33 annTSP 3) TSP_33.looks (annTSP 13) 13 [.agg [.int .i64 s, .int .i64 i, .row 0 n, .int .i64 w, .int .i64 h, .str u, .int .i64 x, .int .i64 y, .int .i64 d, .int .i64 q], .int .i64 left] [⟨.recs [.int .i64, .str, .int .i64] c, 139, .arg 3⟩] (K) := by kernel_rfl
theorem ok_laws_szScene : OK Tryd.prog 13 F_laws_szScene.spec := (vbody_ok (vin_ok TSP_33_ok annTSP 3) TSP_33_ok.looks _ _).ofFM fun args m p R h hp => by
 unfold F_laws_szScene at h
 split at h
 ·injection h with h; injection h with h1 h2; subst h1; subst h2
  exact (congrArg At (eq_laws_szScene _ _ _ _ _ _ _ _ _ _ _ _ _)).mp ⟨vc_laws_szScene _ _ _ _ _ _ _ _ _ _ _ _ hp⟩
 ·cases h
def TSP_34 : Tab := TSP_33.add 13 F_laws_szScene
theorem TSP_34_ok : TSP_34.Ok Tryd.prog := TSP_33_ok.add ok_laws_szScene
theorem eq_laws_toScene  (s : Int) (i : Int) (n : Nat) (c : List Sc) (w : Int) (h : Int) (u : List UInt8) (x : Int) (y : Int) (d : Int) (q : Int) (K : V -> List Blk -> Prop) : VC_laws_toScene  s i n c w h u x y d q K = vbody Tryd.prog (vin Tryd.prog TSP_34 annTSP 3) TSP_34.looks (annTSP 15) 15 [.agg [.int .i64 s, .int .i64 i, .row 0 n, .int .i64 w, .int .i64 h, .str u, .int .i64 x, .int .i64 y, .int .i64 d, .int .i64 q]] [⟨.recs [.int .i64, .str, .int .i64] c, 139, .arg 3⟩] (K) := by kernel_rfl
theorem ok_laws_toScene : OK Tryd.prog 15 F_laws_toScene.spec := (vbody_ok (vin_ok TSP_34_ok annTSP 3) TSP_34_ok.looks _ _).ofG fun args m p R M h hp => by
 unfold F_laws_toScene at h
 split at h
 ·injection h with h; injection h with h1 h2; injection h2 with h2 h3; subst h1; subst h2; subst h3
  exact (congrArg At (eq_laws_toScene _ _ _ _ _ _ _ _ _ _ _ _)).mp ⟨vc_laws_toScene _ _ _ _ _ _ _ _ _ _ _ hp⟩
 ·cases h
def TSP_35 : Tab := TSP_34.addG 15 F_laws_toScene
theorem TSP_35_ok : TSP_35.Ok Tryd.prog := TSP_34_ok.addG ok_laws_toScene
theorem eq_spec_taScene  (s : Int) (i : Int) (n : Nat) (c : List Sc) (w : Int) (h : Int) (u : List UInt8) (x : Int) (y : Int) (d : Int) (q : Int) (K : V -> List Blk -> Prop) : VC_spec_taScene  s i n c w h u x y d q K = vbody Tryd.prog (vin Tryd.prog TSP_35 annTSP 3) TSP_35.looks (annTSP 51) 51 [.agg [.int .i64 s, .int .i64 i, .row 0 n, .int .i64 w, .int .i64 h, .str u, .int .i64 x, .int .i64 y, .int .i64 d, .int .i64 q]] [⟨.recs [.int .i64, .str, .int .i64] c, 96, .rows 3⟩] (K) := by kernel_rfl
theorem ok_spec_taScene : OK Tryd.prog 51 F_spec_taScene.spec := (vbody_ok (vin_ok TSP_35_ok annTSP 3) TSP_35_ok.looks _ _).ofFM fun args m p R h hp => by
 unfold F_spec_taScene at h
 split at h
 ·injection h with h; injection h with h1 h2; subst h1; subst h2
  exact (congrArg At (eq_spec_taScene _ _ _ _ _ _ _ _ _ _ _ _)).mp ⟨vc_spec_taScene _ _ _ _ _ _ _ _ _ _ _ hp⟩
 ·cases h
def TSP_36 : Tab := TSP_35.add 51 F_spec_taScene
theorem TSP_36_ok : TSP_36.Ok Tryd.prog := TSP_35_ok.add ok_spec_taScene
theorem eq_spec_IsScene  (s : Int) (i : Int) (n : Nat) (c : List Sc) (w : Int) (h : Int) (u : List UInt8) (x : Int) (y : Int) (d : Int) (q : Int) (K : V -> List Blk -> Prop) : VC_spec_IsScene  s i n c w h u x y d q K = vbody Tryd.prog (vin Tryd.prog TSP_36 annTSP 3) TSP_36.looks (annTSP 14) 14 [.agg [.int .i64 s, .int .i64 i, .row 0 n, .int .i64 w, .int .i64 h, .str u, .int .i64 x, .int .i64 y, .int .i64 d, .int .i64 q]] [⟨.recs [.int .i64, .str, .int .i64] c, 96, .rows 3⟩] (K) := by kernel_rfl
theorem ok_spec_IsScene : OK Tryd.prog 14 F_spec_IsScene.spec := (vbody_ok (vin_ok TSP_36_ok annTSP 3) TSP_36_ok.looks _ _).ofFM fun args m p R h hp => by
 unfold F_spec_IsScene at h
 split at h
 ·injection h with h; injection h with h1 h2; subst h1; subst h2
  exact (congrArg At (eq_spec_IsScene _ _ _ _ _ _ _ _ _ _ _ _)).mp ⟨vc_spec_IsScene _ _ _ _ _ _ _ _ _ _ _ hp⟩
 ·cases h
def TSP_37 : Tab := TSP_36.add 14 F_spec_IsScene
theorem TSP_37_ok : TSP_37.Ok Tryd.prog := TSP_36_ok.add ok_spec_IsScene
theorem eq_impl_actorOf  (s : Int) (i : Int) (n : Nat) (c : List Sc) (w : Int) (h : Int) (u : List UInt8) (x : Int) (y : Int) (d : Int) (q : Int) (K : V -> List Blk -> Prop) : VC_impl_actorOf  s i n c w h u x y d q K = vbody Tryd.prog (vin Tryd.prog TSP_37 annTSP 3) TSP_37.looks (annTSP 55) 55 [.agg [.int .i64 s, .int .i64 i, .row 0 n, .int .i64 w, .int .i64 h, .str u, .int .i64 x, .int .i64 y, .int .i64 d, .int .i64 q]] [⟨.recs [.int .i64, .str, .int .i64] c, 96, .rows 3⟩] (K) := by kernel_rfl
theorem ok_impl_actorOf : OK Tryd.prog 55 F_impl_actorOf.spec := (vbody_ok (vin_ok TSP_37_ok annTSP 3) TSP_37_ok.looks _ _).ofFM fun args m p R h hp => by
 unfold F_impl_actorOf at h
 split at h
 ·injection h with h; injection h with h1 h2; subst h1; subst h2
  exact (congrArg At (eq_impl_actorOf _ _ _ _ _ _ _ _ _ _ _ _)).mp ⟨vc_impl_actorOf _ _ _ _ _ _ _ _ _ _ _ hp⟩
 ·cases h
def TSP_38 : Tab := TSP_37.add 55 F_impl_actorOf
theorem TSP_38_ok : TSP_38.Ok Tryd.prog := TSP_37_ok.add ok_impl_actorOf
theorem eq_impl_IsScene  (s : Int) (i : Int) (n : Nat) (c : List Sc) (w : Int) (h : Int) (u : List UInt8) (x : Int) (y : Int) (d : Int) (q : Int) (g0 : List UInt8) (g1 : List UInt8) (g2 : List UInt8) (g3 : List UInt8) (K : V -> List Blk -> Prop) : VC_impl_IsScene  s i n c w h u x y d q g0 g1 g2 g3 K = vbody Tryd.prog (vin Tryd.prog TSP_38 annTSP 3) TSP_38.looks (annTSP 16) 16 [.agg [.int .i64 s, .int .i64 i, .row 0 n, .int .i64 w, .int .i64 h, .str u, .int .i64 x, .int .i64 y, .int .i64 d, .int .i64 q]] [⟨.recs [.int .i64, .str, .int .i64] c, 96, .rows 3⟩, ⟨.vals [.str g0, .str g1, .str g2, .str g3], 9, .gl 0⟩] (K) := by kernel_rfl
theorem ok_impl_IsScene : OK Tryd.prog 16 F_impl_IsScene.spec := (vbody_ok (vin_ok TSP_38_ok annTSP 3) TSP_38_ok.looks _ _).ofFM fun args m p R h hp => by
 unfold F_impl_IsScene at h
 split at h
 ·injection h with h; injection h with h1 h2; subst h1; subst h2
  exact (congrArg At (eq_impl_IsScene _ _ _ _ _ _ _ _ _ _ _ _ _ _ _ _)).mp ⟨vc_impl_IsScene _ _ _ _ _ _ _ _ _ _ _ _ _ _ _ hp⟩
 ·cases h
def TSP_39 : Tab := TSP_38.add 16 F_impl_IsScene
theorem TSP_39_ok : TSP_39.Ok Tryd.prog := TSP_38_ok.add ok_impl_IsScene
theorem eq_impl_Row  (n : Nat) (c : List Sc) (K : V -> List Blk -> Prop) : VC_impl_Row  n c K = vbody Tryd.prog (vin Tryd.prog TSP_39 annTSP 3) TSP_39.looks (annTSP 164) 164 [.row 0 n] [⟨.recs [.int .i64, .str, .int .i64] c, 96, .rows 3⟩] (K) := by kernel_rfl
theorem ok_impl_Row : OK Tryd.prog 164 F_impl_Row.spec := (vbody_ok (vin_ok TSP_39_ok annTSP 3) TSP_39_ok.looks _ _).ofG fun args m p R M h hp => by
 unfold F_impl_Row at h
 split at h
 ·injection h with h; injection h with h1 h2; injection h2 with h2 h3; subst h1; subst h2; subst h3
  exact (congrArg At (eq_impl_Row _ _ _)).mp ⟨vc_impl_Row _ _ hp⟩
 ·cases h
def TSP_40 : Tab := TSP_39.addG 164 F_impl_Row
theorem TSP_40_ok : TSP_40.Ok Tryd.prog := TSP_39_ok.addG ok_impl_Row
theorem eq_impl_copied  (s : Int) (i : Int) (n : Nat) (c : List Sc) (K : V -> List Blk -> Prop) : VC_impl_copied  s i n c K = vbody Tryd.prog (vin Tryd.prog TSP_40 annTSP 3) TSP_40.looks (annTSP 139) 139 [.agg [.int .i64 s, .int .i64 i, .row 0 n]] [⟨.recs [.int .i64, .str, .int .i64] c, 96, .rows 3⟩] (K) := by kernel_rfl
theorem ok_impl_copied : OK Tryd.prog 139 F_impl_copied.spec := (vbody_ok (vin_ok TSP_40_ok annTSP 3) TSP_40_ok.looks _ _).ofG fun args m p R M h hp => by
 unfold F_impl_copied at h
 split at h
 ·injection h with h; injection h with h1 h2; injection h2 with h2 h3; subst h1; subst h2; subst h3
  exact (congrArg At (eq_impl_copied _ _ _ _ _)).mp ⟨vc_impl_copied _ _ _ _ hp⟩
 ·cases h
def TSP_41 : Tab := TSP_40.addG 139 F_impl_copied
theorem TSP_41_ok : TSP_41.Ok Tryd.prog := TSP_40_ok.addG ok_impl_copied
theorem eq_spec_l1Mod (n : Int) (m : Int) (K : V -> Prop) : VC_spec_l1Mod n m K = vbody Tryd.prog (vin Tryd.prog TSP_41 annTSP 3) TSP_41.looks (annTSP 67) 67 [.int .i64 n, .int .i64 m] [] (fun v _ => K v) := by kernel_rfl
theorem ok_spec_l1Mod : OK Tryd.prog 67 F_spec_l1Mod.spec := (vbody_ok (vin_ok TSP_41_ok annTSP 3) TSP_41_ok.looks _ _).ofF fun args m p R h hp => by
 unfold F_spec_l1Mod at h
 split at h
 ·injection h with h; injection h with h1 h2; subst h1; subst h2
  exact ⟨rfl, (congrArg At (eq_spec_l1Mod _ _ _)).mp ⟨vc_spec_l1Mod _ _ hp⟩⟩
 ·cases h
def TSP_42 : Tab := TSP_41.add 67 F_spec_l1Mod
theorem TSP_42_ok : TSP_42.Ok Tryd.prog := TSP_41_ok.add ok_spec_l1Mod
theorem eq_spec_woTurn (b : Int) (K : V -> Prop) : VC_spec_woTurn b K = vbody Tryd.prog (vin Tryd.prog TSP_42 annTSP 3) TSP_42.looks (annTSP 68) 68 [.int .u8 b] [] (fun v _ => K v) := by kernel_rfl
theorem ok_spec_woTurn : OK Tryd.prog 68 F_spec_woTurn.spec := (vbody_ok (vin_ok TSP_42_ok annTSP 3) TSP_42_ok.looks _ _).ofF fun args m p R h hp => by
 unfold F_spec_woTurn at h
 split at h
 ·injection h with h; injection h with h1 h2; subst h1; subst h2
  exact ⟨rfl, (congrArg At (eq_spec_woTurn _ _)).mp ⟨vc_spec_woTurn _ hp⟩⟩
 ·cases h
def TSP_43 : Tab := TSP_42.add 68 F_spec_woTurn
theorem TSP_43_ok : TSP_43.Ok Tryd.prog := TSP_42_ok.add ok_spec_woTurn
theorem eq_impl_direction (d : Int) (K : V -> Prop) : VC_impl_direction d K = vbody Tryd.prog (vin Tryd.prog TSP_43 annTSP 3) TSP_43.looks (annTSP 140) 140 [.int .i64 d] [] (fun v _ => K v) := by kernel_rfl
theorem ok_impl_direction : OK Tryd.prog 140 F_impl_direction.spec := (vbody_ok (vin_ok TSP_43_ok annTSP 3) TSP_43_ok.looks _ _).ofF fun args m p R h hp => by
 unfold F_impl_direction at h
 split at h
 ·injection h with h; injection h with h1 h2; subst h1; subst h2
  exact ⟨rfl, (congrArg At (eq_impl_direction _ _)).mp ⟨vc_impl_direction _ hp⟩⟩
 ·cases h
def TSP_44 : Tab := TSP_43.add 140 F_impl_direction
theorem TSP_44_ok : TSP_44.Ok Tryd.prog := TSP_43_ok.add ok_impl_direction
theorem eq_impl_board_colour (wr : List UInt8) (ww : Int) (wh : Int) (wc : List UInt8) (wx : Int) (wy : Int) (wd : Int) (x : Int) (y : Int) (K : V -> Prop) : VC_impl_board_colour wr ww wh wc wx wy wd x y K = vbody Tryd.prog (vin Tryd.prog TSP_44 annTSP 3) TSP_44.looks (annTSP 106) 106 [.agg [.str wr, .int .i64 ww, .int .i64 wh, .str wc, .int .i64 wx, .int .i64 wy, .int .i64 wd], .int .i64 x, .int .i64 y] [] (fun v _ => K v) := by kernel_rfl
theorem ok_impl_board_colour : OK Tryd.prog 106 F_impl_board_colour.spec := (vbody_ok (vin_ok TSP_44_ok annTSP 3) TSP_44_ok.looks _ _).ofF fun args m p R h hp => by
 unfold F_impl_board_colour at h
 split at h
 ·injection h with h; injection h with h1 h2; subst h1; subst h2
  exact ⟨rfl, (congrArg At (eq_impl_board_colour _ _ _ _ _ _ _ _ _ _)).mp ⟨vc_impl_board_colour _ _ _ _ _ _ _ _ _ hp⟩⟩
 ·cases h
def TSP_45 : Tab := TSP_44.add 106 F_impl_board_colour
theorem TSP_45_ok : TSP_45.Ok Tryd.prog := TSP_44_ok.add ok_impl_board_colour
theorem eq_impl_board_painted (wr : List UInt8) (ww : Int) (wh : Int) (wc : List UInt8) (wx : Int) (wy : Int) (wd : Int) (x : Int) (y : Int) (k : Int) (K : V -> Prop) : VC_impl_board_painted wr ww wh wc wx wy wd x y k K = vbody Tryd.prog (vin Tryd.prog TSP_45 annTSP 3) TSP_45.looks (annTSP 108) 108 [.agg [.str wr, .int .i64 ww, .int .i64 wh, .str wc, .int .i64 wx, .int .i64 wy, .int .i64 wd], .int .i64 x, .int .i64 y, .int .i64 k] [] (fun v _ => K v) := by kernel_rfl
theorem ok_impl_board_painted : OK Tryd.prog 108 F_impl_board_painted.spec := (vbody_ok (vin_ok TSP_45_ok annTSP 3) TSP_45_ok.looks _ _).ofF fun args m p R h hp => by
 unfold F_impl_board_painted at h
 split at h
 ·injection h with h; injection h with h1 h2; subst h1; subst h2
  exact ⟨rfl, (congrArg At (eq_impl_board_painted _ _ _ _ _ _ _ _ _ _ _)).mp ⟨vc_impl_board_painted _ _ _ _ _ _ _ _ _ _ hp⟩⟩
 ·cases h
def TSP_46 : Tab := TSP_45.add 108 F_impl_board_painted
theorem TSP_46_ok : TSP_46.Ok Tryd.prog := TSP_45_ok.add ok_impl_board_painted
theorem eq_impl_board_turned (wr : List UInt8) (ww : Int) (wh : Int) (wc : List UInt8) (wx : Int) (wy : Int) (wd : Int) (q : Int) (K : V -> Prop) : VC_impl_board_turned wr ww wh wc wx wy wd q K = vbody Tryd.prog (vin Tryd.prog TSP_46 annTSP 3) TSP_46.looks (annTSP 107) 107 [.agg [.str wr, .int .i64 ww, .int .i64 wh, .str wc, .int .i64 wx, .int .i64 wy, .int .i64 wd], .int .i64 q] [] (fun v _ => K v) := by kernel_rfl
theorem ok_impl_board_turned : OK Tryd.prog 107 F_impl_board_turned.spec := (vbody_ok (vin_ok TSP_46_ok annTSP 3) TSP_46_ok.looks _ _).ofF fun args m p R h hp => by
 unfold F_impl_board_turned at h
 split at h
 ·injection h with h; injection h with h1 h2; subst h1; subst h2
  exact ⟨rfl, (congrArg At (eq_impl_board_turned _ _ _ _ _ _ _ _ _)).mp ⟨vc_impl_board_turned _ _ _ _ _ _ _ _ hp⟩⟩
 ·cases h
def TSP_47 : Tab := TSP_46.add 107 F_impl_board_turned
theorem TSP_47_ok : TSP_47.Ok Tryd.prog := TSP_46_ok.add ok_impl_board_turned
theorem eq_impl_board_moved (wr : List UInt8) (ww : Int) (wh : Int) (wc : List UInt8) (wx : Int) (wy : Int) (wd : Int) (k : Int) (K : V -> Prop) : VC_impl_board_moved wr ww wh wc wx wy wd k K = vbody Tryd.prog (vin Tryd.prog TSP_47 annTSP 3) TSP_47.looks (annTSP 109) 109 [.agg [.str wr, .int .i64 ww, .int .i64 wh, .str wc, .int .i64 wx, .int .i64 wy, .int .i64 wd], .int .i64 k] [] (fun v _ => K v) := by kernel_rfl
theorem ok_impl_board_moved : OK Tryd.prog 109 F_impl_board_moved.spec := (vbody_ok (vin_ok TSP_47_ok annTSP 3) TSP_47_ok.looks _ _).ofF fun args m p R h hp => by
 unfold F_impl_board_moved at h
 split at h
 ·injection h with h; injection h with h1 h2; subst h1; subst h2
  exact ⟨rfl, (congrArg At (eq_impl_board_moved _ _ _ _ _ _ _ _ _)).mp ⟨vc_impl_board_moved _ _ _ _ _ _ _ _ hp⟩⟩
 ·cases h
def TSP_48 : Tab := TSP_47.add 109 F_impl_board_moved
theorem TSP_48_ok : TSP_48.Ok Tryd.prog := TSP_47_ok.add ok_impl_board_moved
theorem eq_spec_taGo (k : Int) (s : Int) (i : Int) (n : Nat) (c : List Sc) (w : Int) (h : Int) (u : List UInt8) (x : Int) (y : Int) (d : Int) (q : Int) (K : V -> List Blk -> Prop) : VC_spec_taGo k s i n c w h u x y d q K = vbody Tryd.prog (vin Tryd.prog TSP_48 annTSP 3) TSP_48.looks (annTSP 66) 66 [.ptr 0 0, .int .i64 k] [⟨.vals [.int .i64 s, .int .i64 i, .row 1 n, .int .i64 w, .int .i64 h, .str u, .int .i64 x, .int .i64 y, .int .i64 d, .int .i64 q], 33, .box⟩, ⟨.recs [.int .i64, .str, .int .i64] c, 96, .rows 3⟩] (K) := by kernel_rfl
theorem ok_spec_taGo : OK Tryd.prog 66 F_spec_taGo.spec := (vbody_ok (vin_ok TSP_48_ok annTSP 3) TSP_48_ok.looks _ _).ofG fun args m p R M h hp => by
 unfold F_spec_taGo at h
 split at h
 ·injection h with h; injection h with h1 h2; injection h2 with h2 h3; subst h1; subst h2; subst h3
  exact (congrArg At (eq_spec_taGo _ _ _ _ _ _ _ _ _ _ _ _ _)).mp ⟨vc_spec_taGo _ _ _ _ _ _ _ _ _ _ _ _ hp⟩
 ·cases h
def TSP_49 : Tab := TSP_48.addG 66 F_spec_taGo
theorem TSP_49_ok : TSP_49.Ok Tryd.prog := TSP_48_ok.addG ok_spec_taGo
theorem eq_spec_taPaint (k : Int) (s : Int) (i : Int) (n : Nat) (c : List Sc) (w : Int) (h : Int) (u : List UInt8) (x : Int) (y : Int) (d : Int) (q : Int) (K : V -> List Blk -> Prop) : VC_spec_taPaint k s i n c w h u x y d q K = vbody Tryd.prog (vin Tryd.prog TSP_49 annTSP 3) TSP_49.looks (annTSP 69) 69 [.ptr 0 0, .int .i64 k] [⟨.vals [.int .i64 s, .int .i64 i, .row 1 n, .int .i64 w, .int .i64 h, .str u, .int .i64 x, .int .i64 y, .int .i64 d, .int .i64 q], 33, .box⟩, ⟨.recs [.int .i64, .str, .int .i64] c, 96, .rows 3⟩] (K) := by kernel_rfl
theorem ok_spec_taPaint : OK Tryd.prog 69 F_spec_taPaint.spec := (vbody_ok (vin_ok TSP_49_ok annTSP 3) TSP_49_ok.looks _ _).ofG fun args m p R M h hp => by
 unfold F_spec_taPaint at h
 split at h
 ·injection h with h; injection h with h1 h2; injection h2 with h2 h3; subst h1; subst h2; subst h3
  exact (congrArg At (eq_spec_taPaint _ _ _ _ _ _ _ _ _ _ _ _ _)).mp ⟨vc_spec_taPaint _ _ _ _ _ _ _ _ _ _ _ _ hp⟩
 ·cases h
def TSP_50 : Tab := TSP_49.addG 69 F_spec_taPaint
theorem TSP_50_ok : TSP_50.Ok Tryd.prog := TSP_49_ok.addG ok_spec_taPaint
theorem eq_spec_taStep  (s : Int) (i : Int) (n : Nat) (c : List Sc) (w : Int) (h : Int) (u : List UInt8) (x : Int) (y : Int) (d : Int) (q : Int) (K : V -> List Blk -> Prop) : VC_spec_taStep  s i n c w h u x y d q K = vbody Tryd.prog (vin Tryd.prog TSP_50 annTSP 3) TSP_50.looks (annTSP 60) 60 [.ptr 0 0] [⟨.vals [.int .i64 s, .int .i64 i, .row 1 n, .int .i64 w, .int .i64 h, .str u, .int .i64 x, .int .i64 y, .int .i64 d, .int .i64 q], 33, .box⟩, ⟨.recs [.int .i64, .str, .int .i64] c, 96, .rows 3⟩] (K) := by kernel_rfl
theorem ok_spec_taStep : OK Tryd.prog 60 F_spec_taStep.spec := (vbody_ok (vin_ok TSP_50_ok annTSP 3) TSP_50_ok.looks _ _).ofG fun args m p R M h hp => by
 unfold F_spec_taStep at h
 split at h
 ·injection h with h; injection h with h1 h2; injection h2 with h2 h3; subst h1; subst h2; subst h3
  exact (congrArg At (eq_spec_taStep _ _ _ _ _ _ _ _ _ _ _ _)).mp ⟨vc_spec_taStep _ _ _ _ _ _ _ _ _ _ _ hp⟩
 ·cases h
def TSP_51 : Tab := TSP_50.addG 60 F_spec_taStep
theorem TSP_51_ok : TSP_51.Ok Tryd.prog := TSP_50_ok.addG ok_spec_taStep
theorem eq_spec_taOwn  (s : Int) (i : Int) (n : Nat) (c : List Sc) (w : Int) (h : Int) (u : List UInt8) (x : Int) (y : Int) (d : Int) (q : Int) (K : V -> List Blk -> Prop) : VC_spec_taOwn  s i n c w h u x y d q K = vbody Tryd.prog (vin Tryd.prog TSP_51 annTSP 3) TSP_51.looks (annTSP 59) 59 [.agg [.int .i64 s, .int .i64 i, .row 0 n, .int .i64 w, .int .i64 h, .str u, .int .i64 x, .int .i64 y, .int .i64 d, .int .i64 q]] [⟨.recs [.int .i64, .str, .int .i64] c, 96, .rows 3⟩] (K) := by kernel_rfl
theorem ok_spec_taOwn : OK Tryd.prog 59 F_spec_taOwn.spec := (vbody_ok (vin_ok TSP_51_ok annTSP 3) TSP_51_ok.looks _ _).ofG fun args m p R M h hp => by
 unfold F_spec_taOwn at h
 split at h
 ·injection h with h; injection h with h1 h2; injection h2 with h2 h3; subst h1; subst h2; subst h3
  exact (congrArg At (eq_spec_taOwn _ _ _ _ _ _ _ _ _ _ _ _)).mp ⟨vc_spec_taOwn _ _ _ _ _ _ _ _ _ _ _ hp⟩
 ·cases h
def TSP_52 : Tab := TSP_51.addG 59 F_spec_taOwn
theorem TSP_52_ok : TSP_52.Ok Tryd.prog := TSP_51_ok.addG ok_spec_taOwn
theorem eq_spec_taAsked (m : Int) (s : Int) (i : Int) (n : Nat) (c : List Sc) (w : Int) (h : Int) (u : List UInt8) (x : Int) (y : Int) (d : Int) (q : Int) (K : V -> List Blk -> Prop) : VC_spec_taAsked m s i n c w h u x y d q K = vbody Tryd.prog (vin Tryd.prog TSP_52 annTSP 3) TSP_52.looks (annTSP 61) 61 [.agg [.int .i64 s, .int .i64 i, .row 0 n, .int .i64 w, .int .i64 h, .str u, .int .i64 x, .int .i64 y, .int .i64 d, .int .i64 q], .int .i64 m] [⟨.recs [.int .i64, .str, .int .i64] c, 96, .rows 3⟩] (K) := by kernel_rfl
theorem ok_spec_taAsked : OK Tryd.prog 61 F_spec_taAsked.spec := (vbody_ok (vin_ok TSP_52_ok annTSP 3) TSP_52_ok.looks _ _).ofFM fun args m p R h hp => by
 unfold F_spec_taAsked at h
 split at h
 ·injection h with h; injection h with h1 h2; subst h1; subst h2
  exact (congrArg At (eq_spec_taAsked _ _ _ _ _ _ _ _ _ _ _ _ _)).mp ⟨vc_spec_taAsked _ _ _ _ _ _ _ _ _ _ _ _ hp⟩
 ·cases h
def TSP_53 : Tab := TSP_52.add 61 F_spec_taAsked
theorem TSP_53_ok : TSP_53.Ok Tryd.prog := TSP_52_ok.add ok_spec_taAsked
theorem eq_impl_rowAt (q : Int) (k : Int) (s : Int) (i : Int) (n : Nat) (c : List Sc) (K : V -> List Blk -> Prop) : VC_impl_rowAt q k s i n c K = vbody Tryd.prog (vin Tryd.prog TSP_53 annTSP 3) TSP_53.looks (annTSP 79) 79 [.agg [.int .i64 s, .int .i64 i, .row 0 n], .int .i64 q, .int .i64 k] [⟨.recs [.int .i64, .str, .int .i64] c, 96, .rows 3⟩] (K) := by kernel_rfl
theorem ok_impl_rowAt : OK Tryd.prog 79 F_impl_rowAt.spec := (vbody_ok (vin_ok TSP_53_ok annTSP 3) TSP_53_ok.looks _ _).ofFM fun args m p R h hp => by
 unfold F_impl_rowAt at h
 split at h
 ·injection h with h; injection h with h1 h2; subst h1; subst h2
  exact (congrArg At (eq_impl_rowAt _ _ _ _ _ _ _)).mp ⟨vc_impl_rowAt _ _ _ _ _ _ hp⟩
 ·cases h
def TSP_54 : Tab := TSP_53.add 79 F_impl_rowAt
theorem TSP_54_ok : TSP_54.Ok Tryd.prog := TSP_53_ok.add ok_impl_rowAt
theorem eq_impl_actor_goOn  (w : Int) (h : Int) (u : List UInt8) (x : Int) (y : Int) (d : Int) (q : Int) (s : Int) (i : Int) (n : Nat) (c : List Sc) (g0 : List UInt8) (g1 : List UInt8) (g2 : List UInt8) (g3 : List UInt8) (K : V -> List Blk -> Prop) : VC_impl_actor_goOn  w h u x y d q s i n c g0 g1 g2 g3 K = vbody Tryd.prog (vin Tryd.prog TSP_54 annTSP 3) TSP_54.looks (annTSP 64) 64 [.agg [.str [], .int .i64 w, .int .i64 h, .str u, .int .i64 x, .int .i64 y, .int .i64 d, .int .i64 q], .agg [.int .i64 s, .int .i64 i, .row 0 n]] [⟨.recs [.int .i64, .str, .int .i64] c, 96, .rows 3⟩, ⟨.vals [.str g0, .str g1, .str g2, .str g3], 9, .gl 0⟩] (K) := by kernel_rfl
theorem ok_impl_actor_goOn : OK Tryd.prog 64 F_impl_actor_goOn.spec := (vbody_ok (vin_ok TSP_54_ok annTSP 3) TSP_54_ok.looks _ _).ofFM fun args m p R h hp => by
 unfold F_impl_actor_goOn at h
 split at h
 ·injection h with h; injection h with h1 h2; subst h1; subst h2
  exact (congrArg At (eq_impl_actor_goOn _ _ _ _ _ _ _ _ _ _ _ _ _ _ _ _)).mp ⟨vc_impl_actor_goOn _ _ _ _ _ _ _ _ _ _ _ _ _ _ _ hp⟩
 ·cases h
def TSP_55 : Tab := TSP_54.add 64 F_impl_actor_goOn
theorem TSP_55_ok : TSP_55.Ok Tryd.prog := TSP_54_ok.add ok_impl_actor_goOn
theorem eq_impl_actor_scene  (w : Int) (h : Int) (u : List UInt8) (x : Int) (y : Int) (d : Int) (q : Int) (s : Int) (i : Int) (n : Nat) (c : List Sc) (K : V -> List Blk -> Prop) : VC_impl_actor_scene  w h u x y d q s i n c K = vbody Tryd.prog (vin Tryd.prog TSP_55 annTSP 3) TSP_55.looks (annTSP 105) 105 [.agg [.str [], .int .i64 w, .int .i64 h, .str u, .int .i64 x, .int .i64 y, .int .i64 d, .int .i64 q], .agg [.int .i64 s, .int .i64 i, .row 0 n]] [⟨.recs [.int .i64, .str, .int .i64] c, 96, .rows 3⟩] (K) := by kernel_rfl
theorem ok_impl_actor_scene : OK Tryd.prog 105 F_impl_actor_scene.spec := (vbody_ok (vin_ok TSP_55_ok annTSP 3) TSP_55_ok.looks _ _).ofG fun args m p R M h hp => by
 unfold F_impl_actor_scene at h
 split at h
 ·injection h with h; injection h with h1 h2; injection h2 with h2 h3; subst h1; subst h2; subst h3
  exact (congrArg At (eq_impl_actor_scene _ _ _ _ _ _ _ _ _ _ _ _)).mp ⟨vc_impl_actor_scene _ _ _ _ _ _ _ _ _ _ _ hp⟩
 ·cases h
def TSP_56 : Tab := TSP_55.addG 105 F_impl_actor_scene
theorem TSP_56_ok : TSP_56.Ok Tryd.prog := TSP_55_ok.addG ok_impl_actor_scene
theorem eq_spec_StepScene  (s : Int) (i : Int) (n : Nat) (c : List Sc) (w : Int) (h : Int) (u : List UInt8) (x : Int) (y : Int) (d : Int) (q : Int) (K : V -> List Blk -> Prop) : VC_spec_StepScene  s i n c w h u x y d q K = vbody Tryd.prog (vin Tryd.prog TSP_56 annTSP 3) TSP_56.looks (annTSP 18) 18 [.agg [.int .i64 s, .int .i64 i, .row 0 n, .int .i64 w, .int .i64 h, .str u, .int .i64 x, .int .i64 y, .int .i64 d, .int .i64 q]] [⟨.recs [.int .i64, .str, .int .i64] c, 96, .rows 3⟩] (K) := by kernel_rfl
theorem ok_spec_StepScene : OK Tryd.prog 18 F_spec_StepScene.spec := (vbody_ok (vin_ok TSP_56_ok annTSP 3) TSP_56_ok.looks _ _).ofG fun args m p R M h hp => by
 unfold F_spec_StepScene at h
 split at h
 ·injection h with h; injection h with h1 h2; injection h2 with h2 h3; subst h1; subst h2; subst h3
  exact (congrArg At (eq_spec_StepScene _ _ _ _ _ _ _ _ _ _ _ _)).mp ⟨vc_spec_StepScene _ _ _ _ _ _ _ _ _ _ _ hp⟩
 ·cases h
def TSP_57 : Tab := TSP_56.addG 18 F_spec_StepScene
theorem TSP_57_ok : TSP_57.Ok Tryd.prog := TSP_56_ok.addG ok_spec_StepScene
theorem eq_spec_SceneAfter (m : Int) (s : Int) (i : Int) (n : Nat) (c : List Sc) (w : Int) (h : Int) (u : List UInt8) (x : Int) (y : Int) (d : Int) (q : Int) (K : V -> List Blk -> Prop) : VC_spec_SceneAfter m s i n c w h u x y d q K = vbody Tryd.prog (vin Tryd.prog TSP_57 annTSP 3) TSP_57.looks (annTSP 22) 22 [.agg [.int .i64 s, .int .i64 i, .row 0 n, .int .i64 w, .int .i64 h, .str u, .int .i64 x, .int .i64 y, .int .i64 d, .int .i64 q], .int .i64 m] [⟨.recs [.int .i64, .str, .int .i64] c, 96, .rows 3⟩] (K) := by kernel_rfl
theorem ok_spec_SceneAfter : OK Tryd.prog 22 F_spec_SceneAfter.spec := (vbody_ok (vin_ok TSP_57_ok annTSP 3) TSP_57_ok.looks _ _).ofG fun args m p R M h hp => by
 unfold F_spec_SceneAfter at h
 split at h
 ·injection h with h; injection h with h1 h2; injection h2 with h2 h3; subst h1; subst h2; subst h3
  exact (congrArg At (eq_spec_SceneAfter _ _ _ _ _ _ _ _ _ _ _ _ _)).mp ⟨vc_spec_SceneAfter _ _ _ _ _ _ _ _ _ _ _ _ hp⟩
 ·cases h
def TSP_58 : Tab := TSP_57.addG 22 F_spec_SceneAfter
theorem TSP_58_ok : TSP_58.Ok Tryd.prog := TSP_57_ok.addG ok_spec_SceneAfter
theorem eq_impl_played (m : Int) (s : Int) (i : Int) (n : Nat) (c : List Sc) (w : Int) (h : Int) (u : List UInt8) (x : Int) (y : Int) (d : Int) (q : Int) (g0 : List UInt8) (g1 : List UInt8) (g2 : List UInt8) (g3 : List UInt8) (K : V -> List Blk -> Prop) : VC_impl_played m s i n c w h u x y d q g0 g1 g2 g3 K = vbody Tryd.prog (vin Tryd.prog TSP_58 annTSP 3) TSP_58.looks (annTSP 63) 63 [.agg [.int .i64 s, .int .i64 i, .row 0 n, .int .i64 w, .int .i64 h, .str u, .int .i64 x, .int .i64 y, .int .i64 d, .int .i64 q], .int .i64 m, .fn 64 []] [⟨.recs [.int .i64, .str, .int .i64] c, 96, .rows 3⟩, ⟨.vals [.str g0, .str g1, .str g2, .str g3], 9, .gl 0⟩] (K) := by kernel_rfl
theorem ok_impl_played : OK Tryd.prog 63 F_impl_played.spec := (vbody_ok (vin_ok TSP_58_ok annTSP 3) TSP_58_ok.looks _ _).ofG fun args m p R M h hp => by
 unfold F_impl_played at h
 split at h
 ·injection h with h; injection h with h1 h2; injection h2 with h2 h3; subst h1; subst h2; subst h3
  exact (congrArg At (eq_impl_played _ _ _ _ _ _ _ _ _ _ _ _ _ _ _ _ _)).mp ⟨vc_impl_played _ _ _ _ _ _ _ _ _ _ _ _ _ _ _ _ hp⟩
 ·cases h
def TSP_59 : Tab := TSP_58.addG 63 F_impl_played
theorem TSP_59_ok : TSP_59.Ok Tryd.prog := TSP_58_ok.addG ok_impl_played
theorem eq_impl_SceneAfter (m : Int) (s : Int) (i : Int) (n : Nat) (c : List Sc) (w : Int) (h : Int) (u : List UInt8) (x : Int) (y : Int) (d : Int) (q : Int) (g0 : List UInt8) (g1 : List UInt8) (g2 : List UInt8) (g3 : List UInt8) (K : V -> List Blk -> Prop) : VC_impl_SceneAfter m s i n c w h u x y d q g0 g1 g2 g3 K = vbody Tryd.prog (vin Tryd.prog TSP_59 annTSP 3) TSP_59.looks (annTSP 23) 23 [.agg [.int .i64 s, .int .i64 i, .row 0 n, .int .i64 w, .int .i64 h, .str u, .int .i64 x, .int .i64 y, .int .i64 d, .int .i64 q], .int .i64 m] [⟨.recs [.int .i64, .str, .int .i64] c, 96, .rows 3⟩, ⟨.vals [.str g0, .str g1, .str g2, .str g3], 9, .gl 0⟩] (K) := by kernel_rfl
theorem ok_impl_SceneAfter : OK Tryd.prog 23 F_impl_SceneAfter.spec := (vbody_ok (vin_ok TSP_59_ok annTSP 3) TSP_59_ok.looks _ _).ofG fun args m p R M h hp => by
 unfold F_impl_SceneAfter at h
 split at h
 ·injection h with h; injection h with h1 h2; injection h2 with h2 h3; subst h1; subst h2; subst h3
  exact (congrArg At (eq_impl_SceneAfter _ _ _ _ _ _ _ _ _ _ _ _ _ _ _ _ _)).mp ⟨vc_impl_SceneAfter _ _ _ _ _ _ _ _ _ _ _ _ _ _ _ _ hp⟩
 ·cases h
def TSP_60 : Tab := TSP_59.addG 23 F_impl_SceneAfter
theorem TSP_60_ok : TSP_60.Ok Tryd.prog := TSP_59_ok.addG ok_impl_SceneAfter
theorem eq_impl_StepScene  (s : Int) (i : Int) (n : Nat) (c : List Sc) (w : Int) (h : Int) (u : List UInt8) (x : Int) (y : Int) (d : Int) (q : Int) (g0 : List UInt8) (g1 : List UInt8) (g2 : List UInt8) (g3 : List UInt8) (K : V -> List Blk -> Prop) : VC_impl_StepScene  s i n c w h u x y d q g0 g1 g2 g3 K = vbody Tryd.prog (vin Tryd.prog TSP_60 annTSP 3) TSP_60.looks (annTSP 19) 19 [.agg [.int .i64 s, .int .i64 i, .row 0 n, .int .i64 w, .int .i64 h, .str u, .int .i64 x, .int .i64 y, .int .i64 d, .int .i64 q]] [⟨.recs [.int .i64, .str, .int .i64] c, 96, .rows 3⟩, ⟨.vals [.str g0, .str g1, .str g2, .str g3], 9, .gl 0⟩] (K) := by kernel_rfl
theorem ok_impl_StepScene : OK Tryd.prog 19 F_impl_StepScene.spec := (vbody_ok (vin_ok TSP_60_ok annTSP 3) TSP_60_ok.looks _ _).ofG fun args m p R M h hp => by
 unfold F_impl_StepScene at h
 split at h
 ·injection h with h; injection h with h1 h2; injection h2 with h2 h3; subst h1; subst h2; subst h3
  exact (congrArg At (eq_impl_StepScene _ _ _ _ _ _ _ _ _ _ _ _ _ _ _ _)).mp ⟨vc_impl_StepScene _ _ _ _ _ _ _ _ _ _ _ _ _ _ _ hp⟩
 ·cases h
def TSP_61 : Tab := TSP_60.addG 19 F_impl_StepScene
theorem TSP_61_ok : TSP_61.Ok Tryd.prog := TSP_60_ok.addG ok_impl_StepScene
theorem ok_strings_Count : OK Tryd.prog 73 F_strings_Count.spec := Go.Proofs.YtpkokghbkamelaaDoor.libCount
def TSP_62 : Tab := TSP_61.add 73 F_strings_Count
theorem TSP_62_ok : TSP_62.Ok Tryd.prog := TSP_61_ok.add ok_strings_Count
theorem eq_spec_PaintedAfter (m : Int) (s : Int) (i : Int) (n : Nat) (c : List Sc) (w : Int) (h : Int) (u : List UInt8) (x : Int) (y : Int) (d : Int) (q : Int) (K : V -> List Blk -> Prop) : VC_spec_PaintedAfter m s i n c w h u x y d q K = vbody Tryd.prog (vin Tryd.prog TSP_62 annTSP 3) TSP_62.looks (annTSP 28) 28 [.agg [.int .i64 s, .int .i64 i, .row 0 n, .int .i64 w, .int .i64 h, .str u, .int .i64 x, .int .i64 y, .int .i64 d, .int .i64 q], .int .i64 m] [⟨.recs [.int .i64, .str, .int .i64] c, 96, .rows 3⟩] (K) := by kernel_rfl
theorem ok_spec_PaintedAfter : OK Tryd.prog 28 F_spec_PaintedAfter.spec := (vbody_ok (vin_ok TSP_62_ok annTSP 3) TSP_62_ok.looks _ _).ofFM fun args m p R h hp => by
 unfold F_spec_PaintedAfter at h
 split at h
 ·injection h with h; injection h with h1 h2; subst h1; subst h2
  exact (congrArg At (eq_spec_PaintedAfter _ _ _ _ _ _ _ _ _ _ _ _ _)).mp ⟨vc_spec_PaintedAfter _ _ _ _ _ _ _ _ _ _ _ _ hp⟩
 ·cases h
def TSP_63 : Tab := TSP_62.add 28 F_spec_PaintedAfter
theorem TSP_63_ok : TSP_63.Ok Tryd.prog := TSP_62_ok.add ok_spec_PaintedAfter
theorem eq_impl_PaintedAfter (m : Int) (s : Int) (i : Int) (n : Nat) (c : List Sc) (w : Int) (h : Int) (u : List UInt8) (x : Int) (y : Int) (d : Int) (q : Int) (g0 : List UInt8) (g1 : List UInt8) (g2 : List UInt8) (g3 : List UInt8) (K : V -> List Blk -> Prop) : VC_impl_PaintedAfter m s i n c w h u x y d q g0 g1 g2 g3 K = vbody Tryd.prog (vin Tryd.prog TSP_63 annTSP 3) TSP_63.looks (annTSP 29) 29 [.agg [.int .i64 s, .int .i64 i, .row 0 n, .int .i64 w, .int .i64 h, .str u, .int .i64 x, .int .i64 y, .int .i64 d, .int .i64 q], .int .i64 m] [⟨.recs [.int .i64, .str, .int .i64] c, 96, .rows 3⟩, ⟨.vals [.str g0, .str g1, .str g2, .str g3], 9, .gl 0⟩] (K) := by kernel_rfl
theorem ok_impl_PaintedAfter : OK Tryd.prog 29 F_impl_PaintedAfter.spec := (vbody_ok (vin_ok TSP_63_ok annTSP 3) TSP_63_ok.looks _ _).ofFM fun args m p R h hp => by
 unfold F_impl_PaintedAfter at h
 split at h
 ·injection h with h; injection h with h1 h2; subst h1; subst h2
  exact (congrArg At (eq_impl_PaintedAfter _ _ _ _ _ _ _ _ _ _ _ _ _ _ _ _ _)).mp ⟨vc_impl_PaintedAfter _ _ _ _ _ _ _ _ _ _ _ _ _ _ _ _ hp⟩
 ·cases h
def TSP_64 : Tab := TSP_63.add 29 F_impl_PaintedAfter
theorem TSP_64_ok : TSP_64.Ok Tryd.prog := TSP_63_ok.add ok_impl_PaintedAfter
def TSP : Tab := TSP_64
theorem TSP_ok : TSP.Ok Tryd.prog := TSP_64_ok
end Go.Proofs.YtpkokghbkamelaaDoor
