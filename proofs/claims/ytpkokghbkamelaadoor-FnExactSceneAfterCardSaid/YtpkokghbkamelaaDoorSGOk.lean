/- The contracts of this chapter. -/
import Derived.Test.YtpkokghbkamelaaDoorProg
import Derived.Test.YtpkokghbkamelaaDoorSGPf
import Derived.KernelRfl
namespace Go.Proofs.YtpkokghbkamelaaDoor
open Go Go.Vi
set_option linter.unusedVariables false
def annTSG : FuncId -> Nat -> St -> Option Ann := fun f => if f = 142 then ann_spec_woRule else if f = 104 then ann_impl_quartersOfTurn else if f = 74 then ann_laws_szRowS else if f = 78 then ann_laws_toRowS else if f = 82 then ann_laws_eqRowS else if f = 75 then ann_spec_taGood else if f = 52 then ann_impl_IsTable else if f = 123 then ann_laws_markText else if f = 83 then ann_laws_markRowS else if f = 87 then ann_laws_heldRowS else if f = 58 then ann_impl_areColours else if f = 51 then ann_spec_taScene else if f = 16 then ann_impl_IsScene else if f = 60 then ann_spec_taStep else if f = 64 then ann_impl_actor_goOn else if f = 105 then ann_impl_actor_scene else if f = 22 then ann_spec_SceneAfter else if f = 63 then ann_impl_played else (fun _ _ => none)
def TSG_0 : Tab := Tab.none
theorem TSG_0_ok : TSG_0.Ok Tryd.prog := Tab.none_ok
theorem eq_spec_l1In (n : Int) (lo : Int) (hi : Int) (K : V -> Prop) : VC_spec_l1In n lo hi K = vbody Tryd.prog (vin Tryd.prog TSG_0 annTSG 3) TSG_0.looks (annTSG 102) 102 [.int .i64 n, .int .i64 lo, .int .i64 hi] [] (fun v _ => K v) := by kernel_rfl
theorem ok_spec_l1In : OK Tryd.prog 102 F_spec_l1In.spec := (vbody_ok (vin_ok TSG_0_ok annTSG 3) TSG_0_ok.looks _ _).ofF fun args m p R h hp => by
 unfold F_spec_l1In at h
 split at h
 ·injection h with h; injection h with h1 h2; subst h1; subst h2
  exact ⟨rfl, (congrArg At (eq_spec_l1In _ _ _ _)).mp ⟨vc_spec_l1In _ _ _ hp⟩⟩
 ·cases h
def TSG_1 : Tab := TSG_0.add 102 F_spec_l1In
theorem TSG_1_ok : TSG_1.Ok Tryd.prog := TSG_0_ok.add ok_spec_l1In
theorem eq_impl_within (n : Int) (lo : Int) (hi : Int) (K : V -> Prop) : VC_impl_within n lo hi K = vbody Tryd.prog (vin Tryd.prog TSG_1 annTSG 3) TSG_1.looks (annTSG 57) 57 [.int .i64 n, .int .i64 lo, .int .i64 hi] [] (fun v _ => K v) := by kernel_rfl
theorem ok_impl_within : OK Tryd.prog 57 F_impl_within.spec := (vbody_ok (vin_ok TSG_1_ok annTSG 3) TSG_1_ok.looks _ _).ofF fun args m p R h hp => by
 unfold F_impl_within at h
 split at h
 ·injection h with h; injection h with h1 h2; subst h1; subst h2
  exact ⟨rfl, (congrArg At (eq_impl_within _ _ _ _)).mp ⟨vc_impl_within _ _ _ hp⟩⟩
 ·cases h
def TSG_2 : Tab := TSG_1.add 57 F_impl_within
theorem TSG_2_ok : TSG_2.Ok Tryd.prog := TSG_1_ok.add ok_impl_within
theorem eq_spec_woRule (s : List UInt8) (K : V -> Prop) : VC_spec_woRule s K = vbody Tryd.prog (vin Tryd.prog TSG_2 annTSG 3) TSG_2.looks (annTSG 142) 142 [.str s] [] (fun v _ => K v) := by kernel_rfl
theorem ok_spec_woRule : OK Tryd.prog 142 F_spec_woRule.spec := (vbody_ok (vin_ok TSG_2_ok annTSG 3) TSG_2_ok.looks _ _).ofF fun args m p R h hp => by
 unfold F_spec_woRule at h
 split at h
 ·injection h with h; injection h with h1 h2; subst h1; subst h2
  exact ⟨rfl, (congrArg At (eq_spec_woRule _ _)).mp ⟨vc_spec_woRule _ hp⟩⟩
 ·cases h
def TSG_3 : Tab := TSG_2.add 142 F_spec_woRule
theorem TSG_3_ok : TSG_3.Ok Tryd.prog := TSG_2_ok.add ok_spec_woRule
theorem eq_spec_taSign (s : List UInt8) (K : V -> Prop) : VC_spec_taSign s K = vbody Tryd.prog (vin Tryd.prog TSG_3 annTSG 3) TSG_3.looks (annTSG 117) 117 [.str s] [] (fun v _ => K v) := by kernel_rfl
theorem ok_spec_taSign : OK Tryd.prog 117 F_spec_taSign.spec := (vbody_ok (vin_ok TSG_3_ok annTSG 3) TSG_3_ok.looks _ _).ofF fun args m p R h hp => by
 unfold F_spec_taSign at h
 split at h
 ·injection h with h; injection h with h1 h2; subst h1; subst h2
  exact ⟨rfl, (congrArg At (eq_spec_taSign _ _)).mp ⟨vc_spec_taSign _ hp⟩⟩
 ·cases h
def TSG_4 : Tab := TSG_3.add 117 F_spec_taSign
theorem TSG_4_ok : TSG_4.Ok Tryd.prog := TSG_3_ok.add ok_spec_taSign
theorem eq_impl_quartersOfTurn (s : List UInt8) (g0 : List UInt8) (g1 : List UInt8) (g2 : List UInt8) (g3 : List UInt8) (K : V -> List Blk -> Prop) : VC_impl_quartersOfTurn s g0 g1 g2 g3 K = vbody Tryd.prog (vin Tryd.prog TSG_4 annTSG 3) TSG_4.looks (annTSG 104) 104 [.str s] [⟨.vals [.str g0, .str g1, .str g2, .str g3], 9, .gl 0⟩] (K) := by kernel_rfl
theorem ok_impl_quartersOfTurn : OK Tryd.prog 104 F_impl_quartersOfTurn.spec := (vbody_ok (vin_ok TSG_4_ok annTSG 3) TSG_4_ok.looks _ _).ofFM fun args m p R h hp => by
 unfold F_impl_quartersOfTurn at h
 split at h
 ·injection h with h; injection h with h1 h2; subst h1; subst h2
  exact (congrArg At (eq_impl_quartersOfTurn _ _ _ _ _ _)).mp ⟨vc_impl_quartersOfTurn _ _ _ _ _ hp⟩
 ·cases h
def TSG_5 : Tab := TSG_4.add 104 F_impl_quartersOfTurn
theorem TSG_5_ok : TSG_5.Ok Tryd.prog := TSG_4_ok.add ok_impl_quartersOfTurn
theorem eq_laws_szRow (ra : Int) (rt : List UInt8) (rb : Int) (left : Int) (K : V -> Prop) : VC_laws_szRow ra rt rb left K = vbody Tryd.prog (vin Tryd.prog TSG_5 annTSG 3) TSG_5.looks (annTSG 116) 116 [.agg [.int .i64 ra, .str rt, .int .i64 rb], .int .i64 left] [] (fun v _ => K v) := by kernel_rfl
theorem ok_laws_szRow : OK Tryd.prog 116 F_laws_szRow.spec := (vbody_ok (vin_ok TSG_5_ok annTSG 3) TSG_5_ok.looks _ _).ofF fun args m p R h hp => by
 unfold F_laws_szRow at h
 split at h
 ·injection h with h; injection h with h1 h2; subst h1; subst h2
  exact ⟨rfl, (congrArg At (eq_laws_szRow _ _ _ _ _)).mp ⟨vc_laws_szRow _ _ _ _ hp⟩⟩
 ·cases h
def TSG_6 : Tab := TSG_5.add 116 F_laws_szRow
theorem TSG_6_ok : TSG_6.Ok Tryd.prog := TSG_5_ok.add ok_laws_szRow
theorem eq_laws_szRowS (left : Int) (n : Nat) (c : List Sc) (K : V -> List Blk -> Prop) : VC_laws_szRowS left n c K = vbody Tryd.prog (vin Tryd.prog TSG_6 annTSG 3) TSG_6.looks (annTSG 74) 74 [.row 0 n, .int .i64 left] [⟨.recs [.int .i64, .str, .int .i64] c, 139, .arg 3⟩] (K) := by kernel_rfl
theorem ok_laws_szRowS : OK Tryd.prog 74 F_laws_szRowS.spec := (vbody_ok (vin_ok TSG_6_ok annTSG 3) TSG_6_ok.looks _ _).ofFM fun args m p R h hp => by
 unfold F_laws_szRowS at h
 split at h
 ·injection h with h; injection h with h1 h2; subst h1; subst h2
  exact (congrArg At (eq_laws_szRowS _ _ _ _)).mp ⟨vc_laws_szRowS _ _ _ hp⟩
 ·cases h
def TSG_7 : Tab := TSG_6.add 74 F_laws_szRowS
theorem TSG_7_ok : TSG_7.Ok Tryd.prog := TSG_6_ok.add ok_laws_szRowS
theorem eq_laws_szTable (left : Int) (s : Int) (i : Int) (n : Nat) (c : List Sc) (K : V -> List Blk -> Prop) : VC_laws_szTable left s i n c K = vbody Tryd.prog (vin Tryd.prog TSG_7 annTSG 3) TSG_7.looks (annTSG 30) 30 [.agg [.int .i64 s, .int .i64 i, .row 0 n], .int .i64 left] [⟨.recs [.int .i64, .str, .int .i64] c, 139, .arg 3⟩] (K) := by kernel_rfl
theorem ok_laws_szTable : OK Tryd.prog 30 F_laws_szTable.spec := (vbody_ok (vin_ok TSG_7_ok annTSG 3) TSG_7_ok.looks _ _).ofFM fun args m p R h hp => by
 unfold F_laws_szTable at h
 split at h
 ·injection h with h; injection h with h1 h2; subst h1; subst h2
  exact (congrArg At (eq_laws_szTable _ _ _ _ _ _)).mp ⟨vc_laws_szTable _ _ _ _ _ hp⟩
 ·cases h
def TSG_8 : Tab := TSG_7.add 30 F_laws_szTable
theorem TSG_8_ok : TSG_8.Ok Tryd.prog := TSG_7_ok.add ok_laws_szTable
theorem eq_laws_toRow (ra : Int) (rt : List UInt8) (rb : Int) (K : V -> Prop) : VC_laws_toRow ra rt rb K = vbody Tryd.prog (vin Tryd.prog TSG_8 annTSG 3) TSG_8.looks (annTSG 118) 118 [.agg [.int .i64 ra, .str rt, .int .i64 rb]] [] (fun v _ => K v) := by kernel_rfl
theorem ok_laws_toRow : OK Tryd.prog 118 F_laws_toRow.spec := (vbody_ok (vin_ok TSG_8_ok annTSG 3) TSG_8_ok.looks _ _).ofF fun args m p R h hp => by
 unfold F_laws_toRow at h
 split at h
 ·injection h with h; injection h with h1 h2; subst h1; subst h2
  exact ⟨rfl, (congrArg At (eq_laws_toRow _ _ _ _)).mp ⟨vc_laws_toRow _ _ _ hp⟩⟩
 ·cases h
def TSG_9 : Tab := TSG_8.add 118 F_laws_toRow
theorem TSG_9_ok : TSG_9.Ok Tryd.prog := TSG_8_ok.add ok_laws_toRow
theorem eq_laws_toRowS  (n : Nat) (c : List Sc) (K : V -> List Blk -> Prop) : VC_laws_toRowS  n c K = vbody Tryd.prog (vin Tryd.prog TSG_9 annTSG 3) TSG_9.looks (annTSG 78) 78 [.row 0 n] [⟨.recs [.int .i64, .str, .int .i64] c, 139, .arg 3⟩] (K) := by kernel_rfl
theorem ok_laws_toRowS : OK Tryd.prog 78 F_laws_toRowS.spec := (vbody_ok (vin_ok TSG_9_ok annTSG 3) TSG_9_ok.looks _ _).ofG fun args m p R M h hp => by
 unfold F_laws_toRowS at h
 split at h
 ·injection h with h; injection h with h1 h2; injection h2 with h2 h3; subst h1; subst h2; subst h3
  exact (congrArg At (eq_laws_toRowS _ _ _)).mp ⟨vc_laws_toRowS _ _ hp⟩
 ·cases h
def TSG_10 : Tab := TSG_9.addG 78 F_laws_toRowS
theorem TSG_10_ok : TSG_10.Ok Tryd.prog := TSG_9_ok.addG ok_laws_toRowS
theorem eq_laws_toTable  (s : Int) (i : Int) (n : Nat) (c : List Sc) (K : V -> List Blk -> Prop) : VC_laws_toTable  s i n c K = vbody Tryd.prog (vin Tryd.prog TSG_10 annTSG 3) TSG_10.looks (annTSG 32) 32 [.agg [.int .i64 s, .int .i64 i, .row 0 n]] [⟨.recs [.int .i64, .str, .int .i64] c, 139, .arg 3⟩] (K) := by kernel_rfl
theorem ok_laws_toTable : OK Tryd.prog 32 F_laws_toTable.spec := (vbody_ok (vin_ok TSG_10_ok annTSG 3) TSG_10_ok.looks _ _).ofG fun args m p R M h hp => by
 unfold F_laws_toTable at h
 split at h
 ·injection h with h; injection h with h1 h2; injection h2 with h2 h3; subst h1; subst h2; subst h3
  exact (congrArg At (eq_laws_toTable _ _ _ _ _)).mp ⟨vc_laws_toTable _ _ _ _ hp⟩
 ·cases h
def TSG_11 : Tab := TSG_10.addG 32 F_laws_toTable
theorem TSG_11_ok : TSG_11.Ok Tryd.prog := TSG_10_ok.addG ok_laws_toTable
theorem eq_laws_eqRow (ra : Int) (rt : List UInt8) (rb : Int) (qa : Int) (qt : List UInt8) (qb : Int) (K : V -> Prop) : VC_laws_eqRow ra rt rb qa qt qb K = vbody Tryd.prog (vin Tryd.prog TSG_11 annTSG 3) TSG_11.looks (annTSG 122) 122 [.agg [.int .i64 ra, .str rt, .int .i64 rb], .agg [.int .i64 qa, .str qt, .int .i64 qb]] [] (fun v _ => K v) := by kernel_rfl
theorem ok_laws_eqRow : OK Tryd.prog 122 F_laws_eqRow.spec := (vbody_ok (vin_ok TSG_11_ok annTSG 3) TSG_11_ok.looks _ _).ofF fun args m p R h hp => by
 unfold F_laws_eqRow at h
 split at h
 ·injection h with h; injection h with h1 h2; subst h1; subst h2
  exact ⟨rfl, (congrArg At (eq_laws_eqRow _ _ _ _ _ _ _)).mp ⟨vc_laws_eqRow _ _ _ _ _ _ hp⟩⟩
 ·cases h
def TSG_12 : Tab := TSG_11.add 122 F_laws_eqRow
theorem TSG_12_ok : TSG_12.Ok Tryd.prog := TSG_11_ok.add ok_laws_eqRow
theorem eq_laws_eqRowS  (n : Nat) (m : Nat) (c : List Sc) (d : List Sc) (K : V -> List Blk -> Prop) : VC_laws_eqRowS  n m c d K = vbody Tryd.prog (vin Tryd.prog TSG_12 annTSG 3) TSG_12.looks (annTSG 82) 82 [.row 0 n, .row 1 m] [⟨.recs [.int .i64, .str, .int .i64] c, 96, .rows 3⟩, ⟨.recs [.int .i64, .str, .int .i64] d, 96, .rows 3⟩] (K) := by kernel_rfl
theorem ok_laws_eqRowS : OK Tryd.prog 82 F_laws_eqRowS.spec := (vbody_ok (vin_ok TSG_12_ok annTSG 3) TSG_12_ok.looks _ _).ofFM fun args m p R h hp => by
 unfold F_laws_eqRowS at h
 split at h
 ·injection h with h; injection h with h1 h2; subst h1; subst h2
  exact (congrArg At (eq_laws_eqRowS _ _ _ _ _)).mp ⟨vc_laws_eqRowS _ _ _ _ hp⟩
 ·cases h
def TSG_13 : Tab := TSG_12.add 82 F_laws_eqRowS
theorem TSG_13_ok : TSG_13.Ok Tryd.prog := TSG_12_ok.add ok_laws_eqRowS
theorem eq_laws_eqTable  (s : Int) (i : Int) (n : Nat) (c : List Sc) (p : Int) (q : Int) (m : Nat) (d : List Sc) (K : V -> List Blk -> Prop) : VC_laws_eqTable  s i n c p q m d K = vbody Tryd.prog (vin Tryd.prog TSG_13 annTSG 3) TSG_13.looks (annTSG 35) 35 [.agg [.int .i64 s, .int .i64 i, .row 0 n], .agg [.int .i64 p, .int .i64 q, .row 1 m]] [⟨.recs [.int .i64, .str, .int .i64] c, 96, .rows 3⟩, ⟨.recs [.int .i64, .str, .int .i64] d, 96, .rows 3⟩] (K) := by kernel_rfl
theorem ok_laws_eqTable : OK Tryd.prog 35 F_laws_eqTable.spec := (vbody_ok (vin_ok TSG_13_ok annTSG 3) TSG_13_ok.looks _ _).ofFM fun args m p R h hp => by
 unfold F_laws_eqTable at h
 split at h
 ·injection h with h; injection h with h1 h2; subst h1; subst h2
  exact (congrArg At (eq_laws_eqTable _ _ _ _ _ _ _ _ _)).mp ⟨vc_laws_eqTable _ _ _ _ _ _ _ _ hp⟩
 ·cases h
def TSG_14 : Tab := TSG_13.add 35 F_laws_eqTable
theorem TSG_14_ok : TSG_14.Ok Tryd.prog := TSG_13_ok.add ok_laws_eqTable
theorem eq_spec_taGood  (s : Int) (i : Int) (n : Nat) (c : List Sc) (K : V -> List Blk -> Prop) : VC_spec_taGood  s i n c K = vbody Tryd.prog (vin Tryd.prog TSG_14 annTSG 3) TSG_14.looks (annTSG 75) 75 [.agg [.int .i64 s, .int .i64 i, .row 0 n]] [⟨.recs [.int .i64, .str, .int .i64] c, 96, .rows 3⟩] (K) := by kernel_rfl
theorem ok_spec_taGood : OK Tryd.prog 75 F_spec_taGood.spec := (vbody_ok (vin_ok TSG_14_ok annTSG 3) TSG_14_ok.looks _ _).ofFM fun args m p R h hp => by
 unfold F_spec_taGood at h
 split at h
 ·injection h with h; injection h with h1 h2; subst h1; subst h2
  exact (congrArg At (eq_spec_taGood _ _ _ _ _)).mp ⟨vc_spec_taGood _ _ _ _ hp⟩
 ·cases h
def TSG_15 : Tab := TSG_14.add 75 F_spec_taGood
theorem TSG_15_ok : TSG_15.Ok Tryd.prog := TSG_14_ok.add ok_spec_taGood
theorem eq_impl_isTableSize (a : Int) (b : Int) (K : V -> Prop) : VC_impl_isTableSize a b K = vbody Tryd.prog (vin Tryd.prog TSG_15 annTSG 3) TSG_15.looks (annTSG 103) 103 [.int .i64 a, .int .i64 b] [] (fun v _ => K v) := by kernel_rfl
theorem ok_impl_isTableSize : OK Tryd.prog 103 F_impl_isTableSize.spec := (vbody_ok (vin_ok TSG_15_ok annTSG 3) TSG_15_ok.looks _ _).ofF fun args m p R h hp => by
 unfold F_impl_isTableSize at h
 split at h
 ·injection h with h; injection h with h1 h2; subst h1; subst h2
  exact ⟨rfl, (congrArg At (eq_impl_isTableSize _ _ _)).mp ⟨vc_impl_isTableSize _ _ hp⟩⟩
 ·cases h
def TSG_16 : Tab := TSG_15.add 103 F_impl_isTableSize
theorem TSG_16_ok : TSG_16.Ok Tryd.prog := TSG_15_ok.add ok_impl_isTableSize
theorem eq_impl_IsTable  (s : Int) (i : Int) (n : Nat) (c : List Sc) (g0 : List UInt8) (g1 : List UInt8) (g2 : List UInt8) (g3 : List UInt8) (K : V -> List Blk -> Prop) : VC_impl_IsTable  s i n c g0 g1 g2 g3 K = vbody Tryd.prog (vin Tryd.prog TSG_16 annTSG 3) TSG_16.looks (annTSG 52) 52 [.agg [.int .i64 s, .int .i64 i, .row 0 n]] [⟨.recs [.int .i64, .str, .int .i64] c, 96, .rows 3⟩, ⟨.vals [.str g0, .str g1, .str g2, .str g3], 9, .gl 0⟩] (K) := by kernel_rfl
theorem ok_impl_IsTable : OK Tryd.prog 52 F_impl_IsTable.spec := (vbody_ok (vin_ok TSG_16_ok annTSG 3) TSG_16_ok.looks _ _).ofFM fun args m p R h hp => by
 unfold F_impl_IsTable at h
 split at h
 ·injection h with h; injection h with h1 h2; subst h1; subst h2
  exact (congrArg At (eq_impl_IsTable _ _ _ _ _ _ _ _ _)).mp ⟨vc_impl_IsTable _ _ _ _ _ _ _ _ hp⟩
 ·cases h
def TSG_17 : Tab := TSG_16.add 52 F_impl_IsTable
theorem TSG_17_ok : TSG_17.Ok Tryd.prog := TSG_16_ok.add ok_impl_IsTable
theorem eq_laws_markText (k : Int) (K : V -> Prop) : VC_laws_markText k K = vbody Tryd.prog (vin Tryd.prog TSG_17 annTSG 3) TSG_17.looks (annTSG 123) 123 [.int .i64 k] [] (fun v _ => K v) := by kernel_rfl
theorem ok_laws_markText : OK Tryd.prog 123 F_laws_markText.spec := (vbody_ok (vin_ok TSG_17_ok annTSG 3) TSG_17_ok.looks _ _).ofF fun args m p R h hp => by
 unfold F_laws_markText at h
 split at h
 ·injection h with h; injection h with h1 h2; subst h1; subst h2
  exact ⟨rfl, (congrArg At (eq_laws_markText _ _)).mp ⟨vc_laws_markText _ hp⟩⟩
 ·cases h
def TSG_18 : Tab := TSG_17.add 123 F_laws_markText
theorem TSG_18_ok : TSG_18.Ok Tryd.prog := TSG_17_ok.add ok_laws_markText
theorem eq_laws_markRowS (k : Int) (n : Nat) (c : List Sc) (K : V -> List Blk -> Prop) : VC_laws_markRowS k n c K = vbody Tryd.prog (vin Tryd.prog TSG_18 annTSG 3) TSG_18.looks (annTSG 83) 83 [.row 0 n, .int .i64 k] [⟨.recs [.int .i64, .str, .int .i64] c, 96, .rows 3⟩] (K) := by kernel_rfl
theorem ok_laws_markRowS : OK Tryd.prog 83 F_laws_markRowS.spec := (vbody_ok (vin_ok TSG_18_ok annTSG 3) TSG_18_ok.looks _ _).ofG fun args m p R M h hp => by
 unfold F_laws_markRowS at h
 split at h
 ·injection h with h; injection h with h1 h2; injection h2 with h2 h3; subst h1; subst h2; subst h3
  exact (congrArg At (eq_laws_markRowS _ _ _ _)).mp ⟨vc_laws_markRowS _ _ _ hp⟩
 ·cases h
def TSG_19 : Tab := TSG_18.addG 83 F_laws_markRowS
theorem TSG_19_ok : TSG_19.Ok Tryd.prog := TSG_18_ok.addG ok_laws_markRowS
theorem eq_laws_markTable (k : Int) (s : Int) (i : Int) (n : Nat) (c : List Sc) (K : V -> List Blk -> Prop) : VC_laws_markTable k s i n c K = vbody Tryd.prog (vin Tryd.prog TSG_19 annTSG 3) TSG_19.looks (annTSG 36) 36 [.agg [.int .i64 s, .int .i64 i, .row 0 n], .int .i64 k] [⟨.recs [.int .i64, .str, .int .i64] c, 96, .rows 3⟩] (K) := by kernel_rfl
theorem ok_laws_markTable : OK Tryd.prog 36 F_laws_markTable.spec := (vbody_ok (vin_ok TSG_19_ok annTSG 3) TSG_19_ok.looks _ _).ofG fun args m p R M h hp => by
 unfold F_laws_markTable at h
 split at h
 ·injection h with h; injection h with h1 h2; injection h2 with h2 h3; subst h1; subst h2; subst h3
  exact (congrArg At (eq_laws_markTable _ _ _ _ _ _)).mp ⟨vc_laws_markTable _ _ _ _ _ hp⟩
 ·cases h
def TSG_20 : Tab := TSG_19.addG 36 F_laws_markTable
theorem TSG_20_ok : TSG_20.Ok Tryd.prog := TSG_19_ok.addG ok_laws_markTable
theorem eq_laws_heldRowS (k : Int) (n : Nat) (c : List Sc) (K : V -> List Blk -> Prop) : VC_laws_heldRowS k n c K = vbody Tryd.prog (vin Tryd.prog TSG_20 annTSG 3) TSG_20.looks (annTSG 87) 87 [.row 0 n, .int .i64 k] [⟨.recs [.int .i64, .str, .int .i64] c, 96, .rows 3⟩] (K) := by kernel_rfl
theorem ok_laws_heldRowS : OK Tryd.prog 87 F_laws_heldRowS.spec := (vbody_ok (vin_ok TSG_20_ok annTSG 3) TSG_20_ok.looks _ _).ofFM fun args m p R h hp => by
 unfold F_laws_heldRowS at h
 split at h
 ·injection h with h; injection h with h1 h2; subst h1; subst h2
  exact (congrArg At (eq_laws_heldRowS _ _ _ _)).mp ⟨vc_laws_heldRowS _ _ _ hp⟩
 ·cases h
def TSG_21 : Tab := TSG_20.add 87 F_laws_heldRowS
theorem TSG_21_ok : TSG_21.Ok Tryd.prog := TSG_20_ok.add ok_laws_heldRowS
theorem eq_laws_heldTable (k : Int) (s : Int) (i : Int) (n : Nat) (c : List Sc) (K : V -> List Blk -> Prop) : VC_laws_heldTable k s i n c K = vbody Tryd.prog (vin Tryd.prog TSG_21 annTSG 3) TSG_21.looks (annTSG 41) 41 [.agg [.int .i64 s, .int .i64 i, .row 0 n], .int .i64 k] [⟨.recs [.int .i64, .str, .int .i64] c, 96, .rows 3⟩] (K) := by kernel_rfl
theorem ok_laws_heldTable : OK Tryd.prog 41 F_laws_heldTable.spec := (vbody_ok (vin_ok TSG_21_ok annTSG 3) TSG_21_ok.looks _ _).ofFM fun args m p R h hp => by
 unfold F_laws_heldTable at h
 split at h
 ·injection h with h; injection h with h1 h2; subst h1; subst h2
  exact (congrArg At (eq_laws_heldTable _ _ _ _ _ _)).mp ⟨vc_laws_heldTable _ _ _ _ _ hp⟩
 ·cases h
def TSG_22 : Tab := TSG_21.add 41 F_laws_heldTable
theorem TSG_22_ok : TSG_22.Ok Tryd.prog := TSG_21_ok.add ok_laws_heldTable
theorem eq_laws_eqScene  (s : Int) (i : Int) (n : Nat) (c : List Sc) (w : Int) (h : Int) (u : List UInt8) (x : Int) (y : Int) (d : Int) (q : Int) (s_ : Int) (i_ : Int) (n_ : Nat) (c_ : List Sc) (w_ : Int) (h_ : Int) (u_ : List UInt8) (x_ : Int) (y_ : Int) (d_ : Int) (q_ : Int) (K : V -> List Blk -> Prop) : VC_laws_eqScene  s i n c w h u x y d q s_ i_ n_ c_ w_ h_ u_ x_ y_ d_ q_ K = vbody Tryd.prog (vin Tryd.prog TSG_22 annTSG 3) TSG_22.looks (annTSG 17) 17 [.agg [.int .i64 s, .int .i64 i, .row 0 n, .int .i64 w, .int .i64 h, .str u, .int .i64 x, .int .i64 y, .int .i64 d, .int .i64 q], .agg [.int .i64 s_, .int .i64 i_, .row 1 n_, .int .i64 w_, .int .i64 h_, .str u_, .int .i64 x_, .int .i64 y_, .int .i64 d_, .int .i64 q_]] [⟨.recs [.int .i64, .str, .int .i64] c, 96, .rows 3⟩, ⟨.recs [.int .i64, .str, .int .i64] c_, 96, .rows 3⟩] (K) := by kernel_rfl
theorem ok_laws_eqScene : OK Tryd.prog 17 F_laws_eqScene.spec := (vbody_ok (vin_ok TSG_22_ok annTSG 3) TSG_22_ok.looks _ _).ofFM fun args m p R h hp => by
 unfold F_laws_eqScene at h
 split at h
 ·injection h with h; injection h with h1 h2; subst h1; subst h2
  exact (congrArg At (eq_laws_eqScene _ _ _ _ _ _ _ _ _ _ _ _ _ _ _ _ _ _ _ _ _ _ _)).mp ⟨vc_laws_eqScene _ _ _ _ _ _ _ _ _ _ _ _ _ _ _ _ _ _ _ _ _ _ hp⟩
 ·cases h
def TSG_23 : Tab := TSG_22.add 17 F_laws_eqScene
theorem TSG_23_ok : TSG_23.Ok Tryd.prog := TSG_22_ok.add ok_laws_eqScene
theorem eq_laws_markScene (k : Int) (s : Int) (i : Int) (n : Nat) (c : List Sc) (w : Int) (h : Int) (u : List UInt8) (x : Int) (y : Int) (d : Int) (q : Int) (K : V -> List Blk -> Prop) : VC_laws_markScene k s i n c w h u x y d q K = vbody Tryd.prog (vin Tryd.prog TSG_23 annTSG 3) TSG_23.looks (annTSG 20) 20 [.agg [.int .i64 s, .int .i64 i, .row 0 n, .int .i64 w, .int .i64 h, .str u, .int .i64 x, .int .i64 y, .int .i64 d, .int .i64 q], .int .i64 k] [⟨.recs [.int .i64, .str, .int .i64] c, 96, .rows 3⟩] (K) := by kernel_rfl
theorem ok_laws_markScene : OK Tryd.prog 20 F_laws_markScene.spec := (vbody_ok (vin_ok TSG_23_ok annTSG 3) TSG_23_ok.looks _ _).ofG fun args m p R M h hp => by
 unfold F_laws_markScene at h
 split at h
 ·injection h with h; injection h with h1 h2; injection h2 with h2 h3; subst h1; subst h2; subst h3
  exact (congrArg At (eq_laws_markScene _ _ _ _ _ _ _ _ _ _ _ _ _)).mp ⟨vc_laws_markScene _ _ _ _ _ _ _ _ _ _ _ _ hp⟩
 ·cases h
def TSG_24 : Tab := TSG_23.addG 20 F_laws_markScene
theorem TSG_24_ok : TSG_24.Ok Tryd.prog := TSG_23_ok.addG ok_laws_markScene
theorem eq_laws_heldScene (k : Int) (s : Int) (i : Int) (n : Nat) (c : List Sc) (w : Int) (h : Int) (u : List UInt8) (x : Int) (y : Int) (d : Int) (q : Int) (K : V -> List Blk -> Prop) : VC_laws_heldScene k s i n c w h u x y d q K = vbody Tryd.prog (vin Tryd.prog TSG_24 annTSG 3) TSG_24.looks (annTSG 21) 21 [.agg [.int .i64 s, .int .i64 i, .row 0 n, .int .i64 w, .int .i64 h, .str u, .int .i64 x, .int .i64 y, .int .i64 d, .int .i64 q], .int .i64 k] [⟨.recs [.int .i64, .str, .int .i64] c, 96, .rows 3⟩] (K) := by kernel_rfl
theorem ok_laws_heldScene : OK Tryd.prog 21 F_laws_heldScene.spec := (vbody_ok (vin_ok TSG_24_ok annTSG 3) TSG_24_ok.looks _ _).ofFM fun args m p R h hp => by
 unfold F_laws_heldScene at h
 split at h
 ·injection h with h; injection h with h1 h2; subst h1; subst h2
  exact (congrArg At (eq_laws_heldScene _ _ _ _ _ _ _ _ _ _ _ _ _)).mp ⟨vc_laws_heldScene _ _ _ _ _ _ _ _ _ _ _ _ hp⟩
 ·cases h
def TSG_25 : Tab := TSG_24.add 21 F_laws_heldScene
theorem TSG_25_ok : TSG_25.Ok Tryd.prog := TSG_24_ok.add ok_laws_heldScene
theorem eq_impl_isSize (a : Int) (b : Int) (K : V -> Prop) : VC_impl_isSize a b K = vbody Tryd.prog (vin Tryd.prog TSG_25 annTSG 3) TSG_25.looks (annTSG 53) 53 [.int .i64 a, .int .i64 b] [] (fun v _ => K v) := by kernel_rfl
theorem ok_impl_isSize : OK Tryd.prog 53 F_impl_isSize.spec := (vbody_ok (vin_ok TSG_25_ok annTSG 3) TSG_25_ok.looks _ _).ofF fun args m p R h hp => by
 unfold F_impl_isSize at h
 split at h
 ·injection h with h; injection h with h1 h2; subst h1; subst h2
  exact ⟨rfl, (congrArg At (eq_impl_isSize _ _ _)).mp ⟨vc_impl_isSize _ _ hp⟩⟩
 ·cases h
def TSG_26 : Tab := TSG_25.add 53 F_impl_isSize
theorem TSG_26_ok : TSG_26.Ok Tryd.prog := TSG_25_ok.add ok_impl_isSize
theorem eq_spec_l1Num (n : Int) (K : V -> Prop) : VC_spec_l1Num n K = vbody Tryd.prog (vin Tryd.prog TSG_26 annTSG 0) TSG_26.looks (annTSG 110) 110 [.int .i64 n] [] (fun v _ => K v) := by kernel_rfl
theorem ok_spec_l1Num : OK Tryd.prog 110 F_spec_l1Num.spec := (vbody_ok (vin_ok TSG_26_ok annTSG 0) TSG_26_ok.looks _ _).ofF fun args m p R h hp => by
 unfold F_spec_l1Num at h
 split at h
 ·injection h with h; injection h with h1 h2; subst h1; subst h2
  exact ⟨rfl, (congrArg At (eq_spec_l1Num _ _)).mp ⟨vc_spec_l1Num _ hp⟩⟩
 ·cases h
def TSG_27 : Tab := TSG_26.add 110 F_spec_l1Num
theorem TSG_27_ok : TSG_27.Ok Tryd.prog := TSG_26_ok.add ok_spec_l1Num
theorem eq_strconv_FormatInt (n : Int) (b : Int) (K : V -> Prop) : VC_strconv_FormatInt n b K = vbody Tryd.prog (vin Tryd.prog TSG_27 annTSG 3) TSG_27.looks (annTSG 158) 158 [.int .i64 n, .int .i64 b] [] (fun v _ => K v) := by kernel_rfl
theorem ok_strconv_FormatInt : OK Tryd.prog 158 F_strconv_FormatInt.spec := (vbody_ok (vin_ok TSG_27_ok annTSG 3) TSG_27_ok.looks _ _).ofF fun args m p R h hp => by
 unfold F_strconv_FormatInt at h
 split at h
 ·injection h with h; injection h with h1 h2; subst h1; subst h2
  exact ⟨rfl, (congrArg At (eq_strconv_FormatInt _ _ _)).mp ⟨vc_strconv_FormatInt _ _ hp⟩⟩
 ·cases h
def TSG_28 : Tab := TSG_27.add 158 F_strconv_FormatInt
theorem TSG_28_ok : TSG_28.Ok Tryd.prog := TSG_27_ok.add ok_strconv_FormatInt
theorem eq_strconv_Itoa (n : Int) (K : V -> Prop) : VC_strconv_Itoa n K = vbody Tryd.prog (vin Tryd.prog TSG_28 annTSG 3) TSG_28.looks (annTSG 94) 94 [.int .i64 n] [] (fun v _ => K v) := by kernel_rfl
theorem ok_strconv_Itoa : OK Tryd.prog 94 F_strconv_Itoa.spec := (vbody_ok (vin_ok TSG_28_ok annTSG 3) TSG_28_ok.looks _ _).ofF fun args m p R h hp => by
 unfold F_strconv_Itoa at h
 split at h
 ·injection h with h; injection h with h1 h2; subst h1; subst h2
  exact ⟨rfl, (congrArg At (eq_strconv_Itoa _ _)).mp ⟨vc_strconv_Itoa _ hp⟩⟩
 ·cases h
def TSG_29 : Tab := TSG_28.add 94 F_strconv_Itoa
theorem TSG_29_ok : TSG_29.Ok Tryd.prog := TSG_28_ok.add ok_strconv_Itoa
theorem eq_impl_digit (b : Int) (K : V -> Prop) : VC_impl_digit b K = vbody Tryd.prog (vin Tryd.prog TSG_29 annTSG 3) TSG_29.looks (annTSG 85) 85 [.int .u8 b] [] (fun v _ => K v) := by kernel_rfl
theorem ok_impl_digit : OK Tryd.prog 85 F_impl_digit.spec := (vbody_ok (vin_ok TSG_29_ok annTSG 3) TSG_29_ok.looks _ _).ofF fun args m p R h hp => by
 unfold F_impl_digit at h
 split at h
 ·injection h with h; injection h with h1 h2; subst h1; subst h2
  exact ⟨rfl, (congrArg At (eq_impl_digit _ _)).mp ⟨vc_impl_digit _ hp⟩⟩
 ·cases h
def TSG_30 : Tab := TSG_29.add 85 F_impl_digit
theorem TSG_30_ok : TSG_30.Ok Tryd.prog := TSG_29_ok.add ok_impl_digit
theorem eq_impl_isWay (a : Int) (K : V -> Prop) : VC_impl_isWay a K = vbody Tryd.prog (vin Tryd.prog TSG_30 annTSG 3) TSG_30.looks (annTSG 56) 56 [.int .i64 a] [] (fun v _ => K v) := by kernel_rfl
theorem ok_impl_isWay : OK Tryd.prog 56 F_impl_isWay.spec := (vbody_ok (vin_ok TSG_30_ok annTSG 3) TSG_30_ok.looks _ _).ofF fun args m p R h hp => by
 unfold F_impl_isWay at h
 split at h
 ·injection h with h; injection h with h1 h2; subst h1; subst h2
  exact ⟨rfl, (congrArg At (eq_impl_isWay _ _)).mp ⟨vc_impl_isWay _ hp⟩⟩
 ·cases h
def TSG_31 : Tab := TSG_30.add 56 F_impl_isWay
theorem TSG_31_ok : TSG_31.Ok Tryd.prog := TSG_30_ok.add ok_impl_isWay
theorem eq_impl_hasCell (wr : List UInt8) (ww : Int) (wh : Int) (wc : List UInt8) (wx : Int) (wy : Int) (wd : Int) (x : Int) (y : Int) (K : V -> Prop) : VC_impl_hasCell wr ww wh wc wx wy wd x y K = vbody Tryd.prog (vin Tryd.prog TSG_31 annTSG 3) TSG_31.looks (annTSG 54) 54 [.agg [.str wr, .int .i64 ww, .int .i64 wh, .str wc, .int .i64 wx, .int .i64 wy, .int .i64 wd], .int .i64 x, .int .i64 y] [] (fun v _ => K v) := by kernel_rfl
theorem ok_impl_hasCell : OK Tryd.prog 54 F_impl_hasCell.spec := (vbody_ok (vin_ok TSG_31_ok annTSG 3) TSG_31_ok.looks _ _).ofF fun args m p R h hp => by
 unfold F_impl_hasCell at h
 split at h
 ·injection h with h; injection h with h1 h2; subst h1; subst h2
  exact ⟨rfl, (congrArg At (eq_impl_hasCell _ _ _ _ _ _ _ _ _ _)).mp ⟨vc_impl_hasCell _ _ _ _ _ _ _ _ _ hp⟩⟩
 ·cases h
def TSG_32 : Tab := TSG_31.add 54 F_impl_hasCell
theorem TSG_32_ok : TSG_32.Ok Tryd.prog := TSG_31_ok.add ok_impl_hasCell
theorem eq_impl_areColours (s : List UInt8) (k : Int) (K : V -> Prop) : VC_impl_areColours s k K = vbody Tryd.prog (vin Tryd.prog TSG_32 annTSG 3) TSG_32.looks (annTSG 58) 58 [.str s, .int .i64 k] [] (fun v _ => K v) := by kernel_rfl
theorem ok_impl_areColours : OK Tryd.prog 58 F_impl_areColours.spec := (vbody_ok (vin_ok TSG_32_ok annTSG 3) TSG_32_ok.looks _ _).ofF fun args m p R h hp => by
 unfold F_impl_areColours at h
 split at h
 ·injection h with h; injection h with h1 h2; subst h1; subst h2
  exact ⟨rfl, (congrArg At (eq_impl_areColours _ _ _)).mp ⟨vc_impl_areColours _ _ hp⟩⟩
 ·cases h
def TSG_33 : Tab := TSG_32.add 58 F_impl_areColours
theorem TSG_33_ok : TSG_33.Ok Tryd.prog := TSG_32_ok.add ok_impl_areColours
theorem eq_laws_szScene (left : Int) (s : Int) (i : Int) (n : Nat) (c : List Sc) (w : Int) (h : Int) (u : List UInt8) (x : Int) (y : Int) (d : Int) (q : Int) (K : V -> List Blk -> Prop) : VC_laws_szScene left s i n c w h u x y d q K = vbody Tryd.prog (vin Tryd.prog TSG_33 annTSG 3) TSG_33.looks (annTSG 13) 13 [.agg [.int .i64 s, .int .i64 i, .row 0 n, .int .i64 w, .int .i64 h, .str u, .int .i64 x, .int .i64 y, .int .i64 d, .int .i64 q], .int .i64 left] [⟨.recs [.int .i64, .str, .int .i64] c, 139, .arg 3⟩] (K) := by kernel_rfl
theorem ok_laws_szScene : OK Tryd.prog 13 F_laws_szScene.spec := (vbody_ok (vin_ok TSG_33_ok annTSG 3) TSG_33_ok.looks _ _).ofFM fun args m p R h hp => by
 unfold F_laws_szScene at h
 split at h
 ·injection h with h; injection h with h1 h2; subst h1; subst h2
  exact (congrArg At (eq_laws_szScene _ _ _ _ _ _ _ _ _ _ _ _ _)).mp ⟨vc_laws_szScene _ _ _ _ _ _ _ _ _ _ _ _ hp⟩
 ·cases h
def TSG_34 : Tab := TSG_33.add 13 F_laws_szScene
theorem TSG_34_ok : TSG_34.Ok Tryd.prog := TSG_33_ok.add ok_laws_szScene
theorem eq_laws_toScene  (s : Int) (i : Int) (n : Nat) (c : List Sc) (w : Int) (h : Int) (u : List UInt8) (x : Int) (y : Int) (d : Int) (q : Int) (K : V -> List Blk -> Prop) : VC_laws_toScene  s i n c w h u x y d q K = vbody Tryd.prog (vin Tryd.prog TSG_34 annTSG 3) TSG_34.looks (annTSG 15) 15 [.agg [.int .i64 s, .int .i64 i, .row 0 n, .int .i64 w, .int .i64 h, .str u, .int .i64 x, .int .i64 y, .int .i64 d, .int .i64 q]] [⟨.recs [.int .i64, .str, .int .i64] c, 139, .arg 3⟩] (K) := by kernel_rfl
theorem ok_laws_toScene : OK Tryd.prog 15 F_laws_toScene.spec := (vbody_ok (vin_ok TSG_34_ok annTSG 3) TSG_34_ok.looks _ _).ofG fun args m p R M h hp => by
 unfold F_laws_toScene at h
 split at h
 ·injection h with h; injection h with h1 h2; injection h2 with h2 h3; subst h1; subst h2; subst h3
  exact (congrArg At (eq_laws_toScene _ _ _ _ _ _ _ _ _ _ _ _)).mp ⟨vc_laws_toScene _ _ _ _ _ _ _ _ _ _ _ hp⟩
 ·cases h
def TSG_35 : Tab := TSG_34.addG 15 F_laws_toScene
theorem TSG_35_ok : TSG_35.Ok Tryd.prog := TSG_34_ok.addG ok_laws_toScene
theorem eq_spec_taScene  (s : Int) (i : Int) (n : Nat) (c : List Sc) (w : Int) (h : Int) (u : List UInt8) (x : Int) (y : Int) (d : Int) (q : Int) (K : V -> List Blk -> Prop) : VC_spec_taScene  s i n c w h u x y d q K = vbody Tryd.prog (vin Tryd.prog TSG_35 annTSG 3) TSG_35.looks (annTSG 51) 51 [.agg [.int .i64 s, .int .i64 i, .row 0 n, .int .i64 w, .int .i64 h, .str u, .int .i64 x, .int .i64 y, .int .i64 d, .int .i64 q]] [⟨.recs [.int .i64, .str, .int .i64] c, 96, .rows 3⟩] (K) := by kernel_rfl
theorem ok_spec_taScene : OK Tryd.prog 51 F_spec_taScene.spec := (vbody_ok (vin_ok TSG_35_ok annTSG 3) TSG_35_ok.looks _ _).ofFM fun args m p R h hp => by
 unfold F_spec_taScene at h
 split at h
 ·injection h with h; injection h with h1 h2; subst h1; subst h2
  exact (congrArg At (eq_spec_taScene _ _ _ _ _ _ _ _ _ _ _ _)).mp ⟨vc_spec_taScene _ _ _ _ _ _ _ _ _ _ _ hp⟩
 ·cases h
def TSG_36 : Tab := TSG_35.add 51 F_spec_taScene
theorem TSG_36_ok : TSG_36.Ok Tryd.prog := TSG_35_ok.add ok_spec_taScene
theorem eq_spec_IsScene  (s : Int) (i : Int) (n : Nat) (c : List Sc) (w : Int) (h : Int) (u : List UInt8) (x : Int) (y : Int) (d : Int) (q : Int) (K : V -> List Blk -> Prop) : VC_spec_IsScene  s i n c w h u x y d q K = vbody Tryd.prog (vin Tryd.prog TSG_36 annTSG 3) TSG_36.looks (annTSG 14) 14 [.agg [.int .i64 s, .int .i64 i, .row 0 n, .int .i64 w, .int .i64 h, .str u, .int .i64 x, .int .i64 y, .int .i64 d, .int .i64 q]] [⟨.recs [.int .i64, .str, .int .i64] c, 96, .rows 3⟩] (K) := by kernel_rfl
theorem ok_spec_IsScene : OK Tryd.prog 14 F_spec_IsScene.spec := (vbody_ok (vin_ok TSG_36_ok annTSG 3) TSG_36_ok.looks _ _).ofFM fun args m p R h hp => by
 unfold F_spec_IsScene at h
 split at h
 ·injection h with h; injection h with h1 h2; subst h1; subst h2
  exact (congrArg At (eq_spec_IsScene _ _ _ _ _ _ _ _ _ _ _ _)).mp ⟨vc_spec_IsScene _ _ _ _ _ _ _ _ _ _ _ hp⟩
 ·cases h
def TSG_37 : Tab := TSG_36.add 14 F_spec_IsScene
theorem TSG_37_ok : TSG_37.Ok Tryd.prog := TSG_36_ok.add ok_spec_IsScene
theorem eq_impl_actorOf  (s : Int) (i : Int) (n : Nat) (c : List Sc) (w : Int) (h : Int) (u : List UInt8) (x : Int) (y : Int) (d : Int) (q : Int) (K : V -> List Blk -> Prop) : VC_impl_actorOf  s i n c w h u x y d q K = vbody Tryd.prog (vin Tryd.prog TSG_37 annTSG 3) TSG_37.looks (annTSG 55) 55 [.agg [.int .i64 s, .int .i64 i, .row 0 n, .int .i64 w, .int .i64 h, .str u, .int .i64 x, .int .i64 y, .int .i64 d, .int .i64 q]] [⟨.recs [.int .i64, .str, .int .i64] c, 96, .rows 3⟩] (K) := by kernel_rfl
theorem ok_impl_actorOf : OK Tryd.prog 55 F_impl_actorOf.spec := (vbody_ok (vin_ok TSG_37_ok annTSG 3) TSG_37_ok.looks _ _).ofFM fun args m p R h hp => by
 unfold F_impl_actorOf at h
 split at h
 ·injection h with h; injection h with h1 h2; subst h1; subst h2
  exact (congrArg At (eq_impl_actorOf _ _ _ _ _ _ _ _ _ _ _ _)).mp ⟨vc_impl_actorOf _ _ _ _ _ _ _ _ _ _ _ hp⟩
 ·cases h
def TSG_38 : Tab := TSG_37.add 55 F_impl_actorOf
theorem TSG_38_ok : TSG_38.Ok Tryd.prog := TSG_37_ok.add ok_impl_actorOf
theorem eq_impl_IsScene  (s : Int) (i : Int) (n : Nat) (c : List Sc) (w : Int) (h : Int) (u : List UInt8) (x : Int) (y : Int) (d : Int) (q : Int) (g0 : List UInt8) (g1 : List UInt8) (g2 : List UInt8) (g3 : List UInt8) (K : V -> List Blk -> Prop) : VC_impl_IsScene  s i n c w h u x y d q g0 g1 g2 g3 K = vbody Tryd.prog (vin Tryd.prog TSG_38 annTSG 3) TSG_38.looks (annTSG 16) 16 [.agg [.int .i64 s, .int .i64 i, .row 0 n, .int .i64 w, .int .i64 h, .str u, .int .i64 x, .int .i64 y, .int .i64 d, .int .i64 q]] [⟨.recs [.int .i64, .str, .int .i64] c, 96, .rows 3⟩, ⟨.vals [.str g0, .str g1, .str g2, .str g3], 9, .gl 0⟩] (K) := by kernel_rfl
theorem ok_impl_IsScene : OK Tryd.prog 16 F_impl_IsScene.spec := (vbody_ok (vin_ok TSG_38_ok annTSG 3) TSG_38_ok.looks _ _).ofFM fun args m p R h hp => by
 unfold F_impl_IsScene at h
 split at h
 ·injection h with h; injection h with h1 h2; subst h1; subst h2
  exact (congrArg At (eq_impl_IsScene _ _ _ _ _ _ _ _ _ _ _ _ _ _ _ _)).mp ⟨vc_impl_IsScene _ _ _ _ _ _ _ _ _ _ _ _ _ _ _ hp⟩
 ·cases h
def TSG_39 : Tab := TSG_38.add 16 F_impl_IsScene
theorem TSG_39_ok : TSG_39.Ok Tryd.prog := TSG_38_ok.add ok_impl_IsScene
theorem eq_impl_Row  (n : Nat) (c : List Sc) (K : V -> List Blk -> Prop) : VC_impl_Row  n c K = vbody Tryd.prog (vin Tryd.prog TSG_39 annTSG 3) TSG_39.looks (annTSG 164) 164 [.row 0 n] [⟨.recs [.int .i64, .str, .int .i64] c, 96, .rows 3⟩] (K) := by kernel_rfl
theorem ok_impl_Row : OK Tryd.prog 164 F_impl_Row.spec := (vbody_ok (vin_ok TSG_39_ok annTSG 3) TSG_39_ok.looks _ _).ofG fun args m p R M h hp => by
 unfold F_impl_Row at h
 split at h
 ·injection h with h; injection h with h1 h2; injection h2 with h2 h3; subst h1; subst h2; subst h3
  exact (congrArg At (eq_impl_Row _ _ _)).mp ⟨vc_impl_Row _ _ hp⟩
 ·cases h
def TSG_40 : Tab := TSG_39.addG 164 F_impl_Row
theorem TSG_40_ok : TSG_40.Ok Tryd.prog := TSG_39_ok.addG ok_impl_Row
theorem eq_impl_copied  (s : Int) (i : Int) (n : Nat) (c : List Sc) (K : V -> List Blk -> Prop) : VC_impl_copied  s i n c K = vbody Tryd.prog (vin Tryd.prog TSG_40 annTSG 3) TSG_40.looks (annTSG 139) 139 [.agg [.int .i64 s, .int .i64 i, .row 0 n]] [⟨.recs [.int .i64, .str, .int .i64] c, 96, .rows 3⟩] (K) := by kernel_rfl
theorem ok_impl_copied : OK Tryd.prog 139 F_impl_copied.spec := (vbody_ok (vin_ok TSG_40_ok annTSG 3) TSG_40_ok.looks _ _).ofG fun args m p R M h hp => by
 unfold F_impl_copied at h
 split at h
 ·injection h with h; injection h with h1 h2; injection h2 with h2 h3; subst h1; subst h2; subst h3
  exact (congrArg At (eq_impl_copied _ _ _ _ _)).mp ⟨vc_impl_copied _ _ _ _ hp⟩
 ·cases h
def TSG_41 : Tab := TSG_40.addG 139 F_impl_copied
theorem TSG_41_ok : TSG_41.Ok Tryd.prog := TSG_40_ok.addG ok_impl_copied
theorem eq_spec_l1Mod (n : Int) (m : Int) (K : V -> Prop) : VC_spec_l1Mod n m K = vbody Tryd.prog (vin Tryd.prog TSG_41 annTSG 3) TSG_41.looks (annTSG 67) 67 [.int .i64 n, .int .i64 m] [] (fun v _ => K v) := by kernel_rfl
theorem ok_spec_l1Mod : OK Tryd.prog 67 F_spec_l1Mod.spec := (vbody_ok (vin_ok TSG_41_ok annTSG 3) TSG_41_ok.looks _ _).ofF fun args m p R h hp => by
 unfold F_spec_l1Mod at h
 split at h
 ·injection h with h; injection h with h1 h2; subst h1; subst h2
  exact ⟨rfl, (congrArg At (eq_spec_l1Mod _ _ _)).mp ⟨vc_spec_l1Mod _ _ hp⟩⟩
 ·cases h
def TSG_42 : Tab := TSG_41.add 67 F_spec_l1Mod
theorem TSG_42_ok : TSG_42.Ok Tryd.prog := TSG_41_ok.add ok_spec_l1Mod
theorem eq_spec_woTurn (b : Int) (K : V -> Prop) : VC_spec_woTurn b K = vbody Tryd.prog (vin Tryd.prog TSG_42 annTSG 3) TSG_42.looks (annTSG 68) 68 [.int .u8 b] [] (fun v _ => K v) := by kernel_rfl
theorem ok_spec_woTurn : OK Tryd.prog 68 F_spec_woTurn.spec := (vbody_ok (vin_ok TSG_42_ok annTSG 3) TSG_42_ok.looks _ _).ofF fun args m p R h hp => by
 unfold F_spec_woTurn at h
 split at h
 ·injection h with h; injection h with h1 h2; subst h1; subst h2
  exact ⟨rfl, (congrArg At (eq_spec_woTurn _ _)).mp ⟨vc_spec_woTurn _ hp⟩⟩
 ·cases h
def TSG_43 : Tab := TSG_42.add 68 F_spec_woTurn
theorem TSG_43_ok : TSG_43.Ok Tryd.prog := TSG_42_ok.add ok_spec_woTurn
theorem eq_impl_direction (d : Int) (K : V -> Prop) : VC_impl_direction d K = vbody Tryd.prog (vin Tryd.prog TSG_43 annTSG 3) TSG_43.looks (annTSG 140) 140 [.int .i64 d] [] (fun v _ => K v) := by kernel_rfl
theorem ok_impl_direction : OK Tryd.prog 140 F_impl_direction.spec := (vbody_ok (vin_ok TSG_43_ok annTSG 3) TSG_43_ok.looks _ _).ofF fun args m p R h hp => by
 unfold F_impl_direction at h
 split at h
 ·injection h with h; injection h with h1 h2; subst h1; subst h2
  exact ⟨rfl, (congrArg At (eq_impl_direction _ _)).mp ⟨vc_impl_direction _ hp⟩⟩
 ·cases h
def TSG_44 : Tab := TSG_43.add 140 F_impl_direction
theorem TSG_44_ok : TSG_44.Ok Tryd.prog := TSG_43_ok.add ok_impl_direction
theorem eq_impl_board_colour (wr : List UInt8) (ww : Int) (wh : Int) (wc : List UInt8) (wx : Int) (wy : Int) (wd : Int) (x : Int) (y : Int) (K : V -> Prop) : VC_impl_board_colour wr ww wh wc wx wy wd x y K = vbody Tryd.prog (vin Tryd.prog TSG_44 annTSG 3) TSG_44.looks (annTSG 106) 106 [.agg [.str wr, .int .i64 ww, .int .i64 wh, .str wc, .int .i64 wx, .int .i64 wy, .int .i64 wd], .int .i64 x, .int .i64 y] [] (fun v _ => K v) := by kernel_rfl
theorem ok_impl_board_colour : OK Tryd.prog 106 F_impl_board_colour.spec := (vbody_ok (vin_ok TSG_44_ok annTSG 3) TSG_44_ok.looks _ _).ofF fun args m p R h hp => by
 unfold F_impl_board_colour at h
 split at h
 ·injection h with h; injection h with h1 h2; subst h1; subst h2
  exact ⟨rfl, (congrArg At (eq_impl_board_colour _ _ _ _ _ _ _ _ _ _)).mp ⟨vc_impl_board_colour _ _ _ _ _ _ _ _ _ hp⟩⟩
 ·cases h
def TSG_45 : Tab := TSG_44.add 106 F_impl_board_colour
theorem TSG_45_ok : TSG_45.Ok Tryd.prog := TSG_44_ok.add ok_impl_board_colour
theorem eq_impl_board_painted (wr : List UInt8) (ww : Int) (wh : Int) (wc : List UInt8) (wx : Int) (wy : Int) (wd : Int) (x : Int) (y : Int) (k : Int) (K : V -> Prop) : VC_impl_board_painted wr ww wh wc wx wy wd x y k K = vbody Tryd.prog (vin Tryd.prog TSG_45 annTSG 3) TSG_45.looks (annTSG 108) 108 [.agg [.str wr, .int .i64 ww, .int .i64 wh, .str wc, .int .i64 wx, .int .i64 wy, .int .i64 wd], .int .i64 x, .int .i64 y, .int .i64 k] [] (fun v _ => K v) := by kernel_rfl
theorem ok_impl_board_painted : OK Tryd.prog 108 F_impl_board_painted.spec := (vbody_ok (vin_ok TSG_45_ok annTSG 3) TSG_45_ok.looks _ _).ofF fun args m p R h hp => by
 unfold F_impl_board_painted at h
 split at h
 ·injection h with h; injection h with h1 h2; subst h1; subst h2
  exact ⟨rfl, (congrArg At (eq_impl_board_painted _ _ _ _ _ _ _ _ _ _ _)).mp ⟨vc_impl_board_painted _ _ _ _ _ _ _ _ _ _ hp⟩⟩
 ·cases h
def TSG_46 : Tab := TSG_45.add 108 F_impl_board_painted
theorem TSG_46_ok : TSG_46.Ok Tryd.prog := TSG_45_ok.add ok_impl_board_painted
theorem eq_impl_board_turned (wr : List UInt8) (ww : Int) (wh : Int) (wc : List UInt8) (wx : Int) (wy : Int) (wd : Int) (q : Int) (K : V -> Prop) : VC_impl_board_turned wr ww wh wc wx wy wd q K = vbody Tryd.prog (vin Tryd.prog TSG_46 annTSG 3) TSG_46.looks (annTSG 107) 107 [.agg [.str wr, .int .i64 ww, .int .i64 wh, .str wc, .int .i64 wx, .int .i64 wy, .int .i64 wd], .int .i64 q] [] (fun v _ => K v) := by kernel_rfl
theorem ok_impl_board_turned : OK Tryd.prog 107 F_impl_board_turned.spec := (vbody_ok (vin_ok TSG_46_ok annTSG 3) TSG_46_ok.looks _ _).ofF fun args m p R h hp => by
 unfold F_impl_board_turned at h
 split at h
 ·injection h with h; injection h with h1 h2; subst h1; subst h2
  exact ⟨rfl, (congrArg At (eq_impl_board_turned _ _ _ _ _ _ _ _ _)).mp ⟨vc_impl_board_turned _ _ _ _ _ _ _ _ hp⟩⟩
 ·cases h
def TSG_47 : Tab := TSG_46.add 107 F_impl_board_turned
theorem TSG_47_ok : TSG_47.Ok Tryd.prog := TSG_46_ok.add ok_impl_board_turned
theorem eq_impl_board_moved (wr : List UInt8) (ww : Int) (wh : Int) (wc : List UInt8) (wx : Int) (wy : Int) (wd : Int) (k : Int) (K : V -> Prop) : VC_impl_board_moved wr ww wh wc wx wy wd k K = vbody Tryd.prog (vin Tryd.prog TSG_47 annTSG 3) TSG_47.looks (annTSG 109) 109 [.agg [.str wr, .int .i64 ww, .int .i64 wh, .str wc, .int .i64 wx, .int .i64 wy, .int .i64 wd], .int .i64 k] [] (fun v _ => K v) := by kernel_rfl
theorem ok_impl_board_moved : OK Tryd.prog 109 F_impl_board_moved.spec := (vbody_ok (vin_ok TSG_47_ok annTSG 3) TSG_47_ok.looks _ _).ofF fun args m p R h hp => by
 unfold F_impl_board_moved at h
 split at h
 ·injection h with h; injection h with h1 h2; subst h1; subst h2
  exact ⟨rfl, (congrArg At (eq_impl_board_moved _ _ _ _ _ _ _ _ _)).mp ⟨vc_impl_board_moved _ _ _ _ _ _ _ _ hp⟩⟩
 ·cases h
def TSG_48 : Tab := TSG_47.add 109 F_impl_board_moved
theorem TSG_48_ok : TSG_48.Ok Tryd.prog := TSG_47_ok.add ok_impl_board_moved
theorem eq_spec_taGo (k : Int) (s : Int) (i : Int) (n : Nat) (c : List Sc) (w : Int) (h : Int) (u : List UInt8) (x : Int) (y : Int) (d : Int) (q : Int) (K : V -> List Blk -> Prop) : VC_spec_taGo k s i n c w h u x y d q K = vbody Tryd.prog (vin Tryd.prog TSG_48 annTSG 3) TSG_48.looks (annTSG 66) 66 [.ptr 0 0, .int .i64 k] [⟨.vals [.int .i64 s, .int .i64 i, .row 1 n, .int .i64 w, .int .i64 h, .str u, .int .i64 x, .int .i64 y, .int .i64 d, .int .i64 q], 33, .box⟩, ⟨.recs [.int .i64, .str, .int .i64] c, 96, .rows 3⟩] (K) := by kernel_rfl
theorem ok_spec_taGo : OK Tryd.prog 66 F_spec_taGo.spec := (vbody_ok (vin_ok TSG_48_ok annTSG 3) TSG_48_ok.looks _ _).ofG fun args m p R M h hp => by
 unfold F_spec_taGo at h
 split at h
 ·injection h with h; injection h with h1 h2; injection h2 with h2 h3; subst h1; subst h2; subst h3
  exact (congrArg At (eq_spec_taGo _ _ _ _ _ _ _ _ _ _ _ _ _)).mp ⟨vc_spec_taGo _ _ _ _ _ _ _ _ _ _ _ _ hp⟩
 ·cases h
def TSG_49 : Tab := TSG_48.addG 66 F_spec_taGo
theorem TSG_49_ok : TSG_49.Ok Tryd.prog := TSG_48_ok.addG ok_spec_taGo
theorem eq_spec_taPaint (k : Int) (s : Int) (i : Int) (n : Nat) (c : List Sc) (w : Int) (h : Int) (u : List UInt8) (x : Int) (y : Int) (d : Int) (q : Int) (K : V -> List Blk -> Prop) : VC_spec_taPaint k s i n c w h u x y d q K = vbody Tryd.prog (vin Tryd.prog TSG_49 annTSG 3) TSG_49.looks (annTSG 69) 69 [.ptr 0 0, .int .i64 k] [⟨.vals [.int .i64 s, .int .i64 i, .row 1 n, .int .i64 w, .int .i64 h, .str u, .int .i64 x, .int .i64 y, .int .i64 d, .int .i64 q], 33, .box⟩, ⟨.recs [.int .i64, .str, .int .i64] c, 96, .rows 3⟩] (K) := by kernel_rfl
theorem ok_spec_taPaint : OK Tryd.prog 69 F_spec_taPaint.spec := (vbody_ok (vin_ok TSG_49_ok annTSG 3) TSG_49_ok.looks _ _).ofG fun args m p R M h hp => by
 unfold F_spec_taPaint at h
 split at h
 ·injection h with h; injection h with h1 h2; injection h2 with h2 h3; subst h1; subst h2; subst h3
  exact (congrArg At (eq_spec_taPaint _ _ _ _ _ _ _ _ _ _ _ _ _)).mp ⟨vc_spec_taPaint _ _ _ _ _ _ _ _ _ _ _ _ hp⟩
 ·cases h
def TSG_50 : Tab := TSG_49.addG 69 F_spec_taPaint
theorem TSG_50_ok : TSG_50.Ok Tryd.prog := TSG_49_ok.addG ok_spec_taPaint
theorem eq_spec_taStep  (s : Int) (i : Int) (n : Nat) (c : List Sc) (w : Int) (h : Int) (u : List UInt8) (x : Int) (y : Int) (d : Int) (q : Int) (K : V -> List Blk -> Prop) : VC_spec_taStep  s i n c w h u x y d q K = vbody Tryd.prog (vin Tryd.prog TSG_50 annTSG 3) TSG_50.looks (annTSG 60) 60 [.ptr 0 0] [⟨.vals [.int .i64 s, .int .i64 i, .row 1 n, .int .i64 w, .int .i64 h, .str u, .int .i64 x, .int .i64 y, .int .i64 d, .int .i64 q], 33, .box⟩, ⟨.recs [.int .i64, .str, .int .i64] c, 96, .rows 3⟩] (K) := by kernel_rfl
theorem ok_spec_taStep : OK Tryd.prog 60 F_spec_taStep.spec := (vbody_ok (vin_ok TSG_50_ok annTSG 3) TSG_50_ok.looks _ _).ofG fun args m p R M h hp => by
 unfold F_spec_taStep at h
 split at h
 ·injection h with h; injection h with h1 h2; injection h2 with h2 h3; subst h1; subst h2; subst h3
  exact (congrArg At (eq_spec_taStep _ _ _ _ _ _ _ _ _ _ _ _)).mp ⟨vc_spec_taStep _ _ _ _ _ _ _ _ _ _ _ hp⟩
 ·cases h
def TSG_51 : Tab := TSG_50.addG 60 F_spec_taStep
theorem TSG_51_ok : TSG_51.Ok Tryd.prog := TSG_50_ok.addG ok_spec_taStep
theorem eq_spec_taOwn  (s : Int) (i : Int) (n : Nat) (c : List Sc) (w : Int) (h : Int) (u : List UInt8) (x : Int) (y : Int) (d : Int) (q : Int) (K : V -> List Blk -> Prop) : VC_spec_taOwn  s i n c w h u x y d q K = vbody Tryd.prog (vin Tryd.prog TSG_51 annTSG 3) TSG_51.looks (annTSG 59) 59 [.agg [.int .i64 s, .int .i64 i, .row 0 n, .int .i64 w, .int .i64 h, .str u, .int .i64 x, .int .i64 y, .int .i64 d, .int .i64 q]] [⟨.recs [.int .i64, .str, .int .i64] c, 96, .rows 3⟩] (K) := by kernel_rfl
theorem ok_spec_taOwn : OK Tryd.prog 59 F_spec_taOwn.spec := (vbody_ok (vin_ok TSG_51_ok annTSG 3) TSG_51_ok.looks _ _).ofG fun args m p R M h hp => by
 unfold F_spec_taOwn at h
 split at h
 ·injection h with h; injection h with h1 h2; injection h2 with h2 h3; subst h1; subst h2; subst h3
  exact (congrArg At (eq_spec_taOwn _ _ _ _ _ _ _ _ _ _ _ _)).mp ⟨vc_spec_taOwn _ _ _ _ _ _ _ _ _ _ _ hp⟩
 ·cases h
def TSG_52 : Tab := TSG_51.addG 59 F_spec_taOwn
theorem TSG_52_ok : TSG_52.Ok Tryd.prog := TSG_51_ok.addG ok_spec_taOwn
theorem eq_spec_taAsked (m : Int) (s : Int) (i : Int) (n : Nat) (c : List Sc) (w : Int) (h : Int) (u : List UInt8) (x : Int) (y : Int) (d : Int) (q : Int) (K : V -> List Blk -> Prop) : VC_spec_taAsked m s i n c w h u x y d q K = vbody Tryd.prog (vin Tryd.prog TSG_52 annTSG 3) TSG_52.looks (annTSG 61) 61 [.agg [.int .i64 s, .int .i64 i, .row 0 n, .int .i64 w, .int .i64 h, .str u, .int .i64 x, .int .i64 y, .int .i64 d, .int .i64 q], .int .i64 m] [⟨.recs [.int .i64, .str, .int .i64] c, 96, .rows 3⟩] (K) := by kernel_rfl
theorem ok_spec_taAsked : OK Tryd.prog 61 F_spec_taAsked.spec := (vbody_ok (vin_ok TSG_52_ok annTSG 3) TSG_52_ok.looks _ _).ofFM fun args m p R h hp => by
 unfold F_spec_taAsked at h
 split at h
 ·injection h with h; injection h with h1 h2; subst h1; subst h2
  exact (congrArg At (eq_spec_taAsked _ _ _ _ _ _ _ _ _ _ _ _ _)).mp ⟨vc_spec_taAsked _ _ _ _ _ _ _ _ _ _ _ _ hp⟩
 ·cases h
def TSG_53 : Tab := TSG_52.add 61 F_spec_taAsked
theorem TSG_53_ok : TSG_53.Ok Tryd.prog := TSG_52_ok.add ok_spec_taAsked
theorem eq_impl_rowAt (q : Int) (k : Int) (s : Int) (i : Int) (n : Nat) (c : List Sc) (K : V -> List Blk -> Prop) : VC_impl_rowAt q k s i n c K = vbody Tryd.prog (vin Tryd.prog TSG_53 annTSG 3) TSG_53.looks (annTSG 79) 79 [.agg [.int .i64 s, .int .i64 i, .row 0 n], .int .i64 q, .int .i64 k] [⟨.recs [.int .i64, .str, .int .i64] c, 96, .rows 3⟩] (K) := by kernel_rfl
theorem ok_impl_rowAt : OK Tryd.prog 79 F_impl_rowAt.spec := (vbody_ok (vin_ok TSG_53_ok annTSG 3) TSG_53_ok.looks _ _).ofFM fun args m p R h hp => by
 unfold F_impl_rowAt at h
 split at h
 ·injection h with h; injection h with h1 h2; subst h1; subst h2
  exact (congrArg At (eq_impl_rowAt _ _ _ _ _ _ _)).mp ⟨vc_impl_rowAt _ _ _ _ _ _ hp⟩
 ·cases h
def TSG_54 : Tab := TSG_53.add 79 F_impl_rowAt
theorem TSG_54_ok : TSG_54.Ok Tryd.prog := TSG_53_ok.add ok_impl_rowAt
theorem eq_impl_actor_goOn  (w : Int) (h : Int) (u : List UInt8) (x : Int) (y : Int) (d : Int) (q : Int) (s : Int) (i : Int) (n : Nat) (c : List Sc) (g0 : List UInt8) (g1 : List UInt8) (g2 : List UInt8) (g3 : List UInt8) (K : V -> List Blk -> Prop) : VC_impl_actor_goOn  w h u x y d q s i n c g0 g1 g2 g3 K = vbody Tryd.prog (vin Tryd.prog TSG_54 annTSG 3) TSG_54.looks (annTSG 64) 64 [.agg [.str [], .int .i64 w, .int .i64 h, .str u, .int .i64 x, .int .i64 y, .int .i64 d, .int .i64 q], .agg [.int .i64 s, .int .i64 i, .row 0 n]] [⟨.recs [.int .i64, .str, .int .i64] c, 96, .rows 3⟩, ⟨.vals [.str g0, .str g1, .str g2, .str g3], 9, .gl 0⟩] (K) := by kernel_rfl
theorem ok_impl_actor_goOn : OK Tryd.prog 64 F_impl_actor_goOn.spec := (vbody_ok (vin_ok TSG_54_ok annTSG 3) TSG_54_ok.looks _ _).ofFM fun args m p R h hp => by
 unfold F_impl_actor_goOn at h
 split at h
 ·injection h with h; injection h with h1 h2; subst h1; subst h2
  exact (congrArg At (eq_impl_actor_goOn _ _ _ _ _ _ _ _ _ _ _ _ _ _ _ _)).mp ⟨vc_impl_actor_goOn _ _ _ _ _ _ _ _ _ _ _ _ _ _ _ hp⟩
 ·cases h
def TSG_55 : Tab := TSG_54.add 64 F_impl_actor_goOn
theorem TSG_55_ok : TSG_55.Ok Tryd.prog := TSG_54_ok.add ok_impl_actor_goOn
theorem eq_impl_actor_scene  (w : Int) (h : Int) (u : List UInt8) (x : Int) (y : Int) (d : Int) (q : Int) (s : Int) (i : Int) (n : Nat) (c : List Sc) (K : V -> List Blk -> Prop) : VC_impl_actor_scene  w h u x y d q s i n c K = vbody Tryd.prog (vin Tryd.prog TSG_55 annTSG 3) TSG_55.looks (annTSG 105) 105 [.agg [.str [], .int .i64 w, .int .i64 h, .str u, .int .i64 x, .int .i64 y, .int .i64 d, .int .i64 q], .agg [.int .i64 s, .int .i64 i, .row 0 n]] [⟨.recs [.int .i64, .str, .int .i64] c, 96, .rows 3⟩] (K) := by kernel_rfl
theorem ok_impl_actor_scene : OK Tryd.prog 105 F_impl_actor_scene.spec := (vbody_ok (vin_ok TSG_55_ok annTSG 3) TSG_55_ok.looks _ _).ofG fun args m p R M h hp => by
 unfold F_impl_actor_scene at h
 split at h
 ·injection h with h; injection h with h1 h2; injection h2 with h2 h3; subst h1; subst h2; subst h3
  exact (congrArg At (eq_impl_actor_scene _ _ _ _ _ _ _ _ _ _ _ _)).mp ⟨vc_impl_actor_scene _ _ _ _ _ _ _ _ _ _ _ hp⟩
 ·cases h
def TSG_56 : Tab := TSG_55.addG 105 F_impl_actor_scene
theorem TSG_56_ok : TSG_56.Ok Tryd.prog := TSG_55_ok.addG ok_impl_actor_scene
theorem eq_spec_StepScene  (s : Int) (i : Int) (n : Nat) (c : List Sc) (w : Int) (h : Int) (u : List UInt8) (x : Int) (y : Int) (d : Int) (q : Int) (K : V -> List Blk -> Prop) : VC_spec_StepScene  s i n c w h u x y d q K = vbody Tryd.prog (vin Tryd.prog TSG_56 annTSG 3) TSG_56.looks (annTSG 18) 18 [.agg [.int .i64 s, .int .i64 i, .row 0 n, .int .i64 w, .int .i64 h, .str u, .int .i64 x, .int .i64 y, .int .i64 d, .int .i64 q]] [⟨.recs [.int .i64, .str, .int .i64] c, 96, .rows 3⟩] (K) := by kernel_rfl
theorem ok_spec_StepScene : OK Tryd.prog 18 F_spec_StepScene.spec := (vbody_ok (vin_ok TSG_56_ok annTSG 3) TSG_56_ok.looks _ _).ofG fun args m p R M h hp => by
 unfold F_spec_StepScene at h
 split at h
 ·injection h with h; injection h with h1 h2; injection h2 with h2 h3; subst h1; subst h2; subst h3
  exact (congrArg At (eq_spec_StepScene _ _ _ _ _ _ _ _ _ _ _ _)).mp ⟨vc_spec_StepScene _ _ _ _ _ _ _ _ _ _ _ hp⟩
 ·cases h
def TSG_57 : Tab := TSG_56.addG 18 F_spec_StepScene
theorem TSG_57_ok : TSG_57.Ok Tryd.prog := TSG_56_ok.addG ok_spec_StepScene
theorem eq_spec_SceneAfter (m : Int) (s : Int) (i : Int) (n : Nat) (c : List Sc) (w : Int) (h : Int) (u : List UInt8) (x : Int) (y : Int) (d : Int) (q : Int) (K : V -> List Blk -> Prop) : VC_spec_SceneAfter m s i n c w h u x y d q K = vbody Tryd.prog (vin Tryd.prog TSG_57 annTSG 3) TSG_57.looks (annTSG 22) 22 [.agg [.int .i64 s, .int .i64 i, .row 0 n, .int .i64 w, .int .i64 h, .str u, .int .i64 x, .int .i64 y, .int .i64 d, .int .i64 q], .int .i64 m] [⟨.recs [.int .i64, .str, .int .i64] c, 96, .rows 3⟩] (K) := by kernel_rfl
theorem ok_spec_SceneAfter : OK Tryd.prog 22 F_spec_SceneAfter.spec := (vbody_ok (vin_ok TSG_57_ok annTSG 3) TSG_57_ok.looks _ _).ofG fun args m p R M h hp => by
 unfold F_spec_SceneAfter at h
 split at h
 ·injection h with h; injection h with h1 h2; injection h2 with h2 h3; subst h1; subst h2; subst h3
  exact (congrArg At (eq_spec_SceneAfter _ _ _ _ _ _ _ _ _ _ _ _ _)).mp ⟨vc_spec_SceneAfter _ _ _ _ _ _ _ _ _ _ _ _ hp⟩
 ·cases h
def TSG_58 : Tab := TSG_57.addG 22 F_spec_SceneAfter
theorem TSG_58_ok : TSG_58.Ok Tryd.prog := TSG_57_ok.addG ok_spec_SceneAfter
theorem eq_impl_played (m : Int) (s : Int) (i : Int) (n : Nat) (c : List Sc) (w : Int) (h : Int) (u : List UInt8) (x : Int) (y : Int) (d : Int) (q : Int) (g0 : List UInt8) (g1 : List UInt8) (g2 : List UInt8) (g3 : List UInt8) (K : V -> List Blk -> Prop) : VC_impl_played m s i n c w h u x y d q g0 g1 g2 g3 K = vbody Tryd.prog (vin Tryd.prog TSG_58 annTSG 3) TSG_58.looks (annTSG 63) 63 [.agg [.int .i64 s, .int .i64 i, .row 0 n, .int .i64 w, .int .i64 h, .str u, .int .i64 x, .int .i64 y, .int .i64 d, .int .i64 q], .int .i64 m, .fn 64 []] [⟨.recs [.int .i64, .str, .int .i64] c, 96, .rows 3⟩, ⟨.vals [.str g0, .str g1, .str g2, .str g3], 9, .gl 0⟩] (K) := by kernel_rfl
theorem ok_impl_played : OK Tryd.prog 63 F_impl_played.spec := (vbody_ok (vin_ok TSG_58_ok annTSG 3) TSG_58_ok.looks _ _).ofG fun args m p R M h hp => by
 unfold F_impl_played at h
 split at h
 ·injection h with h; injection h with h1 h2; injection h2 with h2 h3; subst h1; subst h2; subst h3
  exact (congrArg At (eq_impl_played _ _ _ _ _ _ _ _ _ _ _ _ _ _ _ _ _)).mp ⟨vc_impl_played _ _ _ _ _ _ _ _ _ _ _ _ _ _ _ _ hp⟩
 ·cases h
def TSG_59 : Tab := TSG_58.addG 63 F_impl_played
theorem TSG_59_ok : TSG_59.Ok Tryd.prog := TSG_58_ok.addG ok_impl_played
theorem eq_impl_SceneAfter (m : Int) (s : Int) (i : Int) (n : Nat) (c : List Sc) (w : Int) (h : Int) (u : List UInt8) (x : Int) (y : Int) (d : Int) (q : Int) (g0 : List UInt8) (g1 : List UInt8) (g2 : List UInt8) (g3 : List UInt8) (K : V -> List Blk -> Prop) : VC_impl_SceneAfter m s i n c w h u x y d q g0 g1 g2 g3 K = vbody Tryd.prog (vin Tryd.prog TSG_59 annTSG 3) TSG_59.looks (annTSG 23) 23 [.agg [.int .i64 s, .int .i64 i, .row 0 n, .int .i64 w, .int .i64 h, .str u, .int .i64 x, .int .i64 y, .int .i64 d, .int .i64 q], .int .i64 m] [⟨.recs [.int .i64, .str, .int .i64] c, 96, .rows 3⟩, ⟨.vals [.str g0, .str g1, .str g2, .str g3], 9, .gl 0⟩] (K) := by kernel_rfl
theorem ok_impl_SceneAfter : OK Tryd.prog 23 F_impl_SceneAfter.spec := (vbody_ok (vin_ok TSG_59_ok annTSG 3) TSG_59_ok.looks _ _).ofG fun args m p R M h hp => by
 unfold F_impl_SceneAfter at h
 split at h
 ·injection h with h; injection h with h1 h2; injection h2 with h2 h3; subst h1; subst h2; subst h3
  exact (congrArg At (eq_impl_SceneAfter _ _ _ _ _ _ _ _ _ _ _ _ _ _ _ _ _)).mp ⟨vc_impl_SceneAfter _ _ _ _ _ _ _ _ _ _ _ _ _ _ _ _ hp⟩
 ·cases h
def TSG_60 : Tab := TSG_59.addG 23 F_impl_SceneAfter
theorem TSG_60_ok : TSG_60.Ok Tryd.prog := TSG_59_ok.addG ok_impl_SceneAfter
theorem eq_impl_StepScene  (s : Int) (i : Int) (n : Nat) (c : List Sc) (w : Int) (h : Int) (u : List UInt8) (x : Int) (y : Int) (d : Int) (q : Int) (g0 : List UInt8) (g1 : List UInt8) (g2 : List UInt8) (g3 : List UInt8) (K : V -> List Blk -> Prop) : VC_impl_StepScene  s i n c w h u x y d q g0 g1 g2 g3 K = vbody Tryd.prog (vin Tryd.prog TSG_60 annTSG 3) TSG_60.looks (annTSG 19) 19 [.agg [.int .i64 s, .int .i64 i, .row 0 n, .int .i64 w, .int .i64 h, .str u, .int .i64 x, .int .i64 y, .int .i64 d, .int .i64 q]] [⟨.recs [.int .i64, .str, .int .i64] c, 96, .rows 3⟩, ⟨.vals [.str g0, .str g1, .str g2, .str g3], 9, .gl 0⟩] (K) := by kernel_rfl
theorem ok_impl_StepScene : OK Tryd.prog 19 F_impl_StepScene.spec := (vbody_ok (vin_ok TSG_60_ok annTSG 3) TSG_60_ok.looks _ _).ofG fun args m p R M h hp => by
 unfold F_impl_StepScene at h
 split at h
 ·injection h with h; injection h with h1 h2; injection h2 with h2 h3; subst h1; subst h2; subst h3
  exact (congrArg At (eq_impl_StepScene _ _ _ _ _ _ _ _ _ _ _ _ _ _ _ _)).mp ⟨vc_impl_StepScene _ _ _ _ _ _ _ _ _ _ _ _ _ _ _ hp⟩
 ·cases h
def TSG_61 : Tab := TSG_60.addG 19 F_impl_StepScene
theorem TSG_61_ok : TSG_61.Ok Tryd.prog := TSG_60_ok.addG ok_impl_StepScene
def TSG : Tab := TSG_61
theorem TSG_ok : TSG.Ok Tryd.prog := TSG_61_ok
end Go.Proofs.YtpkokghbkamelaaDoor
