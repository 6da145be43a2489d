/- The contracts of this chapter. -/
import Derived.Test.YtpkokghbkamelaaDoorProg
import Derived.Test.YtpkokghbkamelaaDoorSUPf
import Derived.KernelRfl
namespace Go.Proofs.YtpkokghbkamelaaDoor
open Go Go.Vi
set_option linter.unusedVariables false
def annTSU : FuncId -> Nat -> St -> Option Ann := fun f => if f = 63 then ann_impl_playedU else if f = 142 then ann_spec_woRule else if f = 104 then ann_impl_quartersOfTurn else if f = 74 then ann_laws_szRowS else if f = 78 then ann_laws_toRowS else if f = 82 then ann_laws_eqRowS else if f = 75 then ann_spec_taGood else if f = 52 then ann_impl_IsTable else if f = 123 then ann_laws_markText else if f = 83 then ann_laws_markRowS else if f = 87 then ann_laws_heldRowS else if f = 58 then ann_impl_areColours else if f = 51 then ann_spec_taScene else if f = 16 then ann_impl_IsScene else if f = 105 then ann_impl_actor_scene else if f = 65 then ann_spec_taUndo else if f = 111 then ann_impl_outcome else if f = 70 then ann_impl_CanUndo else if f = 71 then ann_impl_actor_goBack else if f = 24 then ann_spec_UndoScene else (fun _ _ => none)
def TSU_0 : Tab := Tab.none
theorem TSU_0_ok : TSU_0.Ok Tryd.prog := Tab.none_ok
theorem eq_spec_l1In (n : Int) (lo : Int) (hi : Int) (K : V -> Prop) : VC_spec_l1In n lo hi K = vbody Tryd.prog (vin Tryd.prog TSU_0 annTSU 3) TSU_0.looks (annTSU 102) 102 [.int .i64 n, .int .i64 lo, .int .i64 hi] [] (fun v _ => K v) := by kernel_rfl
theorem ok_spec_l1In : OK Tryd.prog 102 F_spec_l1In.spec := (vbody_ok (vin_ok TSU_0_ok annTSU 3) TSU_0_ok.looks _ _).ofF fun args m p R h hp => by
 unfold F_spec_l1In at h
 split at h
 ·injection h with h; injection h with h1 h2; subst h1; subst h2
  exact ⟨rfl, (congrArg At (eq_spec_l1In _ _ _ _)).mp ⟨vc_spec_l1In _ _ _ hp⟩⟩
 ·cases h
def TSU_1 : Tab := TSU_0.add 102 F_spec_l1In
theorem TSU_1_ok : TSU_1.Ok Tryd.prog := TSU_0_ok.add ok_spec_l1In
theorem eq_impl_within (n : Int) (lo : Int) (hi : Int) (K : V -> Prop) : VC_impl_within n lo hi K = vbody Tryd.prog (vin Tryd.prog TSU_1 annTSU 3) TSU_1.looks (annTSU 57) 57 [.int .i64 n, .int .i64 lo, .int .i64 hi] [] (fun v _ => K v) := by kernel_rfl
theorem ok_impl_within : OK Tryd.prog 57 F_impl_within.spec := (vbody_ok (vin_ok TSU_1_ok annTSU 3) TSU_1_ok.looks _ _).ofF fun args m p R h hp => by
 unfold F_impl_within at h
 split at h
 ·injection h with h; injection h with h1 h2; subst h1; subst h2
  exact ⟨rfl, (congrArg At (eq_impl_within _ _ _ _)).mp ⟨vc_impl_within _ _ _ hp⟩⟩
 ·cases h
def TSU_2 : Tab := TSU_1.add 57 F_impl_within
theorem TSU_2_ok : TSU_2.Ok Tryd.prog := TSU_1_ok.add ok_impl_within
theorem eq_spec_woRule (s : List UInt8) (K : V -> Prop) : VC_spec_woRule s K = vbody Tryd.prog (vin Tryd.prog TSU_2 annTSU 3) TSU_2.looks (annTSU 142) 142 [.str s] [] (fun v _ => K v) := by kernel_rfl
theorem ok_spec_woRule : OK Tryd.prog 142 F_spec_woRule.spec := (vbody_ok (vin_ok TSU_2_ok annTSU 3) TSU_2_ok.looks _ _).ofF fun args m p R h hp => by
 unfold F_spec_woRule at h
 split at h
 ·injection h with h; injection h with h1 h2; subst h1; subst h2
  exact ⟨rfl, (congrArg At (eq_spec_woRule _ _)).mp ⟨vc_spec_woRule _ hp⟩⟩
 ·cases h
def TSU_3 : Tab := TSU_2.add 142 F_spec_woRule
theorem TSU_3_ok : TSU_3.Ok Tryd.prog := TSU_2_ok.add ok_spec_woRule
theorem eq_spec_taSign (s : List UInt8) (K : V -> Prop) : VC_spec_taSign s K = vbody Tryd.prog (vin Tryd.prog TSU_3 annTSU 3) TSU_3.looks (annTSU 117) 117 [.str s] [] (fun v _ => K v) := by kernel_rfl
theorem ok_spec_taSign : OK Tryd.prog 117 F_spec_taSign.spec := (vbody_ok (vin_ok TSU_3_ok annTSU 3) TSU_3_ok.looks _ _).ofF fun args m p R h hp => by
 unfold F_spec_taSign at h
 split at h
 ·injection h with h; injection h with h1 h2; subst h1; subst h2
  exact ⟨rfl, (congrArg At (eq_spec_taSign _ _)).mp ⟨vc_spec_taSign _ hp⟩⟩
 ·cases h
def TSU_4 : Tab := TSU_3.add 117 F_spec_taSign
theorem TSU_4_ok : TSU_4.Ok Tryd.prog := TSU_3_ok.add ok_spec_taSign
theorem eq_impl_quartersOfTurn (s : List UInt8) (g0 : List UInt8) (g1 : List UInt8) (g2 : List UInt8) (g3 : List UInt8) (K : V -> List Blk -> Prop) : VC_impl_quartersOfTurn s g0 g1 g2 g3 K = vbody Tryd.prog (vin Tryd.prog TSU_4 annTSU 3) TSU_4.looks (annTSU 104) 104 [.str s] [⟨.vals [.str g0, .str g1, .str g2, .str g3], 9, .gl 0⟩] (K) := by kernel_rfl
theorem ok_impl_quartersOfTurn : OK Tryd.prog 104 F_impl_quartersOfTurn.spec := (vbody_ok (vin_ok TSU_4_ok annTSU 3) TSU_4_ok.looks _ _).ofFM fun args m p R h hp => by
 unfold F_impl_quartersOfTurn at h
 split at h
 ·injection h with h; injection h with h1 h2; subst h1; subst h2
  exact (congrArg At (eq_impl_quartersOfTurn _ _ _ _ _ _)).mp ⟨vc_impl_quartersOfTurn _ _ _ _ _ hp⟩
 ·cases h
def TSU_5 : Tab := TSU_4.add 104 F_impl_quartersOfTurn
theorem TSU_5_ok : TSU_5.Ok Tryd.prog := TSU_4_ok.add ok_impl_quartersOfTurn
theorem eq_laws_szRow (ra : Int) (rt : List UInt8) (rb : Int) (left : Int) (K : V -> Prop) : VC_laws_szRow ra rt rb left K = vbody Tryd.prog (vin Tryd.prog TSU_5 annTSU 3) TSU_5.looks (annTSU 116) 116 [.agg [.int .i64 ra, .str rt, .int .i64 rb], .int .i64 left] [] (fun v _ => K v) := by kernel_rfl
theorem ok_laws_szRow : OK Tryd.prog 116 F_laws_szRow.spec := (vbody_ok (vin_ok TSU_5_ok annTSU 3) TSU_5_ok.looks _ _).ofF fun args m p R h hp => by
 unfold F_laws_szRow at h
 split at h
 ·injection h with h; injection h with h1 h2; subst h1; subst h2
  exact ⟨rfl, (congrArg At (eq_laws_szRow _ _ _ _ _)).mp ⟨vc_laws_szRow _ _ _ _ hp⟩⟩
 ·cases h
def TSU_6 : Tab := TSU_5.add 116 F_laws_szRow
theorem TSU_6_ok : TSU_6.Ok Tryd.prog := TSU_5_ok.add ok_laws_szRow
theorem eq_laws_szRowS (left : Int) (n : Nat) (c : List Sc) (K : V -> List Blk -> Prop) : VC_laws_szRowS left n c K = vbody Tryd.prog (vin Tryd.prog TSU_6 annTSU 3) TSU_6.looks (annTSU 74) 74 [.row 0 n, .int .i64 left] [⟨.recs [.int .i64, .str, .int .i64] c, 139, .arg 3⟩] (K) := by kernel_rfl
theorem ok_laws_szRowS : OK Tryd.prog 74 F_laws_szRowS.spec := (vbody_ok (vin_ok TSU_6_ok annTSU 3) TSU_6_ok.looks _ _).ofFM fun args m p R h hp => by
 unfold F_laws_szRowS at h
 split at h
 ·injection h with h; injection h with h1 h2; subst h1; subst h2
  exact (congrArg At (eq_laws_szRowS _ _ _ _)).mp ⟨vc_laws_szRowS _ _ _ hp⟩
 ·cases h
def TSU_7 : Tab := TSU_6.add 74 F_laws_szRowS
theorem TSU_7_ok : TSU_7.Ok Tryd.prog := TSU_6_ok.add ok_laws_szRowS
theorem eq_laws_szTable (left : Int) (s : Int) (i : Int) (n : Nat) (c : List Sc) (K : V -> List Blk -> Prop) : VC_laws_szTable left s i n c K = vbody Tryd.prog (vin Tryd.prog TSU_7 annTSU 3) TSU_7.looks (annTSU 30) 30 [.agg [.int .i64 s, .int .i64 i, .row 0 n], .int .i64 left] [⟨.recs [.int .i64, .str, .int .i64] c, 139, .arg 3⟩] (K) := by kernel_rfl
theorem ok_laws_szTable : OK Tryd.prog 30 F_laws_szTable.spec := (vbody_ok (vin_ok TSU_7_ok annTSU 3) TSU_7_ok.looks _ _).ofFM fun args m p R h hp => by
 unfold F_laws_szTable at h
 split at h
 ·injection h with h; injection h with h1 h2; subst h1; subst h2
  exact (congrArg At (eq_laws_szTable _ _ _ _ _ _)).mp ⟨vc_laws_szTable _ _ _ _ _ hp⟩
 ·cases h
def TSU_8 : Tab := TSU_7.add 30 F_laws_szTable
theorem TSU_8_ok : TSU_8.Ok Tryd.prog := TSU_7_ok.add ok_laws_szTable
theorem eq_laws_toRow (ra : Int) (rt : List UInt8) (rb : Int) (K : V -> Prop) : VC_laws_toRow ra rt rb K = vbody Tryd.prog (vin Tryd.prog TSU_8 annTSU 3) TSU_8.looks (annTSU 118) 118 [.agg [.int .i64 ra, .str rt, .int .i64 rb]] [] (fun v _ => K v) := by kernel_rfl
theorem ok_laws_toRow : OK Tryd.prog 118 F_laws_toRow.spec := (vbody_ok (vin_ok TSU_8_ok annTSU 3) TSU_8_ok.looks _ _).ofF fun args m p R h hp => by
 unfold F_laws_toRow at h
 split at h
 ·injection h with h; injection h with h1 h2; subst h1; subst h2
  exact ⟨rfl, (congrArg At (eq_laws_toRow _ _ _ _)).mp ⟨vc_laws_toRow _ _ _ hp⟩⟩
 ·cases h
def TSU_9 : Tab := TSU_8.add 118 F_laws_toRow
theorem TSU_9_ok : TSU_9.Ok Tryd.prog := TSU_8_ok.add ok_laws_toRow
theorem eq_laws_toRowS  (n : Nat) (c : List Sc) (K : V -> List Blk -> Prop) : VC_laws_toRowS  n c K = vbody Tryd.prog (vin Tryd.prog TSU_9 annTSU 3) TSU_9.looks (annTSU 78) 78 [.row 0 n] [⟨.recs [.int .i64, .str, .int .i64] c, 139, .arg 3⟩] (K) := by kernel_rfl
theorem ok_laws_toRowS : OK Tryd.prog 78 F_laws_toRowS.spec := (vbody_ok (vin_ok TSU_9_ok annTSU 3) TSU_9_ok.looks _ _).ofG fun args m p R M h hp => by
 unfold F_laws_toRowS at h
 split at h
 ·injection h with h; injection h with h1 h2; injection h2 with h2 h3; subst h1; subst h2; subst h3
  exact (congrArg At (eq_laws_toRowS _ _ _)).mp ⟨vc_laws_toRowS _ _ hp⟩
 ·cases h
def TSU_10 : Tab := TSU_9.addG 78 F_laws_toRowS
theorem TSU_10_ok : TSU_10.Ok Tryd.prog := TSU_9_ok.addG ok_laws_toRowS
theorem eq_laws_toTable  (s : Int) (i : Int) (n : Nat) (c : List Sc) (K : V -> List Blk -> Prop) : VC_laws_toTable  s i n c K = vbody Tryd.prog (vin Tryd.prog TSU_10 annTSU 3) TSU_10.looks (annTSU 32) 32 [.agg [.int .i64 s, .int .i64 i, .row 0 n]] [⟨.recs [.int .i64, .str, .int .i64] c, 139, .arg 3⟩] (K) := by kernel_rfl
theorem ok_laws_toTable : OK Tryd.prog 32 F_laws_toTable.spec := (vbody_ok (vin_ok TSU_10_ok annTSU 3) TSU_10_ok.looks _ _).ofG fun args m p R M h hp => by
 unfold F_laws_toTable at h
 split at h
 ·injection h with h; injection h with h1 h2; injection h2 with h2 h3; subst h1; subst h2; subst h3
  exact (congrArg At (eq_laws_toTable _ _ _ _ _)).mp ⟨vc_laws_toTable _ _ _ _ hp⟩
 ·cases h
def TSU_11 : Tab := TSU_10.addG 32 F_laws_toTable
theorem TSU_11_ok : TSU_11.Ok Tryd.prog := TSU_10_ok.addG ok_laws_toTable
theorem eq_laws_eqRow (ra : Int) (rt : List UInt8) (rb : Int) (qa : Int) (qt : List UInt8) (qb : Int) (K : V -> Prop) : VC_laws_eqRow ra rt rb qa qt qb K = vbody Tryd.prog (vin Tryd.prog TSU_11 annTSU 3) TSU_11.looks (annTSU 122) 122 [.agg [.int .i64 ra, .str rt, .int .i64 rb], .agg [.int .i64 qa, .str qt, .int .i64 qb]] [] (fun v _ => K v) := by kernel_rfl
theorem ok_laws_eqRow : OK Tryd.prog 122 F_laws_eqRow.spec := (vbody_ok (vin_ok TSU_11_ok annTSU 3) TSU_11_ok.looks _ _).ofF fun args m p R h hp => by
 unfold F_laws_eqRow at h
 split at h
 ·injection h with h; injection h with h1 h2; subst h1; subst h2
  exact ⟨rfl, (congrArg At (eq_laws_eqRow _ _ _ _ _ _ _)).mp ⟨vc_laws_eqRow _ _ _ _ _ _ hp⟩⟩
 ·cases h
def TSU_12 : Tab := TSU_11.add 122 F_laws_eqRow
theorem TSU_12_ok : TSU_12.Ok Tryd.prog := TSU_11_ok.add ok_laws_eqRow
theorem eq_laws_eqRowS  (n : Nat) (m : Nat) (c : List Sc) (d : List Sc) (K : V -> List Blk -> Prop) : VC_laws_eqRowS  n m c d K = vbody Tryd.prog (vin Tryd.prog TSU_12 annTSU 3) TSU_12.looks (annTSU 82) 82 [.row 0 n, .row 1 m] [⟨.recs [.int .i64, .str, .int .i64] c, 96, .rows 3⟩, ⟨.recs [.int .i64, .str, .int .i64] d, 96, .rows 3⟩] (K) := by kernel_rfl
theorem ok_laws_eqRowS : OK Tryd.prog 82 F_laws_eqRowS.spec := (vbody_ok (vin_ok TSU_12_ok annTSU 3) TSU_12_ok.looks _ _).ofFM fun args m p R h hp => by
 unfold F_laws_eqRowS at h
 split at h
 ·injection h with h; injection h with h1 h2; subst h1; subst h2
  exact (congrArg At (eq_laws_eqRowS _ _ _ _ _)).mp ⟨vc_laws_eqRowS _ _ _ _ hp⟩
 ·cases h
def TSU_13 : Tab := TSU_12.add 82 F_laws_eqRowS
theorem TSU_13_ok : TSU_13.Ok Tryd.prog := TSU_12_ok.add ok_laws_eqRowS
theorem eq_laws_eqTable  (s : Int) (i : Int) (n : Nat) (c : List Sc) (p : Int) (q : Int) (m : Nat) (d : List Sc) (K : V -> List Blk -> Prop) : VC_laws_eqTable  s i n c p q m d K = vbody Tryd.prog (vin Tryd.prog TSU_13 annTSU 3) TSU_13.looks (annTSU 35) 35 [.agg [.int .i64 s, .int .i64 i, .row 0 n], .agg [.int .i64 p, .int .i64 q, .row 1 m]] [⟨.recs [.int .i64, .str, .int .i64] c, 96, .rows 3⟩, ⟨.recs [.int .i64, .str, .int .i64] d, 96, .rows 3⟩] (K) := by kernel_rfl
theorem ok_laws_eqTable : OK Tryd.prog 35 F_laws_eqTable.spec := (vbody_ok (vin_ok TSU_13_ok annTSU 3) TSU_13_ok.looks _ _).ofFM fun args m p R h hp => by
 unfold F_laws_eqTable at h
 split at h
 ·injection h with h; injection h with h1 h2; subst h1; subst h2
  exact (congrArg At (eq_laws_eqTable _ _ _ _ _ _ _ _ _)).mp ⟨vc_laws_eqTable _ _ _ _ _ _ _ _ hp⟩
 ·cases h
def TSU_14 : Tab := TSU_13.add 35 F_laws_eqTable
theorem TSU_14_ok : TSU_14.Ok Tryd.prog := TSU_13_ok.add ok_laws_eqTable
theorem eq_spec_taGood  (s : Int) (i : Int) (n : Nat) (c : List Sc) (K : V -> List Blk -> Prop) : VC_spec_taGood  s i n c K = vbody Tryd.prog (vin Tryd.prog TSU_14 annTSU 3) TSU_14.looks (annTSU 75) 75 [.agg [.int .i64 s, .int .i64 i, .row 0 n]] [⟨.recs [.int .i64, .str, .int .i64] c, 96, .rows 3⟩] (K) := by kernel_rfl
theorem ok_spec_taGood : OK Tryd.prog 75 F_spec_taGood.spec := (vbody_ok (vin_ok TSU_14_ok annTSU 3) TSU_14_ok.looks _ _).ofFM fun args m p R h hp => by
 unfold F_spec_taGood at h
 split at h
 ·injection h with h; injection h with h1 h2; subst h1; subst h2
  exact (congrArg At (eq_spec_taGood _ _ _ _ _)).mp ⟨vc_spec_taGood _ _ _ _ hp⟩
 ·cases h
def TSU_15 : Tab := TSU_14.add 75 F_spec_taGood
theorem TSU_15_ok : TSU_15.Ok Tryd.prog := TSU_14_ok.add ok_spec_taGood
theorem eq_impl_isTableSize (a : Int) (b : Int) (K : V -> Prop) : VC_impl_isTableSize a b K = vbody Tryd.prog (vin Tryd.prog TSU_15 annTSU 3) TSU_15.looks (annTSU 103) 103 [.int .i64 a, .int .i64 b] [] (fun v _ => K v) := by kernel_rfl
theorem ok_impl_isTableSize : OK Tryd.prog 103 F_impl_isTableSize.spec := (vbody_ok (vin_ok TSU_15_ok annTSU 3) TSU_15_ok.looks _ _).ofF fun args m p R h hp => by
 unfold F_impl_isTableSize at h
 split at h
 ·injection h with h; injection h with h1 h2; subst h1; subst h2
  exact ⟨rfl, (congrArg At (eq_impl_isTableSize _ _ _)).mp ⟨vc_impl_isTableSize _ _ hp⟩⟩
 ·cases h
def TSU_16 : Tab := TSU_15.add 103 F_impl_isTableSize
theorem TSU_16_ok : TSU_16.Ok Tryd.prog := TSU_15_ok.add ok_impl_isTableSize
theorem eq_impl_IsTable  (s : Int) (i : Int) (n : Nat) (c : List Sc) (g0 : List UInt8) (g1 : List UInt8) (g2 : List UInt8) (g3 : List UInt8) (K : V -> List Blk -> Prop) : VC_impl_IsTable  s i n c g0 g1 g2 g3 K = vbody Tryd.prog (vin Tryd.prog TSU_16 annTSU 3) TSU_16.looks (annTSU 52) 52 [.agg [.int .i64 s, .int .i64 i, .row 0 n]] [⟨.recs [.int .i64, .str, .int .i64] c, 96, .rows 3⟩, ⟨.vals [.str g0, .str g1, .str g2, .str g3], 9, .gl 0⟩] (K) := by kernel_rfl
theorem ok_impl_IsTable : OK Tryd.prog 52 F_impl_IsTable.spec := (vbody_ok (vin_ok TSU_16_ok annTSU 3) TSU_16_ok.looks _ _).ofFM fun args m p R h hp => by
 unfold F_impl_IsTable at h
 split at h
 ·injection h with h; injection h with h1 h2; subst h1; subst h2
  exact (congrArg At (eq_impl_IsTable _ _ _ _ _ _ _ _ _)).mp ⟨vc_impl_IsTable _ _ _ _ _ _ _ _ hp⟩
 ·cases h
def TSU_17 : Tab := TSU_16.add 52 F_impl_IsTable
theorem TSU_17_ok : TSU_17.Ok Tryd.prog := TSU_16_ok.add ok_impl_IsTable
theorem eq_laws_markText (k : Int) (K : V -> Prop) : VC_laws_markText k K = vbody Tryd.prog (vin Tryd.prog TSU_17 annTSU 3) TSU_17.looks (annTSU 123) 123 [.int .i64 k] [] (fun v _ => K v) := by kernel_rfl
theorem ok_laws_markText : OK Tryd.prog 123 F_laws_markText.spec := (vbody_ok (vin_ok TSU_17_ok annTSU 3) TSU_17_ok.looks _ _).ofF fun args m p R h hp => by
 unfold F_laws_markText at h
 split at h
 ·injection h with h; injection h with h1 h2; subst h1; subst h2
  exact ⟨rfl, (congrArg At (eq_laws_markText _ _)).mp ⟨vc_laws_markText _ hp⟩⟩
 ·cases h
def TSU_18 : Tab := TSU_17.add 123 F_laws_markText
theorem TSU_18_ok : TSU_18.Ok Tryd.prog := TSU_17_ok.add ok_laws_markText
theorem eq_laws_markRowS (k : Int) (n : Nat) (c : List Sc) (K : V -> List Blk -> Prop) : VC_laws_markRowS k n c K = vbody Tryd.prog (vin Tryd.prog TSU_18 annTSU 3) TSU_18.looks (annTSU 83) 83 [.row 0 n, .int .i64 k] [⟨.recs [.int .i64, .str, .int .i64] c, 96, .rows 3⟩] (K) := by kernel_rfl
theorem ok_laws_markRowS : OK Tryd.prog 83 F_laws_markRowS.spec := (vbody_ok (vin_ok TSU_18_ok annTSU 3) TSU_18_ok.looks _ _).ofG fun args m p R M h hp => by
 unfold F_laws_markRowS at h
 split at h
 ·injection h with h; injection h with h1 h2; injection h2 with h2 h3; subst h1; subst h2; subst h3
  exact (congrArg At (eq_laws_markRowS _ _ _ _)).mp ⟨vc_laws_markRowS _ _ _ hp⟩
 ·cases h
def TSU_19 : Tab := TSU_18.addG 83 F_laws_markRowS
theorem TSU_19_ok : TSU_19.Ok Tryd.prog := TSU_18_ok.addG ok_laws_markRowS
theorem eq_laws_markTable (k : Int) (s : Int) (i : Int) (n : Nat) (c : List Sc) (K : V -> List Blk -> Prop) : VC_laws_markTable k s i n c K = vbody Tryd.prog (vin Tryd.prog TSU_19 annTSU 3) TSU_19.looks (annTSU 36) 36 [.agg [.int .i64 s, .int .i64 i, .row 0 n], .int .i64 k] [⟨.recs [.int .i64, .str, .int .i64] c, 96, .rows 3⟩] (K) := by kernel_rfl
theorem ok_laws_markTable : OK Tryd.prog 36 F_laws_markTable.spec := (vbody_ok (vin_ok TSU_19_ok annTSU 3) TSU_19_ok.looks _ _).ofG fun args m p R M h hp => by
 unfold F_laws_markTable at h
 split at h
 ·injection h with h; injection h with h1 h2; injection h2 with h2 h3; subst h1; subst h2; subst h3
  exact (congrArg At (eq_laws_markTable _ _ _ _ _ _)).mp ⟨vc_laws_markTable _ _ _ _ _ hp⟩
 ·cases h
def TSU_20 : Tab := TSU_19.addG 36 F_laws_markTable
theorem TSU_20_ok : TSU_20.Ok Tryd.prog := TSU_19_ok.addG ok_laws_markTable
theorem eq_laws_heldRowS (k : Int) (n : Nat) (c : List Sc) (K : V -> List Blk -> Prop) : VC_laws_heldRowS k n c K = vbody Tryd.prog (vin Tryd.prog TSU_20 annTSU 3) TSU_20.looks (annTSU 87) 87 [.row 0 n, .int .i64 k] [⟨.recs [.int .i64, .str, .int .i64] c, 96, .rows 3⟩] (K) := by kernel_rfl
theorem ok_laws_heldRowS : OK Tryd.prog 87 F_laws_heldRowS.spec := (vbody_ok (vin_ok TSU_20_ok annTSU 3) TSU_20_ok.looks _ _).ofFM fun args m p R h hp => by
 unfold F_laws_heldRowS at h
 split at h
 ·injection h with h; injection h with h1 h2; subst h1; subst h2
  exact (congrArg At (eq_laws_heldRowS _ _ _ _)).mp ⟨vc_laws_heldRowS _ _ _ hp⟩
 ·cases h
def TSU_21 : Tab := TSU_20.add 87 F_laws_heldRowS
theorem TSU_21_ok : TSU_21.Ok Tryd.prog := TSU_20_ok.add ok_laws_heldRowS
theorem eq_laws_heldTable (k : Int) (s : Int) (i : Int) (n : Nat) (c : List Sc) (K : V -> List Blk -> Prop) : VC_laws_heldTable k s i n c K = vbody Tryd.prog (vin Tryd.prog TSU_21 annTSU 3) TSU_21.looks (annTSU 41) 41 [.agg [.int .i64 s, .int .i64 i, .row 0 n], .int .i64 k] [⟨.recs [.int .i64, .str, .int .i64] c, 96, .rows 3⟩] (K) := by kernel_rfl
theorem ok_laws_heldTable : OK Tryd.prog 41 F_laws_heldTable.spec := (vbody_ok (vin_ok TSU_21_ok annTSU 3) TSU_21_ok.looks _ _).ofFM fun args m p R h hp => by
 unfold F_laws_heldTable at h
 split at h
 ·injection h with h; injection h with h1 h2; subst h1; subst h2
  exact (congrArg At (eq_laws_heldTable _ _ _ _ _ _)).mp ⟨vc_laws_heldTable _ _ _ _ _ hp⟩
 ·cases h
def TSU_22 : Tab := TSU_21.add 41 F_laws_heldTable
theorem TSU_22_ok : TSU_22.Ok Tryd.prog := TSU_21_ok.add ok_laws_heldTable
theorem eq_laws_eqScene  (s : Int) (i : Int) (n : Nat) (c : List Sc) (w : Int) (h : Int) (u : List UInt8) (x : Int) (y : Int) (d : Int) (q : Int) (s_ : Int) (i_ : Int) (n_ : Nat) (c_ : List Sc) (w_ : Int) (h_ : Int) (u_ : List UInt8) (x_ : Int) (y_ : Int) (d_ : Int) (q_ : Int) (K : V -> List Blk -> Prop) : VC_laws_eqScene  s i n c w h u x y d q s_ i_ n_ c_ w_ h_ u_ x_ y_ d_ q_ K = vbody Tryd.prog (vin Tryd.prog TSU_22 annTSU 3) TSU_22.looks (annTSU 17) 17 [.agg [.int .i64 s, .int .i64 i, .row 0 n, .int .i64 w, .int .i64 h, .str u, .int .i64 x, .int .i64 y, .int .i64 d, .int .i64 q], .agg [.int .i64 s_, .int .i64 i_, .row 1 n_, .int .i64 w_, .int .i64 h_, .str u_, .int .i64 x_, .int .i64 y_, .int .i64 d_, .int .i64 q_]] [⟨.recs [.int .i64, .str, .int .i64] c, 96, .rows 3⟩, ⟨.recs [.int .i64, .str, .int .i64] c_, 96, .rows 3⟩] (K) := by kernel_rfl
theorem ok_laws_eqScene : OK Tryd.prog 17 F_laws_eqScene.spec := (vbody_ok (vin_ok TSU_22_ok annTSU 3) TSU_22_ok.looks _ _).ofFM fun args m p R h hp => by
 unfold F_laws_eqScene at h
 split at h
 ·injection h with h; injection h with h1 h2; subst h1; subst h2
  exact (congrArg At (eq_laws_eqScene _ _ _ _ _ _ _ _ _ _ _ _ _ _ _ _ _ _ _ _ _ _ _)).mp ⟨vc_laws_eqScene _ _ _ _ _ _ _ _ _ _ _ _ _ _ _ _ _ _ _ _ _ _ hp⟩
 ·cases h
def TSU_23 : Tab := TSU_22.add 17 F_laws_eqScene
theorem TSU_23_ok : TSU_23.Ok Tryd.prog := TSU_22_ok.add ok_laws_eqScene
theorem eq_laws_markScene (k : Int) (s : Int) (i : Int) (n : Nat) (c : List Sc) (w : Int) (h : Int) (u : List UInt8) (x : Int) (y : Int) (d : Int) (q : Int) (K : V -> List Blk -> Prop) : VC_laws_markScene k s i n c w h u x y d q K = vbody Tryd.prog (vin Tryd.prog TSU_23 annTSU 3) TSU_23.looks (annTSU 20) 20 [.agg [.int .i64 s, .int .i64 i, .row 0 n, .int .i64 w, .int .i64 h, .str u, .int .i64 x, .int .i64 y, .int .i64 d, .int .i64 q], .int .i64 k] [⟨.recs [.int .i64, .str, .int .i64] c, 96, .rows 3⟩] (K) := by kernel_rfl
theorem ok_laws_markScene : OK Tryd.prog 20 F_laws_markScene.spec := (vbody_ok (vin_ok TSU_23_ok annTSU 3) TSU_23_ok.looks _ _).ofG fun args m p R M h hp => by
 unfold F_laws_markScene at h
 split at h
 ·injection h with h; injection h with h1 h2; injection h2 with h2 h3; subst h1; subst h2; subst h3
  exact (congrArg At (eq_laws_markScene _ _ _ _ _ _ _ _ _ _ _ _ _)).mp ⟨vc_laws_markScene _ _ _ _ _ _ _ _ _ _ _ _ hp⟩
 ·cases h
def TSU_24 : Tab := TSU_23.addG 20 F_laws_markScene
theorem TSU_24_ok : TSU_24.Ok Tryd.prog := TSU_23_ok.addG ok_laws_markScene
theorem eq_laws_heldScene (k : Int) (s : Int) (i : Int) (n : Nat) (c : List Sc) (w : Int) (h : Int) (u : List UInt8) (x : Int) (y : Int) (d : Int) (q : Int) (K : V -> List Blk -> Prop) : VC_laws_heldScene k s i n c w h u x y d q K = vbody Tryd.prog (vin Tryd.prog TSU_24 annTSU 3) TSU_24.looks (annTSU 21) 21 [.agg [.int .i64 s, .int .i64 i, .row 0 n, .int .i64 w, .int .i64 h, .str u, .int .i64 x, .int .i64 y, .int .i64 d, .int .i64 q], .int .i64 k] [⟨.recs [.int .i64, .str, .int .i64] c, 96, .rows 3⟩] (K) := by kernel_rfl
theorem ok_laws_heldScene : OK Tryd.prog 21 F_laws_heldScene.spec := (vbody_ok (vin_ok TSU_24_ok annTSU 3) TSU_24_ok.looks _ _).ofFM fun args m p R h hp => by
 unfold F_laws_heldScene at h
 split at h
 ·injection h with h; injection h with h1 h2; subst h1; subst h2
  exact (congrArg At (eq_laws_heldScene _ _ _ _ _ _ _ _ _ _ _ _ _)).mp ⟨vc_laws_heldScene _ _ _ _ _ _ _ _ _ _ _ _ hp⟩
 ·cases h
def TSU_25 : Tab := TSU_24.add 21 F_laws_heldScene
theorem TSU_25_ok : TSU_25.Ok Tryd.prog := TSU_24_ok.add ok_laws_heldScene
theorem eq_impl_isSize (a : Int) (b : Int) (K : V -> Prop) : VC_impl_isSize a b K = vbody Tryd.prog (vin Tryd.prog TSU_25 annTSU 3) TSU_25.looks (annTSU 53) 53 [.int .i64 a, .int .i64 b] [] (fun v _ => K v) := by kernel_rfl
theorem ok_impl_isSize : OK Tryd.prog 53 F_impl_isSize.spec := (vbody_ok (vin_ok TSU_25_ok annTSU 3) TSU_25_ok.looks _ _).ofF fun args m p R h hp => by
 unfold F_impl_isSize at h
 split at h
 ·injection h with h; injection h with h1 h2; subst h1; subst h2
  exact ⟨rfl, (congrArg At (eq_impl_isSize _ _ _)).mp ⟨vc_impl_isSize _ _ hp⟩⟩
 ·cases h
def TSU_26 : Tab := TSU_25.add 53 F_impl_isSize
theorem TSU_26_ok : TSU_26.Ok Tryd.prog := TSU_25_ok.add ok_impl_isSize
theorem eq_spec_l1Num (n : Int) (K : V -> Prop) : VC_spec_l1Num n K = vbody Tryd.prog (vin Tryd.prog TSU_26 annTSU 0) TSU_26.looks (annTSU 110) 110 [.int .i64 n] [] (fun v _ => K v) := by kernel_rfl
theorem ok_spec_l1Num : OK Tryd.prog 110 F_spec_l1Num.spec := (vbody_ok (vin_ok TSU_26_ok annTSU 0) TSU_26_ok.looks _ _).ofF fun args m p R h hp => by
 unfold F_spec_l1Num at h
 split at h
 ·injection h with h; injection h with h1 h2; subst h1; subst h2
  exact ⟨rfl, (congrArg At (eq_spec_l1Num _ _)).mp ⟨vc_spec_l1Num _ hp⟩⟩
 ·cases h
def TSU_27 : Tab := TSU_26.add 110 F_spec_l1Num
theorem TSU_27_ok : TSU_27.Ok Tryd.prog := TSU_26_ok.add ok_spec_l1Num
theorem eq_strconv_FormatInt (n : Int) (b : Int) (K : V -> Prop) : VC_strconv_FormatInt n b K = vbody Tryd.prog (vin Tryd.prog TSU_27 annTSU 3) TSU_27.looks (annTSU 158) 158 [.int .i64 n, .int .i64 b] [] (fun v _ => K v) := by kernel_rfl
theorem ok_strconv_FormatInt : OK Tryd.prog 158 F_strconv_FormatInt.spec := (vbody_ok (vin_ok TSU_27_ok annTSU 3) TSU_27_ok.looks _ _).ofF fun args m p R h hp => by
 unfold F_strconv_FormatInt at h
 split at h
 ·injection h with h; injection h with h1 h2; subst h1; subst h2
  exact ⟨rfl, (congrArg At (eq_strconv_FormatInt _ _ _)).mp ⟨vc_strconv_FormatInt _ _ hp⟩⟩
 ·cases h
def TSU_28 : Tab := TSU_27.add 158 F_strconv_FormatInt
theorem TSU_28_ok : TSU_28.Ok Tryd.prog := TSU_27_ok.add ok_strconv_FormatInt
theorem eq_strconv_Itoa (n : Int) (K : V -> Prop) : VC_strconv_Itoa n K = vbody Tryd.prog (vin Tryd.prog TSU_28 annTSU 3) TSU_28.looks (annTSU 94) 94 [.int .i64 n] [] (fun v _ => K v) := by kernel_rfl
theorem ok_strconv_Itoa : OK Tryd.prog 94 F_strconv_Itoa.spec := (vbody_ok (vin_ok TSU_28_ok annTSU 3) TSU_28_ok.looks _ _).ofF fun args m p R h hp => by
 unfold F_strconv_Itoa at h
 split at h
 ·injection h with h; injection h with h1 h2; subst h1; subst h2
  exact ⟨rfl, (congrArg At (eq_strconv_Itoa _ _)).mp ⟨vc_strconv_Itoa _ hp⟩⟩
 ·cases h
def TSU_29 : Tab := TSU_28.add 94 F_strconv_Itoa
theorem TSU_29_ok : TSU_29.Ok Tryd.prog := TSU_28_ok.add ok_strconv_Itoa
theorem eq_impl_digit (b : Int) (K : V -> Prop) : VC_impl_digit b K = vbody Tryd.prog (vin Tryd.prog TSU_29 annTSU 3) TSU_29.looks (annTSU 85) 85 [.int .u8 b] [] (fun v _ => K v) := by kernel_rfl
theorem ok_impl_digit : OK Tryd.prog 85 F_impl_digit.spec := (vbody_ok (vin_ok TSU_29_ok annTSU 3) TSU_29_ok.looks _ _).ofF fun args m p R h hp => by
 unfold F_impl_digit at h
 split at h
 ·injection h with h; injection h with h1 h2; subst h1; subst h2
  exact ⟨rfl, (congrArg At (eq_impl_digit _ _)).mp ⟨vc_impl_digit _ hp⟩⟩
 ·cases h
def TSU_30 : Tab := TSU_29.add 85 F_impl_digit
theorem TSU_30_ok : TSU_30.Ok Tryd.prog := TSU_29_ok.add ok_impl_digit
theorem eq_impl_isWay (a : Int) (K : V -> Prop) : VC_impl_isWay a K = vbody Tryd.prog (vin Tryd.prog TSU_30 annTSU 3) TSU_30.looks (annTSU 56) 56 [.int .i64 a] [] (fun v _ => K v) := by kernel_rfl
theorem ok_impl_isWay : OK Tryd.prog 56 F_impl_isWay.spec := (vbody_ok (vin_ok TSU_30_ok annTSU 3) TSU_30_ok.looks _ _).ofF fun args m p R h hp => by
 unfold F_impl_isWay at h
 split at h
 ·injection h with h; injection h with h1 h2; subst h1; subst h2
  exact ⟨rfl, (congrArg At (eq_impl_isWay _ _)).mp ⟨vc_impl_isWay _ hp⟩⟩
 ·cases h
def TSU_31 : Tab := TSU_30.add 56 F_impl_isWay
theorem TSU_31_ok : TSU_31.Ok Tryd.prog := TSU_30_ok.add ok_impl_isWay
theorem eq_impl_hasCell (wr : List UInt8) (ww : Int) (wh : Int) (wc : List UInt8) (wx : Int) (wy : Int) (wd : Int) (x : Int) (y : Int) (K : V -> Prop) : VC_impl_hasCell wr ww wh wc wx wy wd x y K = vbody Tryd.prog (vin Tryd.prog TSU_31 annTSU 3) TSU_31.looks (annTSU 54) 54 [.agg [.str wr, .int .i64 ww, .int .i64 wh, .str wc, .int .i64 wx, .int .i64 wy, .int .i64 wd], .int .i64 x, .int .i64 y] [] (fun v _ => K v) := by kernel_rfl
theorem ok_impl_hasCell : OK Tryd.prog 54 F_impl_hasCell.spec := (vbody_ok (vin_ok TSU_31_ok annTSU 3) TSU_31_ok.looks _ _).ofF fun args m p R h hp => by
 unfold F_impl_hasCell at h
 split at h
 ·injection h with h; injection h with h1 h2; subst h1; subst h2
  exact ⟨rfl, (congrArg At (eq_impl_hasCell _ _ _ _ _ _ _ _ _ _)).mp ⟨vc_impl_hasCell _ _ _ _ _ _ _ _ _ hp⟩⟩
 ·cases h
def TSU_32 : Tab := TSU_31.add 54 F_impl_hasCell
theorem TSU_32_ok : TSU_32.Ok Tryd.prog := TSU_31_ok.add ok_impl_hasCell
theorem eq_impl_areColours (s : List UInt8) (k : Int) (K : V -> Prop) : VC_impl_areColours s k K = vbody Tryd.prog (vin Tryd.prog TSU_32 annTSU 3) TSU_32.looks (annTSU 58) 58 [.str s, .int .i64 k] [] (fun v _ => K v) := by kernel_rfl
theorem ok_impl_areColours : OK Tryd.prog 58 F_impl_areColours.spec := (vbody_ok (vin_ok TSU_32_ok annTSU 3) TSU_32_ok.looks _ _).ofF fun args m p R h hp => by
 unfold F_impl_areColours at h
 split at h
 ·injection h with h; injection h with h1 h2; subst h1; subst h2
  exact ⟨rfl, (congrArg At (eq_impl_areColours _ _ _)).mp ⟨vc_impl_areColours _ _ hp⟩⟩
 ·cases h
def TSU_33 : Tab := TSU_32.add 58 F_impl_areColours
theorem TSU_33_ok : TSU_33.Ok Tryd.prog := TSU_32_ok.add ok_impl_areColours
theorem eq_laws_szScene (left : Int) (s : Int) (i : Int) (n : Nat) (c : List Sc) (w : Int) (h : Int) (u : List UInt8) (x : Int) (y : Int) (d : Int) (q : Int) (K : V -> List Blk -> Prop) : VC_laws_szScene left s i n c w h u x y d q K = vbody Tryd.prog (vin Tryd.prog TSU_33 annTSU 3) TSU_33.looks (annTSU 13) 13 [.agg [.int .i64 s, .int .i64 i, .row 0 n, .int .i64 w, .int .i64 h, .str u, .int .i64 x, .int .i64 y, .int .i64 d, .int .i64 q], .int .i64 left] [⟨.recs [.int .i64, .str, .int .i64] c, 139, .arg 3⟩] (K) := by kernel_rfl
theorem ok_laws_szScene : OK Tryd.prog 13 F_laws_szScene.spec := (vbody_ok (vin_ok TSU_33_ok annTSU 3) TSU_33_ok.looks _ _).ofFM fun args m p R h hp => by
 unfold F_laws_szScene at h
 split at h
 ·injection h with h; injection h with h1 h2; subst h1; subst h2
  exact (congrArg At (eq_laws_szScene _ _ _ _ _ _ _ _ _ _ _ _ _)).mp ⟨vc_laws_szScene _ _ _ _ _ _ _ _ _ _ _ _ hp⟩
 ·cases h
def TSU_34 : Tab := TSU_33.add 13 F_laws_szScene
theorem TSU_34_ok : TSU_34.Ok Tryd.prog := TSU_33_ok.add ok_laws_szScene
theorem eq_laws_toScene  (s : Int) (i : Int) (n : Nat) (c : List Sc) (w : Int) (h : Int) (u : List UInt8) (x : Int) (y : Int) (d : Int) (q : Int) (K : V -> List Blk -> Prop) : VC_laws_toScene  s i n c w h u x y d q K = vbody Tryd.prog (vin Tryd.prog TSU_34 annTSU 3) TSU_34.looks (annTSU 15) 15 [.agg [.int .i64 s, .int .i64 i, .row 0 n, .int .i64 w, .int .i64 h, .str u, .int .i64 x, .int .i64 y, .int .i64 d, .int .i64 q]] [⟨.recs [.int .i64, .str, .int .i64] c, 139, .arg 3⟩] (K) := by kernel_rfl
theorem ok_laws_toScene : OK Tryd.prog 15 F_laws_toScene.spec := (vbody_ok (vin_ok TSU_34_ok annTSU 3) TSU_34_ok.looks _ _).ofG fun args m p R M h hp => by
 unfold F_laws_toScene at h
 split at h
 ·injection h with h; injection h with h1 h2; injection h2 with h2 h3; subst h1; subst h2; subst h3
  exact (congrArg At (eq_laws_toScene _ _ _ _ _ _ _ _ _ _ _ _)).mp ⟨vc_laws_toScene _ _ _ _ _ _ _ _ _ _ _ hp⟩
 ·cases h
def TSU_35 : Tab := TSU_34.addG 15 F_laws_toScene
theorem TSU_35_ok : TSU_35.Ok Tryd.prog := TSU_34_ok.addG ok_laws_toScene
theorem eq_spec_taScene  (s : Int) (i : Int) (n : Nat) (c : List Sc) (w : Int) (h : Int) (u : List UInt8) (x : Int) (y : Int) (d : Int) (q : Int) (K : V -> List Blk -> Prop) : VC_spec_taScene  s i n c w h u x y d q K = vbody Tryd.prog (vin Tryd.prog TSU_35 annTSU 3) TSU_35.looks (annTSU 51) 51 [.agg [.int .i64 s, .int .i64 i, .row 0 n, .int .i64 w, .int .i64 h, .str u, .int .i64 x, .int .i64 y, .int .i64 d, .int .i64 q]] [⟨.recs [.int .i64, .str, .int .i64] c, 96, .rows 3⟩] (K) := by kernel_rfl
theorem ok_spec_taScene : OK Tryd.prog 51 F_spec_taScene.spec := (vbody_ok (vin_ok TSU_35_ok annTSU 3) TSU_35_ok.looks _ _).ofFM fun args m p R h hp => by
 unfold F_spec_taScene at h
 split at h
 ·injection h with h; injection h with h1 h2; subst h1; subst h2
  exact (congrArg At (eq_spec_taScene _ _ _ _ _ _ _ _ _ _ _ _)).mp ⟨vc_spec_taScene _ _ _ _ _ _ _ _ _ _ _ hp⟩
 ·cases h
def TSU_36 : Tab := TSU_35.add 51 F_spec_taScene
theorem TSU_36_ok : TSU_36.Ok Tryd.prog := TSU_35_ok.add ok_spec_taScene
theorem eq_spec_IsScene  (s : Int) (i : Int) (n : Nat) (c : List Sc) (w : Int) (h : Int) (u : List UInt8) (x : Int) (y : Int) (d : Int) (q : Int) (K : V -> List Blk -> Prop) : VC_spec_IsScene  s i n c w h u x y d q K = vbody Tryd.prog (vin Tryd.prog TSU_36 annTSU 3) TSU_36.looks (annTSU 14) 14 [.agg [.int .i64 s, .int .i64 i, .row 0 n, .int .i64 w, .int .i64 h, .str u, .int .i64 x, .int .i64 y, .int .i64 d, .int .i64 q]] [⟨.recs [.int .i64, .str, .int .i64] c, 96, .rows 3⟩] (K) := by kernel_rfl
theorem ok_spec_IsScene : OK Tryd.prog 14 F_spec_IsScene.spec := (vbody_ok (vin_ok TSU_36_ok annTSU 3) TSU_36_ok.looks _ _).ofFM fun args m p R h hp => by
 unfold F_spec_IsScene at h
 split at h
 ·injection h with h; injection h with h1 h2; subst h1; subst h2
  exact (congrArg At (eq_spec_IsScene _ _ _ _ _ _ _ _ _ _ _ _)).mp ⟨vc_spec_IsScene _ _ _ _ _ _ _ _ _ _ _ hp⟩
 ·cases h
def TSU_37 : Tab := TSU_36.add 14 F_spec_IsScene
theorem TSU_37_ok : TSU_37.Ok Tryd.prog := TSU_36_ok.add ok_spec_IsScene
theorem eq_impl_actorOf  (s : Int) (i : Int) (n : Nat) (c : List Sc) (w : Int) (h : Int) (u : List UInt8) (x : Int) (y : Int) (d : Int) (q : Int) (K : V -> List Blk -> Prop) : VC_impl_actorOf  s i n c w h u x y d q K = vbody Tryd.prog (vin Tryd.prog TSU_37 annTSU 3) TSU_37.looks (annTSU 55) 55 [.agg [.int .i64 s, .int .i64 i, .row 0 n, .int .i64 w, .int .i64 h, .str u, .int .i64 x, .int .i64 y, .int .i64 d, .int .i64 q]] [⟨.recs [.int .i64, .str, .int .i64] c, 96, .rows 3⟩] (K) := by kernel_rfl
theorem ok_impl_actorOf : OK Tryd.prog 55 F_impl_actorOf.spec := (vbody_ok (vin_ok TSU_37_ok annTSU 3) TSU_37_ok.looks _ _).ofFM fun args m p R h hp => by
 unfold F_impl_actorOf at h
 split at h
 ·injection h with h; injection h with h1 h2; subst h1; subst h2
  exact (congrArg At (eq_impl_actorOf _ _ _ _ _ _ _ _ _ _ _ _)).mp ⟨vc_impl_actorOf _ _ _ _ _ _ _ _ _ _ _ hp⟩
 ·cases h
def TSU_38 : Tab := TSU_37.add 55 F_impl_actorOf
theorem TSU_38_ok : TSU_38.Ok Tryd.prog := TSU_37_ok.add ok_impl_actorOf
theorem eq_impl_IsScene  (s : Int) (i : Int) (n : Nat) (c : List Sc) (w : Int) (h : Int) (u : List UInt8) (x : Int) (y : Int) (d : Int) (q : Int) (g0 : List UInt8) (g1 : List UInt8) (g2 : List UInt8) (g3 : List UInt8) (K : V -> List Blk -> Prop) : VC_impl_IsScene  s i n c w h u x y d q g0 g1 g2 g3 K = vbody Tryd.prog (vin Tryd.prog TSU_38 annTSU 3) TSU_38.looks (annTSU 16) 16 [.agg [.int .i64 s, .int .i64 i, .row 0 n, .int .i64 w, .int .i64 h, .str u, .int .i64 x, .int .i64 y, .int .i64 d, .int .i64 q]] [⟨.recs [.int .i64, .str, .int .i64] c, 96, .rows 3⟩, ⟨.vals [.str g0, .str g1, .str g2, .str g3], 9, .gl 0⟩] (K) := by kernel_rfl
theorem ok_impl_IsScene : OK Tryd.prog 16 F_impl_IsScene.spec := (vbody_ok (vin_ok TSU_38_ok annTSU 3) TSU_38_ok.looks _ _).ofFM fun args m p R h hp => by
 unfold F_impl_IsScene at h
 split at h
 ·injection h with h; injection h with h1 h2; subst h1; subst h2
  exact (congrArg At (eq_impl_IsScene _ _ _ _ _ _ _ _ _ _ _ _ _ _ _ _)).mp ⟨vc_impl_IsScene _ _ _ _ _ _ _ _ _ _ _ _ _ _ _ hp⟩
 ·cases h
def TSU_39 : Tab := TSU_38.add 16 F_impl_IsScene
theorem TSU_39_ok : TSU_39.Ok Tryd.prog := TSU_38_ok.add ok_impl_IsScene
theorem eq_impl_Row  (n : Nat) (c : List Sc) (K : V -> List Blk -> Prop) : VC_impl_Row  n c K = vbody Tryd.prog (vin Tryd.prog TSU_39 annTSU 3) TSU_39.looks (annTSU 164) 164 [.row 0 n] [⟨.recs [.int .i64, .str, .int .i64] c, 96, .rows 3⟩] (K) := by kernel_rfl
theorem ok_impl_Row : OK Tryd.prog 164 F_impl_Row.spec := (vbody_ok (vin_ok TSU_39_ok annTSU 3) TSU_39_ok.looks _ _).ofG fun args m p R M h hp => by
 unfold F_impl_Row at h
 split at h
 ·injection h with h; injection h with h1 h2; injection h2 with h2 h3; subst h1; subst h2; subst h3
  exact (congrArg At (eq_impl_Row _ _ _)).mp ⟨vc_impl_Row _ _ hp⟩
 ·cases h
def TSU_40 : Tab := TSU_39.addG 164 F_impl_Row
theorem TSU_40_ok : TSU_40.Ok Tryd.prog := TSU_39_ok.addG ok_impl_Row
theorem eq_impl_copied  (s : Int) (i : Int) (n : Nat) (c : List Sc) (K : V -> List Blk -> Prop) : VC_impl_copied  s i n c K = vbody Tryd.prog (vin Tryd.prog TSU_40 annTSU 3) TSU_40.looks (annTSU 139) 139 [.agg [.int .i64 s, .int .i64 i, .row 0 n]] [⟨.recs [.int .i64, .str, .int .i64] c, 96, .rows 3⟩] (K) := by kernel_rfl
theorem ok_impl_copied : OK Tryd.prog 139 F_impl_copied.spec := (vbody_ok (vin_ok TSU_40_ok annTSU 3) TSU_40_ok.looks _ _).ofG fun args m p R M h hp => by
 unfold F_impl_copied at h
 split at h
 ·injection h with h; injection h with h1 h2; injection h2 with h2 h3; subst h1; subst h2; subst h3
  exact (congrArg At (eq_impl_copied _ _ _ _ _)).mp ⟨vc_impl_copied _ _ _ _ hp⟩
 ·cases h
def TSU_41 : Tab := TSU_40.addG 139 F_impl_copied
theorem TSU_41_ok : TSU_41.Ok Tryd.prog := TSU_40_ok.addG ok_impl_copied
theorem eq_spec_l1Mod (n : Int) (m : Int) (K : V -> Prop) : VC_spec_l1Mod n m K = vbody Tryd.prog (vin Tryd.prog TSU_41 annTSU 3) TSU_41.looks (annTSU 67) 67 [.int .i64 n, .int .i64 m] [] (fun v _ => K v) := by kernel_rfl
theorem ok_spec_l1Mod : OK Tryd.prog 67 F_spec_l1Mod.spec := (vbody_ok (vin_ok TSU_41_ok annTSU 3) TSU_41_ok.looks _ _).ofF fun args m p R h hp => by
 unfold F_spec_l1Mod at h
 split at h
 ·injection h with h; injection h with h1 h2; subst h1; subst h2
  exact ⟨rfl, (congrArg At (eq_spec_l1Mod _ _ _)).mp ⟨vc_spec_l1Mod _ _ hp⟩⟩
 ·cases h
def TSU_42 : Tab := TSU_41.add 67 F_spec_l1Mod
theorem TSU_42_ok : TSU_42.Ok Tryd.prog := TSU_41_ok.add ok_spec_l1Mod
theorem eq_spec_woTurn (b : Int) (K : V -> Prop) : VC_spec_woTurn b K = vbody Tryd.prog (vin Tryd.prog TSU_42 annTSU 3) TSU_42.looks (annTSU 68) 68 [.int .u8 b] [] (fun v _ => K v) := by kernel_rfl
theorem ok_spec_woTurn : OK Tryd.prog 68 F_spec_woTurn.spec := (vbody_ok (vin_ok TSU_42_ok annTSU 3) TSU_42_ok.looks _ _).ofF fun args m p R h hp => by
 unfold F_spec_woTurn at h
 split at h
 ·injection h with h; injection h with h1 h2; subst h1; subst h2
  exact ⟨rfl, (congrArg At (eq_spec_woTurn _ _)).mp ⟨vc_spec_woTurn _ hp⟩⟩
 ·cases h
def TSU_43 : Tab := TSU_42.add 68 F_spec_woTurn
theorem TSU_43_ok : TSU_43.Ok Tryd.prog := TSU_42_ok.add ok_spec_woTurn
theorem eq_impl_direction (d : Int) (K : V -> Prop) : VC_impl_direction d K = vbody Tryd.prog (vin Tryd.prog TSU_43 annTSU 3) TSU_43.looks (annTSU 140) 140 [.int .i64 d] [] (fun v _ => K v) := by kernel_rfl
theorem ok_impl_direction : OK Tryd.prog 140 F_impl_direction.spec := (vbody_ok (vin_ok TSU_43_ok annTSU 3) TSU_43_ok.looks _ _).ofF fun args m p R h hp => by
 unfold F_impl_direction at h
 split at h
 ·injection h with h; injection h with h1 h2; subst h1; subst h2
  exact ⟨rfl, (congrArg At (eq_impl_direction _ _)).mp ⟨vc_impl_direction _ hp⟩⟩
 ·cases h
def TSU_44 : Tab := TSU_43.add 140 F_impl_direction
theorem TSU_44_ok : TSU_44.Ok Tryd.prog := TSU_43_ok.add ok_impl_direction
theorem eq_impl_board_colour (wr : List UInt8) (ww : Int) (wh : Int) (wc : List UInt8) (wx : Int) (wy : Int) (wd : Int) (x : Int) (y : Int) (K : V -> Prop) : VC_impl_board_colour wr ww wh wc wx wy wd x y K = vbody Tryd.prog (vin Tryd.prog TSU_44 annTSU 3) TSU_44.looks (annTSU 106) 106 [.agg [.str wr, .int .i64 ww, .int .i64 wh, .str wc, .int .i64 wx, .int .i64 wy, .int .i64 wd], .int .i64 x, .int .i64 y] [] (fun v _ => K v) := by kernel_rfl
theorem ok_impl_board_colour : OK Tryd.prog 106 F_impl_board_colour.spec := (vbody_ok (vin_ok TSU_44_ok annTSU 3) TSU_44_ok.looks _ _).ofF fun args m p R h hp => by
 unfold F_impl_board_colour at h
 split at h
 ·injection h with h; injection h with h1 h2; subst h1; subst h2
  exact ⟨rfl, (congrArg At (eq_impl_board_colour _ _ _ _ _ _ _ _ _ _)).mp ⟨vc_impl_board_colour _ _ _ _ _ _ _ _ _ hp⟩⟩
 ·cases h
def TSU_45 : Tab := TSU_44.add 106 F_impl_board_colour
theorem TSU_45_ok : TSU_45.Ok Tryd.prog := TSU_44_ok.add ok_impl_board_colour
theorem eq_impl_board_painted (wr : List UInt8) (ww : Int) (wh : Int) (wc : List UInt8) (wx : Int) (wy : Int) (wd : Int) (x : Int) (y : Int) (k : Int) (K : V -> Prop) : VC_impl_board_painted wr ww wh wc wx wy wd x y k K = vbody Tryd.prog (vin Tryd.prog TSU_45 annTSU 3) TSU_45.looks (annTSU 108) 108 [.agg [.str wr, .int .i64 ww, .int .i64 wh, .str wc, .int .i64 wx, .int .i64 wy, .int .i64 wd], .int .i64 x, .int .i64 y, .int .i64 k] [] (fun v _ => K v) := by kernel_rfl
theorem ok_impl_board_painted : OK Tryd.prog 108 F_impl_board_painted.spec := (vbody_ok (vin_ok TSU_45_ok annTSU 3) TSU_45_ok.looks _ _).ofF fun args m p R h hp => by
 unfold F_impl_board_painted at h
 split at h
 ·injection h with h; injection h with h1 h2; subst h1; subst h2
  exact ⟨rfl, (congrArg At (eq_impl_board_painted _ _ _ _ _ _ _ _ _ _ _)).mp ⟨vc_impl_board_painted _ _ _ _ _ _ _ _ _ _ hp⟩⟩
 ·cases h
def TSU_46 : Tab := TSU_45.add 108 F_impl_board_painted
theorem TSU_46_ok : TSU_46.Ok Tryd.prog := TSU_45_ok.add ok_impl_board_painted
theorem eq_impl_board_turned (wr : List UInt8) (ww : Int) (wh : Int) (wc : List UInt8) (wx : Int) (wy : Int) (wd : Int) (q : Int) (K : V -> Prop) : VC_impl_board_turned wr ww wh wc wx wy wd q K = vbody Tryd.prog (vin Tryd.prog TSU_46 annTSU 3) TSU_46.looks (annTSU 107) 107 [.agg [.str wr, .int .i64 ww, .int .i64 wh, .str wc, .int .i64 wx, .int .i64 wy, .int .i64 wd], .int .i64 q] [] (fun v _ => K v) := by kernel_rfl
theorem ok_impl_board_turned : OK Tryd.prog 107 F_impl_board_turned.spec := (vbody_ok (vin_ok TSU_46_ok annTSU 3) TSU_46_ok.looks _ _).ofF fun args m p R h hp => by
 unfold F_impl_board_turned at h
 split at h
 ·injection h with h; injection h with h1 h2; subst h1; subst h2
  exact ⟨rfl, (congrArg At (eq_impl_board_turned _ _ _ _ _ _ _ _ _)).mp ⟨vc_impl_board_turned _ _ _ _ _ _ _ _ hp⟩⟩
 ·cases h
def TSU_47 : Tab := TSU_46.add 107 F_impl_board_turned
theorem TSU_47_ok : TSU_47.Ok Tryd.prog := TSU_46_ok.add ok_impl_board_turned
theorem eq_impl_board_moved (wr : List UInt8) (ww : Int) (wh : Int) (wc : List UInt8) (wx : Int) (wy : Int) (wd : Int) (k : Int) (K : V -> Prop) : VC_impl_board_moved wr ww wh wc wx wy wd k K = vbody Tryd.prog (vin Tryd.prog TSU_47 annTSU 3) TSU_47.looks (annTSU 109) 109 [.agg [.str wr, .int .i64 ww, .int .i64 wh, .str wc, .int .i64 wx, .int .i64 wy, .int .i64 wd], .int .i64 k] [] (fun v _ => K v) := by kernel_rfl
theorem ok_impl_board_moved : OK Tryd.prog 109 F_impl_board_moved.spec := (vbody_ok (vin_ok TSU_47_ok annTSU 3) TSU_47_ok.looks _ _).ofF fun args m p R h hp => by
 unfold F_impl_board_moved at h
 split at h
 ·injection h with h; injection h with h1 h2; subst h1; subst h2
  exact ⟨rfl, (congrArg At (eq_impl_board_moved _ _ _ _ _ _ _ _ _)).mp ⟨vc_impl_board_moved _ _ _ _ _ _ _ _ hp⟩⟩
 ·cases h
def TSU_48 : Tab := TSU_47.add 109 F_impl_board_moved
theorem TSU_48_ok : TSU_48.Ok Tryd.prog := TSU_47_ok.add ok_impl_board_moved
theorem eq_spec_taGo (k : Int) (s : Int) (i : Int) (n : Nat) (c : List Sc) (w : Int) (h : Int) (u : List UInt8) (x : Int) (y : Int) (d : Int) (q : Int) (K : V -> List Blk -> Prop) : VC_spec_taGo k s i n c w h u x y d q K = vbody Tryd.prog (vin Tryd.prog TSU_48 annTSU 3) TSU_48.looks (annTSU 66) 66 [.ptr 0 0, .int .i64 k] [⟨.vals [.int .i64 s, .int .i64 i, .row 1 n, .int .i64 w, .int .i64 h, .str u, .int .i64 x, .int .i64 y, .int .i64 d, .int .i64 q], 33, .box⟩, ⟨.recs [.int .i64, .str, .int .i64] c, 96, .rows 3⟩] (K) := by kernel_rfl
theorem ok_spec_taGo : OK Tryd.prog 66 F_spec_taGo.spec := (vbody_ok (vin_ok TSU_48_ok annTSU 3) TSU_48_ok.looks _ _).ofG fun args m p R M h hp => by
 unfold F_spec_taGo at h
 split at h
 ·injection h with h; injection h with h1 h2; injection h2 with h2 h3; subst h1; subst h2; subst h3
  exact (congrArg At (eq_spec_taGo _ _ _ _ _ _ _ _ _ _ _ _ _)).mp ⟨vc_spec_taGo _ _ _ _ _ _ _ _ _ _ _ _ hp⟩
 ·cases h
def TSU_49 : Tab := TSU_48.addG 66 F_spec_taGo
theorem TSU_49_ok : TSU_49.Ok Tryd.prog := TSU_48_ok.addG ok_spec_taGo
theorem eq_spec_taPaint (k : Int) (s : Int) (i : Int) (n : Nat) (c : List Sc) (w : Int) (h : Int) (u : List UInt8) (x : Int) (y : Int) (d : Int) (q : Int) (K : V -> List Blk -> Prop) : VC_spec_taPaint k s i n c w h u x y d q K = vbody Tryd.prog (vin Tryd.prog TSU_49 annTSU 3) TSU_49.looks (annTSU 69) 69 [.ptr 0 0, .int .i64 k] [⟨.vals [.int .i64 s, .int .i64 i, .row 1 n, .int .i64 w, .int .i64 h, .str u, .int .i64 x, .int .i64 y, .int .i64 d, .int .i64 q], 33, .box⟩, ⟨.recs [.int .i64, .str, .int .i64] c, 96, .rows 3⟩] (K) := by kernel_rfl
theorem ok_spec_taPaint : OK Tryd.prog 69 F_spec_taPaint.spec := (vbody_ok (vin_ok TSU_49_ok annTSU 3) TSU_49_ok.looks _ _).ofG fun args m p R M h hp => by
 unfold F_spec_taPaint at h
 split at h
 ·injection h with h; injection h with h1 h2; injection h2 with h2 h3; subst h1; subst h2; subst h3
  exact (congrArg At (eq_spec_taPaint _ _ _ _ _ _ _ _ _ _ _ _ _)).mp ⟨vc_spec_taPaint _ _ _ _ _ _ _ _ _ _ _ _ hp⟩
 ·cases h
def TSU_50 : Tab := TSU_49.addG 69 F_spec_taPaint
theorem TSU_50_ok : TSU_50.Ok Tryd.prog := TSU_49_ok.addG ok_spec_taPaint
theorem eq_spec_taOwn  (s : Int) (i : Int) (n : Nat) (c : List Sc) (w : Int) (h : Int) (u : List UInt8) (x : Int) (y : Int) (d : Int) (q : Int) (K : V -> List Blk -> Prop) : VC_spec_taOwn  s i n c w h u x y d q K = vbody Tryd.prog (vin Tryd.prog TSU_50 annTSU 3) TSU_50.looks (annTSU 59) 59 [.agg [.int .i64 s, .int .i64 i, .row 0 n, .int .i64 w, .int .i64 h, .str u, .int .i64 x, .int .i64 y, .int .i64 d, .int .i64 q]] [⟨.recs [.int .i64, .str, .int .i64] c, 96, .rows 3⟩] (K) := by kernel_rfl
theorem ok_spec_taOwn : OK Tryd.prog 59 F_spec_taOwn.spec := (vbody_ok (vin_ok TSU_50_ok annTSU 3) TSU_50_ok.looks _ _).ofG fun args m p R M h hp => by
 unfold F_spec_taOwn at h
 split at h
 ·injection h with h; injection h with h1 h2; injection h2 with h2 h3; subst h1; subst h2; subst h3
  exact (congrArg At (eq_spec_taOwn _ _ _ _ _ _ _ _ _ _ _ _)).mp ⟨vc_spec_taOwn _ _ _ _ _ _ _ _ _ _ _ hp⟩
 ·cases h
def TSU_51 : Tab := TSU_50.addG 59 F_spec_taOwn
theorem TSU_51_ok : TSU_51.Ok Tryd.prog := TSU_50_ok.addG ok_spec_taOwn
theorem eq_impl_rowAt (q : Int) (k : Int) (s : Int) (i : Int) (n : Nat) (c : List Sc) (K : V -> List Blk -> Prop) : VC_impl_rowAt q k s i n c K = vbody Tryd.prog (vin Tryd.prog TSU_51 annTSU 3) TSU_51.looks (annTSU 79) 79 [.agg [.int .i64 s, .int .i64 i, .row 0 n], .int .i64 q, .int .i64 k] [⟨.recs [.int .i64, .str, .int .i64] c, 96, .rows 3⟩] (K) := by kernel_rfl
theorem ok_impl_rowAt : OK Tryd.prog 79 F_impl_rowAt.spec := (vbody_ok (vin_ok TSU_51_ok annTSU 3) TSU_51_ok.looks _ _).ofFM fun args m p R h hp => by
 unfold F_impl_rowAt at h
 split at h
 ·injection h with h; injection h with h1 h2; subst h1; subst h2
  exact (congrArg At (eq_impl_rowAt _ _ _ _ _ _ _)).mp ⟨vc_impl_rowAt _ _ _ _ _ _ hp⟩
 ·cases h
def TSU_52 : Tab := TSU_51.add 79 F_impl_rowAt
theorem TSU_52_ok : TSU_52.Ok Tryd.prog := TSU_51_ok.add ok_impl_rowAt
theorem eq_impl_actor_scene  (w : Int) (h : Int) (u : List UInt8) (x : Int) (y : Int) (d : Int) (q : Int) (s : Int) (i : Int) (n : Nat) (c : List Sc) (K : V -> List Blk -> Prop) : VC_impl_actor_scene  w h u x y d q s i n c K = vbody Tryd.prog (vin Tryd.prog TSU_52 annTSU 3) TSU_52.looks (annTSU 105) 105 [.agg [.str [], .int .i64 w, .int .i64 h, .str u, .int .i64 x, .int .i64 y, .int .i64 d, .int .i64 q], .agg [.int .i64 s, .int .i64 i, .row 0 n]] [⟨.recs [.int .i64, .str, .int .i64] c, 96, .rows 3⟩] (K) := by kernel_rfl
theorem ok_impl_actor_scene : OK Tryd.prog 105 F_impl_actor_scene.spec := (vbody_ok (vin_ok TSU_52_ok annTSU 3) TSU_52_ok.looks _ _).ofG fun args m p R M h hp => by
 unfold F_impl_actor_scene at h
 split at h
 ·injection h with h; injection h with h1 h2; injection h2 with h2 h3; subst h1; subst h2; subst h3
  exact (congrArg At (eq_impl_actor_scene _ _ _ _ _ _ _ _ _ _ _ _)).mp ⟨vc_impl_actor_scene _ _ _ _ _ _ _ _ _ _ _ hp⟩
 ·cases h
def TSU_53 : Tab := TSU_52.addG 105 F_impl_actor_scene
theorem TSU_53_ok : TSU_53.Ok Tryd.prog := TSU_52_ok.addG ok_impl_actor_scene
theorem eq_spec_taUndo  (s : Int) (i : Int) (n : Nat) (c : List Sc) (K : V -> List Blk -> Prop) : VC_spec_taUndo  s i n c K = vbody Tryd.prog (vin Tryd.prog TSU_53 annTSU 3) TSU_53.looks (annTSU 65) 65 [.agg [.int .i64 s, .int .i64 i, .row 0 n]] [⟨.recs [.int .i64, .str, .int .i64] c, 96, .rows 3⟩] (K) := by kernel_rfl
theorem ok_spec_taUndo : OK Tryd.prog 65 F_spec_taUndo.spec := (vbody_ok (vin_ok TSU_53_ok annTSU 3) TSU_53_ok.looks _ _).ofFM fun args m p R h hp => by
 unfold F_spec_taUndo at h
 split at h
 ·injection h with h; injection h with h1 h2; subst h1; subst h2
  exact (congrArg At (eq_spec_taUndo _ _ _ _ _)).mp ⟨vc_spec_taUndo _ _ _ _ hp⟩
 ·cases h
def TSU_54 : Tab := TSU_53.add 65 F_spec_taUndo
theorem TSU_54_ok : TSU_54.Ok Tryd.prog := TSU_53_ok.add ok_spec_taUndo
theorem eq_impl_outcomeOf (ra : Int) (rt : List UInt8) (rb : Int) (K : V -> Prop) : VC_impl_outcomeOf ra rt rb K = vbody Tryd.prog (vin Tryd.prog TSU_54 annTSU 3) TSU_54.looks (annTSU 112) 112 [.agg [.int .i64 ra, .str rt, .int .i64 rb]] [] (fun v _ => K v) := by kernel_rfl
theorem ok_impl_outcomeOf : OK Tryd.prog 112 F_impl_outcomeOf.spec := (vbody_ok (vin_ok TSU_54_ok annTSU 3) TSU_54_ok.looks _ _).ofF fun args m p R h hp => by
 unfold F_impl_outcomeOf at h
 split at h
 ·injection h with h; injection h with h1 h2; subst h1; subst h2
  exact ⟨rfl, (congrArg At (eq_impl_outcomeOf _ _ _ _)).mp ⟨vc_impl_outcomeOf _ _ _ hp⟩⟩
 ·cases h
def TSU_55 : Tab := TSU_54.add 112 F_impl_outcomeOf
theorem TSU_55_ok : TSU_55.Ok Tryd.prog := TSU_54_ok.add ok_impl_outcomeOf
theorem eq_impl_outcome  (n : Nat) (c : List Sc) (p : Int) (q : Int) (K : V -> List Blk -> Prop) : VC_impl_outcome  n c p q K = vbody Tryd.prog (vin Tryd.prog TSU_55 annTSU 3) TSU_55.looks (annTSU 111) 111 [.row 0 n, .fn 112 [], .agg [.int .i64 p, .int .i64 q]] [⟨.recs [.int .i64, .str, .int .i64] c, 96, .rows 3⟩] (K) := by kernel_rfl
theorem ok_impl_outcome : OK Tryd.prog 111 F_impl_outcome.spec := (vbody_ok (vin_ok TSU_55_ok annTSU 3) TSU_55_ok.looks _ _).ofFM fun args m p R h hp => by
 unfold F_impl_outcome at h
 split at h
 ·injection h with h; injection h with h1 h2; subst h1; subst h2
  exact (congrArg At (eq_impl_outcome _ _ _ _ _)).mp ⟨vc_impl_outcome _ _ _ _ hp⟩
 ·cases h
def TSU_56 : Tab := TSU_55.add 111 F_impl_outcome
theorem TSU_56_ok : TSU_56.Ok Tryd.prog := TSU_55_ok.add ok_impl_outcome
theorem eq_impl_CanUndo  (s : Int) (i : Int) (n : Nat) (c : List Sc) (g0 : List UInt8) (g1 : List UInt8) (g2 : List UInt8) (g3 : List UInt8) (K : V -> List Blk -> Prop) : VC_impl_CanUndo  s i n c g0 g1 g2 g3 K = vbody Tryd.prog (vin Tryd.prog TSU_56 annTSU 3) TSU_56.looks (annTSU 70) 70 [.agg [.int .i64 s, .int .i64 i, .row 0 n]] [⟨.recs [.int .i64, .str, .int .i64] c, 96, .rows 3⟩, ⟨.vals [.str g0, .str g1, .str g2, .str g3], 9, .gl 0⟩] (K) := by kernel_rfl
theorem ok_impl_CanUndo : OK Tryd.prog 70 F_impl_CanUndo.spec := (vbody_ok (vin_ok TSU_56_ok annTSU 3) TSU_56_ok.looks _ _).ofFM fun args m p R h hp => by
 unfold F_impl_CanUndo at h
 split at h
 ·injection h with h; injection h with h1 h2; subst h1; subst h2
  exact (congrArg At (eq_impl_CanUndo _ _ _ _ _ _ _ _ _)).mp ⟨vc_impl_CanUndo _ _ _ _ _ _ _ _ hp⟩
 ·cases h
def TSU_57 : Tab := TSU_56.add 70 F_impl_CanUndo
theorem TSU_57_ok : TSU_57.Ok Tryd.prog := TSU_56_ok.add ok_impl_CanUndo
theorem eq_impl_actor_goBack  (w : Int) (h : Int) (u : List UInt8) (x : Int) (y : Int) (d : Int) (q : Int) (s : Int) (i : Int) (n : Nat) (c : List Sc) (g0 : List UInt8) (g1 : List UInt8) (g2 : List UInt8) (g3 : List UInt8) (K : V -> List Blk -> Prop) : VC_impl_actor_goBack  w h u x y d q s i n c g0 g1 g2 g3 K = vbody Tryd.prog (vin Tryd.prog TSU_57 annTSU 3) TSU_57.looks (annTSU 71) 71 [.agg [.str [], .int .i64 w, .int .i64 h, .str u, .int .i64 x, .int .i64 y, .int .i64 d, .int .i64 q], .agg [.int .i64 s, .int .i64 i, .row 0 n]] [⟨.recs [.int .i64, .str, .int .i64] c, 96, .rows 3⟩, ⟨.vals [.str g0, .str g1, .str g2, .str g3], 9, .gl 0⟩] (K) := by kernel_rfl
theorem ok_impl_actor_goBack : OK Tryd.prog 71 F_impl_actor_goBack.spec := (vbody_ok (vin_ok TSU_57_ok annTSU 3) TSU_57_ok.looks _ _).ofFM fun args m p R h hp => by
 unfold F_impl_actor_goBack at h
 split at h
 ·injection h with h; injection h with h1 h2; subst h1; subst h2
  exact (congrArg At (eq_impl_actor_goBack _ _ _ _ _ _ _ _ _ _ _ _ _ _ _ _)).mp ⟨vc_impl_actor_goBack _ _ _ _ _ _ _ _ _ _ _ _ _ _ _ hp⟩
 ·cases h
def TSU_58 : Tab := TSU_57.add 71 F_impl_actor_goBack
theorem TSU_58_ok : TSU_58.Ok Tryd.prog := TSU_57_ok.add ok_impl_actor_goBack
theorem eq_spec_UndoScene  (s : Int) (i : Int) (n : Nat) (c : List Sc) (w : Int) (h : Int) (u : List UInt8) (x : Int) (y : Int) (d : Int) (q : Int) (K : V -> List Blk -> Prop) : VC_spec_UndoScene  s i n c w h u x y d q K = vbody Tryd.prog (vin Tryd.prog TSU_58 annTSU 3) TSU_58.looks (annTSU 24) 24 [.agg [.int .i64 s, .int .i64 i, .row 0 n, .int .i64 w, .int .i64 h, .str u, .int .i64 x, .int .i64 y, .int .i64 d, .int .i64 q]] [⟨.recs [.int .i64, .str, .int .i64] c, 96, .rows 3⟩] (K) := by kernel_rfl
theorem ok_spec_UndoScene : OK Tryd.prog 24 F_spec_UndoScene.spec := (vbody_ok (vin_ok TSU_58_ok annTSU 3) TSU_58_ok.looks _ _).ofG fun args m p R M h hp => by
 unfold F_spec_UndoScene at h
 split at h
 ·injection h with h; injection h with h1 h2; injection h2 with h2 h3; subst h1; subst h2; subst h3
  exact (congrArg At (eq_spec_UndoScene _ _ _ _ _ _ _ _ _ _ _ _)).mp ⟨vc_spec_UndoScene _ _ _ _ _ _ _ _ _ _ _ hp⟩
 ·cases h
def TSU_59 : Tab := TSU_58.addG 24 F_spec_UndoScene
theorem TSU_59_ok : TSU_59.Ok Tryd.prog := TSU_58_ok.addG ok_spec_UndoScene
theorem eq_impl_UndoScene  (s : Int) (i : Int) (n : Nat) (c : List Sc) (w : Int) (h : Int) (u : List UInt8) (x : Int) (y : Int) (d : Int) (q : Int) (g0 : List UInt8) (g1 : List UInt8) (g2 : List UInt8) (g3 : List UInt8) (K : V -> List Blk -> Prop) : VC_impl_UndoScene  s i n c w h u x y d q g0 g1 g2 g3 K = vbody Tryd.prog (vin Tryd.prog TSU_59 annTSU 3) TSU_59.looks (annTSU 25) 25 [.agg [.int .i64 s, .int .i64 i, .row 0 n, .int .i64 w, .int .i64 h, .str u, .int .i64 x, .int .i64 y, .int .i64 d, .int .i64 q]] [⟨.recs [.int .i64, .str, .int .i64] c, 96, .rows 3⟩, ⟨.vals [.str g0, .str g1, .str g2, .str g3], 9, .gl 0⟩] (K) := by kernel_rfl
theorem ok_impl_UndoScene : OK Tryd.prog 25 F_impl_UndoScene.spec := (vbody_ok (vin_ok TSU_59_ok annTSU 3) TSU_59_ok.looks _ _).ofG fun args m p R M h hp => by
 unfold F_impl_UndoScene at h
 split at h
 ·injection h with h; injection h with h1 h2; injection h2 with h2 h3; subst h1; subst h2; subst h3
  exact (congrArg At (eq_impl_UndoScene _ _ _ _ _ _ _ _ _ _ _ _ _ _ _ _)).mp ⟨vc_impl_UndoScene _ _ _ _ _ _ _ _ _ _ _ _ _ _ _ hp⟩
 ·cases h
def TSU_60 : Tab := TSU_59.addG 25 F_impl_UndoScene
theorem TSU_60_ok : TSU_60.Ok Tryd.prog := TSU_59_ok.addG ok_impl_UndoScene
def TSU : Tab := TSU_60
theorem TSU_ok : TSU.Ok Tryd.prog := TSU_60_ok
end Go.Proofs.YtpkokghbkamelaaDoor
