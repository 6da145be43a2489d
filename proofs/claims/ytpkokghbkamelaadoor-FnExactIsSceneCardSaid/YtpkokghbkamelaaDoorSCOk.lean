/- The contracts of this chapter. -/
import Derived.Test.YtpkokghbkamelaaDoorProg
import Derived.Test.YtpkokghbkamelaaDoorSCPf
import Derived.KernelRfl
namespace Go.Proofs.YtpkokghbkamelaaDoor
open Go Go.Vi
set_option linter.unusedVariables false
def annTSC : FuncId -> Nat -> St -> Option Ann := fun f => if f = 142 then ann_spec_woRule else if f = 104 then ann_impl_quartersOfTurn else if f = 74 then ann_laws_szRowS else if f = 78 then ann_laws_toRowS else if f = 82 then ann_laws_eqRowS else if f = 75 then ann_spec_taGood else if f = 52 then ann_impl_IsTable else if f = 123 then ann_laws_markText else if f = 83 then ann_laws_markRowS else if f = 87 then ann_laws_heldRowS else if f = 58 then ann_impl_areColours else if f = 51 then ann_spec_taScene else if f = 16 then ann_impl_IsScene else (fun _ _ => none)
def TSC_0 : Tab := Tab.none
theorem TSC_0_ok : TSC_0.Ok Tryd.prog := Tab.none_ok
theorem eq_spec_l1In (n : Int) (lo : Int) (hi : Int) (K : V -> Prop) : VC_spec_l1In n lo hi K = vbody Tryd.prog (vin Tryd.prog TSC_0 annTSC 3) TSC_0.looks (annTSC 102) 102 [.int .i64 n, .int .i64 lo, .int .i64 hi] [] (fun v _ => K v) := by kernel_rfl
theorem ok_spec_l1In : OK Tryd.prog 102 F_spec_l1In.spec := (vbody_ok (vin_ok TSC_0_ok annTSC 3) TSC_0_ok.looks _ _).ofF fun args m p R h hp => by
 unfold F_spec_l1In at h
 split at h
 ·injection h with h; injection h with h1 h2; subst h1; subst h2
  exact ⟨rfl, (congrArg At (eq_spec_l1In _ _ _ _)).mp ⟨vc_spec_l1In _ _ _ hp⟩⟩
 ·cases h
def TSC_1 : Tab := TSC_0.add 102 F_spec_l1In
theorem TSC_1_ok : TSC_1.Ok Tryd.prog := TSC_0_ok.add ok_spec_l1In
theorem eq_impl_within (n : Int) (lo : Int) (hi : Int) (K : V -> Prop) : VC_impl_within n lo hi K = vbody Tryd.prog (vin Tryd.prog TSC_1 annTSC 3) TSC_1.looks (annTSC 57) 57 [.int .i64 n, .int .i64 lo, .int .i64 hi] [] (fun v _ => K v) := by kernel_rfl
theorem ok_impl_within : OK Tryd.prog 57 F_impl_within.spec := (vbody_ok (vin_ok TSC_1_ok annTSC 3) TSC_1_ok.looks _ _).ofF fun args m p R h hp => by
 unfold F_impl_within at h
 split at h
 ·injection h with h; injection h with h1 h2; subst h1; subst h2
  exact ⟨rfl, (congrArg At (eq_impl_within _ _ _ _)).mp ⟨vc_impl_within _ _ _ hp⟩⟩
 ·cases h
def TSC_2 : Tab := TSC_1.add 57 F_impl_within
theorem TSC_2_ok : TSC_2.Ok Tryd.prog := TSC_1_ok.add ok_impl_within
theorem eq_spec_woRule (s : List UInt8) (K : V -> Prop) : VC_spec_woRule s K = vbody Tryd.prog (vin Tryd.prog TSC_2 annTSC 3) TSC_2.looks (annTSC 142) 142 [.str s] [] (fun v _ => K v) := by kernel_rfl
theorem ok_spec_woRule : OK Tryd.prog 142 F_spec_woRule.spec := (vbody_ok (vin_ok TSC_2_ok annTSC 3) TSC_2_ok.looks _ _).ofF fun args m p R h hp => by
 unfold F_spec_woRule at h
 split at h
 ·injection h with h; injection h with h1 h2; subst h1; subst h2
  exact ⟨rfl, (congrArg At (eq_spec_woRule _ _)).mp ⟨vc_spec_woRule _ hp⟩⟩
 ·cases h
def TSC_3 : Tab := TSC_2.add 142 F_spec_woRule
theorem TSC_3_ok : TSC_3.Ok Tryd.prog := TSC_2_ok.add ok_spec_woRule
theorem eq_spec_taSign (s : List UInt8) (K : V -> Prop) : VC_spec_taSign s K = vbody Tryd.prog (vin Tryd.prog TSC_3 annTSC 3) TSC_3.looks (annTSC 117) 117 [.str s] [] (fun v _ => K v) := by kernel_rfl
theorem ok_spec_taSign : OK Tryd.prog 117 F_spec_taSign.spec := (vbody_ok (vin_ok TSC_3_ok annTSC 3) TSC_3_ok.looks _ _).ofF fun args m p R h hp => by
 unfold F_spec_taSign at h
 split at h
 ·injection h with h; injection h with h1 h2; subst h1; subst h2
  exact ⟨rfl, (congrArg At (eq_spec_taSign _ _)).mp ⟨vc_spec_taSign _ hp⟩⟩
 ·cases h
def TSC_4 : Tab := TSC_3.add 117 F_spec_taSign
theorem TSC_4_ok : TSC_4.Ok Tryd.prog := TSC_3_ok.add ok_spec_taSign
theorem eq_impl_quartersOfTurn (s : List UInt8) (g0 : List UInt8) (g1 : List UInt8) (g2 : List UInt8) (g3 : List UInt8) (K : V -> List Blk -> Prop) : VC_impl_quartersOfTurn s g0 g1 g2 g3 K = vbody Tryd.prog (vin Tryd.prog TSC_4 annTSC 3) TSC_4.looks (annTSC 104) 104 [.str s] [⟨.vals [.str g0, .str g1, .str g2, .str g3], 9, .gl 0⟩] (K) := by kernel_rfl
theorem ok_impl_quartersOfTurn : OK Tryd.prog 104 F_impl_quartersOfTurn.spec := (vbody_ok (vin_ok TSC_4_ok annTSC 3) TSC_4_ok.looks _ _).ofFM fun args m p R h hp => by
 unfold F_impl_quartersOfTurn at h
 split at h
 ·injection h with h; injection h with h1 h2; subst h1; subst h2
  exact (congrArg At (eq_impl_quartersOfTurn _ _ _ _ _ _)).mp ⟨vc_impl_quartersOfTurn _ _ _ _ _ hp⟩
 ·cases h
def TSC_5 : Tab := TSC_4.add 104 F_impl_quartersOfTurn
theorem TSC_5_ok : TSC_5.Ok Tryd.prog := TSC_4_ok.add ok_impl_quartersOfTurn
theorem eq_laws_szRow (ra : Int) (rt : List UInt8) (rb : Int) (left : Int) (K : V -> Prop) : VC_laws_szRow ra rt rb left K = vbody Tryd.prog (vin Tryd.prog TSC_5 annTSC 3) TSC_5.looks (annTSC 116) 116 [.agg [.int .i64 ra, .str rt, .int .i64 rb], .int .i64 left] [] (fun v _ => K v) := by kernel_rfl
theorem ok_laws_szRow : OK Tryd.prog 116 F_laws_szRow.spec := (vbody_ok (vin_ok TSC_5_ok annTSC 3) TSC_5_ok.looks _ _).ofF fun args m p R h hp => by
 unfold F_laws_szRow at h
 split at h
 ·injection h with h; injection h with h1 h2; subst h1; subst h2
  exact ⟨rfl, (congrArg At (eq_laws_szRow _ _ _ _ _)).mp ⟨vc_laws_szRow _ _ _ _ hp⟩⟩
 ·cases h
def TSC_6 : Tab := TSC_5.add 116 F_laws_szRow
theorem TSC_6_ok : TSC_6.Ok Tryd.prog := TSC_5_ok.add ok_laws_szRow
theorem eq_laws_szRowS (left : Int) (n : Nat) (c : List Sc) (K : V -> List Blk -> Prop) : VC_laws_szRowS left n c K = vbody Tryd.prog (vin Tryd.prog TSC_6 annTSC 3) TSC_6.looks (annTSC 74) 74 [.row 0 n, .int .i64 left] [⟨.recs [.int .i64, .str, .int .i64] c, 139, .arg 3⟩] (K) := by kernel_rfl
theorem ok_laws_szRowS : OK Tryd.prog 74 F_laws_szRowS.spec := (vbody_ok (vin_ok TSC_6_ok annTSC 3) TSC_6_ok.looks _ _).ofFM fun args m p R h hp => by
 unfold F_laws_szRowS at h
 split at h
 ·injection h with h; injection h with h1 h2; subst h1; subst h2
  exact (congrArg At (eq_laws_szRowS _ _ _ _)).mp ⟨vc_laws_szRowS _ _ _ hp⟩
 ·cases h
def TSC_7 : Tab := TSC_6.add 74 F_laws_szRowS
theorem TSC_7_ok : TSC_7.Ok Tryd.prog := TSC_6_ok.add ok_laws_szRowS
theorem eq_laws_szTable (left : Int) (s : Int) (i : Int) (n : Nat) (c : List Sc) (K : V -> List Blk -> Prop) : VC_laws_szTable left s i n c K = vbody Tryd.prog (vin Tryd.prog TSC_7 annTSC 3) TSC_7.looks (annTSC 30) 30 [.agg [.int .i64 s, .int .i64 i, .row 0 n], .int .i64 left] [⟨.recs [.int .i64, .str, .int .i64] c, 139, .arg 3⟩] (K) := by kernel_rfl
theorem ok_laws_szTable : OK Tryd.prog 30 F_laws_szTable.spec := (vbody_ok (vin_ok TSC_7_ok annTSC 3) TSC_7_ok.looks _ _).ofFM fun args m p R h hp => by
 unfold F_laws_szTable at h
 split at h
 ·injection h with h; injection h with h1 h2; subst h1; subst h2
  exact (congrArg At (eq_laws_szTable _ _ _ _ _ _)).mp ⟨vc_laws_szTable _ _ _ _ _ hp⟩
 ·cases h
def TSC_8 : Tab := TSC_7.add 30 F_laws_szTable
theorem TSC_8_ok : TSC_8.Ok Tryd.prog := TSC_7_ok.add ok_laws_szTable
theorem eq_laws_toRow (ra : Int) (rt : List UInt8) (rb : Int) (K : V -> Prop) : VC_laws_toRow ra rt rb K = vbody Tryd.prog (vin Tryd.prog TSC_8 annTSC 3) TSC_8.looks (annTSC 118) 118 [.agg [.int .i64 ra, .str rt, .int .i64 rb]] [] (fun v _ => K v) := by kernel_rfl
theorem ok_laws_toRow : OK Tryd.prog 118 F_laws_toRow.spec := (vbody_ok (vin_ok TSC_8_ok annTSC 3) TSC_8_ok.looks _ _).ofF fun args m p R h hp => by
 unfold F_laws_toRow at h
 split at h
 ·injection h with h; injection h with h1 h2; subst h1; subst h2
  exact ⟨rfl, (congrArg At (eq_laws_toRow _ _ _ _)).mp ⟨vc_laws_toRow _ _ _ hp⟩⟩
 ·cases h
def TSC_9 : Tab := TSC_8.add 118 F_laws_toRow
theorem TSC_9_ok : TSC_9.Ok Tryd.prog := TSC_8_ok.add ok_laws_toRow
theorem eq_laws_toRowS  (n : Nat) (c : List Sc) (K : V -> List Blk -> Prop) : VC_laws_toRowS  n c K = vbody Tryd.prog (vin Tryd.prog TSC_9 annTSC 3) TSC_9.looks (annTSC 78) 78 [.row 0 n] [⟨.recs [.int .i64, .str, .int .i64] c, 139, .arg 3⟩] (K) := by kernel_rfl
theorem ok_laws_toRowS : OK Tryd.prog 78 F_laws_toRowS.spec := (vbody_ok (vin_ok TSC_9_ok annTSC 3) TSC_9_ok.looks _ _).ofG fun args m p R M h hp => by
 unfold F_laws_toRowS at h
 split at h
 ·injection h with h; injection h with h1 h2; injection h2 with h2 h3; subst h1; subst h2; subst h3
  exact (congrArg At (eq_laws_toRowS _ _ _)).mp ⟨vc_laws_toRowS _ _ hp⟩
 ·cases h
def TSC_10 : Tab := TSC_9.addG 78 F_laws_toRowS
theorem TSC_10_ok : TSC_10.Ok Tryd.prog := TSC_9_ok.addG ok_laws_toRowS
theorem eq_laws_toTable  (s : Int) (i : Int) (n : Nat) (c : List Sc) (K : V -> List Blk -> Prop) : VC_laws_toTable  s i n c K = vbody Tryd.prog (vin Tryd.prog TSC_10 annTSC 3) TSC_10.looks (annTSC 32) 32 [.agg [.int .i64 s, .int .i64 i, .row 0 n]] [⟨.recs [.int .i64, .str, .int .i64] c, 139, .arg 3⟩] (K) := by kernel_rfl
theorem ok_laws_toTable : OK Tryd.prog 32 F_laws_toTable.spec := (vbody_ok (vin_ok TSC_10_ok annTSC 3) TSC_10_ok.looks _ _).ofG fun args m p R M h hp => by
 unfold F_laws_toTable at h
 split at h
 ·injection h with h; injection h with h1 h2; injection h2 with h2 h3; subst h1; subst h2; subst h3
  exact (congrArg At (eq_laws_toTable _ _ _ _ _)).mp ⟨vc_laws_toTable _ _ _ _ hp⟩
 ·cases h
def TSC_11 : Tab := TSC_10.addG 32 F_laws_toTable
theorem TSC_11_ok : TSC_11.Ok Tryd.prog := TSC_10_ok.addG ok_laws_toTable
theorem eq_laws_eqRow (ra : Int) (rt : List UInt8) (rb : Int) (qa : Int) (qt : List UInt8) (qb : Int) (K : V -> Prop) : VC_laws_eqRow ra rt rb qa qt qb K = vbody Tryd.prog (vin Tryd.prog TSC_11 annTSC 3) TSC_11.looks (annTSC 122) 122 [.agg [.int .i64 ra, .str rt, .int .i64 rb], .agg [.int .i64 qa, .str qt, .int .i64 qb]] [] (fun v _ => K v) := by kernel_rfl
theorem ok_laws_eqRow : OK Tryd.prog 122 F_laws_eqRow.spec := (vbody_ok (vin_ok TSC_11_ok annTSC 3) TSC_11_ok.looks _ _).ofF fun args m p R h hp => by
 unfold F_laws_eqRow at h
 split at h
 ·injection h with h; injection h with h1 h2; subst h1; subst h2
  exact ⟨rfl, (congrArg At (eq_laws_eqRow _ _ _ _ _ _ _)).mp ⟨vc_laws_eqRow _ _ _ _ _ _ hp⟩⟩
 ·cases h
def TSC_12 : Tab := TSC_11.add 122 F_laws_eqRow
theorem TSC_12_ok : TSC_12.Ok Tryd.prog := TSC_11_ok.add ok_laws_eqRow
theorem eq_laws_eqRowS  (n : Nat) (m : Nat) (c : List Sc) (d : List Sc) (K : V -> List Blk -> Prop) : VC_laws_eqRowS  n m c d K = vbody Tryd.prog (vin Tryd.prog TSC_12 annTSC 3) TSC_12.looks (annTSC 82) 82 [.row 0 n, .row 1 m] [⟨.recs [.int .i64, .str, .int .i64] c, 96, .rows 3⟩, ⟨.recs [.int .i64, .str, .int .i64] d, 96, .rows 3⟩] (K) := by kernel_rfl
theorem ok_laws_eqRowS : OK Tryd.prog 82 F_laws_eqRowS.spec := (vbody_ok (vin_ok TSC_12_ok annTSC 3) TSC_12_ok.looks _ _).ofFM fun args m p R h hp => by
 unfold F_laws_eqRowS at h
 split at h
 ·injection h with h; injection h with h1 h2; subst h1; subst h2
  exact (congrArg At (eq_laws_eqRowS _ _ _ _ _)).mp ⟨vc_laws_eqRowS _ _ _ _ hp⟩
 ·cases h
def TSC_13 : Tab := TSC_12.add 82 F_laws_eqRowS
theorem TSC_13_ok : TSC_13.Ok Tryd.prog := TSC_12_ok.add ok_laws_eqRowS
theorem eq_laws_eqTable  (s : Int) (i : Int) (n : Nat) (c : List Sc) (p : Int) (q : Int) (m : Nat) (d : List Sc) (K : V -> List Blk -> Prop) : VC_laws_eqTable  s i n c p q m d K = vbody Tryd.prog (vin Tryd.prog TSC_13 annTSC 3) TSC_13.looks (annTSC 35) 35 [.agg [.int .i64 s, .int .i64 i, .row 0 n], .agg [.int .i64 p, .int .i64 q, .row 1 m]] [⟨.recs [.int .i64, .str, .int .i64] c, 96, .rows 3⟩, ⟨.recs [.int .i64, .str, .int .i64] d, 96, .rows 3⟩] (K) := by kernel_rfl
theorem ok_laws_eqTable : OK Tryd.prog 35 F_laws_eqTable.spec := (vbody_ok (vin_ok TSC_13_ok annTSC 3) TSC_13_ok.looks _ _).ofFM fun args m p R h hp => by
 unfold F_laws_eqTable at h
 split at h
 ·injection h with h; injection h with h1 h2; subst h1; subst h2
  exact (congrArg At (eq_laws_eqTable _ _ _ _ _ _ _ _ _)).mp ⟨vc_laws_eqTable _ _ _ _ _ _ _ _ hp⟩
 ·cases h
def TSC_14 : Tab := TSC_13.add 35 F_laws_eqTable
theorem TSC_14_ok : TSC_14.Ok Tryd.prog := TSC_13_ok.add ok_laws_eqTable
theorem eq_spec_taGood  (s : Int) (i : Int) (n : Nat) (c : List Sc) (K : V -> List Blk -> Prop) : VC_spec_taGood  s i n c K = vbody Tryd.prog (vin Tryd.prog TSC_14 annTSC 3) TSC_14.looks (annTSC 75) 75 [.agg [.int .i64 s, .int .i64 i, .row 0 n]] [⟨.recs [.int .i64, .str, .int .i64] c, 96, .rows 3⟩] (K) := by kernel_rfl
theorem ok_spec_taGood : OK Tryd.prog 75 F_spec_taGood.spec := (vbody_ok (vin_ok TSC_14_ok annTSC 3) TSC_14_ok.looks _ _).ofFM fun args m p R h hp => by
 unfold F_spec_taGood at h
 split at h
 ·injection h with h; injection h with h1 h2; subst h1; subst h2
  exact (congrArg At (eq_spec_taGood _ _ _ _ _)).mp ⟨vc_spec_taGood _ _ _ _ hp⟩
 ·cases h
def TSC_15 : Tab := TSC_14.add 75 F_spec_taGood
theorem TSC_15_ok : TSC_15.Ok Tryd.prog := TSC_14_ok.add ok_spec_taGood
theorem eq_impl_isTableSize (a : Int) (b : Int) (K : V -> Prop) : VC_impl_isTableSize a b K = vbody Tryd.prog (vin Tryd.prog TSC_15 annTSC 3) TSC_15.looks (annTSC 103) 103 [.int .i64 a, .int .i64 b] [] (fun v _ => K v) := by kernel_rfl
theorem ok_impl_isTableSize : OK Tryd.prog 103 F_impl_isTableSize.spec := (vbody_ok (vin_ok TSC_15_ok annTSC 3) TSC_15_ok.looks _ _).ofF fun args m p R h hp => by
 unfold F_impl_isTableSize at h
 split at h
 ·injection h with h; injection h with h1 h2; subst h1; subst h2
  exact ⟨rfl, (congrArg At (eq_impl_isTableSize _ _ _)).mp ⟨vc_impl_isTableSize _ _ hp⟩⟩
 ·cases h
def TSC_16 : Tab := TSC_15.add 103 F_impl_isTableSize
theorem TSC_16_ok : TSC_16.Ok Tryd.prog := TSC_15_ok.add ok_impl_isTableSize
theorem eq_impl_IsTable  (s : Int) (i : Int) (n : Nat) (c : List Sc) (g0 : List UInt8) (g1 : List UInt8) (g2 : List UInt8) (g3 : List UInt8) (K : V -> List Blk -> Prop) : VC_impl_IsTable  s i n c g0 g1 g2 g3 K = vbody Tryd.prog (vin Tryd.prog TSC_16 annTSC 3) TSC_16.looks (annTSC 52) 52 [.agg [.int .i64 s, .int .i64 i, .row 0 n]] [⟨.recs [.int .i64, .str, .int .i64] c, 96, .rows 3⟩, ⟨.vals [.str g0, .str g1, .str g2, .str g3], 9, .gl 0⟩] (K) := by kernel_rfl
theorem ok_impl_IsTable : OK Tryd.prog 52 F_impl_IsTable.spec := (vbody_ok (vin_ok TSC_16_ok annTSC 3) TSC_16_ok.looks _ _).ofFM fun args m p R h hp => by
 unfold F_impl_IsTable at h
 split at h
 ·injection h with h; injection h with h1 h2; subst h1; subst h2
  exact (congrArg At (eq_impl_IsTable _ _ _ _ _ _ _ _ _)).mp ⟨vc_impl_IsTable _ _ _ _ _ _ _ _ hp⟩
 ·cases h
def TSC_17 : Tab := TSC_16.add 52 F_impl_IsTable
theorem TSC_17_ok : TSC_17.Ok Tryd.prog := TSC_16_ok.add ok_impl_IsTable
theorem eq_laws_markText (k : Int) (K : V -> Prop) : VC_laws_markText k K = vbody Tryd.prog (vin Tryd.prog TSC_17 annTSC 3) TSC_17.looks (annTSC 123) 123 [.int .i64 k] [] (fun v _ => K v) := by kernel_rfl
theorem ok_laws_markText : OK Tryd.prog 123 F_laws_markText.spec := (vbody_ok (vin_ok TSC_17_ok annTSC 3) TSC_17_ok.looks _ _).ofF fun args m p R h hp => by
 unfold F_laws_markText at h
 split at h
 ·injection h with h; injection h with h1 h2; subst h1; subst h2
  exact ⟨rfl, (congrArg At (eq_laws_markText _ _)).mp ⟨vc_laws_markText _ hp⟩⟩
 ·cases h
def TSC_18 : Tab := TSC_17.add 123 F_laws_markText
theorem TSC_18_ok : TSC_18.Ok Tryd.prog := TSC_17_ok.add ok_laws_markText
theorem eq_laws_markRowS (k : Int) (n : Nat) (c : List Sc) (K : V -> List Blk -> Prop) : VC_laws_markRowS k n c K = vbody Tryd.prog (vin Tryd.prog TSC_18 annTSC 3) TSC_18.looks (annTSC 83) 83 [.row 0 n, .int .i64 k] [⟨.recs [.int .i64, .str, .int .i64] c, 96, .rows 3⟩] (K) := by kernel_rfl
theorem ok_laws_markRowS : OK Tryd.prog 83 F_laws_markRowS.spec := (vbody_ok (vin_ok TSC_18_ok annTSC 3) TSC_18_ok.looks _ _).ofG fun args m p R M h hp => by
 unfold F_laws_markRowS at h
 split at h
 ·injection h with h; injection h with h1 h2; injection h2 with h2 h3; subst h1; subst h2; subst h3
  exact (congrArg At (eq_laws_markRowS _ _ _ _)).mp ⟨vc_laws_markRowS _ _ _ hp⟩
 ·cases h
def TSC_19 : Tab := TSC_18.addG 83 F_laws_markRowS
theorem TSC_19_ok : TSC_19.Ok Tryd.prog := TSC_18_ok.addG ok_laws_markRowS
theorem eq_laws_markTable (k : Int) (s : Int) (i : Int) (n : Nat) (c : List Sc) (K : V -> List Blk -> Prop) : VC_laws_markTable k s i n c K = vbody Tryd.prog (vin Tryd.prog TSC_19 annTSC 3) TSC_19.looks (annTSC 36) 36 [.agg [.int .i64 s, .int .i64 i, .row 0 n], .int .i64 k] [⟨.recs [.int .i64, .str, .int .i64] c, 96, .rows 3⟩] (K) := by kernel_rfl
theorem ok_laws_markTable : OK Tryd.prog 36 F_laws_markTable.spec := (vbody_ok (vin_ok TSC_19_ok annTSC 3) TSC_19_ok.looks _ _).ofG fun args m p R M h hp => by
 unfold F_laws_markTable at h
 split at h
 ·injection h with h; injection h with h1 h2; injection h2 with h2 h3; subst h1; subst h2; subst h3
  exact (congrArg At (eq_laws_markTable _ _ _ _ _ _)).mp ⟨vc_laws_markTable _ _ _ _ _ hp⟩
 ·cases h
def TSC_20 : Tab := TSC_19.addG 36 F_laws_markTable
theorem TSC_20_ok : TSC_20.Ok Tryd.prog := TSC_19_ok.addG ok_laws_markTable
theorem eq_laws_heldRowS (k : Int) (n : Nat) (c : List Sc) (K : V -> List Blk -> Prop) : VC_laws_heldRowS k n c K = vbody Tryd.prog (vin Tryd.prog TSC_20 annTSC 3) TSC_20.looks (annTSC 87) 87 [.row 0 n, .int .i64 k] [⟨.recs [.int .i64, .str, .int .i64] c, 96, .rows 3⟩] (K) := by kernel_rfl
theorem ok_laws_heldRowS : OK Tryd.prog 87 F_laws_heldRowS.spec := (vbody_ok (vin_ok TSC_20_ok annTSC 3) TSC_20_ok.looks _ _).ofFM fun args m p R h hp => by
 unfold F_laws_heldRowS at h
 split at h
 ·injection h with h; injection h with h1 h2; subst h1; subst h2
  exact (congrArg At (eq_laws_heldRowS _ _ _ _)).mp ⟨vc_laws_heldRowS _ _ _ hp⟩
 ·cases h
def TSC_21 : Tab := TSC_20.add 87 F_laws_heldRowS
theorem TSC_21_ok : TSC_21.Ok Tryd.prog := TSC_20_ok.add ok_laws_heldRowS
theorem eq_laws_heldTable (k : Int) (s : Int) (i : Int) (n : Nat) (c : List Sc) (K : V -> List Blk -> Prop) : VC_laws_heldTable k s i n c K = vbody Tryd.prog (vin Tryd.prog TSC_21 annTSC 3) TSC_21.looks (annTSC 41) 41 [.agg [.int .i64 s, .int .i64 i, .row 0 n], .int .i64 k] [⟨.recs [.int .i64, .str, .int .i64] c, 96, .rows 3⟩] (K) := by kernel_rfl
theorem ok_laws_heldTable : OK Tryd.prog 41 F_laws_heldTable.spec := (vbody_ok (vin_ok TSC_21_ok annTSC 3) TSC_21_ok.looks _ _).ofFM fun args m p R h hp => by
 unfold F_laws_heldTable at h
 split at h
 ·injection h with h; injection h with h1 h2; subst h1; subst h2
  exact (congrArg At (eq_laws_heldTable _ _ _ _ _ _)).mp ⟨vc_laws_heldTable _ _ _ _ _ hp⟩
 ·cases h
def TSC_22 : Tab := TSC_21.add 41 F_laws_heldTable
theorem TSC_22_ok : TSC_22.Ok Tryd.prog := TSC_21_ok.add ok_laws_heldTable
theorem eq_laws_eqScene  (s : Int) (i : Int) (n : Nat) (c : List Sc) (w : Int) (h : Int) (u : List UInt8) (x : Int) (y : Int) (d : Int) (q : Int) (s_ : Int) (i_ : Int) (n_ : Nat) (c_ : List Sc) (w_ : Int) (h_ : Int) (u_ : List UInt8) (x_ : Int) (y_ : Int) (d_ : Int) (q_ : Int) (K : V -> List Blk -> Prop) : VC_laws_eqScene  s i n c w h u x y d q s_ i_ n_ c_ w_ h_ u_ x_ y_ d_ q_ K = vbody Tryd.prog (vin Tryd.prog TSC_22 annTSC 3) TSC_22.looks (annTSC 17) 17 [.agg [.int .i64 s, .int .i64 i, .row 0 n, .int .i64 w, .int .i64 h, .str u, .int .i64 x, .int .i64 y, .int .i64 d, .int .i64 q], .agg [.int .i64 s_, .int .i64 i_, .row 1 n_, .int .i64 w_, .int .i64 h_, .str u_, .int .i64 x_, .int .i64 y_, .int .i64 d_, .int .i64 q_]] [⟨.recs [.int .i64, .str, .int .i64] c, 96, .rows 3⟩, ⟨.recs [.int .i64, .str, .int .i64] c_, 96, .rows 3⟩] (K) := by kernel_rfl
theorem ok_laws_eqScene : OK Tryd.prog 17 F_laws_eqScene.spec := (vbody_ok (vin_ok TSC_22_ok annTSC 3) TSC_22_ok.looks _ _).ofFM fun args m p R h hp => by
 unfold F_laws_eqScene at h
 split at h
 ·injection h with h; injection h with h1 h2; subst h1; subst h2
  exact (congrArg At (eq_laws_eqScene _ _ _ _ _ _ _ _ _ _ _ _ _ _ _ _ _ _ _ _ _ _ _)).mp ⟨vc_laws_eqScene _ _ _ _ _ _ _ _ _ _ _ _ _ _ _ _ _ _ _ _ _ _ hp⟩
 ·cases h
def TSC_23 : Tab := TSC_22.add 17 F_laws_eqScene
theorem TSC_23_ok : TSC_23.Ok Tryd.prog := TSC_22_ok.add ok_laws_eqScene
theorem eq_laws_markScene (k : Int) (s : Int) (i : Int) (n : Nat) (c : List Sc) (w : Int) (h : Int) (u : List UInt8) (x : Int) (y : Int) (d : Int) (q : Int) (K : V -> List Blk -> Prop) : VC_laws_markScene k s i n c w h u x y d q K = vbody Tryd.prog (vin Tryd.prog TSC_23 annTSC 3) TSC_23.looks (annTSC 20) 20 [.agg [.int .i64 s, .int .i64 i, .row 0 n, .int .i64 w, .int .i64 h, .str u, .int .i64 x, .int .i64 y, .int .i64 d, .int .i64 q], .int .i64 k] [⟨.recs [.int .i64, .str, .int .i64] c, 96, .rows 3⟩] (K) := by kernel_rfl
theorem ok_laws_markScene : OK Tryd.prog 20 F_laws_markScene.spec := (vbody_ok (vin_ok TSC_23_ok annTSC 3) TSC_23_ok.looks _ _).ofG fun args m p R M h hp => by
 unfold F_laws_markScene at h
 split at h
 ·injection h with h; injection h with h1 h2; injection h2 with h2 h3; subst h1; subst h2; subst h3
  exact (congrArg At (eq_laws_markScene _ _ _ _ _ _ _ _ _ _ _ _ _)).mp ⟨vc_laws_markScene _ _ _ _ _ _ _ _ _ _ _ _ hp⟩
 ·cases h
def TSC_24 : Tab := TSC_23.addG 20 F_laws_markScene
theorem TSC_24_ok : TSC_24.Ok Tryd.prog := TSC_23_ok.addG ok_laws_markScene
theorem eq_laws_heldScene (k : Int) (s : Int) (i : Int) (n : Nat) (c : List Sc) (w : Int) (h : Int) (u : List UInt8) (x : Int) (y : Int) (d : Int) (q : Int) (K : V -> List Blk -> Prop) : VC_laws_heldScene k s i n c w h u x y d q K = vbody Tryd.prog (vin Tryd.prog TSC_24 annTSC 3) TSC_24.looks (annTSC 21) 21 [.agg [.int .i64 s, .int .i64 i, .row 0 n, .int .i64 w, .int .i64 h, .str u, .int .i64 x, .int .i64 y, .int .i64 d, .int .i64 q], .int .i64 k] [⟨.recs [.int .i64, .str, .int .i64] c, 96, .rows 3⟩] (K) := by kernel_rfl
theorem ok_laws_heldScene : OK Tryd.prog 21 F_laws_heldScene.spec := (vbody_ok (vin_ok TSC_24_ok annTSC 3) TSC_24_ok.looks _ _).ofFM fun args m p R h hp => by
 unfold F_laws_heldScene at h
 split at h
 ·injection h with h; injection h with h1 h2; subst h1; subst h2
  exact (congrArg At (eq_laws_heldScene _ _ _ _ _ _ _ _ _ _ _ _ _)).mp ⟨vc_laws_heldScene _ _ _ _ _ _ _ _ _ _ _ _ hp⟩
 ·cases h
def TSC_25 : Tab := TSC_24.add 21 F_laws_heldScene
theorem TSC_25_ok : TSC_25.Ok Tryd.prog := TSC_24_ok.add ok_laws_heldScene
theorem eq_impl_isSize (a : Int) (b : Int) (K : V -> Prop) : VC_impl_isSize a b K = vbody Tryd.prog (vin Tryd.prog TSC_25 annTSC 3) TSC_25.looks (annTSC 53) 53 [.int .i64 a, .int .i64 b] [] (fun v _ => K v) := by kernel_rfl
theorem ok_impl_isSize : OK Tryd.prog 53 F_impl_isSize.spec := (vbody_ok (vin_ok TSC_25_ok annTSC 3) TSC_25_ok.looks _ _).ofF fun args m p R h hp => by
 unfold F_impl_isSize at h
 split at h
 ·injection h with h; injection h with h1 h2; subst h1; subst h2
  exact ⟨rfl, (congrArg At (eq_impl_isSize _ _ _)).mp ⟨vc_impl_isSize _ _ hp⟩⟩
 ·cases h
def TSC_26 : Tab := TSC_25.add 53 F_impl_isSize
theorem TSC_26_ok : TSC_26.Ok Tryd.prog := TSC_25_ok.add ok_impl_isSize
theorem eq_spec_l1Num (n : Int) (K : V -> Prop) : VC_spec_l1Num n K = vbody Tryd.prog (vin Tryd.prog TSC_26 annTSC 0) TSC_26.looks (annTSC 110) 110 [.int .i64 n] [] (fun v _ => K v) := by kernel_rfl
theorem ok_spec_l1Num : OK Tryd.prog 110 F_spec_l1Num.spec := (vbody_ok (vin_ok TSC_26_ok annTSC 0) TSC_26_ok.looks _ _).ofF fun args m p R h hp => by
 unfold F_spec_l1Num at h
 split at h
 ·injection h with h; injection h with h1 h2; subst h1; subst h2
  exact ⟨rfl, (congrArg At (eq_spec_l1Num _ _)).mp ⟨vc_spec_l1Num _ hp⟩⟩
 ·cases h
def TSC_27 : Tab := TSC_26.add 110 F_spec_l1Num
theorem TSC_27_ok : TSC_27.Ok Tryd.prog := TSC_26_ok.add ok_spec_l1Num
theorem eq_strconv_FormatInt (n : Int) (b : Int) (K : V -> Prop) : VC_strconv_FormatInt n b K = vbody Tryd.prog (vin Tryd.prog TSC_27 annTSC 3) TSC_27.looks (annTSC 158) 158 [.int .i64 n, .int .i64 b] [] (fun v _ => K v) := by kernel_rfl
theorem ok_strconv_FormatInt : OK Tryd.prog 158 F_strconv_FormatInt.spec := (vbody_ok (vin_ok TSC_27_ok annTSC 3) TSC_27_ok.looks _ _).ofF fun args m p R h hp => by
 unfold F_strconv_FormatInt at h
 split at h
 ·injection h with h; injection h with h1 h2; subst h1; subst h2
  exact ⟨rfl, (congrArg At (eq_strconv_FormatInt _ _ _)).mp ⟨vc_strconv_FormatInt _ _ hp⟩⟩
 ·cases h
def TSC_28 : Tab := TSC_27.add 158 F_strconv_FormatInt
theorem TSC_28_ok : TSC_28.Ok Tryd.prog := TSC_27_ok.add ok_strconv_FormatInt
theorem eq_strconv_Itoa (n : Int) (K : V -> Prop) : VC_strconv_Itoa n K = vbody Tryd.prog (vin Tryd.prog TSC_28 annTSC 3) TSC_28.looks (annTSC 94) 94 [.int .i64 n] [] (fun v _ => K v) := by kernel_rfl
theorem ok_strconv_Itoa : OK Tryd.prog 94 F_strconv_Itoa.spec := (vbody_ok (vin_ok TSC_28_ok annTSC 3) TSC_28_ok.looks _ _).ofF fun args m p R h hp => by
 unfold F_strconv_Itoa at h
 split at h
 ·injection h with h; injection h with h1 h2; subst h1; subst h2
  exact ⟨rfl, (congrArg At (eq_strconv_Itoa _ _)).mp ⟨vc_strconv_Itoa _ hp⟩⟩
 ·cases h
def TSC_29 : Tab := TSC_28.add 94 F_strconv_Itoa
theorem TSC_29_ok : TSC_29.Ok Tryd.prog := TSC_28_ok.add ok_strconv_Itoa
theorem eq_impl_digit (b : Int) (K : V -> Prop) : VC_impl_digit b K = vbody Tryd.prog (vin Tryd.prog TSC_29 annTSC 3) TSC_29.looks (annTSC 85) 85 [.int .u8 b] [] (fun v _ => K v) := by kernel_rfl
theorem ok_impl_digit : OK Tryd.prog 85 F_impl_digit.spec := (vbody_ok (vin_ok TSC_29_ok annTSC 3) TSC_29_ok.looks _ _).ofF fun args m p R h hp => by
 unfold F_impl_digit at h
 split at h
 ·injection h with h; injection h with h1 h2; subst h1; subst h2
  exact ⟨rfl, (congrArg At (eq_impl_digit _ _)).mp ⟨vc_impl_digit _ hp⟩⟩
 ·cases h
def TSC_30 : Tab := TSC_29.add 85 F_impl_digit
theorem TSC_30_ok : TSC_30.Ok Tryd.prog := TSC_29_ok.add ok_impl_digit
theorem eq_impl_isWay (a : Int) (K : V -> Prop) : VC_impl_isWay a K = vbody Tryd.prog (vin Tryd.prog TSC_30 annTSC 3) TSC_30.looks (annTSC 56) 56 [.int .i64 a] [] (fun v _ => K v) := by kernel_rfl
theorem ok_impl_isWay : OK Tryd.prog 56 F_impl_isWay.spec := (vbody_ok (vin_ok TSC_30_ok annTSC 3) TSC_30_ok.looks _ _).ofF fun args m p R h hp => by
 unfold F_impl_isWay at h
 split at h
 ·injection h with h; injection h with h1 h2; subst h1; subst h2
  exact ⟨rfl, (congrArg At (eq_impl_isWay _ _)).mp ⟨vc_impl_isWay _ hp⟩⟩
 ·cases h
def TSC_31 : Tab := TSC_30.add 56 F_impl_isWay
theorem TSC_31_ok : TSC_31.Ok Tryd.prog := TSC_30_ok.add ok_impl_isWay
theorem eq_impl_hasCell (wr : List UInt8) (ww : Int) (wh : Int) (wc : List UInt8) (wx : Int) (wy : Int) (wd : Int) (x : Int) (y : Int) (K : V -> Prop) : VC_impl_hasCell wr ww wh wc wx wy wd x y K = vbody Tryd.prog (vin Tryd.prog TSC_31 annTSC 3) TSC_31.looks (annTSC 54) 54 [.agg [.str wr, .int .i64 ww, .int .i64 wh, .str wc, .int .i64 wx, .int .i64 wy, .int .i64 wd], .int .i64 x, .int .i64 y] [] (fun v _ => K v) := by kernel_rfl
theorem ok_impl_hasCell : OK Tryd.prog 54 F_impl_hasCell.spec := (vbody_ok (vin_ok TSC_31_ok annTSC 3) TSC_31_ok.looks _ _).ofF fun args m p R h hp => by
 unfold F_impl_hasCell at h
 split at h
 ·injection h with h; injection h with h1 h2; subst h1; subst h2
  exact ⟨rfl, (congrArg At (eq_impl_hasCell _ _ _ _ _ _ _ _ _ _)).mp ⟨vc_impl_hasCell _ _ _ _ _ _ _ _ _ hp⟩⟩
 ·cases h
def TSC_32 : Tab := TSC_31.add 54 F_impl_hasCell
theorem TSC_32_ok : TSC_32.Ok Tryd.prog := TSC_31_ok.add ok_impl_hasCell
theorem eq_impl_areColours (s : List UInt8) (k : Int) (K : V -> Prop) : VC_impl_areColours s k K = vbody Tryd.prog (vin Tryd.prog TSC_32 annTSC 3) TSC_32.looks (annTSC 58) 58 [.str s, .int .i64 k] [] (fun v _ => K v) := by kernel_rfl
theorem ok_impl_areColours : OK Tryd.prog 58 F_impl_areColours.spec := (vbody_ok (vin_ok TSC_32_ok annTSC 3) TSC_32_ok.looks _ _).ofF fun args m p R h hp => by
 unfold F_impl_areColours at h
 split at h
 ·injection h with h; injection h with h1 h2; subst h1; subst h2
  exact ⟨rfl, (congrArg At (eq_impl_areColours _ _ _)).mp ⟨vc_impl_areColours _ _ hp⟩⟩
 ·cases h
def TSC_33 : Tab := TSC_32.add 58 F_impl_areColours
theorem TSC_33_ok : TSC_33.Ok Tryd.prog := TSC_32_ok.add ok_impl_areColours
theorem eq_laws_szScene (left : Int) (s : Int) (i : Int) (n : Nat) (c : List Sc) (w : Int) (h : Int) (u : List UInt8) (x : Int) (y : Int) (d : Int) (q : Int) (K : V -> List Blk -> Prop) : VC_laws_szScene left s i n c w h u x y d q K = vbody Tryd.prog (vin Tryd.prog TSC_33 annTSC 3) TSC_33.looks (annTSC 13) 13 [.agg [.int .i64 s, .int .i64 i, .row 0 n, .int .i64 w, .int .i64 h, .str u, .int .i64 x, .int .i64 y, .int .i64 d, .int .i64 q], .int .i64 left] [⟨.recs [.int .i64, .str, .int .i64] c, 139, .arg 3⟩] (K) := by kernel_rfl
theorem ok_laws_szScene : OK Tryd.prog 13 F_laws_szScene.spec := (vbody_ok (vin_ok TSC_33_ok annTSC 3) TSC_33_ok.looks _ _).ofFM fun args m p R h hp => by
 unfold F_laws_szScene at h
 split at h
 ·injection h with h; injection h with h1 h2; subst h1; subst h2
  exact (congrArg At (eq_laws_szScene _ _ _ _ _ _ _ _ _ _ _ _ _)).mp ⟨vc_laws_szScene _ _ _ _ _ _ _ _ _ _ _ _ hp⟩
 ·cases h
def TSC_34 : Tab := TSC_33.add 13 F_laws_szScene
theorem TSC_34_ok : TSC_34.Ok Tryd.prog := TSC_33_ok.add ok_laws_szScene
theorem eq_laws_toScene  (s : Int) (i : Int) (n : Nat) (c : List Sc) (w : Int) (h : Int) (u : List UInt8) (x : Int) (y : Int) (d : Int) (q : Int) (K : V -> List Blk -> Prop) : VC_laws_toScene  s i n c w h u x y d q K = vbody Tryd.prog (vin Tryd.prog TSC_34 annTSC 3) TSC_34.looks (annTSC 15) 15 [.agg [.int .i64 s, .int .i64 i, .row 0 n, .int .i64 w, .int .i64 h, .str u, .int .i64 x, .int .i64 y, .int .i64 d, .int .i64 q]] [⟨.recs [.int .i64, .str, .int .i64] c, 139, .arg 3⟩] (K) := by kernel_rfl
theorem ok_laws_toScene : OK Tryd.prog 15 F_laws_toScene.spec := (vbody_ok (vin_ok TSC_34_ok annTSC 3) TSC_34_ok.looks _ _).ofG fun args m p R M h hp => by
 unfold F_laws_toScene at h
 split at h
 ·injection h with h; injection h with h1 h2; injection h2 with h2 h3; subst h1; subst h2; subst h3
  exact (congrArg At (eq_laws_toScene _ _ _ _ _ _ _ _ _ _ _ _)).mp ⟨vc_laws_toScene _ _ _ _ _ _ _ _ _ _ _ hp⟩
 ·cases h
def TSC_35 : Tab := TSC_34.addG 15 F_laws_toScene
theorem TSC_35_ok : TSC_35.Ok Tryd.prog := TSC_34_ok.addG ok_laws_toScene
theorem eq_spec_taScene  (s : Int) (i : Int) (n : Nat) (c : List Sc) (w : Int) (h : Int) (u : List UInt8) (x : Int) (y : Int) (d : Int) (q : Int) (K : V -> List Blk -> Prop) : VC_spec_taScene  s i n c w h u x y d q K = vbody Tryd.prog (vin Tryd.prog TSC_35 annTSC 3) TSC_35.looks (annTSC 51) 51 [.agg [.int .i64 s, .int .i64 i, .row 0 n, .int .i64 w, .int .i64 h, .str u, .int .i64 x, .int .i64 y, .int .i64 d, .int .i64 q]] [⟨.recs [.int .i64, .str, .int .i64] c, 96, .rows 3⟩] (K) := by kernel_rfl
theorem ok_spec_taScene : OK Tryd.prog 51 F_spec_taScene.spec := (vbody_ok (vin_ok TSC_35_ok annTSC 3) TSC_35_ok.looks _ _).ofFM fun args m p R h hp => by
 unfold F_spec_taScene at h
 split at h
 ·injection h with h; injection h with h1 h2; subst h1; subst h2
  exact (congrArg At (eq_spec_taScene _ _ _ _ _ _ _ _ _ _ _ _)).mp ⟨vc_spec_taScene _ _ _ _ _ _ _ _ _ _ _ hp⟩
 ·cases h
def TSC_36 : Tab := TSC_35.add 51 F_spec_taScene
theorem TSC_36_ok : TSC_36.Ok Tryd.prog := TSC_35_ok.add ok_spec_taScene
theorem eq_spec_IsScene  (s : Int) (i : Int) (n : Nat) (c : List Sc) (w : Int) (h : Int) (u : List UInt8) (x : Int) (y : Int) (d : Int) (q : Int) (K : V -> List Blk -> Prop) : VC_spec_IsScene  s i n c w h u x y d q K = vbody Tryd.prog (vin Tryd.prog TSC_36 annTSC 3) TSC_36.looks (annTSC 14) 14 [.agg [.int .i64 s, .int .i64 i, .row 0 n, .int .i64 w, .int .i64 h, .str u, .int .i64 x, .int .i64 y, .int .i64 d, .int .i64 q]] [⟨.recs [.int .i64, .str, .int .i64] c, 96, .rows 3⟩] (K) := by kernel_rfl
theorem ok_spec_IsScene : OK Tryd.prog 14 F_spec_IsScene.spec := (vbody_ok (vin_ok TSC_36_ok annTSC 3) TSC_36_ok.looks _ _).ofFM fun args m p R h hp => by
 unfold F_spec_IsScene at h
 split at h
 ·injection h with h; injection h with h1 h2; subst h1; subst h2
  exact (congrArg At (eq_spec_IsScene _ _ _ _ _ _ _ _ _ _ _ _)).mp ⟨vc_spec_IsScene _ _ _ _ _ _ _ _ _ _ _ hp⟩
 ·cases h
def TSC_37 : Tab := TSC_36.add 14 F_spec_IsScene
theorem TSC_37_ok : TSC_37.Ok Tryd.prog := TSC_36_ok.add ok_spec_IsScene
theorem eq_impl_actorOf  (s : Int) (i : Int) (n : Nat) (c : List Sc) (w : Int) (h : Int) (u : List UInt8) (x : Int) (y : Int) (d : Int) (q : Int) (K : V -> List Blk -> Prop) : VC_impl_actorOf  s i n c w h u x y d q K = vbody Tryd.prog (vin Tryd.prog TSC_37 annTSC 3) TSC_37.looks (annTSC 55) 55 [.agg [.int .i64 s, .int .i64 i, .row 0 n, .int .i64 w, .int .i64 h, .str u, .int .i64 x, .int .i64 y, .int .i64 d, .int .i64 q]] [⟨.recs [.int .i64, .str, .int .i64] c, 96, .rows 3⟩] (K) := by kernel_rfl
theorem ok_impl_actorOf : OK Tryd.prog 55 F_impl_actorOf.spec := (vbody_ok (vin_ok TSC_37_ok annTSC 3) TSC_37_ok.looks _ _).ofFM fun args m p R h hp => by
 unfold F_impl_actorOf at h
 split at h
 ·injection h with h; injection h with h1 h2; subst h1; subst h2
  exact (congrArg At (eq_impl_actorOf _ _ _ _ _ _ _ _ _ _ _ _)).mp ⟨vc_impl_actorOf _ _ _ _ _ _ _ _ _ _ _ hp⟩
 ·cases h
def TSC_38 : Tab := TSC_37.add 55 F_impl_actorOf
theorem TSC_38_ok : TSC_38.Ok Tryd.prog := TSC_37_ok.add ok_impl_actorOf
theorem eq_impl_IsScene  (s : Int) (i : Int) (n : Nat) (c : List Sc) (w : Int) (h : Int) (u : List UInt8) (x : Int) (y : Int) (d : Int) (q : Int) (g0 : List UInt8) (g1 : List UInt8) (g2 : List UInt8) (g3 : List UInt8) (K : V -> List Blk -> Prop) : VC_impl_IsScene  s i n c w h u x y d q g0 g1 g2 g3 K = vbody Tryd.prog (vin Tryd.prog TSC_38 annTSC 3) TSC_38.looks (annTSC 16) 16 [.agg [.int .i64 s, .int .i64 i, .row 0 n, .int .i64 w, .int .i64 h, .str u, .int .i64 x, .int .i64 y, .int .i64 d, .int .i64 q]] [⟨.recs [.int .i64, .str, .int .i64] c, 96, .rows 3⟩, ⟨.vals [.str g0, .str g1, .str g2, .str g3], 9, .gl 0⟩] (K) := by kernel_rfl
theorem ok_impl_IsScene : OK Tryd.prog 16 F_impl_IsScene.spec := (vbody_ok (vin_ok TSC_38_ok annTSC 3) TSC_38_ok.looks _ _).ofFM fun args m p R h hp => by
 unfold F_impl_IsScene at h
 split at h
 ·injection h with h; injection h with h1 h2; subst h1; subst h2
  exact (congrArg At (eq_impl_IsScene _ _ _ _ _ _ _ _ _ _ _ _ _ _ _ _)).mp ⟨vc_impl_IsScene _ _ _ _ _ _ _ _ _ _ _ _ _ _ _ hp⟩
 ·cases h
def TSC_39 : Tab := TSC_38.add 16 F_impl_IsScene
theorem TSC_39_ok : TSC_39.Ok Tryd.prog := TSC_38_ok.add ok_impl_IsScene
def TSC : Tab := TSC_39
theorem TSC_ok : TSC.Ok Tryd.prog := TSC_39_ok
end Go.Proofs.YtpkokghbkamelaaDoor
