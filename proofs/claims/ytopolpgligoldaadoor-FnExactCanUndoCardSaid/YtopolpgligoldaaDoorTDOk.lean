/- The contracts of this chapter. -/
import Derived.Test.YtopolpgligoldaaDoorProg
import Derived.Test.YtopolpgligoldaaDoorTDPf
import Derived.KernelRfl
namespace Go.Proofs.YtopolpgligoldaaDoor
open Go Go.Vi
set_option linter.unusedVariables false
def annTTD : FuncId → Nat → St → Option Ann := fun f => if f = 114 then ann_spec_woRule else if f = 55 then ann_impl_quartersOfTurn else if f = 50 then ann_laws_szRowS else if f = 52 then ann_laws_toRowS else if f = 56 then ann_laws_eqRowS else if f = 51 then ann_spec_taGood else if f = 17 then ann_impl_IsTable else if f = 75 then ann_spec_taUndo else if f = 76 then ann_impl_outcome else if f = 37 then ann_impl_CanUndo else (fun _ _ => none)
def TTD_0 : Tab := Tab.none
theorem TTD_0_ok : TTD_0.Ok Tryd.prog := Tab.none_ok
theorem eq_spec_l1In (n : Int) (lo : Int) (hi : Int) (K : V → Prop) : VC_spec_l1In n lo hi K = vbody Tryd.prog (vin Tryd.prog TTD_0 annTTD 3) TTD_0.looks (annTTD 63) 63 [.int .i64 n, .int .i64 lo, .int .i64 hi] [] (fun v _ => K v) := by kernel_rfl
theorem ok_spec_l1In : OK Tryd.prog 63 F_spec_l1In.spec := (vbody_ok (vin_ok TTD_0_ok annTTD 3) TTD_0_ok.looks _ _).ofF fun args m p R h hp => by
  unfold F_spec_l1In at h
  split at h
  · injection h with h; injection h with h1 h2; subst h1; subst h2
    exact ⟨rfl, (congrArg At (eq_spec_l1In _ _ _ _)).mp ⟨vc_spec_l1In _ _ _ hp⟩⟩
  · cases h
def TTD_1 : Tab := TTD_0.add 63 F_spec_l1In
theorem TTD_1_ok : TTD_1.Ok Tryd.prog := TTD_0_ok.add ok_spec_l1In
theorem eq_impl_within (n : Int) (lo : Int) (hi : Int) (K : V → Prop) : VC_impl_within n lo hi K = vbody Tryd.prog (vin Tryd.prog TTD_1 annTTD 3) TTD_1.looks (annTTD 54) 54 [.int .i64 n, .int .i64 lo, .int .i64 hi] [] (fun v _ => K v) := by kernel_rfl
theorem ok_impl_within : OK Tryd.prog 54 F_impl_within.spec := (vbody_ok (vin_ok TTD_1_ok annTTD 3) TTD_1_ok.looks _ _).ofF fun args m p R h hp => by
  unfold F_impl_within at h
  split at h
  · injection h with h; injection h with h1 h2; subst h1; subst h2
    exact ⟨rfl, (congrArg At (eq_impl_within _ _ _ _)).mp ⟨vc_impl_within _ _ _ hp⟩⟩
  · cases h
def TTD_2 : Tab := TTD_1.add 54 F_impl_within
theorem TTD_2_ok : TTD_2.Ok Tryd.prog := TTD_1_ok.add ok_impl_within
theorem eq_spec_woRule (s : List UInt8) (K : V → Prop) : VC_spec_woRule s K = vbody Tryd.prog (vin Tryd.prog TTD_2 annTTD 3) TTD_2.looks (annTTD 114) 114 [.str s] [] (fun v _ => K v) := by kernel_rfl
theorem ok_spec_woRule : OK Tryd.prog 114 F_spec_woRule.spec := (vbody_ok (vin_ok TTD_2_ok annTTD 3) TTD_2_ok.looks _ _).ofF fun args m p R h hp => by
  unfold F_spec_woRule at h
  split at h
  · injection h with h; injection h with h1 h2; subst h1; subst h2
    exact ⟨rfl, (congrArg At (eq_spec_woRule _ _)).mp ⟨vc_spec_woRule _ hp⟩⟩
  · cases h
def TTD_3 : Tab := TTD_2.add 114 F_spec_woRule
theorem TTD_3_ok : TTD_3.Ok Tryd.prog := TTD_2_ok.add ok_spec_woRule
theorem eq_spec_taSign (s : List UInt8) (K : V → Prop) : VC_spec_taSign s K = vbody Tryd.prog (vin Tryd.prog TTD_3 annTTD 3) TTD_3.looks (annTTD 91) 91 [.str s] [] (fun v _ => K v) := by kernel_rfl
theorem ok_spec_taSign : OK Tryd.prog 91 F_spec_taSign.spec := (vbody_ok (vin_ok TTD_3_ok annTTD 3) TTD_3_ok.looks _ _).ofF fun args m p R h hp => by
  unfold F_spec_taSign at h
  split at h
  · injection h with h; injection h with h1 h2; subst h1; subst h2
    exact ⟨rfl, (congrArg At (eq_spec_taSign _ _)).mp ⟨vc_spec_taSign _ hp⟩⟩
  · cases h
def TTD_4 : Tab := TTD_3.add 91 F_spec_taSign
theorem TTD_4_ok : TTD_4.Ok Tryd.prog := TTD_3_ok.add ok_spec_taSign
theorem eq_impl_quartersOfTurn (s : List UInt8) (g0 : List UInt8) (g1 : List UInt8) (g2 : List UInt8) (g3 : List UInt8) (K : V → List Blk → Prop) : VC_impl_quartersOfTurn s g0 g1 g2 g3 K = vbody Tryd.prog (vin Tryd.prog TTD_4 annTTD 3) TTD_4.looks (annTTD 55) 55 [.str s] [⟨.vals [.str g0, .str g1, .str g2, .str g3], 9, .gl 0⟩] (K) := by kernel_rfl
theorem ok_impl_quartersOfTurn : OK Tryd.prog 55 F_impl_quartersOfTurn.spec := (vbody_ok (vin_ok TTD_4_ok annTTD 3) TTD_4_ok.looks _ _).ofFM fun args m p R h hp => by
  unfold F_impl_quartersOfTurn at h
  split at h
  · injection h with h; injection h with h1 h2; subst h1; subst h2
    exact (congrArg At (eq_impl_quartersOfTurn _ _ _ _ _ _)).mp ⟨vc_impl_quartersOfTurn _ _ _ _ _ hp⟩
  · cases h
def TTD_5 : Tab := TTD_4.add 55 F_impl_quartersOfTurn
theorem TTD_5_ok : TTD_5.Ok Tryd.prog := TTD_4_ok.add ok_impl_quartersOfTurn
theorem eq_laws_szRow (ra : Int) (rt : List UInt8) (rb : Int) (left : Int) (K : V → Prop) : VC_laws_szRow ra rt rb left K = vbody Tryd.prog (vin Tryd.prog TTD_5 annTTD 3) TTD_5.looks (annTTD 90) 90 [.agg [.int .i64 ra, .str rt, .int .i64 rb], .int .i64 left] [] (fun v _ => K v) := by kernel_rfl
theorem ok_laws_szRow : OK Tryd.prog 90 F_laws_szRow.spec := (vbody_ok (vin_ok TTD_5_ok annTTD 3) TTD_5_ok.looks _ _).ofF fun args m p R h hp => by
  unfold F_laws_szRow at h
  split at h
  · injection h with h; injection h with h1 h2; subst h1; subst h2
    exact ⟨rfl, (congrArg At (eq_laws_szRow _ _ _ _ _)).mp ⟨vc_laws_szRow _ _ _ _ hp⟩⟩
  · cases h
def TTD_6 : Tab := TTD_5.add 90 F_laws_szRow
theorem TTD_6_ok : TTD_6.Ok Tryd.prog := TTD_5_ok.add ok_laws_szRow
theorem eq_laws_szRowS (left : Int) (n : Nat) (c : List Sc) (K : V → List Blk → Prop) : VC_laws_szRowS left n c K = vbody Tryd.prog (vin Tryd.prog TTD_6 annTTD 3) TTD_6.looks (annTTD 50) 50 [.row 0 n, .int .i64 left] [⟨.recs [.int .i64, .str, .int .i64] c, 112, .arg 3⟩] (K) := by kernel_rfl
theorem ok_laws_szRowS : OK Tryd.prog 50 F_laws_szRowS.spec := (vbody_ok (vin_ok TTD_6_ok annTTD 3) TTD_6_ok.looks _ _).ofFM fun args m p R h hp => by
  unfold F_laws_szRowS at h
  split at h
  · injection h with h; injection h with h1 h2; subst h1; subst h2
    exact (congrArg At (eq_laws_szRowS _ _ _ _)).mp ⟨vc_laws_szRowS _ _ _ hp⟩
  · cases h
def TTD_7 : Tab := TTD_6.add 50 F_laws_szRowS
theorem TTD_7_ok : TTD_7.Ok Tryd.prog := TTD_6_ok.add ok_laws_szRowS
theorem eq_laws_szTable (left : Int) (s : Int) (i : Int) (n : Nat) (c : List Sc) (K : V → List Blk → Prop) : VC_laws_szTable left s i n c K = vbody Tryd.prog (vin Tryd.prog TTD_7 annTTD 3) TTD_7.looks (annTTD 14) 14 [.agg [.int .i64 s, .int .i64 i, .row 0 n], .int .i64 left] [⟨.recs [.int .i64, .str, .int .i64] c, 112, .arg 3⟩] (K) := by kernel_rfl
theorem ok_laws_szTable : OK Tryd.prog 14 F_laws_szTable.spec := (vbody_ok (vin_ok TTD_7_ok annTTD 3) TTD_7_ok.looks _ _).ofFM fun args m p R h hp => by
  unfold F_laws_szTable at h
  split at h
  · injection h with h; injection h with h1 h2; subst h1; subst h2
    exact (congrArg At (eq_laws_szTable _ _ _ _ _ _)).mp ⟨vc_laws_szTable _ _ _ _ _ hp⟩
  · cases h
def TTD_8 : Tab := TTD_7.add 14 F_laws_szTable
theorem TTD_8_ok : TTD_8.Ok Tryd.prog := TTD_7_ok.add ok_laws_szTable
theorem eq_laws_toRow (ra : Int) (rt : List UInt8) (rb : Int) (K : V → Prop) : VC_laws_toRow ra rt rb K = vbody Tryd.prog (vin Tryd.prog TTD_8 annTTD 3) TTD_8.looks (annTTD 92) 92 [.agg [.int .i64 ra, .str rt, .int .i64 rb]] [] (fun v _ => K v) := by kernel_rfl
theorem ok_laws_toRow : OK Tryd.prog 92 F_laws_toRow.spec := (vbody_ok (vin_ok TTD_8_ok annTTD 3) TTD_8_ok.looks _ _).ofF fun args m p R h hp => by
  unfold F_laws_toRow at h
  split at h
  · injection h with h; injection h with h1 h2; subst h1; subst h2
    exact ⟨rfl, (congrArg At (eq_laws_toRow _ _ _ _)).mp ⟨vc_laws_toRow _ _ _ hp⟩⟩
  · cases h
def TTD_9 : Tab := TTD_8.add 92 F_laws_toRow
theorem TTD_9_ok : TTD_9.Ok Tryd.prog := TTD_8_ok.add ok_laws_toRow
theorem eq_laws_toRowS  (n : Nat) (c : List Sc) (K : V → List Blk → Prop) : VC_laws_toRowS  n c K = vbody Tryd.prog (vin Tryd.prog TTD_9 annTTD 3) TTD_9.looks (annTTD 52) 52 [.row 0 n] [⟨.recs [.int .i64, .str, .int .i64] c, 112, .arg 3⟩] (K) := by kernel_rfl
theorem ok_laws_toRowS : OK Tryd.prog 52 F_laws_toRowS.spec := (vbody_ok (vin_ok TTD_9_ok annTTD 3) TTD_9_ok.looks _ _).ofG fun args m p R M h hp => by
  unfold F_laws_toRowS at h
  split at h
  · injection h with h; injection h with h1 h2; injection h2 with h2 h3; subst h1; subst h2; subst h3
    exact (congrArg At (eq_laws_toRowS _ _ _)).mp ⟨vc_laws_toRowS _ _ hp⟩
  · cases h
def TTD_10 : Tab := TTD_9.addG 52 F_laws_toRowS
theorem TTD_10_ok : TTD_10.Ok Tryd.prog := TTD_9_ok.addG ok_laws_toRowS
theorem eq_laws_toTable  (s : Int) (i : Int) (n : Nat) (c : List Sc) (K : V → List Blk → Prop) : VC_laws_toTable  s i n c K = vbody Tryd.prog (vin Tryd.prog TTD_10 annTTD 3) TTD_10.looks (annTTD 16) 16 [.agg [.int .i64 s, .int .i64 i, .row 0 n]] [⟨.recs [.int .i64, .str, .int .i64] c, 112, .arg 3⟩] (K) := by kernel_rfl
theorem ok_laws_toTable : OK Tryd.prog 16 F_laws_toTable.spec := (vbody_ok (vin_ok TTD_10_ok annTTD 3) TTD_10_ok.looks _ _).ofG fun args m p R M h hp => by
  unfold F_laws_toTable at h
  split at h
  · injection h with h; injection h with h1 h2; injection h2 with h2 h3; subst h1; subst h2; subst h3
    exact (congrArg At (eq_laws_toTable _ _ _ _ _)).mp ⟨vc_laws_toTable _ _ _ _ hp⟩
  · cases h
def TTD_11 : Tab := TTD_10.addG 16 F_laws_toTable
theorem TTD_11_ok : TTD_11.Ok Tryd.prog := TTD_10_ok.addG ok_laws_toTable
theorem eq_laws_eqRow (ra : Int) (rt : List UInt8) (rb : Int) (qa : Int) (qt : List UInt8) (qb : Int) (K : V → Prop) : VC_laws_eqRow ra rt rb qa qt qb K = vbody Tryd.prog (vin Tryd.prog TTD_11 annTTD 3) TTD_11.looks (annTTD 26) 26 [.agg [.int .i64 ra, .str rt, .int .i64 rb], .agg [.int .i64 qa, .str qt, .int .i64 qb]] [] (fun v _ => K v) := by kernel_rfl
theorem ok_laws_eqRow : OK Tryd.prog 26 F_laws_eqRow.spec := (vbody_ok (vin_ok TTD_11_ok annTTD 3) TTD_11_ok.looks _ _).ofF fun args m p R h hp => by
  unfold F_laws_eqRow at h
  split at h
  · injection h with h; injection h with h1 h2; subst h1; subst h2
    exact ⟨rfl, (congrArg At (eq_laws_eqRow _ _ _ _ _ _ _)).mp ⟨vc_laws_eqRow _ _ _ _ _ _ hp⟩⟩
  · cases h
def TTD_12 : Tab := TTD_11.add 26 F_laws_eqRow
theorem TTD_12_ok : TTD_12.Ok Tryd.prog := TTD_11_ok.add ok_laws_eqRow
theorem eq_laws_eqRowS  (n : Nat) (m : Nat) (c : List Sc) (d : List Sc) (K : V → List Blk → Prop) : VC_laws_eqRowS  n m c d K = vbody Tryd.prog (vin Tryd.prog TTD_12 annTTD 3) TTD_12.looks (annTTD 56) 56 [.row 0 n, .row 1 m] [⟨.recs [.int .i64, .str, .int .i64] c, 43, .rows 3⟩, ⟨.recs [.int .i64, .str, .int .i64] d, 43, .rows 3⟩] (K) := by kernel_rfl
theorem ok_laws_eqRowS : OK Tryd.prog 56 F_laws_eqRowS.spec := (vbody_ok (vin_ok TTD_12_ok annTTD 3) TTD_12_ok.looks _ _).ofFM fun args m p R h hp => by
  unfold F_laws_eqRowS at h
  split at h
  · injection h with h; injection h with h1 h2; subst h1; subst h2
    exact (congrArg At (eq_laws_eqRowS _ _ _ _ _)).mp ⟨vc_laws_eqRowS _ _ _ _ hp⟩
  · cases h
def TTD_13 : Tab := TTD_12.add 56 F_laws_eqRowS
theorem TTD_13_ok : TTD_13.Ok Tryd.prog := TTD_12_ok.add ok_laws_eqRowS
theorem eq_laws_eqTable  (s : Int) (i : Int) (n : Nat) (c : List Sc) (p : Int) (q : Int) (m : Nat) (d : List Sc) (K : V → List Blk → Prop) : VC_laws_eqTable  s i n c p q m d K = vbody Tryd.prog (vin Tryd.prog TTD_13 annTTD 3) TTD_13.looks (annTTD 18) 18 [.agg [.int .i64 s, .int .i64 i, .row 0 n], .agg [.int .i64 p, .int .i64 q, .row 1 m]] [⟨.recs [.int .i64, .str, .int .i64] c, 43, .rows 3⟩, ⟨.recs [.int .i64, .str, .int .i64] d, 43, .rows 3⟩] (K) := by kernel_rfl
theorem ok_laws_eqTable : OK Tryd.prog 18 F_laws_eqTable.spec := (vbody_ok (vin_ok TTD_13_ok annTTD 3) TTD_13_ok.looks _ _).ofFM fun args m p R h hp => by
  unfold F_laws_eqTable at h
  split at h
  · injection h with h; injection h with h1 h2; subst h1; subst h2
    exact (congrArg At (eq_laws_eqTable _ _ _ _ _ _ _ _ _)).mp ⟨vc_laws_eqTable _ _ _ _ _ _ _ _ hp⟩
  · cases h
def TTD_14 : Tab := TTD_13.add 18 F_laws_eqTable
theorem TTD_14_ok : TTD_14.Ok Tryd.prog := TTD_13_ok.add ok_laws_eqTable
theorem eq_spec_taGood  (s : Int) (i : Int) (n : Nat) (c : List Sc) (K : V → List Blk → Prop) : VC_spec_taGood  s i n c K = vbody Tryd.prog (vin Tryd.prog TTD_14 annTTD 3) TTD_14.looks (annTTD 51) 51 [.agg [.int .i64 s, .int .i64 i, .row 0 n]] [⟨.recs [.int .i64, .str, .int .i64] c, 43, .rows 3⟩] (K) := by kernel_rfl
theorem ok_spec_taGood : OK Tryd.prog 51 F_spec_taGood.spec := (vbody_ok (vin_ok TTD_14_ok annTTD 3) TTD_14_ok.looks _ _).ofFM fun args m p R h hp => by
  unfold F_spec_taGood at h
  split at h
  · injection h with h; injection h with h1 h2; subst h1; subst h2
    exact (congrArg At (eq_spec_taGood _ _ _ _ _)).mp ⟨vc_spec_taGood _ _ _ _ hp⟩
  · cases h
def TTD_15 : Tab := TTD_14.add 51 F_spec_taGood
theorem TTD_15_ok : TTD_15.Ok Tryd.prog := TTD_14_ok.add ok_spec_taGood
theorem eq_spec_IsTable  (s : Int) (i : Int) (n : Nat) (c : List Sc) (K : V → List Blk → Prop) : VC_spec_IsTable  s i n c K = vbody Tryd.prog (vin Tryd.prog TTD_15 annTTD 3) TTD_15.looks (annTTD 15) 15 [.agg [.int .i64 s, .int .i64 i, .row 0 n]] [⟨.recs [.int .i64, .str, .int .i64] c, 43, .rows 3⟩] (K) := by kernel_rfl
theorem ok_spec_IsTable : OK Tryd.prog 15 F_spec_IsTable.spec := (vbody_ok (vin_ok TTD_15_ok annTTD 3) TTD_15_ok.looks _ _).ofFM fun args m p R h hp => by
  unfold F_spec_IsTable at h
  split at h
  · injection h with h; injection h with h1 h2; subst h1; subst h2
    exact (congrArg At (eq_spec_IsTable _ _ _ _ _)).mp ⟨vc_spec_IsTable _ _ _ _ hp⟩
  · cases h
def TTD_16 : Tab := TTD_15.add 15 F_spec_IsTable
theorem TTD_16_ok : TTD_16.Ok Tryd.prog := TTD_15_ok.add ok_spec_IsTable
theorem eq_impl_isTableSize (a : Int) (b : Int) (K : V → Prop) : VC_impl_isTableSize a b K = vbody Tryd.prog (vin Tryd.prog TTD_16 annTTD 3) TTD_16.looks (annTTD 53) 53 [.int .i64 a, .int .i64 b] [] (fun v _ => K v) := by kernel_rfl
theorem ok_impl_isTableSize : OK Tryd.prog 53 F_impl_isTableSize.spec := (vbody_ok (vin_ok TTD_16_ok annTTD 3) TTD_16_ok.looks _ _).ofF fun args m p R h hp => by
  unfold F_impl_isTableSize at h
  split at h
  · injection h with h; injection h with h1 h2; subst h1; subst h2
    exact ⟨rfl, (congrArg At (eq_impl_isTableSize _ _ _)).mp ⟨vc_impl_isTableSize _ _ hp⟩⟩
  · cases h
def TTD_17 : Tab := TTD_16.add 53 F_impl_isTableSize
theorem TTD_17_ok : TTD_17.Ok Tryd.prog := TTD_16_ok.add ok_impl_isTableSize
theorem eq_impl_IsTable  (s : Int) (i : Int) (n : Nat) (c : List Sc) (g0 : List UInt8) (g1 : List UInt8) (g2 : List UInt8) (g3 : List UInt8) (K : V → List Blk → Prop) : VC_impl_IsTable  s i n c g0 g1 g2 g3 K = vbody Tryd.prog (vin Tryd.prog TTD_17 annTTD 3) TTD_17.looks (annTTD 17) 17 [.agg [.int .i64 s, .int .i64 i, .row 0 n]] [⟨.recs [.int .i64, .str, .int .i64] c, 43, .rows 3⟩, ⟨.vals [.str g0, .str g1, .str g2, .str g3], 9, .gl 0⟩] (K) := by kernel_rfl
theorem ok_impl_IsTable : OK Tryd.prog 17 F_impl_IsTable.spec := (vbody_ok (vin_ok TTD_17_ok annTTD 3) TTD_17_ok.looks _ _).ofFM fun args m p R h hp => by
  unfold F_impl_IsTable at h
  split at h
  · injection h with h; injection h with h1 h2; subst h1; subst h2
    exact (congrArg At (eq_impl_IsTable _ _ _ _ _ _ _ _ _)).mp ⟨vc_impl_IsTable _ _ _ _ _ _ _ _ hp⟩
  · cases h
def TTD_18 : Tab := TTD_17.add 17 F_impl_IsTable
theorem TTD_18_ok : TTD_18.Ok Tryd.prog := TTD_17_ok.add ok_impl_IsTable
theorem eq_spec_taUndo  (s : Int) (i : Int) (n : Nat) (c : List Sc) (K : V → List Blk → Prop) : VC_spec_taUndo  s i n c K = vbody Tryd.prog (vin Tryd.prog TTD_18 annTTD 3) TTD_18.looks (annTTD 75) 75 [.agg [.int .i64 s, .int .i64 i, .row 0 n]] [⟨.recs [.int .i64, .str, .int .i64] c, 43, .rows 3⟩] (K) := by kernel_rfl
theorem ok_spec_taUndo : OK Tryd.prog 75 F_spec_taUndo.spec := (vbody_ok (vin_ok TTD_18_ok annTTD 3) TTD_18_ok.looks _ _).ofFM fun args m p R h hp => by
  unfold F_spec_taUndo at h
  split at h
  · injection h with h; injection h with h1 h2; subst h1; subst h2
    exact (congrArg At (eq_spec_taUndo _ _ _ _ _)).mp ⟨vc_spec_taUndo _ _ _ _ hp⟩
  · cases h
def TTD_19 : Tab := TTD_18.add 75 F_spec_taUndo
theorem TTD_19_ok : TTD_19.Ok Tryd.prog := TTD_18_ok.add ok_spec_taUndo
theorem eq_spec_CanUndo  (s : Int) (i : Int) (n : Nat) (c : List Sc) (K : V → List Blk → Prop) : VC_spec_CanUndo  s i n c K = vbody Tryd.prog (vin Tryd.prog TTD_19 annTTD 3) TTD_19.looks (annTTD 36) 36 [.agg [.int .i64 s, .int .i64 i, .row 0 n]] [⟨.recs [.int .i64, .str, .int .i64] c, 43, .rows 3⟩] (K) := by kernel_rfl
theorem ok_spec_CanUndo : OK Tryd.prog 36 F_spec_CanUndo.spec := (vbody_ok (vin_ok TTD_19_ok annTTD 3) TTD_19_ok.looks _ _).ofFM fun args m p R h hp => by
  unfold F_spec_CanUndo at h
  split at h
  · injection h with h; injection h with h1 h2; subst h1; subst h2
    exact (congrArg At (eq_spec_CanUndo _ _ _ _ _)).mp ⟨vc_spec_CanUndo _ _ _ _ hp⟩
  · cases h
def TTD_20 : Tab := TTD_19.add 36 F_spec_CanUndo
theorem TTD_20_ok : TTD_20.Ok Tryd.prog := TTD_19_ok.add ok_spec_CanUndo
theorem eq_impl_outcomeOf (ra : Int) (rt : List UInt8) (rb : Int) (K : V → Prop) : VC_impl_outcomeOf ra rt rb K = vbody Tryd.prog (vin Tryd.prog TTD_20 annTTD 3) TTD_20.looks (annTTD 77) 77 [.agg [.int .i64 ra, .str rt, .int .i64 rb]] [] (fun v _ => K v) := by kernel_rfl
theorem ok_impl_outcomeOf : OK Tryd.prog 77 F_impl_outcomeOf.spec := (vbody_ok (vin_ok TTD_20_ok annTTD 3) TTD_20_ok.looks _ _).ofF fun args m p R h hp => by
  unfold F_impl_outcomeOf at h
  split at h
  · injection h with h; injection h with h1 h2; subst h1; subst h2
    exact ⟨rfl, (congrArg At (eq_impl_outcomeOf _ _ _ _)).mp ⟨vc_impl_outcomeOf _ _ _ hp⟩⟩
  · cases h
def TTD_21 : Tab := TTD_20.add 77 F_impl_outcomeOf
theorem TTD_21_ok : TTD_21.Ok Tryd.prog := TTD_20_ok.add ok_impl_outcomeOf
theorem eq_impl_outcome  (n : Nat) (c : List Sc) (p : Int) (q : Int) (K : V → List Blk → Prop) : VC_impl_outcome  n c p q K = vbody Tryd.prog (vin Tryd.prog TTD_21 annTTD 3) TTD_21.looks (annTTD 76) 76 [.row 0 n, .fn 77 [], .agg [.int .i64 p, .int .i64 q]] [⟨.recs [.int .i64, .str, .int .i64] c, 43, .rows 3⟩] (K) := by kernel_rfl
theorem ok_impl_outcome : OK Tryd.prog 76 F_impl_outcome.spec := (vbody_ok (vin_ok TTD_21_ok annTTD 3) TTD_21_ok.looks _ _).ofFM fun args m p R h hp => by
  unfold F_impl_outcome at h
  split at h
  · injection h with h; injection h with h1 h2; subst h1; subst h2
    exact (congrArg At (eq_impl_outcome _ _ _ _ _)).mp ⟨vc_impl_outcome _ _ _ _ hp⟩
  · cases h
def TTD_22 : Tab := TTD_21.add 76 F_impl_outcome
theorem TTD_22_ok : TTD_22.Ok Tryd.prog := TTD_21_ok.add ok_impl_outcome
theorem eq_impl_CanUndo  (s : Int) (i : Int) (n : Nat) (c : List Sc) (g0 : List UInt8) (g1 : List UInt8) (g2 : List UInt8) (g3 : List UInt8) (K : V → List Blk → Prop) : VC_impl_CanUndo  s i n c g0 g1 g2 g3 K = vbody Tryd.prog (vin Tryd.prog TTD_22 annTTD 3) TTD_22.looks (annTTD 37) 37 [.agg [.int .i64 s, .int .i64 i, .row 0 n]] [⟨.recs [.int .i64, .str, .int .i64] c, 43, .rows 3⟩, ⟨.vals [.str g0, .str g1, .str g2, .str g3], 9, .gl 0⟩] (K) := by kernel_rfl
theorem ok_impl_CanUndo : OK Tryd.prog 37 F_impl_CanUndo.spec := (vbody_ok (vin_ok TTD_22_ok annTTD 3) TTD_22_ok.looks _ _).ofFM fun args m p R h hp => by
  unfold F_impl_CanUndo at h
  split at h
  · injection h with h; injection h with h1 h2; subst h1; subst h2
    exact (congrArg At (eq_impl_CanUndo _ _ _ _ _ _ _ _ _)).mp ⟨vc_impl_CanUndo _ _ _ _ _ _ _ _ hp⟩
  · cases h
def TTD_23 : Tab := TTD_22.add 37 F_impl_CanUndo
theorem TTD_23_ok : TTD_23.Ok Tryd.prog := TTD_22_ok.add ok_impl_CanUndo
def TTD : Tab := TTD_23
theorem TTD_ok : TTD.Ok Tryd.prog := TTD_23_ok
end Go.Proofs.YtopolpgligoldaaDoor
