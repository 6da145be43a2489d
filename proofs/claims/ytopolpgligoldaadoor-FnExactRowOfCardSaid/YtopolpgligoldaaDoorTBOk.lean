/- The contracts of this chapter. -/
import Derived.Test.YtopolpgligoldaaDoorProg
import Derived.Test.YtopolpgligoldaaDoorTBPf
import Derived.KernelRfl
namespace Go.Proofs.YtopolpgligoldaaDoor
open Go Go.Vi
set_option linter.unusedVariables false
def annTTB : FuncId → Nat → St → Option Ann := fun f => if f = 114 then ann_spec_woRule else if f = 55 then ann_impl_quartersOfTurn else if f = 50 then ann_laws_szRowS else if f = 52 then ann_laws_toRowS else if f = 56 then ann_laws_eqRowS else if f = 51 then ann_spec_taGood else if f = 17 then ann_impl_IsTable else (fun _ _ => none)
def TTB_0 : Tab := Tab.none
theorem TTB_0_ok : TTB_0.Ok Tryd.prog := Tab.none_ok
theorem eq_spec_l1In (n : Int) (lo : Int) (hi : Int) (K : V → Prop) : VC_spec_l1In n lo hi K = vbody Tryd.prog (vin Tryd.prog TTB_0 annTTB 3) TTB_0.looks (annTTB 63) 63 [.int .i64 n, .int .i64 lo, .int .i64 hi] [] (fun v _ => K v) := by kernel_rfl
theorem ok_spec_l1In : OK Tryd.prog 63 F_spec_l1In.spec := (vbody_ok (vin_ok TTB_0_ok annTTB 3) TTB_0_ok.looks _ _).ofF fun args m p R h hp => by
  unfold F_spec_l1In at h
  split at h
  · injection h with h; injection h with h1 h2; subst h1; subst h2
    exact ⟨rfl, (congrArg At (eq_spec_l1In _ _ _ _)).mp ⟨vc_spec_l1In _ _ _ hp⟩⟩
  · cases h
def TTB_1 : Tab := TTB_0.add 63 F_spec_l1In
theorem TTB_1_ok : TTB_1.Ok Tryd.prog := TTB_0_ok.add ok_spec_l1In
theorem eq_impl_within (n : Int) (lo : Int) (hi : Int) (K : V → Prop) : VC_impl_within n lo hi K = vbody Tryd.prog (vin Tryd.prog TTB_1 annTTB 3) TTB_1.looks (annTTB 54) 54 [.int .i64 n, .int .i64 lo, .int .i64 hi] [] (fun v _ => K v) := by kernel_rfl
theorem ok_impl_within : OK Tryd.prog 54 F_impl_within.spec := (vbody_ok (vin_ok TTB_1_ok annTTB 3) TTB_1_ok.looks _ _).ofF fun args m p R h hp => by
  unfold F_impl_within at h
  split at h
  · injection h with h; injection h with h1 h2; subst h1; subst h2
    exact ⟨rfl, (congrArg At (eq_impl_within _ _ _ _)).mp ⟨vc_impl_within _ _ _ hp⟩⟩
  · cases h
def TTB_2 : Tab := TTB_1.add 54 F_impl_within
theorem TTB_2_ok : TTB_2.Ok Tryd.prog := TTB_1_ok.add ok_impl_within
theorem eq_spec_woRule (s : List UInt8) (K : V → Prop) : VC_spec_woRule s K = vbody Tryd.prog (vin Tryd.prog TTB_2 annTTB 3) TTB_2.looks (annTTB 114) 114 [.str s] [] (fun v _ => K v) := by kernel_rfl
theorem ok_spec_woRule : OK Tryd.prog 114 F_spec_woRule.spec := (vbody_ok (vin_ok TTB_2_ok annTTB 3) TTB_2_ok.looks _ _).ofF fun args m p R h hp => by
  unfold F_spec_woRule at h
  split at h
  · injection h with h; injection h with h1 h2; subst h1; subst h2
    exact ⟨rfl, (congrArg At (eq_spec_woRule _ _)).mp ⟨vc_spec_woRule _ hp⟩⟩
  · cases h
def TTB_3 : Tab := TTB_2.add 114 F_spec_woRule
theorem TTB_3_ok : TTB_3.Ok Tryd.prog := TTB_2_ok.add ok_spec_woRule
theorem eq_spec_taSign (s : List UInt8) (K : V → Prop) : VC_spec_taSign s K = vbody Tryd.prog (vin Tryd.prog TTB_3 annTTB 3) TTB_3.looks (annTTB 91) 91 [.str s] [] (fun v _ => K v) := by kernel_rfl
theorem ok_spec_taSign : OK Tryd.prog 91 F_spec_taSign.spec := (vbody_ok (vin_ok TTB_3_ok annTTB 3) TTB_3_ok.looks _ _).ofF fun args m p R h hp => by
  unfold F_spec_taSign at h
  split at h
  · injection h with h; injection h with h1 h2; subst h1; subst h2
    exact ⟨rfl, (congrArg At (eq_spec_taSign _ _)).mp ⟨vc_spec_taSign _ hp⟩⟩
  · cases h
def TTB_4 : Tab := TTB_3.add 91 F_spec_taSign
theorem TTB_4_ok : TTB_4.Ok Tryd.prog := TTB_3_ok.add ok_spec_taSign
theorem eq_impl_quartersOfTurn (s : List UInt8) (g0 : List UInt8) (g1 : List UInt8) (g2 : List UInt8) (g3 : List UInt8) (K : V → List Blk → Prop) : VC_impl_quartersOfTurn s g0 g1 g2 g3 K = vbody Tryd.prog (vin Tryd.prog TTB_4 annTTB 3) TTB_4.looks (annTTB 55) 55 [.str s] [⟨.vals [.str g0, .str g1, .str g2, .str g3], 9, .gl 0⟩] (K) := by kernel_rfl
theorem ok_impl_quartersOfTurn : OK Tryd.prog 55 F_impl_quartersOfTurn.spec := (vbody_ok (vin_ok TTB_4_ok annTTB 3) TTB_4_ok.looks _ _).ofFM fun args m p R h hp => by
  unfold F_impl_quartersOfTurn at h
  split at h
  · injection h with h; injection h with h1 h2; subst h1; subst h2
    exact (congrArg At (eq_impl_quartersOfTurn _ _ _ _ _ _)).mp ⟨vc_impl_quartersOfTurn _ _ _ _ _ hp⟩
  · cases h
def TTB_5 : Tab := TTB_4.add 55 F_impl_quartersOfTurn
theorem TTB_5_ok : TTB_5.Ok Tryd.prog := TTB_4_ok.add ok_impl_quartersOfTurn
theorem eq_laws_szRow (ra : Int) (rt : List UInt8) (rb : Int) (left : Int) (K : V → Prop) : VC_laws_szRow ra rt rb left K = vbody Tryd.prog (vin Tryd.prog TTB_5 annTTB 3) TTB_5.looks (annTTB 90) 90 [.agg [.int .i64 ra, .str rt, .int .i64 rb], .int .i64 left] [] (fun v _ => K v) := by kernel_rfl
theorem ok_laws_szRow : OK Tryd.prog 90 F_laws_szRow.spec := (vbody_ok (vin_ok TTB_5_ok annTTB 3) TTB_5_ok.looks _ _).ofF fun args m p R h hp => by
  unfold F_laws_szRow at h
  split at h
  · injection h with h; injection h with h1 h2; subst h1; subst h2
    exact ⟨rfl, (congrArg At (eq_laws_szRow _ _ _ _ _)).mp ⟨vc_laws_szRow _ _ _ _ hp⟩⟩
  · cases h
def TTB_6 : Tab := TTB_5.add 90 F_laws_szRow
theorem TTB_6_ok : TTB_6.Ok Tryd.prog := TTB_5_ok.add ok_laws_szRow
theorem eq_laws_szRowS (left : Int) (n : Nat) (c : List Sc) (K : V → List Blk → Prop) : VC_laws_szRowS left n c K = vbody Tryd.prog (vin Tryd.prog TTB_6 annTTB 3) TTB_6.looks (annTTB 50) 50 [.row 0 n, .int .i64 left] [⟨.recs [.int .i64, .str, .int .i64] c, 112, .arg 3⟩] (K) := by kernel_rfl
theorem ok_laws_szRowS : OK Tryd.prog 50 F_laws_szRowS.spec := (vbody_ok (vin_ok TTB_6_ok annTTB 3) TTB_6_ok.looks _ _).ofFM fun args m p R h hp => by
  unfold F_laws_szRowS at h
  split at h
  · injection h with h; injection h with h1 h2; subst h1; subst h2
    exact (congrArg At (eq_laws_szRowS _ _ _ _)).mp ⟨vc_laws_szRowS _ _ _ hp⟩
  · cases h
def TTB_7 : Tab := TTB_6.add 50 F_laws_szRowS
theorem TTB_7_ok : TTB_7.Ok Tryd.prog := TTB_6_ok.add ok_laws_szRowS
theorem eq_laws_szTable (left : Int) (s : Int) (i : Int) (n : Nat) (c : List Sc) (K : V → List Blk → Prop) : VC_laws_szTable left s i n c K = vbody Tryd.prog (vin Tryd.prog TTB_7 annTTB 3) TTB_7.looks (annTTB 14) 14 [.agg [.int .i64 s, .int .i64 i, .row 0 n], .int .i64 left] [⟨.recs [.int .i64, .str, .int .i64] c, 112, .arg 3⟩] (K) := by kernel_rfl
theorem ok_laws_szTable : OK Tryd.prog 14 F_laws_szTable.spec := (vbody_ok (vin_ok TTB_7_ok annTTB 3) TTB_7_ok.looks _ _).ofFM fun args m p R h hp => by
  unfold F_laws_szTable at h
  split at h
  · injection h with h; injection h with h1 h2; subst h1; subst h2
    exact (congrArg At (eq_laws_szTable _ _ _ _ _ _)).mp ⟨vc_laws_szTable _ _ _ _ _ hp⟩
  · cases h
def TTB_8 : Tab := TTB_7.add 14 F_laws_szTable
theorem TTB_8_ok : TTB_8.Ok Tryd.prog := TTB_7_ok.add ok_laws_szTable
theorem eq_laws_toRow (ra : Int) (rt : List UInt8) (rb : Int) (K : V → Prop) : VC_laws_toRow ra rt rb K = vbody Tryd.prog (vin Tryd.prog TTB_8 annTTB 3) TTB_8.looks (annTTB 92) 92 [.agg [.int .i64 ra, .str rt, .int .i64 rb]] [] (fun v _ => K v) := by kernel_rfl
theorem ok_laws_toRow : OK Tryd.prog 92 F_laws_toRow.spec := (vbody_ok (vin_ok TTB_8_ok annTTB 3) TTB_8_ok.looks _ _).ofF fun args m p R h hp => by
  unfold F_laws_toRow at h
  split at h
  · injection h with h; injection h with h1 h2; subst h1; subst h2
    exact ⟨rfl, (congrArg At (eq_laws_toRow _ _ _ _)).mp ⟨vc_laws_toRow _ _ _ hp⟩⟩
  · cases h
def TTB_9 : Tab := TTB_8.add 92 F_laws_toRow
theorem TTB_9_ok : TTB_9.Ok Tryd.prog := TTB_8_ok.add ok_laws_toRow
theorem eq_laws_toRowS  (n : Nat) (c : List Sc) (K : V → List Blk → Prop) : VC_laws_toRowS  n c K = vbody Tryd.prog (vin Tryd.prog TTB_9 annTTB 3) TTB_9.looks (annTTB 52) 52 [.row 0 n] [⟨.recs [.int .i64, .str, .int .i64] c, 112, .arg 3⟩] (K) := by kernel_rfl
theorem ok_laws_toRowS : OK Tryd.prog 52 F_laws_toRowS.spec := (vbody_ok (vin_ok TTB_9_ok annTTB 3) TTB_9_ok.looks _ _).ofG fun args m p R M h hp => by
  unfold F_laws_toRowS at h
  split at h
  · injection h with h; injection h with h1 h2; injection h2 with h2 h3; subst h1; subst h2; subst h3
    exact (congrArg At (eq_laws_toRowS _ _ _)).mp ⟨vc_laws_toRowS _ _ hp⟩
  · cases h
def TTB_10 : Tab := TTB_9.addG 52 F_laws_toRowS
theorem TTB_10_ok : TTB_10.Ok Tryd.prog := TTB_9_ok.addG ok_laws_toRowS
theorem eq_laws_toTable  (s : Int) (i : Int) (n : Nat) (c : List Sc) (K : V → List Blk → Prop) : VC_laws_toTable  s i n c K = vbody Tryd.prog (vin Tryd.prog TTB_10 annTTB 3) TTB_10.looks (annTTB 16) 16 [.agg [.int .i64 s, .int .i64 i, .row 0 n]] [⟨.recs [.int .i64, .str, .int .i64] c, 112, .arg 3⟩] (K) := by kernel_rfl
theorem ok_laws_toTable : OK Tryd.prog 16 F_laws_toTable.spec := (vbody_ok (vin_ok TTB_10_ok annTTB 3) TTB_10_ok.looks _ _).ofG fun args m p R M h hp => by
  unfold F_laws_toTable at h
  split at h
  · injection h with h; injection h with h1 h2; injection h2 with h2 h3; subst h1; subst h2; subst h3
    exact (congrArg At (eq_laws_toTable _ _ _ _ _)).mp ⟨vc_laws_toTable _ _ _ _ hp⟩
  · cases h
def TTB_11 : Tab := TTB_10.addG 16 F_laws_toTable
theorem TTB_11_ok : TTB_11.Ok Tryd.prog := TTB_10_ok.addG ok_laws_toTable
theorem eq_laws_eqRow (ra : Int) (rt : List UInt8) (rb : Int) (qa : Int) (qt : List UInt8) (qb : Int) (K : V → Prop) : VC_laws_eqRow ra rt rb qa qt qb K = vbody Tryd.prog (vin Tryd.prog TTB_11 annTTB 3) TTB_11.looks (annTTB 26) 26 [.agg [.int .i64 ra, .str rt, .int .i64 rb], .agg [.int .i64 qa, .str qt, .int .i64 qb]] [] (fun v _ => K v) := by kernel_rfl
theorem ok_laws_eqRow : OK Tryd.prog 26 F_laws_eqRow.spec := (vbody_ok (vin_ok TTB_11_ok annTTB 3) TTB_11_ok.looks _ _).ofF fun args m p R h hp => by
  unfold F_laws_eqRow at h
  split at h
  · injection h with h; injection h with h1 h2; subst h1; subst h2
    exact ⟨rfl, (congrArg At (eq_laws_eqRow _ _ _ _ _ _ _)).mp ⟨vc_laws_eqRow _ _ _ _ _ _ hp⟩⟩
  · cases h
def TTB_12 : Tab := TTB_11.add 26 F_laws_eqRow
theorem TTB_12_ok : TTB_12.Ok Tryd.prog := TTB_11_ok.add ok_laws_eqRow
theorem eq_laws_eqRowS  (n : Nat) (m : Nat) (c : List Sc) (d : List Sc) (K : V → List Blk → Prop) : VC_laws_eqRowS  n m c d K = vbody Tryd.prog (vin Tryd.prog TTB_12 annTTB 3) TTB_12.looks (annTTB 56) 56 [.row 0 n, .row 1 m] [⟨.recs [.int .i64, .str, .int .i64] c, 43, .rows 3⟩, ⟨.recs [.int .i64, .str, .int .i64] d, 43, .rows 3⟩] (K) := by kernel_rfl
theorem ok_laws_eqRowS : OK Tryd.prog 56 F_laws_eqRowS.spec := (vbody_ok (vin_ok TTB_12_ok annTTB 3) TTB_12_ok.looks _ _).ofFM fun args m p R h hp => by
  unfold F_laws_eqRowS at h
  split at h
  · injection h with h; injection h with h1 h2; subst h1; subst h2
    exact (congrArg At (eq_laws_eqRowS _ _ _ _ _)).mp ⟨vc_laws_eqRowS _ _ _ _ hp⟩
  · cases h
def TTB_13 : Tab := TTB_12.add 56 F_laws_eqRowS
theorem TTB_13_ok : TTB_13.Ok Tryd.prog := TTB_12_ok.add ok_laws_eqRowS
theorem eq_laws_eqTable  (s : Int) (i : Int) (n : Nat) (c : List Sc) (p : Int) (q : Int) (m : Nat) (d : List Sc) (K : V → List Blk → Prop) : VC_laws_eqTable  s i n c p q m d K = vbody Tryd.prog (vin Tryd.prog TTB_13 annTTB 3) TTB_13.looks (annTTB 18) 18 [.agg [.int .i64 s, .int .i64 i, .row 0 n], .agg [.int .i64 p, .int .i64 q, .row 1 m]] [⟨.recs [.int .i64, .str, .int .i64] c, 43, .rows 3⟩, ⟨.recs [.int .i64, .str, .int .i64] d, 43, .rows 3⟩] (K) := by kernel_rfl
theorem ok_laws_eqTable : OK Tryd.prog 18 F_laws_eqTable.spec := (vbody_ok (vin_ok TTB_13_ok annTTB 3) TTB_13_ok.looks _ _).ofFM fun args m p R h hp => by
  unfold F_laws_eqTable at h
  split at h
  · injection h with h; injection h with h1 h2; subst h1; subst h2
    exact (congrArg At (eq_laws_eqTable _ _ _ _ _ _ _ _ _)).mp ⟨vc_laws_eqTable _ _ _ _ _ _ _ _ hp⟩
  · cases h
def TTB_14 : Tab := TTB_13.add 18 F_laws_eqTable
theorem TTB_14_ok : TTB_14.Ok Tryd.prog := TTB_13_ok.add ok_laws_eqTable
theorem eq_spec_taGood  (s : Int) (i : Int) (n : Nat) (c : List Sc) (K : V → List Blk → Prop) : VC_spec_taGood  s i n c K = vbody Tryd.prog (vin Tryd.prog TTB_14 annTTB 3) TTB_14.looks (annTTB 51) 51 [.agg [.int .i64 s, .int .i64 i, .row 0 n]] [⟨.recs [.int .i64, .str, .int .i64] c, 43, .rows 3⟩] (K) := by kernel_rfl
theorem ok_spec_taGood : OK Tryd.prog 51 F_spec_taGood.spec := (vbody_ok (vin_ok TTB_14_ok annTTB 3) TTB_14_ok.looks _ _).ofFM fun args m p R h hp => by
  unfold F_spec_taGood at h
  split at h
  · injection h with h; injection h with h1 h2; subst h1; subst h2
    exact (congrArg At (eq_spec_taGood _ _ _ _ _)).mp ⟨vc_spec_taGood _ _ _ _ hp⟩
  · cases h
def TTB_15 : Tab := TTB_14.add 51 F_spec_taGood
theorem TTB_15_ok : TTB_15.Ok Tryd.prog := TTB_14_ok.add ok_spec_taGood
theorem eq_spec_IsTable  (s : Int) (i : Int) (n : Nat) (c : List Sc) (K : V → List Blk → Prop) : VC_spec_IsTable  s i n c K = vbody Tryd.prog (vin Tryd.prog TTB_15 annTTB 3) TTB_15.looks (annTTB 15) 15 [.agg [.int .i64 s, .int .i64 i, .row 0 n]] [⟨.recs [.int .i64, .str, .int .i64] c, 43, .rows 3⟩] (K) := by kernel_rfl
theorem ok_spec_IsTable : OK Tryd.prog 15 F_spec_IsTable.spec := (vbody_ok (vin_ok TTB_15_ok annTTB 3) TTB_15_ok.looks _ _).ofFM fun args m p R h hp => by
  unfold F_spec_IsTable at h
  split at h
  · injection h with h; injection h with h1 h2; subst h1; subst h2
    exact (congrArg At (eq_spec_IsTable _ _ _ _ _)).mp ⟨vc_spec_IsTable _ _ _ _ hp⟩
  · cases h
def TTB_16 : Tab := TTB_15.add 15 F_spec_IsTable
theorem TTB_16_ok : TTB_16.Ok Tryd.prog := TTB_15_ok.add ok_spec_IsTable
theorem eq_impl_isTableSize (a : Int) (b : Int) (K : V → Prop) : VC_impl_isTableSize a b K = vbody Tryd.prog (vin Tryd.prog TTB_16 annTTB 3) TTB_16.looks (annTTB 53) 53 [.int .i64 a, .int .i64 b] [] (fun v _ => K v) := by kernel_rfl
theorem ok_impl_isTableSize : OK Tryd.prog 53 F_impl_isTableSize.spec := (vbody_ok (vin_ok TTB_16_ok annTTB 3) TTB_16_ok.looks _ _).ofF fun args m p R h hp => by
  unfold F_impl_isTableSize at h
  split at h
  · injection h with h; injection h with h1 h2; subst h1; subst h2
    exact ⟨rfl, (congrArg At (eq_impl_isTableSize _ _ _)).mp ⟨vc_impl_isTableSize _ _ hp⟩⟩
  · cases h
def TTB_17 : Tab := TTB_16.add 53 F_impl_isTableSize
theorem TTB_17_ok : TTB_17.Ok Tryd.prog := TTB_16_ok.add ok_impl_isTableSize
theorem eq_impl_IsTable  (s : Int) (i : Int) (n : Nat) (c : List Sc) (g0 : List UInt8) (g1 : List UInt8) (g2 : List UInt8) (g3 : List UInt8) (K : V → List Blk → Prop) : VC_impl_IsTable  s i n c g0 g1 g2 g3 K = vbody Tryd.prog (vin Tryd.prog TTB_17 annTTB 3) TTB_17.looks (annTTB 17) 17 [.agg [.int .i64 s, .int .i64 i, .row 0 n]] [⟨.recs [.int .i64, .str, .int .i64] c, 43, .rows 3⟩, ⟨.vals [.str g0, .str g1, .str g2, .str g3], 9, .gl 0⟩] (K) := by kernel_rfl
theorem ok_impl_IsTable : OK Tryd.prog 17 F_impl_IsTable.spec := (vbody_ok (vin_ok TTB_17_ok annTTB 3) TTB_17_ok.looks _ _).ofFM fun args m p R h hp => by
  unfold F_impl_IsTable at h
  split at h
  · injection h with h; injection h with h1 h2; subst h1; subst h2
    exact (congrArg At (eq_impl_IsTable _ _ _ _ _ _ _ _ _)).mp ⟨vc_impl_IsTable _ _ _ _ _ _ _ _ hp⟩
  · cases h
def TTB_18 : Tab := TTB_17.add 17 F_impl_IsTable
theorem TTB_18_ok : TTB_18.Ok Tryd.prog := TTB_17_ok.add ok_impl_IsTable
theorem eq_spec_RowOf (p : Int) (q : Int) (s : Int) (i : Int) (n : Nat) (c : List Sc) (K : V → List Blk → Prop) : VC_spec_RowOf p q s i n c K = vbody Tryd.prog (vin Tryd.prog TTB_18 annTTB 3) TTB_18.looks (annTTB 24) 24 [.agg [.int .i64 s, .int .i64 i, .row 0 n], .int .i64 p, .int .i64 q] [⟨.recs [.int .i64, .str, .int .i64] c, 43, .rows 3⟩] (K) := by kernel_rfl
theorem ok_spec_RowOf : OK Tryd.prog 24 F_spec_RowOf.spec := (vbody_ok (vin_ok TTB_18_ok annTTB 3) TTB_18_ok.looks _ _).ofFM fun args m p R h hp => by
  unfold F_spec_RowOf at h
  split at h
  · injection h with h; injection h with h1 h2; subst h1; subst h2
    exact (congrArg At (eq_spec_RowOf _ _ _ _ _ _ _)).mp ⟨vc_spec_RowOf _ _ _ _ _ _ hp⟩
  · cases h
def TTB_19 : Tab := TTB_18.add 24 F_spec_RowOf
theorem TTB_19_ok : TTB_19.Ok Tryd.prog := TTB_18_ok.add ok_spec_RowOf
theorem eq_impl_RowOf (p : Int) (q : Int) (s : Int) (i : Int) (n : Nat) (c : List Sc) (g0 : List UInt8) (g1 : List UInt8) (g2 : List UInt8) (g3 : List UInt8) (K : V → List Blk → Prop) : VC_impl_RowOf p q s i n c g0 g1 g2 g3 K = vbody Tryd.prog (vin Tryd.prog TTB_19 annTTB 3) TTB_19.looks (annTTB 25) 25 [.agg [.int .i64 s, .int .i64 i, .row 0 n], .int .i64 p, .int .i64 q] [⟨.recs [.int .i64, .str, .int .i64] c, 43, .rows 3⟩, ⟨.vals [.str g0, .str g1, .str g2, .str g3], 9, .gl 0⟩] (K) := by kernel_rfl
theorem ok_impl_RowOf : OK Tryd.prog 25 F_impl_RowOf.spec := (vbody_ok (vin_ok TTB_19_ok annTTB 3) TTB_19_ok.looks _ _).ofFM fun args m p R h hp => by
  unfold F_impl_RowOf at h
  split at h
  · injection h with h; injection h with h1 h2; subst h1; subst h2
    exact (congrArg At (eq_impl_RowOf _ _ _ _ _ _ _ _ _ _ _)).mp ⟨vc_impl_RowOf _ _ _ _ _ _ _ _ _ _ hp⟩
  · cases h
def TTB_20 : Tab := TTB_19.add 25 F_impl_RowOf
theorem TTB_20_ok : TTB_20.Ok Tryd.prog := TTB_19_ok.add ok_impl_RowOf
def TTB : Tab := TTB_20
theorem TTB_ok : TTB.Ok Tryd.prog := TTB_20_ok
end Go.Proofs.YtopolpgligoldaaDoor
