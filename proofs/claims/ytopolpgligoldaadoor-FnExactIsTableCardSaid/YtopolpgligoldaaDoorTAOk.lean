/- The contracts of this chapter. -/
import Derived.Test.YtopolpgligoldaaDoorProg
import Derived.Test.YtopolpgligoldaaDoorTAPf
import Derived.KernelRfl
namespace Go.Proofs.YtopolpgligoldaaDoor
open Go Go.Vi
set_option linter.unusedVariables false
def annTTA : FuncId → Nat → St → Option Ann := fun f => if f = 114 then ann_spec_woRule else if f = 55 then ann_impl_quartersOfTurn else if f = 50 then ann_laws_szRowS else if f = 52 then ann_laws_toRowS else if f = 56 then ann_laws_eqRowS else if f = 51 then ann_spec_taGood else if f = 17 then ann_impl_IsTable else (fun _ _ => none)
def TTA_0 : Tab := Tab.none
theorem TTA_0_ok : TTA_0.Ok Tryd.prog := Tab.none_ok
theorem eq_spec_l1In (n : Int) (lo : Int) (hi : Int) (K : V → Prop) : VC_spec_l1In n lo hi K = vbody Tryd.prog (vin Tryd.prog TTA_0 annTTA 3) TTA_0.looks (annTTA 63) 63 [.int .i64 n, .int .i64 lo, .int .i64 hi] [] (fun v _ => K v) := by kernel_rfl
theorem ok_spec_l1In : OK Tryd.prog 63 F_spec_l1In.spec := (vbody_ok (vin_ok TTA_0_ok annTTA 3) TTA_0_ok.looks _ _).ofF fun args m p R h hp => by
  unfold F_spec_l1In at h
  split at h
  · injection h with h; injection h with h1 h2; subst h1; subst h2
    exact ⟨rfl, (congrArg At (eq_spec_l1In _ _ _ _)).mp ⟨vc_spec_l1In _ _ _ hp⟩⟩
  · cases h
def TTA_1 : Tab := TTA_0.add 63 F_spec_l1In
theorem TTA_1_ok : TTA_1.Ok Tryd.prog := TTA_0_ok.add ok_spec_l1In
theorem eq_impl_within (n : Int) (lo : Int) (hi : Int) (K : V → Prop) : VC_impl_within n lo hi K = vbody Tryd.prog (vin Tryd.prog TTA_1 annTTA 3) TTA_1.looks (annTTA 54) 54 [.int .i64 n, .int .i64 lo, .int .i64 hi] [] (fun v _ => K v) := by kernel_rfl
theorem ok_impl_within : OK Tryd.prog 54 F_impl_within.spec := (vbody_ok (vin_ok TTA_1_ok annTTA 3) TTA_1_ok.looks _ _).ofF fun args m p R h hp => by
  unfold F_impl_within at h
  split at h
  · injection h with h; injection h with h1 h2; subst h1; subst h2
    exact ⟨rfl, (congrArg At (eq_impl_within _ _ _ _)).mp ⟨vc_impl_within _ _ _ hp⟩⟩
  · cases h
def TTA_2 : Tab := TTA_1.add 54 F_impl_within
theorem TTA_2_ok : TTA_2.Ok Tryd.prog := TTA_1_ok.add ok_impl_within
theorem eq_spec_woRule (s : List UInt8) (K : V → Prop) : VC_spec_woRule s K = vbody Tryd.prog (vin Tryd.prog TTA_2 annTTA 3) TTA_2.looks (annTTA 114) 114 [.str s] [] (fun v _ => K v) := by kernel_rfl
theorem ok_spec_woRule : OK Tryd.prog 114 F_spec_woRule.spec := (vbody_ok (vin_ok TTA_2_ok annTTA 3) TTA_2_ok.looks _ _).ofF fun args m p R h hp => by
  unfold F_spec_woRule at h
  split at h
  · injection h with h; injection h with h1 h2; subst h1; subst h2
    exact ⟨rfl, (congrArg At (eq_spec_woRule _ _)).mp ⟨vc_spec_woRule _ hp⟩⟩
  · cases h
def TTA_3 : Tab := TTA_2.add 114 F_spec_woRule
theorem TTA_3_ok : TTA_3.Ok Tryd.prog := TTA_2_ok.add ok_spec_woRule
theorem eq_spec_taSign (s : List UInt8) (K : V → Prop) : VC_spec_taSign s K = vbody Tryd.prog (vin Tryd.prog TTA_3 annTTA 3) TTA_3.looks (annTTA 91) 91 [.str s] [] (fun v _ => K v) := by kernel_rfl
theorem ok_spec_taSign : OK Tryd.prog 91 F_spec_taSign.spec := (vbody_ok (vin_ok TTA_3_ok annTTA 3) TTA_3_ok.looks _ _).ofF fun args m p R h hp => by
  unfold F_spec_taSign at h
  split at h
  · injection h with h; injection h with h1 h2; subst h1; subst h2
    exact ⟨rfl, (congrArg At (eq_spec_taSign _ _)).mp ⟨vc_spec_taSign _ hp⟩⟩
  · cases h
def TTA_4 : Tab := TTA_3.add 91 F_spec_taSign
theorem TTA_4_ok : TTA_4.Ok Tryd.prog := TTA_3_ok.add ok_spec_taSign
theorem eq_impl_quartersOfTurn (s : List UInt8) (g0 : List UInt8) (g1 : List UInt8) (g2 : List UInt8) (g3 : List UInt8) (K : V → List Blk → Prop) : VC_impl_quartersOfTurn s g0 g1 g2 g3 K = vbody Tryd.prog (vin Tryd.prog TTA_4 annTTA 3) TTA_4.looks (annTTA 55) 55 [.str s] [⟨.vals [.str g0, .str g1, .str g2, .str g3], 9, .gl 0⟩] (K) := by kernel_rfl
theorem ok_impl_quartersOfTurn : OK Tryd.prog 55 F_impl_quartersOfTurn.spec := (vbody_ok (vin_ok TTA_4_ok annTTA 3) TTA_4_ok.looks _ _).ofFM fun args m p R h hp => by
  unfold F_impl_quartersOfTurn at h
  split at h
  · injection h with h; injection h with h1 h2; subst h1; subst h2
    exact (congrArg At (eq_impl_quartersOfTurn _ _ _ _ _ _)).mp ⟨vc_impl_quartersOfTurn _ _ _ _ _ hp⟩
  · cases h
def TTA_5 : Tab := TTA_4.add 55 F_impl_quartersOfTurn
theorem TTA_5_ok : TTA_5.Ok Tryd.prog := TTA_4_ok.add ok_impl_quartersOfTurn
theorem eq_laws_szRow (ra : Int) (rt : List UInt8) (rb : Int) (left : Int) (K : V → Prop) : VC_laws_szRow ra rt rb left K = vbody Tryd.prog (vin Tryd.prog TTA_5 annTTA 3) TTA_5.looks (annTTA 90) 90 [.agg [.int .i64 ra, .str rt, .int .i64 rb], .int .i64 left] [] (fun v _ => K v) := by kernel_rfl
theorem ok_laws_szRow : OK Tryd.prog 90 F_laws_szRow.spec := (vbody_ok (vin_ok TTA_5_ok annTTA 3) TTA_5_ok.looks _ _).ofF fun args m p R h hp => by
  unfold F_laws_szRow at h
  split at h
  · injection h with h; injection h with h1 h2; subst h1; subst h2
    exact ⟨rfl, (congrArg At (eq_laws_szRow _ _ _ _ _)).mp ⟨vc_laws_szRow _ _ _ _ hp⟩⟩
  · cases h
def TTA_6 : Tab := TTA_5.add 90 F_laws_szRow
theorem TTA_6_ok : TTA_6.Ok Tryd.prog := TTA_5_ok.add ok_laws_szRow
theorem eq_laws_szRowS (left : Int) (n : Nat) (c : List Sc) (K : V → List Blk → Prop) : VC_laws_szRowS left n c K = vbody Tryd.prog (vin Tryd.prog TTA_6 annTTA 3) TTA_6.looks (annTTA 50) 50 [.row 0 n, .int .i64 left] [⟨.recs [.int .i64, .str, .int .i64] c, 112, .arg 3⟩] (K) := by kernel_rfl
theorem ok_laws_szRowS : OK Tryd.prog 50 F_laws_szRowS.spec := (vbody_ok (vin_ok TTA_6_ok annTTA 3) TTA_6_ok.looks _ _).ofFM fun args m p R h hp => by
  unfold F_laws_szRowS at h
  split at h
  · injection h with h; injection h with h1 h2; subst h1; subst h2
    exact (congrArg At (eq_laws_szRowS _ _ _ _)).mp ⟨vc_laws_szRowS _ _ _ hp⟩
  · cases h
def TTA_7 : Tab := TTA_6.add 50 F_laws_szRowS
theorem TTA_7_ok : TTA_7.Ok Tryd.prog := TTA_6_ok.add ok_laws_szRowS
theorem eq_laws_szTable (left : Int) (s : Int) (i : Int) (n : Nat) (c : List Sc) (K : V → List Blk → Prop) : VC_laws_szTable left s i n c K = vbody Tryd.prog (vin Tryd.prog TTA_7 annTTA 3) TTA_7.looks (annTTA 14) 14 [.agg [.int .i64 s, .int .i64 i, .row 0 n], .int .i64 left] [⟨.recs [.int .i64, .str, .int .i64] c, 112, .arg 3⟩] (K) := by kernel_rfl
theorem ok_laws_szTable : OK Tryd.prog 14 F_laws_szTable.spec := (vbody_ok (vin_ok TTA_7_ok annTTA 3) TTA_7_ok.looks _ _).ofFM fun args m p R h hp => by
  unfold F_laws_szTable at h
  split at h
  · injection h with h; injection h with h1 h2; subst h1; subst h2
    exact (congrArg At (eq_laws_szTable _ _ _ _ _ _)).mp ⟨vc_laws_szTable _ _ _ _ _ hp⟩
  · cases h
def TTA_8 : Tab := TTA_7.add 14 F_laws_szTable
theorem TTA_8_ok : TTA_8.Ok Tryd.prog := TTA_7_ok.add ok_laws_szTable
theorem eq_laws_toRow (ra : Int) (rt : List UInt8) (rb : Int) (K : V → Prop) : VC_laws_toRow ra rt rb K = vbody Tryd.prog (vin Tryd.prog TTA_8 annTTA 3) TTA_8.looks (annTTA 92) 92 [.agg [.int .i64 ra, .str rt, .int .i64 rb]] [] (fun v _ => K v) := by kernel_rfl
theorem ok_laws_toRow : OK Tryd.prog 92 F_laws_toRow.spec := (vbody_ok (vin_ok TTA_8_ok annTTA 3) TTA_8_ok.looks _ _).ofF fun args m p R h hp => by
  unfold F_laws_toRow at h
  split at h
  · injection h with h; injection h with h1 h2; subst h1; subst h2
    exact ⟨rfl, (congrArg At (eq_laws_toRow _ _ _ _)).mp ⟨vc_laws_toRow _ _ _ hp⟩⟩
  · cases h
def TTA_9 : Tab := TTA_8.add 92 F_laws_toRow
theorem TTA_9_ok : TTA_9.Ok Tryd.prog := TTA_8_ok.add ok_laws_toRow
theorem eq_laws_toRowS  (n : Nat) (c : List Sc) (K : V → List Blk → Prop) : VC_laws_toRowS  n c K = vbody Tryd.prog (vin Tryd.prog TTA_9 annTTA 3) TTA_9.looks (annTTA 52) 52 [.row 0 n] [⟨.recs [.int .i64, .str, .int .i64] c, 112, .arg 3⟩] (K) := by kernel_rfl
theorem ok_laws_toRowS : OK Tryd.prog 52 F_laws_toRowS.spec := (vbody_ok (vin_ok TTA_9_ok annTTA 3) TTA_9_ok.looks _ _).ofG fun args m p R M h hp => by
  unfold F_laws_toRowS at h
  split at h
  · injection h with h; injection h with h1 h2; injection h2 with h2 h3; subst h1; subst h2; subst h3
    exact (congrArg At (eq_laws_toRowS _ _ _)).mp ⟨vc_laws_toRowS _ _ hp⟩
  · cases h
def TTA_10 : Tab := TTA_9.addG 52 F_laws_toRowS
theorem TTA_10_ok : TTA_10.Ok Tryd.prog := TTA_9_ok.addG ok_laws_toRowS
theorem eq_laws_toTable  (s : Int) (i : Int) (n : Nat) (c : List Sc) (K : V → List Blk → Prop) : VC_laws_toTable  s i n c K = vbody Tryd.prog (vin Tryd.prog TTA_10 annTTA 3) TTA_10.looks (annTTA 16) 16 [.agg [.int .i64 s, .int .i64 i, .row 0 n]] [⟨.recs [.int .i64, .str, .int .i64] c, 112, .arg 3⟩] (K) := by kernel_rfl
theorem ok_laws_toTable : OK Tryd.prog 16 F_laws_toTable.spec := (vbody_ok (vin_ok TTA_10_ok annTTA 3) TTA_10_ok.looks _ _).ofG fun args m p R M h hp => by
  unfold F_laws_toTable at h
  split at h
  · injection h with h; injection h with h1 h2; injection h2 with h2 h3; subst h1; subst h2; subst h3
    exact (congrArg At (eq_laws_toTable _ _ _ _ _)).mp ⟨vc_laws_toTable _ _ _ _ hp⟩
  · cases h
def TTA_11 : Tab := TTA_10.addG 16 F_laws_toTable
theorem TTA_11_ok : TTA_11.Ok Tryd.prog := TTA_10_ok.addG ok_laws_toTable
theorem eq_laws_eqRow (ra : Int) (rt : List UInt8) (rb : Int) (qa : Int) (qt : List UInt8) (qb : Int) (K : V → Prop) : VC_laws_eqRow ra rt rb qa qt qb K = vbody Tryd.prog (vin Tryd.prog TTA_11 annTTA 3) TTA_11.looks (annTTA 26) 26 [.agg [.int .i64 ra, .str rt, .int .i64 rb], .agg [.int .i64 qa, .str qt, .int .i64 qb]] [] (fun v _ => K v) := by kernel_rfl
theorem ok_laws_eqRow : OK Tryd.prog 26 F_laws_eqRow.spec := (vbody_ok (vin_ok TTA_11_ok annTTA 3) TTA_11_ok.looks _ _).ofF fun args m p R h hp => by
  unfold F_laws_eqRow at h
  split at h
  · injection h with h; injection h with h1 h2; subst h1; subst h2
    exact ⟨rfl, (congrArg At (eq_laws_eqRow _ _ _ _ _ _ _)).mp ⟨vc_laws_eqRow _ _ _ _ _ _ hp⟩⟩
  · cases h
def TTA_12 : Tab := TTA_11.add 26 F_laws_eqRow
theorem TTA_12_ok : TTA_12.Ok Tryd.prog := TTA_11_ok.add ok_laws_eqRow
theorem eq_laws_eqRowS  (n : Nat) (m : Nat) (c : List Sc) (d : List Sc) (K : V → List Blk → Prop) : VC_laws_eqRowS  n m c d K = vbody Tryd.prog (vin Tryd.prog TTA_12 annTTA 3) TTA_12.looks (annTTA 56) 56 [.row 0 n, .row 1 m] [⟨.recs [.int .i64, .str, .int .i64] c, 43, .rows 3⟩, ⟨.recs [.int .i64, .str, .int .i64] d, 43, .rows 3⟩] (K) := by kernel_rfl
theorem ok_laws_eqRowS : OK Tryd.prog 56 F_laws_eqRowS.spec := (vbody_ok (vin_ok TTA_12_ok annTTA 3) TTA_12_ok.looks _ _).ofFM fun args m p R h hp => by
  unfold F_laws_eqRowS at h
  split at h
  · injection h with h; injection h with h1 h2; subst h1; subst h2
    exact (congrArg At (eq_laws_eqRowS _ _ _ _ _)).mp ⟨vc_laws_eqRowS _ _ _ _ hp⟩
  · cases h
def TTA_13 : Tab := TTA_12.add 56 F_laws_eqRowS
theorem TTA_13_ok : TTA_13.Ok Tryd.prog := TTA_12_ok.add ok_laws_eqRowS
theorem eq_laws_eqTable  (s : Int) (i : Int) (n : Nat) (c : List Sc) (p : Int) (q : Int) (m : Nat) (d : List Sc) (K : V → List Blk → Prop) : VC_laws_eqTable  s i n c p q m d K = vbody Tryd.prog (vin Tryd.prog TTA_13 annTTA 3) TTA_13.looks (annTTA 18) 18 [.agg [.int .i64 s, .int .i64 i, .row 0 n], .agg [.int .i64 p, .int .i64 q, .row 1 m]] [⟨.recs [.int .i64, .str, .int .i64] c, 43, .rows 3⟩, ⟨.recs [.int .i64, .str, .int .i64] d, 43, .rows 3⟩] (K) := by kernel_rfl
theorem ok_laws_eqTable : OK Tryd.prog 18 F_laws_eqTable.spec := (vbody_ok (vin_ok TTA_13_ok annTTA 3) TTA_13_ok.looks _ _).ofFM fun args m p R h hp => by
  unfold F_laws_eqTable at h
  split at h
  · injection h with h; injection h with h1 h2; subst h1; subst h2
    exact (congrArg At (eq_laws_eqTable _ _ _ _ _ _ _ _ _)).mp ⟨vc_laws_eqTable _ _ _ _ _ _ _ _ hp⟩
  · cases h
def TTA_14 : Tab := TTA_13.add 18 F_laws_eqTable
theorem TTA_14_ok : TTA_14.Ok Tryd.prog := TTA_13_ok.add ok_laws_eqTable
theorem eq_spec_taGood  (s : Int) (i : Int) (n : Nat) (c : List Sc) (K : V → List Blk → Prop) : VC_spec_taGood  s i n c K = vbody Tryd.prog (vin Tryd.prog TTA_14 annTTA 3) TTA_14.looks (annTTA 51) 51 [.agg [.int .i64 s, .int .i64 i, .row 0 n]] [⟨.recs [.int .i64, .str, .int .i64] c, 43, .rows 3⟩] (K) := by kernel_rfl
theorem ok_spec_taGood : OK Tryd.prog 51 F_spec_taGood.spec := (vbody_ok (vin_ok TTA_14_ok annTTA 3) TTA_14_ok.looks _ _).ofFM fun args m p R h hp => by
  unfold F_spec_taGood at h
  split at h
  · injection h with h; injection h with h1 h2; subst h1; subst h2
    exact (congrArg At (eq_spec_taGood _ _ _ _ _)).mp ⟨vc_spec_taGood _ _ _ _ hp⟩
  · cases h
def TTA_15 : Tab := TTA_14.add 51 F_spec_taGood
theorem TTA_15_ok : TTA_15.Ok Tryd.prog := TTA_14_ok.add ok_spec_taGood
theorem eq_spec_IsTable  (s : Int) (i : Int) (n : Nat) (c : List Sc) (K : V → List Blk → Prop) : VC_spec_IsTable  s i n c K = vbody Tryd.prog (vin Tryd.prog TTA_15 annTTA 3) TTA_15.looks (annTTA 15) 15 [.agg [.int .i64 s, .int .i64 i, .row 0 n]] [⟨.recs [.int .i64, .str, .int .i64] c, 43, .rows 3⟩] (K) := by kernel_rfl
theorem ok_spec_IsTable : OK Tryd.prog 15 F_spec_IsTable.spec := (vbody_ok (vin_ok TTA_15_ok annTTA 3) TTA_15_ok.looks _ _).ofFM fun args m p R h hp => by
  unfold F_spec_IsTable at h
  split at h
  · injection h with h; injection h with h1 h2; subst h1; subst h2
    exact (congrArg At (eq_spec_IsTable _ _ _ _ _)).mp ⟨vc_spec_IsTable _ _ _ _ hp⟩
  · cases h
def TTA_16 : Tab := TTA_15.add 15 F_spec_IsTable
theorem TTA_16_ok : TTA_16.Ok Tryd.prog := TTA_15_ok.add ok_spec_IsTable
theorem eq_impl_isTableSize (a : Int) (b : Int) (K : V → Prop) : VC_impl_isTableSize a b K = vbody Tryd.prog (vin Tryd.prog TTA_16 annTTA 3) TTA_16.looks (annTTA 53) 53 [.int .i64 a, .int .i64 b] [] (fun v _ => K v) := by kernel_rfl
theorem ok_impl_isTableSize : OK Tryd.prog 53 F_impl_isTableSize.spec := (vbody_ok (vin_ok TTA_16_ok annTTA 3) TTA_16_ok.looks _ _).ofF fun args m p R h hp => by
  unfold F_impl_isTableSize at h
  split at h
  · injection h with h; injection h with h1 h2; subst h1; subst h2
    exact ⟨rfl, (congrArg At (eq_impl_isTableSize _ _ _)).mp ⟨vc_impl_isTableSize _ _ hp⟩⟩
  · cases h
def TTA_17 : Tab := TTA_16.add 53 F_impl_isTableSize
theorem TTA_17_ok : TTA_17.Ok Tryd.prog := TTA_16_ok.add ok_impl_isTableSize
theorem eq_impl_IsTable  (s : Int) (i : Int) (n : Nat) (c : List Sc) (g0 : List UInt8) (g1 : List UInt8) (g2 : List UInt8) (g3 : List UInt8) (K : V → List Blk → Prop) : VC_impl_IsTable  s i n c g0 g1 g2 g3 K = vbody Tryd.prog (vin Tryd.prog TTA_17 annTTA 3) TTA_17.looks (annTTA 17) 17 [.agg [.int .i64 s, .int .i64 i, .row 0 n]] [⟨.recs [.int .i64, .str, .int .i64] c, 43, .rows 3⟩, ⟨.vals [.str g0, .str g1, .str g2, .str g3], 9, .gl 0⟩] (K) := by kernel_rfl
theorem ok_impl_IsTable : OK Tryd.prog 17 F_impl_IsTable.spec := (vbody_ok (vin_ok TTA_17_ok annTTA 3) TTA_17_ok.looks _ _).ofFM fun args m p R h hp => by
  unfold F_impl_IsTable at h
  split at h
  · injection h with h; injection h with h1 h2; subst h1; subst h2
    exact (congrArg At (eq_impl_IsTable _ _ _ _ _ _ _ _ _)).mp ⟨vc_impl_IsTable _ _ _ _ _ _ _ _ hp⟩
  · cases h
def TTA_18 : Tab := TTA_17.add 17 F_impl_IsTable
theorem TTA_18_ok : TTA_18.Ok Tryd.prog := TTA_17_ok.add ok_impl_IsTable
def TTA : Tab := TTA_18
theorem TTA_ok : TTA.Ok Tryd.prog := TTA_18_ok
end Go.Proofs.YtopolpgligoldaaDoor
