/- The contracts of this chapter. -/
import Derived.Test.YtlnjbdaenikkiaaDoorTFLib
import Derived.Test.YtlnjbdaenikkiaaDoorProg
import Derived.Test.YtlnjbdaenikkiaaDoorTFPf
import Derived.KernelRfl
namespace Go.Proofs.YtlnjbdaenikkiaaDoor
open Go Go.Vi
set_option linter.unusedVariables false
def annTTF : FuncId → Nat → St → Option Ann := fun f => if f = 80 then ann_spec_woRule else if f = 63 then ann_impl_quartersOfTurn else if f = 31 then ann_laws_szRowS else if f = 36 then ann_laws_toRowS else if f = 41 then ann_laws_eqRowS else if f = 32 then ann_spec_taGood else if f = 37 then ann_impl_IsTable else if f = 72 then ann_laws_markText else if f = 42 then ann_laws_markRowS else if f = 53 then ann_laws_heldRowS else if f = 35 then ann_spec_woZeros else (fun _ _ => none)
def TTF_0 : Tab := Tab.none
theorem TTF_0_ok : TTF_0.Ok Tryd.prog := Tab.none_ok
theorem eq_spec_l1In (n : Int) (lo : Int) (hi : Int) (K : V → Prop) : VC_spec_l1In n lo hi K = vbody Tryd.prog (vin Tryd.prog TTF_0 annTTF 3) TTF_0.looks (annTTF 33) 33 [.int .i64 n, .int .i64 lo, .int .i64 hi] [] (fun v _ => K v) := by kernel_rfl
theorem ok_spec_l1In : OK Tryd.prog 33 F_spec_l1In.spec := (vbody_ok (vin_ok TTF_0_ok annTTF 3) TTF_0_ok.looks _ _).ofF fun args m p R h hp => by
  unfold F_spec_l1In at h
  split at h
  · injection h with h; injection h with h1 h2; subst h1; subst h2
    exact ⟨rfl, (congrArg At (eq_spec_l1In _ _ _ _)).mp ⟨vc_spec_l1In _ _ _ hp⟩⟩
  · cases h
def TTF_1 : Tab := TTF_0.add 33 F_spec_l1In
theorem TTF_1_ok : TTF_1.Ok Tryd.prog := TTF_0_ok.add ok_spec_l1In
theorem eq_impl_within (n : Int) (lo : Int) (hi : Int) (K : V → Prop) : VC_impl_within n lo hi K = vbody Tryd.prog (vin Tryd.prog TTF_1 annTTF 3) TTF_1.looks (annTTF 47) 47 [.int .i64 n, .int .i64 lo, .int .i64 hi] [] (fun v _ => K v) := by kernel_rfl
theorem ok_impl_within : OK Tryd.prog 47 F_impl_within.spec := (vbody_ok (vin_ok TTF_1_ok annTTF 3) TTF_1_ok.looks _ _).ofF fun args m p R h hp => by
  unfold F_impl_within at h
  split at h
  · injection h with h; injection h with h1 h2; subst h1; subst h2
    exact ⟨rfl, (congrArg At (eq_impl_within _ _ _ _)).mp ⟨vc_impl_within _ _ _ hp⟩⟩
  · cases h
def TTF_2 : Tab := TTF_1.add 47 F_impl_within
theorem TTF_2_ok : TTF_2.Ok Tryd.prog := TTF_1_ok.add ok_impl_within
theorem eq_spec_woRule (s : List UInt8) (K : V → Prop) : VC_spec_woRule s K = vbody Tryd.prog (vin Tryd.prog TTF_2 annTTF 3) TTF_2.looks (annTTF 80) 80 [.str s] [] (fun v _ => K v) := by kernel_rfl
theorem ok_spec_woRule : OK Tryd.prog 80 F_spec_woRule.spec := (vbody_ok (vin_ok TTF_2_ok annTTF 3) TTF_2_ok.looks _ _).ofF fun args m p R h hp => by
  unfold F_spec_woRule at h
  split at h
  · injection h with h; injection h with h1 h2; subst h1; subst h2
    exact ⟨rfl, (congrArg At (eq_spec_woRule _ _)).mp ⟨vc_spec_woRule _ hp⟩⟩
  · cases h
def TTF_3 : Tab := TTF_2.add 80 F_spec_woRule
theorem TTF_3_ok : TTF_3.Ok Tryd.prog := TTF_2_ok.add ok_spec_woRule
theorem eq_spec_taSign (s : List UInt8) (K : V → Prop) : VC_spec_taSign s K = vbody Tryd.prog (vin Tryd.prog TTF_3 annTTF 3) TTF_3.looks (annTTF 60) 60 [.str s] [] (fun v _ => K v) := by kernel_rfl
theorem ok_spec_taSign : OK Tryd.prog 60 F_spec_taSign.spec := (vbody_ok (vin_ok TTF_3_ok annTTF 3) TTF_3_ok.looks _ _).ofF fun args m p R h hp => by
  unfold F_spec_taSign at h
  split at h
  · injection h with h; injection h with h1 h2; subst h1; subst h2
    exact ⟨rfl, (congrArg At (eq_spec_taSign _ _)).mp ⟨vc_spec_taSign _ hp⟩⟩
  · cases h
def TTF_4 : Tab := TTF_3.add 60 F_spec_taSign
theorem TTF_4_ok : TTF_4.Ok Tryd.prog := TTF_3_ok.add ok_spec_taSign
theorem eq_impl_quartersOfTurn (s : List UInt8) (g0 : List UInt8) (g1 : List UInt8) (g2 : List UInt8) (g3 : List UInt8) (K : V → List Blk → Prop) : VC_impl_quartersOfTurn s g0 g1 g2 g3 K = vbody Tryd.prog (vin Tryd.prog TTF_4 annTTF 3) TTF_4.looks (annTTF 63) 63 [.str s] [⟨.vals [.str g0, .str g1, .str g2, .str g3], 9, .gl 0⟩] (K) := by kernel_rfl
theorem ok_impl_quartersOfTurn : OK Tryd.prog 63 F_impl_quartersOfTurn.spec := (vbody_ok (vin_ok TTF_4_ok annTTF 3) TTF_4_ok.looks _ _).ofFM fun args m p R h hp => by
  unfold F_impl_quartersOfTurn at h
  split at h
  · injection h with h; injection h with h1 h2; subst h1; subst h2
    exact (congrArg At (eq_impl_quartersOfTurn _ _ _ _ _ _)).mp ⟨vc_impl_quartersOfTurn _ _ _ _ _ hp⟩
  · cases h
def TTF_5 : Tab := TTF_4.add 63 F_impl_quartersOfTurn
theorem TTF_5_ok : TTF_5.Ok Tryd.prog := TTF_4_ok.add ok_impl_quartersOfTurn
theorem eq_laws_szRow (ra : Int) (rt : List UInt8) (rb : Int) (left : Int) (K : V → Prop) : VC_laws_szRow ra rt rb left K = vbody Tryd.prog (vin Tryd.prog TTF_5 annTTF 3) TTF_5.looks (annTTF 59) 59 [.agg [.int .i64 ra, .str rt, .int .i64 rb], .int .i64 left] [] (fun v _ => K v) := by kernel_rfl
theorem ok_laws_szRow : OK Tryd.prog 59 F_laws_szRow.spec := (vbody_ok (vin_ok TTF_5_ok annTTF 3) TTF_5_ok.looks _ _).ofF fun args m p R h hp => by
  unfold F_laws_szRow at h
  split at h
  · injection h with h; injection h with h1 h2; subst h1; subst h2
    exact ⟨rfl, (congrArg At (eq_laws_szRow _ _ _ _ _)).mp ⟨vc_laws_szRow _ _ _ _ hp⟩⟩
  · cases h
def TTF_6 : Tab := TTF_5.add 59 F_laws_szRow
theorem TTF_6_ok : TTF_6.Ok Tryd.prog := TTF_5_ok.add ok_laws_szRow
theorem eq_laws_szRowS (left : Int) (n : Nat) (c : List Sc) (K : V → List Blk → Prop) : VC_laws_szRowS left n c K = vbody Tryd.prog (vin Tryd.prog TTF_6 annTTF 3) TTF_6.looks (annTTF 31) 31 [.row 0 n, .int .i64 left] [⟨.recs [.int .i64, .str, .int .i64] c, 86, .arg 3⟩] (K) := by kernel_rfl
theorem ok_laws_szRowS : OK Tryd.prog 31 F_laws_szRowS.spec := (vbody_ok (vin_ok TTF_6_ok annTTF 3) TTF_6_ok.looks _ _).ofFM fun args m p R h hp => by
  unfold F_laws_szRowS at h
  split at h
  · injection h with h; injection h with h1 h2; subst h1; subst h2
    exact (congrArg At (eq_laws_szRowS _ _ _ _)).mp ⟨vc_laws_szRowS _ _ _ hp⟩
  · cases h
def TTF_7 : Tab := TTF_6.add 31 F_laws_szRowS
theorem TTF_7_ok : TTF_7.Ok Tryd.prog := TTF_6_ok.add ok_laws_szRowS
theorem eq_laws_szTable (left : Int) (s : Int) (i : Int) (n : Nat) (c : List Sc) (K : V → List Blk → Prop) : VC_laws_szTable left s i n c K = vbody Tryd.prog (vin Tryd.prog TTF_7 annTTF 3) TTF_7.looks (annTTF 8) 8 [.agg [.int .i64 s, .int .i64 i, .row 0 n], .int .i64 left] [⟨.recs [.int .i64, .str, .int .i64] c, 86, .arg 3⟩] (K) := by kernel_rfl
theorem ok_laws_szTable : OK Tryd.prog 8 F_laws_szTable.spec := (vbody_ok (vin_ok TTF_7_ok annTTF 3) TTF_7_ok.looks _ _).ofFM fun args m p R h hp => by
  unfold F_laws_szTable at h
  split at h
  · injection h with h; injection h with h1 h2; subst h1; subst h2
    exact (congrArg At (eq_laws_szTable _ _ _ _ _ _)).mp ⟨vc_laws_szTable _ _ _ _ _ hp⟩
  · cases h
def TTF_8 : Tab := TTF_7.add 8 F_laws_szTable
theorem TTF_8_ok : TTF_8.Ok Tryd.prog := TTF_7_ok.add ok_laws_szTable
theorem eq_laws_toRow (ra : Int) (rt : List UInt8) (rb : Int) (K : V → Prop) : VC_laws_toRow ra rt rb K = vbody Tryd.prog (vin Tryd.prog TTF_8 annTTF 3) TTF_8.looks (annTTF 61) 61 [.agg [.int .i64 ra, .str rt, .int .i64 rb]] [] (fun v _ => K v) := by kernel_rfl
theorem ok_laws_toRow : OK Tryd.prog 61 F_laws_toRow.spec := (vbody_ok (vin_ok TTF_8_ok annTTF 3) TTF_8_ok.looks _ _).ofF fun args m p R h hp => by
  unfold F_laws_toRow at h
  split at h
  · injection h with h; injection h with h1 h2; subst h1; subst h2
    exact ⟨rfl, (congrArg At (eq_laws_toRow _ _ _ _)).mp ⟨vc_laws_toRow _ _ _ hp⟩⟩
  · cases h
def TTF_9 : Tab := TTF_8.add 61 F_laws_toRow
theorem TTF_9_ok : TTF_9.Ok Tryd.prog := TTF_8_ok.add ok_laws_toRow
theorem eq_laws_toRowS  (n : Nat) (c : List Sc) (K : V → List Blk → Prop) : VC_laws_toRowS  n c K = vbody Tryd.prog (vin Tryd.prog TTF_9 annTTF 3) TTF_9.looks (annTTF 36) 36 [.row 0 n] [⟨.recs [.int .i64, .str, .int .i64] c, 86, .arg 3⟩] (K) := by kernel_rfl
theorem ok_laws_toRowS : OK Tryd.prog 36 F_laws_toRowS.spec := (vbody_ok (vin_ok TTF_9_ok annTTF 3) TTF_9_ok.looks _ _).ofG fun args m p R M h hp => by
  unfold F_laws_toRowS at h
  split at h
  · injection h with h; injection h with h1 h2; injection h2 with h2 h3; subst h1; subst h2; subst h3
    exact (congrArg At (eq_laws_toRowS _ _ _)).mp ⟨vc_laws_toRowS _ _ hp⟩
  · cases h
def TTF_10 : Tab := TTF_9.addG 36 F_laws_toRowS
theorem TTF_10_ok : TTF_10.Ok Tryd.prog := TTF_9_ok.addG ok_laws_toRowS
theorem eq_laws_toTable  (s : Int) (i : Int) (n : Nat) (c : List Sc) (K : V → List Blk → Prop) : VC_laws_toTable  s i n c K = vbody Tryd.prog (vin Tryd.prog TTF_10 annTTF 3) TTF_10.looks (annTTF 10) 10 [.agg [.int .i64 s, .int .i64 i, .row 0 n]] [⟨.recs [.int .i64, .str, .int .i64] c, 86, .arg 3⟩] (K) := by kernel_rfl
theorem ok_laws_toTable : OK Tryd.prog 10 F_laws_toTable.spec := (vbody_ok (vin_ok TTF_10_ok annTTF 3) TTF_10_ok.looks _ _).ofG fun args m p R M h hp => by
  unfold F_laws_toTable at h
  split at h
  · injection h with h; injection h with h1 h2; injection h2 with h2 h3; subst h1; subst h2; subst h3
    exact (congrArg At (eq_laws_toTable _ _ _ _ _)).mp ⟨vc_laws_toTable _ _ _ _ hp⟩
  · cases h
def TTF_11 : Tab := TTF_10.addG 10 F_laws_toTable
theorem TTF_11_ok : TTF_11.Ok Tryd.prog := TTF_10_ok.addG ok_laws_toTable
theorem eq_laws_eqRow (ra : Int) (rt : List UInt8) (rb : Int) (qa : Int) (qt : List UInt8) (qb : Int) (K : V → Prop) : VC_laws_eqRow ra rt rb qa qt qb K = vbody Tryd.prog (vin Tryd.prog TTF_11 annTTF 3) TTF_11.looks (annTTF 71) 71 [.agg [.int .i64 ra, .str rt, .int .i64 rb], .agg [.int .i64 qa, .str qt, .int .i64 qb]] [] (fun v _ => K v) := by kernel_rfl
theorem ok_laws_eqRow : OK Tryd.prog 71 F_laws_eqRow.spec := (vbody_ok (vin_ok TTF_11_ok annTTF 3) TTF_11_ok.looks _ _).ofF fun args m p R h hp => by
  unfold F_laws_eqRow at h
  split at h
  · injection h with h; injection h with h1 h2; subst h1; subst h2
    exact ⟨rfl, (congrArg At (eq_laws_eqRow _ _ _ _ _ _ _)).mp ⟨vc_laws_eqRow _ _ _ _ _ _ hp⟩⟩
  · cases h
def TTF_12 : Tab := TTF_11.add 71 F_laws_eqRow
theorem TTF_12_ok : TTF_12.Ok Tryd.prog := TTF_11_ok.add ok_laws_eqRow
theorem eq_laws_eqRowS  (n : Nat) (m : Nat) (c : List Sc) (d : List Sc) (K : V → List Blk → Prop) : VC_laws_eqRowS  n m c d K = vbody Tryd.prog (vin Tryd.prog TTF_12 annTTF 3) TTF_12.looks (annTTF 41) 41 [.row 0 n, .row 1 m] [⟨.recs [.int .i64, .str, .int .i64] c, 79, .rows 3⟩, ⟨.recs [.int .i64, .str, .int .i64] d, 79, .rows 3⟩] (K) := by kernel_rfl
theorem ok_laws_eqRowS : OK Tryd.prog 41 F_laws_eqRowS.spec := (vbody_ok (vin_ok TTF_12_ok annTTF 3) TTF_12_ok.looks _ _).ofFM fun args m p R h hp => by
  unfold F_laws_eqRowS at h
  split at h
  · injection h with h; injection h with h1 h2; subst h1; subst h2
    exact (congrArg At (eq_laws_eqRowS _ _ _ _ _)).mp ⟨vc_laws_eqRowS _ _ _ _ hp⟩
  · cases h
def TTF_13 : Tab := TTF_12.add 41 F_laws_eqRowS
theorem TTF_13_ok : TTF_13.Ok Tryd.prog := TTF_12_ok.add ok_laws_eqRowS
theorem eq_laws_eqTable  (s : Int) (i : Int) (n : Nat) (c : List Sc) (p : Int) (q : Int) (m : Nat) (d : List Sc) (K : V → List Blk → Prop) : VC_laws_eqTable  s i n c p q m d K = vbody Tryd.prog (vin Tryd.prog TTF_13 annTTF 3) TTF_13.looks (annTTF 13) 13 [.agg [.int .i64 s, .int .i64 i, .row 0 n], .agg [.int .i64 p, .int .i64 q, .row 1 m]] [⟨.recs [.int .i64, .str, .int .i64] c, 79, .rows 3⟩, ⟨.recs [.int .i64, .str, .int .i64] d, 79, .rows 3⟩] (K) := by kernel_rfl
theorem ok_laws_eqTable : OK Tryd.prog 13 F_laws_eqTable.spec := (vbody_ok (vin_ok TTF_13_ok annTTF 3) TTF_13_ok.looks _ _).ofFM fun args m p R h hp => by
  unfold F_laws_eqTable at h
  split at h
  · injection h with h; injection h with h1 h2; subst h1; subst h2
    exact (congrArg At (eq_laws_eqTable _ _ _ _ _ _ _ _ _)).mp ⟨vc_laws_eqTable _ _ _ _ _ _ _ _ hp⟩
  · cases h
def TTF_14 : Tab := TTF_13.add 13 F_laws_eqTable
theorem TTF_14_ok : TTF_14.Ok Tryd.prog := TTF_13_ok.add ok_laws_eqTable
theorem eq_spec_taGood  (s : Int) (i : Int) (n : Nat) (c : List Sc) (K : V → List Blk → Prop) : VC_spec_taGood  s i n c K = vbody Tryd.prog (vin Tryd.prog TTF_14 annTTF 3) TTF_14.looks (annTTF 32) 32 [.agg [.int .i64 s, .int .i64 i, .row 0 n]] [⟨.recs [.int .i64, .str, .int .i64] c, 79, .rows 3⟩] (K) := by kernel_rfl
theorem ok_spec_taGood : OK Tryd.prog 32 F_spec_taGood.spec := (vbody_ok (vin_ok TTF_14_ok annTTF 3) TTF_14_ok.looks _ _).ofFM fun args m p R h hp => by
  unfold F_spec_taGood at h
  split at h
  · injection h with h; injection h with h1 h2; subst h1; subst h2
    exact (congrArg At (eq_spec_taGood _ _ _ _ _)).mp ⟨vc_spec_taGood _ _ _ _ hp⟩
  · cases h
def TTF_15 : Tab := TTF_14.add 32 F_spec_taGood
theorem TTF_15_ok : TTF_15.Ok Tryd.prog := TTF_14_ok.add ok_spec_taGood
theorem eq_impl_isTableSize (a : Int) (b : Int) (K : V → Prop) : VC_impl_isTableSize a b K = vbody Tryd.prog (vin Tryd.prog TTF_15 annTTF 3) TTF_15.looks (annTTF 62) 62 [.int .i64 a, .int .i64 b] [] (fun v _ => K v) := by kernel_rfl
theorem ok_impl_isTableSize : OK Tryd.prog 62 F_impl_isTableSize.spec := (vbody_ok (vin_ok TTF_15_ok annTTF 3) TTF_15_ok.looks _ _).ofF fun args m p R h hp => by
  unfold F_impl_isTableSize at h
  split at h
  · injection h with h; injection h with h1 h2; subst h1; subst h2
    exact ⟨rfl, (congrArg At (eq_impl_isTableSize _ _ _)).mp ⟨vc_impl_isTableSize _ _ hp⟩⟩
  · cases h
def TTF_16 : Tab := TTF_15.add 62 F_impl_isTableSize
theorem TTF_16_ok : TTF_16.Ok Tryd.prog := TTF_15_ok.add ok_impl_isTableSize
theorem eq_impl_IsTable  (s : Int) (i : Int) (n : Nat) (c : List Sc) (g0 : List UInt8) (g1 : List UInt8) (g2 : List UInt8) (g3 : List UInt8) (K : V → List Blk → Prop) : VC_impl_IsTable  s i n c g0 g1 g2 g3 K = vbody Tryd.prog (vin Tryd.prog TTF_16 annTTF 3) TTF_16.looks (annTTF 37) 37 [.agg [.int .i64 s, .int .i64 i, .row 0 n]] [⟨.recs [.int .i64, .str, .int .i64] c, 79, .rows 3⟩, ⟨.vals [.str g0, .str g1, .str g2, .str g3], 9, .gl 0⟩] (K) := by kernel_rfl
theorem ok_impl_IsTable : OK Tryd.prog 37 F_impl_IsTable.spec := (vbody_ok (vin_ok TTF_16_ok annTTF 3) TTF_16_ok.looks _ _).ofFM fun args m p R h hp => by
  unfold F_impl_IsTable at h
  split at h
  · injection h with h; injection h with h1 h2; subst h1; subst h2
    exact (congrArg At (eq_impl_IsTable _ _ _ _ _ _ _ _ _)).mp ⟨vc_impl_IsTable _ _ _ _ _ _ _ _ hp⟩
  · cases h
def TTF_17 : Tab := TTF_16.add 37 F_impl_IsTable
theorem TTF_17_ok : TTF_17.Ok Tryd.prog := TTF_16_ok.add ok_impl_IsTable
theorem eq_laws_markText (k : Int) (K : V → Prop) : VC_laws_markText k K = vbody Tryd.prog (vin Tryd.prog TTF_17 annTTF 3) TTF_17.looks (annTTF 72) 72 [.int .i64 k] [] (fun v _ => K v) := by kernel_rfl
theorem ok_laws_markText : OK Tryd.prog 72 F_laws_markText.spec := (vbody_ok (vin_ok TTF_17_ok annTTF 3) TTF_17_ok.looks _ _).ofF fun args m p R h hp => by
  unfold F_laws_markText at h
  split at h
  · injection h with h; injection h with h1 h2; subst h1; subst h2
    exact ⟨rfl, (congrArg At (eq_laws_markText _ _)).mp ⟨vc_laws_markText _ hp⟩⟩
  · cases h
def TTF_18 : Tab := TTF_17.add 72 F_laws_markText
theorem TTF_18_ok : TTF_18.Ok Tryd.prog := TTF_17_ok.add ok_laws_markText
theorem eq_laws_markRowS (k : Int) (n : Nat) (c : List Sc) (K : V → List Blk → Prop) : VC_laws_markRowS k n c K = vbody Tryd.prog (vin Tryd.prog TTF_18 annTTF 3) TTF_18.looks (annTTF 42) 42 [.row 0 n, .int .i64 k] [⟨.recs [.int .i64, .str, .int .i64] c, 79, .rows 3⟩] (K) := by kernel_rfl
theorem ok_laws_markRowS : OK Tryd.prog 42 F_laws_markRowS.spec := (vbody_ok (vin_ok TTF_18_ok annTTF 3) TTF_18_ok.looks _ _).ofG fun args m p R M h hp => by
  unfold F_laws_markRowS at h
  split at h
  · injection h with h; injection h with h1 h2; injection h2 with h2 h3; subst h1; subst h2; subst h3
    exact (congrArg At (eq_laws_markRowS _ _ _ _)).mp ⟨vc_laws_markRowS _ _ _ hp⟩
  · cases h
def TTF_19 : Tab := TTF_18.addG 42 F_laws_markRowS
theorem TTF_19_ok : TTF_19.Ok Tryd.prog := TTF_18_ok.addG ok_laws_markRowS
theorem eq_laws_markTable (k : Int) (s : Int) (i : Int) (n : Nat) (c : List Sc) (K : V → List Blk → Prop) : VC_laws_markTable k s i n c K = vbody Tryd.prog (vin Tryd.prog TTF_19 annTTF 3) TTF_19.looks (annTTF 14) 14 [.agg [.int .i64 s, .int .i64 i, .row 0 n], .int .i64 k] [⟨.recs [.int .i64, .str, .int .i64] c, 79, .rows 3⟩] (K) := by kernel_rfl
theorem ok_laws_markTable : OK Tryd.prog 14 F_laws_markTable.spec := (vbody_ok (vin_ok TTF_19_ok annTTF 3) TTF_19_ok.looks _ _).ofG fun args m p R M h hp => by
  unfold F_laws_markTable at h
  split at h
  · injection h with h; injection h with h1 h2; injection h2 with h2 h3; subst h1; subst h2; subst h3
    exact (congrArg At (eq_laws_markTable _ _ _ _ _ _)).mp ⟨vc_laws_markTable _ _ _ _ _ hp⟩
  · cases h
def TTF_20 : Tab := TTF_19.addG 14 F_laws_markTable
theorem TTF_20_ok : TTF_20.Ok Tryd.prog := TTF_19_ok.addG ok_laws_markTable
theorem eq_laws_heldRowS (k : Int) (n : Nat) (c : List Sc) (K : V → List Blk → Prop) : VC_laws_heldRowS k n c K = vbody Tryd.prog (vin Tryd.prog TTF_20 annTTF 3) TTF_20.looks (annTTF 53) 53 [.row 0 n, .int .i64 k] [⟨.recs [.int .i64, .str, .int .i64] c, 79, .rows 3⟩] (K) := by kernel_rfl
theorem ok_laws_heldRowS : OK Tryd.prog 53 F_laws_heldRowS.spec := (vbody_ok (vin_ok TTF_20_ok annTTF 3) TTF_20_ok.looks _ _).ofFM fun args m p R h hp => by
  unfold F_laws_heldRowS at h
  split at h
  · injection h with h; injection h with h1 h2; subst h1; subst h2
    exact (congrArg At (eq_laws_heldRowS _ _ _ _)).mp ⟨vc_laws_heldRowS _ _ _ hp⟩
  · cases h
def TTF_21 : Tab := TTF_20.add 53 F_laws_heldRowS
theorem TTF_21_ok : TTF_21.Ok Tryd.prog := TTF_20_ok.add ok_laws_heldRowS
theorem eq_laws_heldTable (k : Int) (s : Int) (i : Int) (n : Nat) (c : List Sc) (K : V → List Blk → Prop) : VC_laws_heldTable k s i n c K = vbody Tryd.prog (vin Tryd.prog TTF_21 annTTF 3) TTF_21.looks (annTTF 25) 25 [.agg [.int .i64 s, .int .i64 i, .row 0 n], .int .i64 k] [⟨.recs [.int .i64, .str, .int .i64] c, 79, .rows 3⟩] (K) := by kernel_rfl
theorem ok_laws_heldTable : OK Tryd.prog 25 F_laws_heldTable.spec := (vbody_ok (vin_ok TTF_21_ok annTTF 3) TTF_21_ok.looks _ _).ofFM fun args m p R h hp => by
  unfold F_laws_heldTable at h
  split at h
  · injection h with h; injection h with h1 h2; subst h1; subst h2
    exact (congrArg At (eq_laws_heldTable _ _ _ _ _ _)).mp ⟨vc_laws_heldTable _ _ _ _ _ hp⟩
  · cases h
def TTF_22 : Tab := TTF_21.add 25 F_laws_heldTable
theorem TTF_22_ok : TTF_22.Ok Tryd.prog := TTF_21_ok.add ok_laws_heldTable
theorem eq_impl_Row  (n : Nat) (c : List Sc) (K : V → List Blk → Prop) : VC_impl_Row  n c K = vbody Tryd.prog (vin Tryd.prog TTF_22 annTTF 3) TTF_22.looks (annTTF 64) 64 [.row 0 n] [⟨.recs [.int .i64, .str, .int .i64] c, 79, .rows 3⟩] (K) := by kernel_rfl
theorem ok_impl_Row : OK Tryd.prog 64 F_impl_Row.spec := (vbody_ok (vin_ok TTF_22_ok annTTF 3) TTF_22_ok.looks _ _).ofG fun args m p R M h hp => by
  unfold F_impl_Row at h
  split at h
  · injection h with h; injection h with h1 h2; injection h2 with h2 h3; subst h1; subst h2; subst h3
    exact (congrArg At (eq_impl_Row _ _ _)).mp ⟨vc_impl_Row _ _ hp⟩
  · cases h
def TTF_23 : Tab := TTF_22.addG 64 F_impl_Row
theorem TTF_23_ok : TTF_23.Ok Tryd.prog := TTF_22_ok.addG ok_impl_Row
theorem eq_impl_copied  (s : Int) (i : Int) (n : Nat) (c : List Sc) (K : V → List Blk → Prop) : VC_impl_copied  s i n c K = vbody Tryd.prog (vin Tryd.prog TTF_23 annTTF 3) TTF_23.looks (annTTF 39) 39 [.agg [.int .i64 s, .int .i64 i, .row 0 n]] [⟨.recs [.int .i64, .str, .int .i64] c, 79, .rows 3⟩] (K) := by kernel_rfl
theorem ok_impl_copied : OK Tryd.prog 39 F_impl_copied.spec := (vbody_ok (vin_ok TTF_23_ok annTTF 3) TTF_23_ok.looks _ _).ofG fun args m p R M h hp => by
  unfold F_impl_copied at h
  split at h
  · injection h with h; injection h with h1 h2; injection h2 with h2 h3; subst h1; subst h2; subst h3
    exact (congrArg At (eq_impl_copied _ _ _ _ _)).mp ⟨vc_impl_copied _ _ _ _ hp⟩
  · cases h
def TTF_24 : Tab := TTF_23.addG 39 F_impl_copied
theorem TTF_24_ok : TTF_24.Ok Tryd.prog := TTF_23_ok.addG ok_impl_copied
theorem eq_laws_eqScene  (s : Int) (i : Int) (n : Nat) (c : List Sc) (w : Int) (h : Int) (u : List UInt8) (x : Int) (y : Int) (d : Int) (q : Int) (s_ : Int) (i_ : Int) (n_ : Nat) (c_ : List Sc) (w_ : Int) (h_ : Int) (u_ : List UInt8) (x_ : Int) (y_ : Int) (d_ : Int) (q_ : Int) (K : V → List Blk → Prop) : VC_laws_eqScene  s i n c w h u x y d q s_ i_ n_ c_ w_ h_ u_ x_ y_ d_ q_ K = vbody Tryd.prog (vin Tryd.prog TTF_24 annTTF 3) TTF_24.looks (annTTF 12) 12 [.agg [.int .i64 s, .int .i64 i, .row 0 n, .int .i64 w, .int .i64 h, .str u, .int .i64 x, .int .i64 y, .int .i64 d, .int .i64 q], .agg [.int .i64 s_, .int .i64 i_, .row 1 n_, .int .i64 w_, .int .i64 h_, .str u_, .int .i64 x_, .int .i64 y_, .int .i64 d_, .int .i64 q_]] [⟨.recs [.int .i64, .str, .int .i64] c, 79, .rows 3⟩, ⟨.recs [.int .i64, .str, .int .i64] c_, 79, .rows 3⟩] (K) := by kernel_rfl
theorem ok_laws_eqScene : OK Tryd.prog 12 F_laws_eqScene.spec := (vbody_ok (vin_ok TTF_24_ok annTTF 3) TTF_24_ok.looks _ _).ofFM fun args m p R h hp => by
  unfold F_laws_eqScene at h
  split at h
  · injection h with h; injection h with h1 h2; subst h1; subst h2
    exact (congrArg At (eq_laws_eqScene _ _ _ _ _ _ _ _ _ _ _ _ _ _ _ _ _ _ _ _ _ _ _)).mp ⟨vc_laws_eqScene _ _ _ _ _ _ _ _ _ _ _ _ _ _ _ _ _ _ _ _ _ _ hp⟩
  · cases h
def TTF_25 : Tab := TTF_24.add 12 F_laws_eqScene
theorem TTF_25_ok : TTF_25.Ok Tryd.prog := TTF_24_ok.add ok_laws_eqScene
theorem eq_laws_markScene (k : Int) (s : Int) (i : Int) (n : Nat) (c : List Sc) (w : Int) (h : Int) (u : List UInt8) (x : Int) (y : Int) (d : Int) (q : Int) (K : V → List Blk → Prop) : VC_laws_markScene k s i n c w h u x y d q K = vbody Tryd.prog (vin Tryd.prog TTF_25 annTTF 3) TTF_25.looks (annTTF 15) 15 [.agg [.int .i64 s, .int .i64 i, .row 0 n, .int .i64 w, .int .i64 h, .str u, .int .i64 x, .int .i64 y, .int .i64 d, .int .i64 q], .int .i64 k] [⟨.recs [.int .i64, .str, .int .i64] c, 79, .rows 3⟩] (K) := by kernel_rfl
theorem ok_laws_markScene : OK Tryd.prog 15 F_laws_markScene.spec := (vbody_ok (vin_ok TTF_25_ok annTTF 3) TTF_25_ok.looks _ _).ofG fun args m p R M h hp => by
  unfold F_laws_markScene at h
  split at h
  · injection h with h; injection h with h1 h2; injection h2 with h2 h3; subst h1; subst h2; subst h3
    exact (congrArg At (eq_laws_markScene _ _ _ _ _ _ _ _ _ _ _ _ _)).mp ⟨vc_laws_markScene _ _ _ _ _ _ _ _ _ _ _ _ hp⟩
  · cases h
def TTF_26 : Tab := TTF_25.addG 15 F_laws_markScene
theorem TTF_26_ok : TTF_26.Ok Tryd.prog := TTF_25_ok.addG ok_laws_markScene
theorem eq_laws_heldScene (k : Int) (s : Int) (i : Int) (n : Nat) (c : List Sc) (w : Int) (h : Int) (u : List UInt8) (x : Int) (y : Int) (d : Int) (q : Int) (K : V → List Blk → Prop) : VC_laws_heldScene k s i n c w h u x y d q K = vbody Tryd.prog (vin Tryd.prog TTF_26 annTTF 3) TTF_26.looks (annTTF 16) 16 [.agg [.int .i64 s, .int .i64 i, .row 0 n, .int .i64 w, .int .i64 h, .str u, .int .i64 x, .int .i64 y, .int .i64 d, .int .i64 q], .int .i64 k] [⟨.recs [.int .i64, .str, .int .i64] c, 79, .rows 3⟩] (K) := by kernel_rfl
theorem ok_laws_heldScene : OK Tryd.prog 16 F_laws_heldScene.spec := (vbody_ok (vin_ok TTF_26_ok annTTF 3) TTF_26_ok.looks _ _).ofFM fun args m p R h hp => by
  unfold F_laws_heldScene at h
  split at h
  · injection h with h; injection h with h1 h2; subst h1; subst h2
    exact (congrArg At (eq_laws_heldScene _ _ _ _ _ _ _ _ _ _ _ _ _)).mp ⟨vc_laws_heldScene _ _ _ _ _ _ _ _ _ _ _ _ hp⟩
  · cases h
def TTF_27 : Tab := TTF_26.add 16 F_laws_heldScene
theorem TTF_27_ok : TTF_27.Ok Tryd.prog := TTF_26_ok.add ok_laws_heldScene
theorem eq_impl_isSize (a : Int) (b : Int) (K : V → Prop) : VC_impl_isSize a b K = vbody Tryd.prog (vin Tryd.prog TTF_27 annTTF 3) TTF_27.looks (annTTF 38) 38 [.int .i64 a, .int .i64 b] [] (fun v _ => K v) := by kernel_rfl
theorem ok_impl_isSize : OK Tryd.prog 38 F_impl_isSize.spec := (vbody_ok (vin_ok TTF_27_ok annTTF 3) TTF_27_ok.looks _ _).ofF fun args m p R h hp => by
  unfold F_impl_isSize at h
  split at h
  · injection h with h; injection h with h1 h2; subst h1; subst h2
    exact ⟨rfl, (congrArg At (eq_impl_isSize _ _ _)).mp ⟨vc_impl_isSize _ _ hp⟩⟩
  · cases h
def TTF_28 : Tab := TTF_27.add 38 F_impl_isSize
theorem TTF_28_ok : TTF_28.Ok Tryd.prog := TTF_27_ok.add ok_impl_isSize
theorem ok_strings_Repeat : OK Tryd.prog 40 F_strings_Repeat.spec := Go.Proofs.Tryd.libRepeat
def TTF_29 : Tab := TTF_28.add 40 F_strings_Repeat
theorem TTF_29_ok : TTF_29.Ok Tryd.prog := TTF_28_ok.add ok_strings_Repeat
theorem eq_spec_woZeros (n : Int) (K : V → Prop) : VC_spec_woZeros n K = vbody Tryd.prog (vin Tryd.prog TTF_29 annTTF 3) TTF_29.looks (annTTF 35) 35 [.int .i64 n] [] (fun v _ => K v) := by kernel_rfl
theorem ok_spec_woZeros : OK Tryd.prog 35 F_spec_woZeros.spec := (vbody_ok (vin_ok TTF_29_ok annTTF 3) TTF_29_ok.looks _ _).ofF fun args m p R h hp => by
  unfold F_spec_woZeros at h
  split at h
  · injection h with h; injection h with h1 h2; subst h1; subst h2
    exact ⟨rfl, (congrArg At (eq_spec_woZeros _ _)).mp ⟨vc_spec_woZeros _ hp⟩⟩
  · cases h
def TTF_30 : Tab := TTF_29.add 35 F_spec_woZeros
theorem TTF_30_ok : TTF_30.Ok Tryd.prog := TTF_29_ok.add ok_spec_woZeros
theorem eq_spec_EmptyScene (w : Int) (h : Int) (s : Int) (i : Int) (n : Nat) (c : List Sc) (K : V → List Blk → Prop) : VC_spec_EmptyScene w h s i n c K = vbody Tryd.prog (vin Tryd.prog TTF_30 annTTF 3) TTF_30.looks (annTTF 9) 9 [.agg [.int .i64 s, .int .i64 i, .row 0 n], .int .i64 w, .int .i64 h] [⟨.recs [.int .i64, .str, .int .i64] c, 79, .rows 3⟩] (K) := by kernel_rfl
theorem ok_spec_EmptyScene : OK Tryd.prog 9 F_spec_EmptyScene.spec := (vbody_ok (vin_ok TTF_30_ok annTTF 3) TTF_30_ok.looks _ _).ofG fun args m p R M h hp => by
  unfold F_spec_EmptyScene at h
  split at h
  · injection h with h; injection h with h1 h2; injection h2 with h2 h3; subst h1; subst h2; subst h3
    exact (congrArg At (eq_spec_EmptyScene _ _ _ _ _ _ _)).mp ⟨vc_spec_EmptyScene _ _ _ _ _ _ hp⟩
  · cases h
def TTF_31 : Tab := TTF_30.addG 9 F_spec_EmptyScene
theorem TTF_31_ok : TTF_31.Ok Tryd.prog := TTF_30_ok.addG ok_spec_EmptyScene
theorem eq_impl_EmptyScene (w : Int) (h : Int) (s : Int) (i : Int) (n : Nat) (c : List Sc) (g0 : List UInt8) (g1 : List UInt8) (g2 : List UInt8) (g3 : List UInt8) (K : V → List Blk → Prop) : VC_impl_EmptyScene w h s i n c g0 g1 g2 g3 K = vbody Tryd.prog (vin Tryd.prog TTF_31 annTTF 3) TTF_31.looks (annTTF 11) 11 [.agg [.int .i64 s, .int .i64 i, .row 0 n], .int .i64 w, .int .i64 h] [⟨.recs [.int .i64, .str, .int .i64] c, 79, .rows 3⟩, ⟨.vals [.str g0, .str g1, .str g2, .str g3], 9, .gl 0⟩] (K) := by kernel_rfl
theorem ok_impl_EmptyScene : OK Tryd.prog 11 F_impl_EmptyScene.spec := (vbody_ok (vin_ok TTF_31_ok annTTF 3) TTF_31_ok.looks _ _).ofG fun args m p R M h hp => by
  unfold F_impl_EmptyScene at h
  split at h
  · injection h with h; injection h with h1 h2; injection h2 with h2 h3; subst h1; subst h2; subst h3
    exact (congrArg At (eq_impl_EmptyScene _ _ _ _ _ _ _ _ _ _ _)).mp ⟨vc_impl_EmptyScene _ _ _ _ _ _ _ _ _ _ hp⟩
  · cases h
def TTF_32 : Tab := TTF_31.addG 11 F_impl_EmptyScene
theorem TTF_32_ok : TTF_32.Ok Tryd.prog := TTF_31_ok.addG ok_impl_EmptyScene
def TTF : Tab := TTF_32
theorem TTF_ok : TTF.Ok Tryd.prog := TTF_32_ok
end Go.Proofs.YtlnjbdaenikkiaaDoor
