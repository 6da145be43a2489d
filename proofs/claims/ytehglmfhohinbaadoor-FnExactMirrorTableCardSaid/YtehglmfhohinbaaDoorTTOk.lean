/- The contracts of this chapter. -/
import Derived.Test.YtehglmfhohinbaaDoorProg
import Derived.Test.YtehglmfhohinbaaDoorTTPf
import Derived.KernelRfl
namespace Go.Proofs.YtehglmfhohinbaaDoor
open Go Go.Vi
set_option linter.unusedVariables false
def annTTT : FuncId → Nat → St → Option Ann := fun f => if f = 58 then ann_spec_woRule else if f = 51 then ann_impl_quartersOfTurn else if f = 24 then ann_laws_szRowS else if f = 27 then ann_laws_toRowS else if f = 32 then ann_laws_eqRowS else if f = 25 then ann_spec_taGood else if f = 28 then ann_impl_IsTable else if f = 53 then ann_laws_markText else if f = 33 then ann_laws_markRowS else if f = 34 then ann_laws_heldRowS else if f = 36 then ann_spec_woOther else if f = 38 then ann_impl_exchanged else if f = 19 then ann_spec_MirrorTable else if f = 20 then ann_impl_MirrorTable else (fun _ _ => none)
def TTT_0 : Tab := Tab.none
theorem TTT_0_ok : TTT_0.Ok Tryd.prog := Tab.none_ok
theorem eq_spec_l1In (n : Int) (lo : Int) (hi : Int) (K : V → Prop) : VC_spec_l1In n lo hi K = vbody Tryd.prog (vin Tryd.prog TTT_0 annTTT 3) TTT_0.looks (annTTT 45) 45 [.int .i64 n, .int .i64 lo, .int .i64 hi] [] (fun v _ => K v) := by kernel_rfl
theorem ok_spec_l1In : OK Tryd.prog 45 F_spec_l1In.spec := (vbody_ok (vin_ok TTT_0_ok annTTT 3) TTT_0_ok.looks _ _).ofF fun args m p R h hp => by
  unfold F_spec_l1In at h
  split at h
  · injection h with h; injection h with h1 h2; subst h1; subst h2
    exact ⟨rfl, (congrArg At (eq_spec_l1In _ _ _ _)).mp ⟨vc_spec_l1In _ _ _ hp⟩⟩
  · cases h
def TTT_1 : Tab := TTT_0.add 45 F_spec_l1In
theorem TTT_1_ok : TTT_1.Ok Tryd.prog := TTT_0_ok.add ok_spec_l1In
theorem eq_impl_within (n : Int) (lo : Int) (hi : Int) (K : V → Prop) : VC_impl_within n lo hi K = vbody Tryd.prog (vin Tryd.prog TTT_1 annTTT 3) TTT_1.looks (annTTT 50) 50 [.int .i64 n, .int .i64 lo, .int .i64 hi] [] (fun v _ => K v) := by kernel_rfl
theorem ok_impl_within : OK Tryd.prog 50 F_impl_within.spec := (vbody_ok (vin_ok TTT_1_ok annTTT 3) TTT_1_ok.looks _ _).ofF fun args m p R h hp => by
  unfold F_impl_within at h
  split at h
  · injection h with h; injection h with h1 h2; subst h1; subst h2
    exact ⟨rfl, (congrArg At (eq_impl_within _ _ _ _)).mp ⟨vc_impl_within _ _ _ hp⟩⟩
  · cases h
def TTT_2 : Tab := TTT_1.add 50 F_impl_within
theorem TTT_2_ok : TTT_2.Ok Tryd.prog := TTT_1_ok.add ok_impl_within
theorem eq_spec_woRule (s : List UInt8) (K : V → Prop) : VC_spec_woRule s K = vbody Tryd.prog (vin Tryd.prog TTT_2 annTTT 3) TTT_2.looks (annTTT 58) 58 [.str s] [] (fun v _ => K v) := by kernel_rfl
theorem ok_spec_woRule : OK Tryd.prog 58 F_spec_woRule.spec := (vbody_ok (vin_ok TTT_2_ok annTTT 3) TTT_2_ok.looks _ _).ofF fun args m p R h hp => by
  unfold F_spec_woRule at h
  split at h
  · injection h with h; injection h with h1 h2; subst h1; subst h2
    exact ⟨rfl, (congrArg At (eq_spec_woRule _ _)).mp ⟨vc_spec_woRule _ hp⟩⟩
  · cases h
def TTT_3 : Tab := TTT_2.add 58 F_spec_woRule
theorem TTT_3_ok : TTT_3.Ok Tryd.prog := TTT_2_ok.add ok_spec_woRule
theorem eq_spec_taSign (s : List UInt8) (K : V → Prop) : VC_spec_taSign s K = vbody Tryd.prog (vin Tryd.prog TTT_3 annTTT 3) TTT_3.looks (annTTT 46) 46 [.str s] [] (fun v _ => K v) := by kernel_rfl
theorem ok_spec_taSign : OK Tryd.prog 46 F_spec_taSign.spec := (vbody_ok (vin_ok TTT_3_ok annTTT 3) TTT_3_ok.looks _ _).ofF fun args m p R h hp => by
  unfold F_spec_taSign at h
  split at h
  · injection h with h; injection h with h1 h2; subst h1; subst h2
    exact ⟨rfl, (congrArg At (eq_spec_taSign _ _)).mp ⟨vc_spec_taSign _ hp⟩⟩
  · cases h
def TTT_4 : Tab := TTT_3.add 46 F_spec_taSign
theorem TTT_4_ok : TTT_4.Ok Tryd.prog := TTT_3_ok.add ok_spec_taSign
theorem eq_impl_quartersOfTurn (s : List UInt8) (g0 : List UInt8) (g1 : List UInt8) (g2 : List UInt8) (g3 : List UInt8) (K : V → List Blk → Prop) : VC_impl_quartersOfTurn s g0 g1 g2 g3 K = vbody Tryd.prog (vin Tryd.prog TTT_4 annTTT 3) TTT_4.looks (annTTT 51) 51 [.str s] [⟨.vals [.str g0, .str g1, .str g2, .str g3], 9, .gl 0⟩] (K) := by kernel_rfl
theorem ok_impl_quartersOfTurn : OK Tryd.prog 51 F_impl_quartersOfTurn.spec := (vbody_ok (vin_ok TTT_4_ok annTTT 3) TTT_4_ok.looks _ _).ofFM fun args m p R h hp => by
  unfold F_impl_quartersOfTurn at h
  split at h
  · injection h with h; injection h with h1 h2; subst h1; subst h2
    exact (congrArg At (eq_impl_quartersOfTurn _ _ _ _ _ _)).mp ⟨vc_impl_quartersOfTurn _ _ _ _ _ hp⟩
  · cases h
def TTT_5 : Tab := TTT_4.add 51 F_impl_quartersOfTurn
theorem TTT_5_ok : TTT_5.Ok Tryd.prog := TTT_4_ok.add ok_impl_quartersOfTurn
theorem eq_laws_szRow (ra : Int) (rt : List UInt8) (rb : Int) (left : Int) (K : V → Prop) : VC_laws_szRow ra rt rb left K = vbody Tryd.prog (vin Tryd.prog TTT_5 annTTT 3) TTT_5.looks (annTTT 44) 44 [.agg [.int .i64 ra, .str rt, .int .i64 rb], .int .i64 left] [] (fun v _ => K v) := by kernel_rfl
theorem ok_laws_szRow : OK Tryd.prog 44 F_laws_szRow.spec := (vbody_ok (vin_ok TTT_5_ok annTTT 3) TTT_5_ok.looks _ _).ofF fun args m p R h hp => by
  unfold F_laws_szRow at h
  split at h
  · injection h with h; injection h with h1 h2; subst h1; subst h2
    exact ⟨rfl, (congrArg At (eq_laws_szRow _ _ _ _ _)).mp ⟨vc_laws_szRow _ _ _ _ hp⟩⟩
  · cases h
def TTT_6 : Tab := TTT_5.add 44 F_laws_szRow
theorem TTT_6_ok : TTT_6.Ok Tryd.prog := TTT_5_ok.add ok_laws_szRow
theorem eq_laws_szRowS (left : Int) (n : Nat) (c : List Sc) (K : V → List Blk → Prop) : VC_laws_szRowS left n c K = vbody Tryd.prog (vin Tryd.prog TTT_6 annTTT 3) TTT_6.looks (annTTT 24) 24 [.row 0 n, .int .i64 left] [⟨.recs [.int .i64, .str, .int .i64] c, 60, .arg 3⟩] (K) := by kernel_rfl
theorem ok_laws_szRowS : OK Tryd.prog 24 F_laws_szRowS.spec := (vbody_ok (vin_ok TTT_6_ok annTTT 3) TTT_6_ok.looks _ _).ofFM fun args m p R h hp => by
  unfold F_laws_szRowS at h
  split at h
  · injection h with h; injection h with h1 h2; subst h1; subst h2
    exact (congrArg At (eq_laws_szRowS _ _ _ _)).mp ⟨vc_laws_szRowS _ _ _ hp⟩
  · cases h
def TTT_7 : Tab := TTT_6.add 24 F_laws_szRowS
theorem TTT_7_ok : TTT_7.Ok Tryd.prog := TTT_6_ok.add ok_laws_szRowS
theorem eq_laws_szTable (left : Int) (s : Int) (i : Int) (n : Nat) (c : List Sc) (K : V → List Blk → Prop) : VC_laws_szTable left s i n c K = vbody Tryd.prog (vin Tryd.prog TTT_7 annTTT 3) TTT_7.looks (annTTT 7) 7 [.agg [.int .i64 s, .int .i64 i, .row 0 n], .int .i64 left] [⟨.recs [.int .i64, .str, .int .i64] c, 60, .arg 3⟩] (K) := by kernel_rfl
theorem ok_laws_szTable : OK Tryd.prog 7 F_laws_szTable.spec := (vbody_ok (vin_ok TTT_7_ok annTTT 3) TTT_7_ok.looks _ _).ofFM fun args m p R h hp => by
  unfold F_laws_szTable at h
  split at h
  · injection h with h; injection h with h1 h2; subst h1; subst h2
    exact (congrArg At (eq_laws_szTable _ _ _ _ _ _)).mp ⟨vc_laws_szTable _ _ _ _ _ hp⟩
  · cases h
def TTT_8 : Tab := TTT_7.add 7 F_laws_szTable
theorem TTT_8_ok : TTT_8.Ok Tryd.prog := TTT_7_ok.add ok_laws_szTable
theorem eq_laws_toRow (ra : Int) (rt : List UInt8) (rb : Int) (K : V → Prop) : VC_laws_toRow ra rt rb K = vbody Tryd.prog (vin Tryd.prog TTT_8 annTTT 3) TTT_8.looks (annTTT 48) 48 [.agg [.int .i64 ra, .str rt, .int .i64 rb]] [] (fun v _ => K v) := by kernel_rfl
theorem ok_laws_toRow : OK Tryd.prog 48 F_laws_toRow.spec := (vbody_ok (vin_ok TTT_8_ok annTTT 3) TTT_8_ok.looks _ _).ofF fun args m p R h hp => by
  unfold F_laws_toRow at h
  split at h
  · injection h with h; injection h with h1 h2; subst h1; subst h2
    exact ⟨rfl, (congrArg At (eq_laws_toRow _ _ _ _)).mp ⟨vc_laws_toRow _ _ _ hp⟩⟩
  · cases h
def TTT_9 : Tab := TTT_8.add 48 F_laws_toRow
theorem TTT_9_ok : TTT_9.Ok Tryd.prog := TTT_8_ok.add ok_laws_toRow
theorem eq_laws_toRowS  (n : Nat) (c : List Sc) (K : V → List Blk → Prop) : VC_laws_toRowS  n c K = vbody Tryd.prog (vin Tryd.prog TTT_9 annTTT 3) TTT_9.looks (annTTT 27) 27 [.row 0 n] [⟨.recs [.int .i64, .str, .int .i64] c, 60, .arg 3⟩] (K) := by kernel_rfl
theorem ok_laws_toRowS : OK Tryd.prog 27 F_laws_toRowS.spec := (vbody_ok (vin_ok TTT_9_ok annTTT 3) TTT_9_ok.looks _ _).ofG fun args m p R M h hp => by
  unfold F_laws_toRowS at h
  split at h
  · injection h with h; injection h with h1 h2; injection h2 with h2 h3; subst h1; subst h2; subst h3
    exact (congrArg At (eq_laws_toRowS _ _ _)).mp ⟨vc_laws_toRowS _ _ hp⟩
  · cases h
def TTT_10 : Tab := TTT_9.addG 27 F_laws_toRowS
theorem TTT_10_ok : TTT_10.Ok Tryd.prog := TTT_9_ok.addG ok_laws_toRowS
theorem eq_laws_toTable  (s : Int) (i : Int) (n : Nat) (c : List Sc) (K : V → List Blk → Prop) : VC_laws_toTable  s i n c K = vbody Tryd.prog (vin Tryd.prog TTT_10 annTTT 3) TTT_10.looks (annTTT 9) 9 [.agg [.int .i64 s, .int .i64 i, .row 0 n]] [⟨.recs [.int .i64, .str, .int .i64] c, 60, .arg 3⟩] (K) := by kernel_rfl
theorem ok_laws_toTable : OK Tryd.prog 9 F_laws_toTable.spec := (vbody_ok (vin_ok TTT_10_ok annTTT 3) TTT_10_ok.looks _ _).ofG fun args m p R M h hp => by
  unfold F_laws_toTable at h
  split at h
  · injection h with h; injection h with h1 h2; injection h2 with h2 h3; subst h1; subst h2; subst h3
    exact (congrArg At (eq_laws_toTable _ _ _ _ _)).mp ⟨vc_laws_toTable _ _ _ _ hp⟩
  · cases h
def TTT_11 : Tab := TTT_10.addG 9 F_laws_toTable
theorem TTT_11_ok : TTT_11.Ok Tryd.prog := TTT_10_ok.addG ok_laws_toTable
theorem eq_laws_eqRow (ra : Int) (rt : List UInt8) (rb : Int) (qa : Int) (qt : List UInt8) (qb : Int) (K : V → Prop) : VC_laws_eqRow ra rt rb qa qt qb K = vbody Tryd.prog (vin Tryd.prog TTT_11 annTTT 3) TTT_11.looks (annTTT 52) 52 [.agg [.int .i64 ra, .str rt, .int .i64 rb], .agg [.int .i64 qa, .str qt, .int .i64 qb]] [] (fun v _ => K v) := by kernel_rfl
theorem ok_laws_eqRow : OK Tryd.prog 52 F_laws_eqRow.spec := (vbody_ok (vin_ok TTT_11_ok annTTT 3) TTT_11_ok.looks _ _).ofF fun args m p R h hp => by
  unfold F_laws_eqRow at h
  split at h
  · injection h with h; injection h with h1 h2; subst h1; subst h2
    exact ⟨rfl, (congrArg At (eq_laws_eqRow _ _ _ _ _ _ _)).mp ⟨vc_laws_eqRow _ _ _ _ _ _ hp⟩⟩
  · cases h
def TTT_12 : Tab := TTT_11.add 52 F_laws_eqRow
theorem TTT_12_ok : TTT_12.Ok Tryd.prog := TTT_11_ok.add ok_laws_eqRow
theorem eq_laws_eqRowS  (n : Nat) (m : Nat) (c : List Sc) (d : List Sc) (K : V → List Blk → Prop) : VC_laws_eqRowS  n m c d K = vbody Tryd.prog (vin Tryd.prog TTT_12 annTTT 3) TTT_12.looks (annTTT 32) 32 [.row 0 n, .row 1 m] [⟨.recs [.int .i64, .str, .int .i64] c, 47, .rows 3⟩, ⟨.recs [.int .i64, .str, .int .i64] d, 47, .rows 3⟩] (K) := by kernel_rfl
theorem ok_laws_eqRowS : OK Tryd.prog 32 F_laws_eqRowS.spec := (vbody_ok (vin_ok TTT_12_ok annTTT 3) TTT_12_ok.looks _ _).ofFM fun args m p R h hp => by
  unfold F_laws_eqRowS at h
  split at h
  · injection h with h; injection h with h1 h2; subst h1; subst h2
    exact (congrArg At (eq_laws_eqRowS _ _ _ _ _)).mp ⟨vc_laws_eqRowS _ _ _ _ hp⟩
  · cases h
def TTT_13 : Tab := TTT_12.add 32 F_laws_eqRowS
theorem TTT_13_ok : TTT_13.Ok Tryd.prog := TTT_12_ok.add ok_laws_eqRowS
theorem eq_laws_eqTable  (s : Int) (i : Int) (n : Nat) (c : List Sc) (p : Int) (q : Int) (m : Nat) (d : List Sc) (K : V → List Blk → Prop) : VC_laws_eqTable  s i n c p q m d K = vbody Tryd.prog (vin Tryd.prog TTT_13 annTTT 3) TTT_13.looks (annTTT 12) 12 [.agg [.int .i64 s, .int .i64 i, .row 0 n], .agg [.int .i64 p, .int .i64 q, .row 1 m]] [⟨.recs [.int .i64, .str, .int .i64] c, 47, .rows 3⟩, ⟨.recs [.int .i64, .str, .int .i64] d, 47, .rows 3⟩] (K) := by kernel_rfl
theorem ok_laws_eqTable : OK Tryd.prog 12 F_laws_eqTable.spec := (vbody_ok (vin_ok TTT_13_ok annTTT 3) TTT_13_ok.looks _ _).ofFM fun args m p R h hp => by
  unfold F_laws_eqTable at h
  split at h
  · injection h with h; injection h with h1 h2; subst h1; subst h2
    exact (congrArg At (eq_laws_eqTable _ _ _ _ _ _ _ _ _)).mp ⟨vc_laws_eqTable _ _ _ _ _ _ _ _ hp⟩
  · cases h
def TTT_14 : Tab := TTT_13.add 12 F_laws_eqTable
theorem TTT_14_ok : TTT_14.Ok Tryd.prog := TTT_13_ok.add ok_laws_eqTable
theorem eq_spec_taGood  (s : Int) (i : Int) (n : Nat) (c : List Sc) (K : V → List Blk → Prop) : VC_spec_taGood  s i n c K = vbody Tryd.prog (vin Tryd.prog TTT_14 annTTT 3) TTT_14.looks (annTTT 25) 25 [.agg [.int .i64 s, .int .i64 i, .row 0 n]] [⟨.recs [.int .i64, .str, .int .i64] c, 47, .rows 3⟩] (K) := by kernel_rfl
theorem ok_spec_taGood : OK Tryd.prog 25 F_spec_taGood.spec := (vbody_ok (vin_ok TTT_14_ok annTTT 3) TTT_14_ok.looks _ _).ofFM fun args m p R h hp => by
  unfold F_spec_taGood at h
  split at h
  · injection h with h; injection h with h1 h2; subst h1; subst h2
    exact (congrArg At (eq_spec_taGood _ _ _ _ _)).mp ⟨vc_spec_taGood _ _ _ _ hp⟩
  · cases h
def TTT_15 : Tab := TTT_14.add 25 F_spec_taGood
theorem TTT_15_ok : TTT_15.Ok Tryd.prog := TTT_14_ok.add ok_spec_taGood
theorem eq_impl_isTableSize (a : Int) (b : Int) (K : V → Prop) : VC_impl_isTableSize a b K = vbody Tryd.prog (vin Tryd.prog TTT_15 annTTT 3) TTT_15.looks (annTTT 49) 49 [.int .i64 a, .int .i64 b] [] (fun v _ => K v) := by kernel_rfl
theorem ok_impl_isTableSize : OK Tryd.prog 49 F_impl_isTableSize.spec := (vbody_ok (vin_ok TTT_15_ok annTTT 3) TTT_15_ok.looks _ _).ofF fun args m p R h hp => by
  unfold F_impl_isTableSize at h
  split at h
  · injection h with h; injection h with h1 h2; subst h1; subst h2
    exact ⟨rfl, (congrArg At (eq_impl_isTableSize _ _ _)).mp ⟨vc_impl_isTableSize _ _ hp⟩⟩
  · cases h
def TTT_16 : Tab := TTT_15.add 49 F_impl_isTableSize
theorem TTT_16_ok : TTT_16.Ok Tryd.prog := TTT_15_ok.add ok_impl_isTableSize
theorem eq_impl_IsTable  (s : Int) (i : Int) (n : Nat) (c : List Sc) (g0 : List UInt8) (g1 : List UInt8) (g2 : List UInt8) (g3 : List UInt8) (K : V → List Blk → Prop) : VC_impl_IsTable  s i n c g0 g1 g2 g3 K = vbody Tryd.prog (vin Tryd.prog TTT_16 annTTT 3) TTT_16.looks (annTTT 28) 28 [.agg [.int .i64 s, .int .i64 i, .row 0 n]] [⟨.recs [.int .i64, .str, .int .i64] c, 47, .rows 3⟩, ⟨.vals [.str g0, .str g1, .str g2, .str g3], 9, .gl 0⟩] (K) := by kernel_rfl
theorem ok_impl_IsTable : OK Tryd.prog 28 F_impl_IsTable.spec := (vbody_ok (vin_ok TTT_16_ok annTTT 3) TTT_16_ok.looks _ _).ofFM fun args m p R h hp => by
  unfold F_impl_IsTable at h
  split at h
  · injection h with h; injection h with h1 h2; subst h1; subst h2
    exact (congrArg At (eq_impl_IsTable _ _ _ _ _ _ _ _ _)).mp ⟨vc_impl_IsTable _ _ _ _ _ _ _ _ hp⟩
  · cases h
def TTT_17 : Tab := TTT_16.add 28 F_impl_IsTable
theorem TTT_17_ok : TTT_17.Ok Tryd.prog := TTT_16_ok.add ok_impl_IsTable
theorem eq_laws_markText (k : Int) (K : V → Prop) : VC_laws_markText k K = vbody Tryd.prog (vin Tryd.prog TTT_17 annTTT 3) TTT_17.looks (annTTT 53) 53 [.int .i64 k] [] (fun v _ => K v) := by kernel_rfl
theorem ok_laws_markText : OK Tryd.prog 53 F_laws_markText.spec := (vbody_ok (vin_ok TTT_17_ok annTTT 3) TTT_17_ok.looks _ _).ofF fun args m p R h hp => by
  unfold F_laws_markText at h
  split at h
  · injection h with h; injection h with h1 h2; subst h1; subst h2
    exact ⟨rfl, (congrArg At (eq_laws_markText _ _)).mp ⟨vc_laws_markText _ hp⟩⟩
  · cases h
def TTT_18 : Tab := TTT_17.add 53 F_laws_markText
theorem TTT_18_ok : TTT_18.Ok Tryd.prog := TTT_17_ok.add ok_laws_markText
theorem eq_laws_markRowS (k : Int) (n : Nat) (c : List Sc) (K : V → List Blk → Prop) : VC_laws_markRowS k n c K = vbody Tryd.prog (vin Tryd.prog TTT_18 annTTT 3) TTT_18.looks (annTTT 33) 33 [.row 0 n, .int .i64 k] [⟨.recs [.int .i64, .str, .int .i64] c, 47, .rows 3⟩] (K) := by kernel_rfl
theorem ok_laws_markRowS : OK Tryd.prog 33 F_laws_markRowS.spec := (vbody_ok (vin_ok TTT_18_ok annTTT 3) TTT_18_ok.looks _ _).ofG fun args m p R M h hp => by
  unfold F_laws_markRowS at h
  split at h
  · injection h with h; injection h with h1 h2; injection h2 with h2 h3; subst h1; subst h2; subst h3
    exact (congrArg At (eq_laws_markRowS _ _ _ _)).mp ⟨vc_laws_markRowS _ _ _ hp⟩
  · cases h
def TTT_19 : Tab := TTT_18.addG 33 F_laws_markRowS
theorem TTT_19_ok : TTT_19.Ok Tryd.prog := TTT_18_ok.addG ok_laws_markRowS
theorem eq_laws_markTable (k : Int) (s : Int) (i : Int) (n : Nat) (c : List Sc) (K : V → List Blk → Prop) : VC_laws_markTable k s i n c K = vbody Tryd.prog (vin Tryd.prog TTT_19 annTTT 3) TTT_19.looks (annTTT 14) 14 [.agg [.int .i64 s, .int .i64 i, .row 0 n], .int .i64 k] [⟨.recs [.int .i64, .str, .int .i64] c, 47, .rows 3⟩] (K) := by kernel_rfl
theorem ok_laws_markTable : OK Tryd.prog 14 F_laws_markTable.spec := (vbody_ok (vin_ok TTT_19_ok annTTT 3) TTT_19_ok.looks _ _).ofG fun args m p R M h hp => by
  unfold F_laws_markTable at h
  split at h
  · injection h with h; injection h with h1 h2; injection h2 with h2 h3; subst h1; subst h2; subst h3
    exact (congrArg At (eq_laws_markTable _ _ _ _ _ _)).mp ⟨vc_laws_markTable _ _ _ _ _ hp⟩
  · cases h
def TTT_20 : Tab := TTT_19.addG 14 F_laws_markTable
theorem TTT_20_ok : TTT_20.Ok Tryd.prog := TTT_19_ok.addG ok_laws_markTable
theorem eq_laws_heldRowS (k : Int) (n : Nat) (c : List Sc) (K : V → List Blk → Prop) : VC_laws_heldRowS k n c K = vbody Tryd.prog (vin Tryd.prog TTT_20 annTTT 3) TTT_20.looks (annTTT 34) 34 [.row 0 n, .int .i64 k] [⟨.recs [.int .i64, .str, .int .i64] c, 47, .rows 3⟩] (K) := by kernel_rfl
theorem ok_laws_heldRowS : OK Tryd.prog 34 F_laws_heldRowS.spec := (vbody_ok (vin_ok TTT_20_ok annTTT 3) TTT_20_ok.looks _ _).ofFM fun args m p R h hp => by
  unfold F_laws_heldRowS at h
  split at h
  · injection h with h; injection h with h1 h2; subst h1; subst h2
    exact (congrArg At (eq_laws_heldRowS _ _ _ _)).mp ⟨vc_laws_heldRowS _ _ _ hp⟩
  · cases h
def TTT_21 : Tab := TTT_20.add 34 F_laws_heldRowS
theorem TTT_21_ok : TTT_21.Ok Tryd.prog := TTT_20_ok.add ok_laws_heldRowS
theorem eq_laws_heldTable (k : Int) (s : Int) (i : Int) (n : Nat) (c : List Sc) (K : V → List Blk → Prop) : VC_laws_heldTable k s i n c K = vbody Tryd.prog (vin Tryd.prog TTT_21 annTTT 3) TTT_21.looks (annTTT 16) 16 [.agg [.int .i64 s, .int .i64 i, .row 0 n], .int .i64 k] [⟨.recs [.int .i64, .str, .int .i64] c, 47, .rows 3⟩] (K) := by kernel_rfl
theorem ok_laws_heldTable : OK Tryd.prog 16 F_laws_heldTable.spec := (vbody_ok (vin_ok TTT_21_ok annTTT 3) TTT_21_ok.looks _ _).ofFM fun args m p R h hp => by
  unfold F_laws_heldTable at h
  split at h
  · injection h with h; injection h with h1 h2; subst h1; subst h2
    exact (congrArg At (eq_laws_heldTable _ _ _ _ _ _)).mp ⟨vc_laws_heldTable _ _ _ _ _ hp⟩
  · cases h
def TTT_22 : Tab := TTT_21.add 16 F_laws_heldTable
theorem TTT_22_ok : TTT_22.Ok Tryd.prog := TTT_21_ok.add ok_laws_heldTable
theorem eq_spec_woOther (s : List UInt8) (K : V → Prop) : VC_spec_woOther s K = vbody Tryd.prog (vin Tryd.prog TTT_22 annTTT 3) TTT_22.looks (annTTT 36) 36 [.str s] [] (fun v _ => K v) := by kernel_rfl
theorem ok_spec_woOther : OK Tryd.prog 36 F_spec_woOther.spec := (vbody_ok (vin_ok TTT_22_ok annTTT 3) TTT_22_ok.looks _ _).ofF fun args m p R h hp => by
  unfold F_spec_woOther at h
  split at h
  · injection h with h; injection h with h1 h2; subst h1; subst h2
    exact ⟨rfl, (congrArg At (eq_spec_woOther _ _)).mp ⟨vc_spec_woOther _ hp⟩⟩
  · cases h
def TTT_23 : Tab := TTT_22.add 36 F_spec_woOther
theorem TTT_23_ok : TTT_23.Ok Tryd.prog := TTT_22_ok.add ok_spec_woOther
theorem eq_impl_exchanged (s : List UInt8) (K : V → Prop) : VC_impl_exchanged s K = vbody Tryd.prog (vin Tryd.prog TTT_23 annTTT 3) TTT_23.looks (annTTT 38) 38 [.str s] [] (fun v _ => K v) := by kernel_rfl
theorem ok_impl_exchanged : OK Tryd.prog 38 F_impl_exchanged.spec := (vbody_ok (vin_ok TTT_23_ok annTTT 3) TTT_23_ok.looks _ _).ofF fun args m p R h hp => by
  unfold F_impl_exchanged at h
  split at h
  · injection h with h; injection h with h1 h2; subst h1; subst h2
    exact ⟨rfl, (congrArg At (eq_impl_exchanged _ _)).mp ⟨vc_impl_exchanged _ hp⟩⟩
  · cases h
def TTT_24 : Tab := TTT_23.add 38 F_impl_exchanged
theorem TTT_24_ok : TTT_24.Ok Tryd.prog := TTT_23_ok.add ok_impl_exchanged
theorem eq_impl_Row  (n : Nat) (c : List Sc) (K : V → List Blk → Prop) : VC_impl_Row  n c K = vbody Tryd.prog (vin Tryd.prog TTT_24 annTTT 3) TTT_24.looks (annTTT 54) 54 [.row 0 n] [⟨.recs [.int .i64, .str, .int .i64] c, 47, .rows 3⟩] (K) := by kernel_rfl
theorem ok_impl_Row : OK Tryd.prog 54 F_impl_Row.spec := (vbody_ok (vin_ok TTT_24_ok annTTT 3) TTT_24_ok.looks _ _).ofG fun args m p R M h hp => by
  unfold F_impl_Row at h
  split at h
  · injection h with h; injection h with h1 h2; injection h2 with h2 h3; subst h1; subst h2; subst h3
    exact (congrArg At (eq_impl_Row _ _ _)).mp ⟨vc_impl_Row _ _ hp⟩
  · cases h
def TTT_25 : Tab := TTT_24.addG 54 F_impl_Row
theorem TTT_25_ok : TTT_25.Ok Tryd.prog := TTT_24_ok.addG ok_impl_Row
theorem eq_impl_copied  (s : Int) (i : Int) (n : Nat) (c : List Sc) (K : V → List Blk → Prop) : VC_impl_copied  s i n c K = vbody Tryd.prog (vin Tryd.prog TTT_25 annTTT 3) TTT_25.looks (annTTT 37) 37 [.agg [.int .i64 s, .int .i64 i, .row 0 n]] [⟨.recs [.int .i64, .str, .int .i64] c, 47, .rows 3⟩] (K) := by kernel_rfl
theorem ok_impl_copied : OK Tryd.prog 37 F_impl_copied.spec := (vbody_ok (vin_ok TTT_25_ok annTTT 3) TTT_25_ok.looks _ _).ofG fun args m p R M h hp => by
  unfold F_impl_copied at h
  split at h
  · injection h with h; injection h with h1 h2; injection h2 with h2 h3; subst h1; subst h2; subst h3
    exact (congrArg At (eq_impl_copied _ _ _ _ _)).mp ⟨vc_impl_copied _ _ _ _ hp⟩
  · cases h
def TTT_26 : Tab := TTT_25.addG 37 F_impl_copied
theorem TTT_26_ok : TTT_26.Ok Tryd.prog := TTT_25_ok.addG ok_impl_copied
theorem eq_spec_MirrorTable  (s : Int) (i : Int) (n : Nat) (c : List Sc) (K : V → List Blk → Prop) : VC_spec_MirrorTable  s i n c K = vbody Tryd.prog (vin Tryd.prog TTT_26 annTTT 3) TTT_26.looks (annTTT 19) 19 [.agg [.int .i64 s, .int .i64 i, .row 0 n]] [⟨.recs [.int .i64, .str, .int .i64] c, 47, .rows 3⟩] (K) := by kernel_rfl
theorem ok_spec_MirrorTable : OK Tryd.prog 19 F_spec_MirrorTable.spec := (vbody_ok (vin_ok TTT_26_ok annTTT 3) TTT_26_ok.looks _ _).ofG fun args m p R M h hp => by
  unfold F_spec_MirrorTable at h
  split at h
  · injection h with h; injection h with h1 h2; injection h2 with h2 h3; subst h1; subst h2; subst h3
    exact (congrArg At (eq_spec_MirrorTable _ _ _ _ _)).mp ⟨vc_spec_MirrorTable _ _ _ _ hp⟩
  · cases h
def TTT_27 : Tab := TTT_26.addG 19 F_spec_MirrorTable
theorem TTT_27_ok : TTT_27.Ok Tryd.prog := TTT_26_ok.addG ok_spec_MirrorTable
theorem eq_impl_MirrorTable  (s : Int) (i : Int) (n : Nat) (c : List Sc) (g0 : List UInt8) (g1 : List UInt8) (g2 : List UInt8) (g3 : List UInt8) (K : V → List Blk → Prop) : VC_impl_MirrorTable  s i n c g0 g1 g2 g3 K = vbody Tryd.prog (vin Tryd.prog TTT_27 annTTT 3) TTT_27.looks (annTTT 20) 20 [.agg [.int .i64 s, .int .i64 i, .row 0 n]] [⟨.recs [.int .i64, .str, .int .i64] c, 47, .rows 3⟩, ⟨.vals [.str g0, .str g1, .str g2, .str g3], 9, .gl 0⟩] (K) := by kernel_rfl
theorem ok_impl_MirrorTable : OK Tryd.prog 20 F_impl_MirrorTable.spec := (vbody_ok (vin_ok TTT_27_ok annTTT 3) TTT_27_ok.looks _ _).ofG fun args m p R M h hp => by
  unfold F_impl_MirrorTable at h
  split at h
  · injection h with h; injection h with h1 h2; injection h2 with h2 h3; subst h1; subst h2; subst h3
    exact (congrArg At (eq_impl_MirrorTable _ _ _ _ _ _ _ _ _)).mp ⟨vc_impl_MirrorTable _ _ _ _ _ _ _ _ hp⟩
  · cases h
def TTT_28 : Tab := TTT_27.addG 20 F_impl_MirrorTable
theorem TTT_28_ok : TTT_28.Ok Tryd.prog := TTT_27_ok.addG ok_impl_MirrorTable
def TTT : Tab := TTT_28
theorem TTT_ok : TTT.Ok Tryd.prog := TTT_28_ok
end Go.Proofs.YtehglmfhohinbaaDoor
