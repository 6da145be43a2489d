/- The contracts of this chapter. -/
import Derived.Test.YtehglmfhohinbaaDoorProg
import Derived.Test.YtehglmfhohinbaaDoorTNPf
import Derived.KernelRfl
namespace Go.Proofs.YtehglmfhohinbaaDoor
open Go Go.Vi
set_option linter.unusedVariables false
def annTTN : FuncId → Nat → St → Option Ann := fun f => if f = 30 then ann_impl_renamed else if f = 58 then ann_spec_woRule else if f = 51 then ann_impl_quartersOfTurn else if f = 24 then ann_laws_szRowS else if f = 27 then ann_laws_toRowS else if f = 32 then ann_laws_eqRowS else if f = 25 then ann_spec_taGood else if f = 28 then ann_impl_IsTable else if f = 53 then ann_laws_markText else if f = 33 then ann_laws_markRowS else if f = 34 then ann_laws_heldRowS else if f = 10 then ann_laws_toIntS else if f = 13 then ann_laws_eqIntS else if f = 15 then ann_laws_markIntS else if f = 39 then ann_spec_l1Has else if f = 55 then ann_slices_Index_int_int else if f = 47 then ann_spec_l1All else if f = 26 then ann_spec_taOrder else if f = 29 then ann_impl_isOrder else if f = 17 then ann_spec_RenameTints else if f = 8 then ann_spec_RenameStates else (fun _ _ => none)
def TTN_0 : Tab := Tab.none
theorem TTN_0_ok : TTN_0.Ok Tryd.prog := Tab.none_ok
theorem eq_spec_l1In (n : Int) (lo : Int) (hi : Int) (K : V → Prop) : VC_spec_l1In n lo hi K = vbody Tryd.prog (vin Tryd.prog TTN_0 annTTN 3) TTN_0.looks (annTTN 45) 45 [.int .i64 n, .int .i64 lo, .int .i64 hi] [] (fun v _ => K v) := by kernel_rfl
theorem ok_spec_l1In : OK Tryd.prog 45 F_spec_l1In.spec := (vbody_ok (vin_ok TTN_0_ok annTTN 3) TTN_0_ok.looks _ _).ofF fun args m p R h hp => by
  unfold F_spec_l1In at h
  split at h
  · injection h with h; injection h with h1 h2; subst h1; subst h2
    exact ⟨rfl, (congrArg At (eq_spec_l1In _ _ _ _)).mp ⟨vc_spec_l1In _ _ _ hp⟩⟩
  · cases h
def TTN_1 : Tab := TTN_0.add 45 F_spec_l1In
theorem TTN_1_ok : TTN_1.Ok Tryd.prog := TTN_0_ok.add ok_spec_l1In
theorem eq_impl_within (n : Int) (lo : Int) (hi : Int) (K : V → Prop) : VC_impl_within n lo hi K = vbody Tryd.prog (vin Tryd.prog TTN_1 annTTN 3) TTN_1.looks (annTTN 50) 50 [.int .i64 n, .int .i64 lo, .int .i64 hi] [] (fun v _ => K v) := by kernel_rfl
theorem ok_impl_within : OK Tryd.prog 50 F_impl_within.spec := (vbody_ok (vin_ok TTN_1_ok annTTN 3) TTN_1_ok.looks _ _).ofF fun args m p R h hp => by
  unfold F_impl_within at h
  split at h
  · injection h with h; injection h with h1 h2; subst h1; subst h2
    exact ⟨rfl, (congrArg At (eq_impl_within _ _ _ _)).mp ⟨vc_impl_within _ _ _ hp⟩⟩
  · cases h
def TTN_2 : Tab := TTN_1.add 50 F_impl_within
theorem TTN_2_ok : TTN_2.Ok Tryd.prog := TTN_1_ok.add ok_impl_within
theorem eq_spec_woRule (s : List UInt8) (K : V → Prop) : VC_spec_woRule s K = vbody Tryd.prog (vin Tryd.prog TTN_2 annTTN 3) TTN_2.looks (annTTN 58) 58 [.str s] [] (fun v _ => K v) := by kernel_rfl
theorem ok_spec_woRule : OK Tryd.prog 58 F_spec_woRule.spec := (vbody_ok (vin_ok TTN_2_ok annTTN 3) TTN_2_ok.looks _ _).ofF fun args m p R h hp => by
  unfold F_spec_woRule at h
  split at h
  · injection h with h; injection h with h1 h2; subst h1; subst h2
    exact ⟨rfl, (congrArg At (eq_spec_woRule _ _)).mp ⟨vc_spec_woRule _ hp⟩⟩
  · cases h
def TTN_3 : Tab := TTN_2.add 58 F_spec_woRule
theorem TTN_3_ok : TTN_3.Ok Tryd.prog := TTN_2_ok.add ok_spec_woRule
theorem eq_spec_taSign (s : List UInt8) (K : V → Prop) : VC_spec_taSign s K = vbody Tryd.prog (vin Tryd.prog TTN_3 annTTN 3) TTN_3.looks (annTTN 46) 46 [.str s] [] (fun v _ => K v) := by kernel_rfl
theorem ok_spec_taSign : OK Tryd.prog 46 F_spec_taSign.spec := (vbody_ok (vin_ok TTN_3_ok annTTN 3) TTN_3_ok.looks _ _).ofF fun args m p R h hp => by
  unfold F_spec_taSign at h
  split at h
  · injection h with h; injection h with h1 h2; subst h1; subst h2
    exact ⟨rfl, (congrArg At (eq_spec_taSign _ _)).mp ⟨vc_spec_taSign _ hp⟩⟩
  · cases h
def TTN_4 : Tab := TTN_3.add 46 F_spec_taSign
theorem TTN_4_ok : TTN_4.Ok Tryd.prog := TTN_3_ok.add ok_spec_taSign
theorem eq_impl_quartersOfTurn (s : List UInt8) (g0 : List UInt8) (g1 : List UInt8) (g2 : List UInt8) (g3 : List UInt8) (K : V → List Blk → Prop) : VC_impl_quartersOfTurn s g0 g1 g2 g3 K = vbody Tryd.prog (vin Tryd.prog TTN_4 annTTN 3) TTN_4.looks (annTTN 51) 51 [.str s] [⟨.vals [.str g0, .str g1, .str g2, .str g3], 9, .gl 0⟩] (K) := by kernel_rfl
theorem ok_impl_quartersOfTurn : OK Tryd.prog 51 F_impl_quartersOfTurn.spec := (vbody_ok (vin_ok TTN_4_ok annTTN 3) TTN_4_ok.looks _ _).ofFM fun args m p R h hp => by
  unfold F_impl_quartersOfTurn at h
  split at h
  · injection h with h; injection h with h1 h2; subst h1; subst h2
    exact (congrArg At (eq_impl_quartersOfTurn _ _ _ _ _ _)).mp ⟨vc_impl_quartersOfTurn _ _ _ _ _ hp⟩
  · cases h
def TTN_5 : Tab := TTN_4.add 51 F_impl_quartersOfTurn
theorem TTN_5_ok : TTN_5.Ok Tryd.prog := TTN_4_ok.add ok_impl_quartersOfTurn
theorem eq_laws_szRow (ra : Int) (rt : List UInt8) (rb : Int) (left : Int) (K : V → Prop) : VC_laws_szRow ra rt rb left K = vbody Tryd.prog (vin Tryd.prog TTN_5 annTTN 3) TTN_5.looks (annTTN 44) 44 [.agg [.int .i64 ra, .str rt, .int .i64 rb], .int .i64 left] [] (fun v _ => K v) := by kernel_rfl
theorem ok_laws_szRow : OK Tryd.prog 44 F_laws_szRow.spec := (vbody_ok (vin_ok TTN_5_ok annTTN 3) TTN_5_ok.looks _ _).ofF fun args m p R h hp => by
  unfold F_laws_szRow at h
  split at h
  · injection h with h; injection h with h1 h2; subst h1; subst h2
    exact ⟨rfl, (congrArg At (eq_laws_szRow _ _ _ _ _)).mp ⟨vc_laws_szRow _ _ _ _ hp⟩⟩
  · cases h
def TTN_6 : Tab := TTN_5.add 44 F_laws_szRow
theorem TTN_6_ok : TTN_6.Ok Tryd.prog := TTN_5_ok.add ok_laws_szRow
theorem eq_laws_szRowS (left : Int) (n : Nat) (c : List Sc) (K : V → List Blk → Prop) : VC_laws_szRowS left n c K = vbody Tryd.prog (vin Tryd.prog TTN_6 annTTN 3) TTN_6.looks (annTTN 24) 24 [.row 0 n, .int .i64 left] [⟨.recs [.int .i64, .str, .int .i64] c, 60, .arg 3⟩] (K) := by kernel_rfl
theorem ok_laws_szRowS : OK Tryd.prog 24 F_laws_szRowS.spec := (vbody_ok (vin_ok TTN_6_ok annTTN 3) TTN_6_ok.looks _ _).ofFM fun args m p R h hp => by
  unfold F_laws_szRowS at h
  split at h
  · injection h with h; injection h with h1 h2; subst h1; subst h2
    exact (congrArg At (eq_laws_szRowS _ _ _ _)).mp ⟨vc_laws_szRowS _ _ _ hp⟩
  · cases h
def TTN_7 : Tab := TTN_6.add 24 F_laws_szRowS
theorem TTN_7_ok : TTN_7.Ok Tryd.prog := TTN_6_ok.add ok_laws_szRowS
theorem eq_laws_szTable (left : Int) (s : Int) (i : Int) (n : Nat) (c : List Sc) (K : V → List Blk → Prop) : VC_laws_szTable left s i n c K = vbody Tryd.prog (vin Tryd.prog TTN_7 annTTN 3) TTN_7.looks (annTTN 7) 7 [.agg [.int .i64 s, .int .i64 i, .row 0 n], .int .i64 left] [⟨.recs [.int .i64, .str, .int .i64] c, 60, .arg 3⟩] (K) := by kernel_rfl
theorem ok_laws_szTable : OK Tryd.prog 7 F_laws_szTable.spec := (vbody_ok (vin_ok TTN_7_ok annTTN 3) TTN_7_ok.looks _ _).ofFM fun args m p R h hp => by
  unfold F_laws_szTable at h
  split at h
  · injection h with h; injection h with h1 h2; subst h1; subst h2
    exact (congrArg At (eq_laws_szTable _ _ _ _ _ _)).mp ⟨vc_laws_szTable _ _ _ _ _ hp⟩
  · cases h
def TTN_8 : Tab := TTN_7.add 7 F_laws_szTable
theorem TTN_8_ok : TTN_8.Ok Tryd.prog := TTN_7_ok.add ok_laws_szTable
theorem eq_laws_toRow (ra : Int) (rt : List UInt8) (rb : Int) (K : V → Prop) : VC_laws_toRow ra rt rb K = vbody Tryd.prog (vin Tryd.prog TTN_8 annTTN 3) TTN_8.looks (annTTN 48) 48 [.agg [.int .i64 ra, .str rt, .int .i64 rb]] [] (fun v _ => K v) := by kernel_rfl
theorem ok_laws_toRow : OK Tryd.prog 48 F_laws_toRow.spec := (vbody_ok (vin_ok TTN_8_ok annTTN 3) TTN_8_ok.looks _ _).ofF fun args m p R h hp => by
  unfold F_laws_toRow at h
  split at h
  · injection h with h; injection h with h1 h2; subst h1; subst h2
    exact ⟨rfl, (congrArg At (eq_laws_toRow _ _ _ _)).mp ⟨vc_laws_toRow _ _ _ hp⟩⟩
  · cases h
def TTN_9 : Tab := TTN_8.add 48 F_laws_toRow
theorem TTN_9_ok : TTN_9.Ok Tryd.prog := TTN_8_ok.add ok_laws_toRow
theorem eq_laws_toRowS  (n : Nat) (c : List Sc) (K : V → List Blk → Prop) : VC_laws_toRowS  n c K = vbody Tryd.prog (vin Tryd.prog TTN_9 annTTN 3) TTN_9.looks (annTTN 27) 27 [.row 0 n] [⟨.recs [.int .i64, .str, .int .i64] c, 60, .arg 3⟩] (K) := by kernel_rfl
theorem ok_laws_toRowS : OK Tryd.prog 27 F_laws_toRowS.spec := (vbody_ok (vin_ok TTN_9_ok annTTN 3) TTN_9_ok.looks _ _).ofG fun args m p R M h hp => by
  unfold F_laws_toRowS at h
  split at h
  · injection h with h; injection h with h1 h2; injection h2 with h2 h3; subst h1; subst h2; subst h3
    exact (congrArg At (eq_laws_toRowS _ _ _)).mp ⟨vc_laws_toRowS _ _ hp⟩
  · cases h
def TTN_10 : Tab := TTN_9.addG 27 F_laws_toRowS
theorem TTN_10_ok : TTN_10.Ok Tryd.prog := TTN_9_ok.addG ok_laws_toRowS
theorem eq_laws_toTable  (s : Int) (i : Int) (n : Nat) (c : List Sc) (K : V → List Blk → Prop) : VC_laws_toTable  s i n c K = vbody Tryd.prog (vin Tryd.prog TTN_10 annTTN 3) TTN_10.looks (annTTN 9) 9 [.agg [.int .i64 s, .int .i64 i, .row 0 n]] [⟨.recs [.int .i64, .str, .int .i64] c, 60, .arg 3⟩] (K) := by kernel_rfl
theorem ok_laws_toTable : OK Tryd.prog 9 F_laws_toTable.spec := (vbody_ok (vin_ok TTN_10_ok annTTN 3) TTN_10_ok.looks _ _).ofG fun args m p R M h hp => by
  unfold F_laws_toTable at h
  split at h
  · injection h with h; injection h with h1 h2; injection h2 with h2 h3; subst h1; subst h2; subst h3
    exact (congrArg At (eq_laws_toTable _ _ _ _ _)).mp ⟨vc_laws_toTable _ _ _ _ hp⟩
  · cases h
def TTN_11 : Tab := TTN_10.addG 9 F_laws_toTable
theorem TTN_11_ok : TTN_11.Ok Tryd.prog := TTN_10_ok.addG ok_laws_toTable
theorem eq_laws_eqRow (ra : Int) (rt : List UInt8) (rb : Int) (qa : Int) (qt : List UInt8) (qb : Int) (K : V → Prop) : VC_laws_eqRow ra rt rb qa qt qb K = vbody Tryd.prog (vin Tryd.prog TTN_11 annTTN 3) TTN_11.looks (annTTN 52) 52 [.agg [.int .i64 ra, .str rt, .int .i64 rb], .agg [.int .i64 qa, .str qt, .int .i64 qb]] [] (fun v _ => K v) := by kernel_rfl
theorem ok_laws_eqRow : OK Tryd.prog 52 F_laws_eqRow.spec := (vbody_ok (vin_ok TTN_11_ok annTTN 3) TTN_11_ok.looks _ _).ofF fun args m p R h hp => by
  unfold F_laws_eqRow at h
  split at h
  · injection h with h; injection h with h1 h2; subst h1; subst h2
    exact ⟨rfl, (congrArg At (eq_laws_eqRow _ _ _ _ _ _ _)).mp ⟨vc_laws_eqRow _ _ _ _ _ _ hp⟩⟩
  · cases h
def TTN_12 : Tab := TTN_11.add 52 F_laws_eqRow
theorem TTN_12_ok : TTN_12.Ok Tryd.prog := TTN_11_ok.add ok_laws_eqRow
theorem eq_laws_eqRowS  (n : Nat) (m : Nat) (c : List Sc) (d : List Sc) (K : V → List Blk → Prop) : VC_laws_eqRowS  n m c d K = vbody Tryd.prog (vin Tryd.prog TTN_12 annTTN 3) TTN_12.looks (annTTN 32) 32 [.row 0 n, .row 1 m] [⟨.recs [.int .i64, .str, .int .i64] c, 47, .rows 3⟩, ⟨.recs [.int .i64, .str, .int .i64] d, 47, .rows 3⟩] (K) := by kernel_rfl
theorem ok_laws_eqRowS : OK Tryd.prog 32 F_laws_eqRowS.spec := (vbody_ok (vin_ok TTN_12_ok annTTN 3) TTN_12_ok.looks _ _).ofFM fun args m p R h hp => by
  unfold F_laws_eqRowS at h
  split at h
  · injection h with h; injection h with h1 h2; subst h1; subst h2
    exact (congrArg At (eq_laws_eqRowS _ _ _ _ _)).mp ⟨vc_laws_eqRowS _ _ _ _ hp⟩
  · cases h
def TTN_13 : Tab := TTN_12.add 32 F_laws_eqRowS
theorem TTN_13_ok : TTN_13.Ok Tryd.prog := TTN_12_ok.add ok_laws_eqRowS
theorem eq_laws_eqTable  (s : Int) (i : Int) (n : Nat) (c : List Sc) (p : Int) (q : Int) (m : Nat) (d : List Sc) (K : V → List Blk → Prop) : VC_laws_eqTable  s i n c p q m d K = vbody Tryd.prog (vin Tryd.prog TTN_13 annTTN 3) TTN_13.looks (annTTN 12) 12 [.agg [.int .i64 s, .int .i64 i, .row 0 n], .agg [.int .i64 p, .int .i64 q, .row 1 m]] [⟨.recs [.int .i64, .str, .int .i64] c, 47, .rows 3⟩, ⟨.recs [.int .i64, .str, .int .i64] d, 47, .rows 3⟩] (K) := by kernel_rfl
theorem ok_laws_eqTable : OK Tryd.prog 12 F_laws_eqTable.spec := (vbody_ok (vin_ok TTN_13_ok annTTN 3) TTN_13_ok.looks _ _).ofFM fun args m p R h hp => by
  unfold F_laws_eqTable at h
  split at h
  · injection h with h; injection h with h1 h2; subst h1; subst h2
    exact (congrArg At (eq_laws_eqTable _ _ _ _ _ _ _ _ _)).mp ⟨vc_laws_eqTable _ _ _ _ _ _ _ _ hp⟩
  · cases h
def TTN_14 : Tab := TTN_13.add 12 F_laws_eqTable
theorem TTN_14_ok : TTN_14.Ok Tryd.prog := TTN_13_ok.add ok_laws_eqTable
theorem eq_spec_taGood  (s : Int) (i : Int) (n : Nat) (c : List Sc) (K : V → List Blk → Prop) : VC_spec_taGood  s i n c K = vbody Tryd.prog (vin Tryd.prog TTN_14 annTTN 3) TTN_14.looks (annTTN 25) 25 [.agg [.int .i64 s, .int .i64 i, .row 0 n]] [⟨.recs [.int .i64, .str, .int .i64] c, 47, .rows 3⟩] (K) := by kernel_rfl
theorem ok_spec_taGood : OK Tryd.prog 25 F_spec_taGood.spec := (vbody_ok (vin_ok TTN_14_ok annTTN 3) TTN_14_ok.looks _ _).ofFM fun args m p R h hp => by
  unfold F_spec_taGood at h
  split at h
  · injection h with h; injection h with h1 h2; subst h1; subst h2
    exact (congrArg At (eq_spec_taGood _ _ _ _ _)).mp ⟨vc_spec_taGood _ _ _ _ hp⟩
  · cases h
def TTN_15 : Tab := TTN_14.add 25 F_spec_taGood
theorem TTN_15_ok : TTN_15.Ok Tryd.prog := TTN_14_ok.add ok_spec_taGood
theorem eq_impl_isTableSize (a : Int) (b : Int) (K : V → Prop) : VC_impl_isTableSize a b K = vbody Tryd.prog (vin Tryd.prog TTN_15 annTTN 3) TTN_15.looks (annTTN 49) 49 [.int .i64 a, .int .i64 b] [] (fun v _ => K v) := by kernel_rfl
theorem ok_impl_isTableSize : OK Tryd.prog 49 F_impl_isTableSize.spec := (vbody_ok (vin_ok TTN_15_ok annTTN 3) TTN_15_ok.looks _ _).ofF fun args m p R h hp => by
  unfold F_impl_isTableSize at h
  split at h
  · injection h with h; injection h with h1 h2; subst h1; subst h2
    exact ⟨rfl, (congrArg At (eq_impl_isTableSize _ _ _)).mp ⟨vc_impl_isTableSize _ _ hp⟩⟩
  · cases h
def TTN_16 : Tab := TTN_15.add 49 F_impl_isTableSize
theorem TTN_16_ok : TTN_16.Ok Tryd.prog := TTN_15_ok.add ok_impl_isTableSize
theorem eq_impl_IsTable  (s : Int) (i : Int) (n : Nat) (c : List Sc) (g0 : List UInt8) (g1 : List UInt8) (g2 : List UInt8) (g3 : List UInt8) (K : V → List Blk → Prop) : VC_impl_IsTable  s i n c g0 g1 g2 g3 K = vbody Tryd.prog (vin Tryd.prog TTN_16 annTTN 3) TTN_16.looks (annTTN 28) 28 [.agg [.int .i64 s, .int .i64 i, .row 0 n]] [⟨.recs [.int .i64, .str, .int .i64] c, 47, .rows 3⟩, ⟨.vals [.str g0, .str g1, .str g2, .str g3], 9, .gl 0⟩] (K) := by kernel_rfl
theorem ok_impl_IsTable : OK Tryd.prog 28 F_impl_IsTable.spec := (vbody_ok (vin_ok TTN_16_ok annTTN 3) TTN_16_ok.looks _ _).ofFM fun args m p R h hp => by
  unfold F_impl_IsTable at h
  split at h
  · injection h with h; injection h with h1 h2; subst h1; subst h2
    exact (congrArg At (eq_impl_IsTable _ _ _ _ _ _ _ _ _)).mp ⟨vc_impl_IsTable _ _ _ _ _ _ _ _ hp⟩
  · cases h
def TTN_17 : Tab := TTN_16.add 28 F_impl_IsTable
theorem TTN_17_ok : TTN_17.Ok Tryd.prog := TTN_16_ok.add ok_impl_IsTable
theorem eq_laws_markText (k : Int) (K : V → Prop) : VC_laws_markText k K = vbody Tryd.prog (vin Tryd.prog TTN_17 annTTN 3) TTN_17.looks (annTTN 53) 53 [.int .i64 k] [] (fun v _ => K v) := by kernel_rfl
theorem ok_laws_markText : OK Tryd.prog 53 F_laws_markText.spec := (vbody_ok (vin_ok TTN_17_ok annTTN 3) TTN_17_ok.looks _ _).ofF fun args m p R h hp => by
  unfold F_laws_markText at h
  split at h
  · injection h with h; injection h with h1 h2; subst h1; subst h2
    exact ⟨rfl, (congrArg At (eq_laws_markText _ _)).mp ⟨vc_laws_markText _ hp⟩⟩
  · cases h
def TTN_18 : Tab := TTN_17.add 53 F_laws_markText
theorem TTN_18_ok : TTN_18.Ok Tryd.prog := TTN_17_ok.add ok_laws_markText
theorem eq_laws_markRowS (k : Int) (n : Nat) (c : List Sc) (K : V → List Blk → Prop) : VC_laws_markRowS k n c K = vbody Tryd.prog (vin Tryd.prog TTN_18 annTTN 3) TTN_18.looks (annTTN 33) 33 [.row 0 n, .int .i64 k] [⟨.recs [.int .i64, .str, .int .i64] c, 47, .rows 3⟩] (K) := by kernel_rfl
theorem ok_laws_markRowS : OK Tryd.prog 33 F_laws_markRowS.spec := (vbody_ok (vin_ok TTN_18_ok annTTN 3) TTN_18_ok.looks _ _).ofG fun args m p R M h hp => by
  unfold F_laws_markRowS at h
  split at h
  · injection h with h; injection h with h1 h2; injection h2 with h2 h3; subst h1; subst h2; subst h3
    exact (congrArg At (eq_laws_markRowS _ _ _ _)).mp ⟨vc_laws_markRowS _ _ _ hp⟩
  · cases h
def TTN_19 : Tab := TTN_18.addG 33 F_laws_markRowS
theorem TTN_19_ok : TTN_19.Ok Tryd.prog := TTN_18_ok.addG ok_laws_markRowS
theorem eq_laws_markTable (k : Int) (s : Int) (i : Int) (n : Nat) (c : List Sc) (K : V → List Blk → Prop) : VC_laws_markTable k s i n c K = vbody Tryd.prog (vin Tryd.prog TTN_19 annTTN 3) TTN_19.looks (annTTN 14) 14 [.agg [.int .i64 s, .int .i64 i, .row 0 n], .int .i64 k] [⟨.recs [.int .i64, .str, .int .i64] c, 47, .rows 3⟩] (K) := by kernel_rfl
theorem ok_laws_markTable : OK Tryd.prog 14 F_laws_markTable.spec := (vbody_ok (vin_ok TTN_19_ok annTTN 3) TTN_19_ok.looks _ _).ofG fun args m p R M h hp => by
  unfold F_laws_markTable at h
  split at h
  · injection h with h; injection h with h1 h2; injection h2 with h2 h3; subst h1; subst h2; subst h3
    exact (congrArg At (eq_laws_markTable _ _ _ _ _ _)).mp ⟨vc_laws_markTable _ _ _ _ _ hp⟩
  · cases h
def TTN_20 : Tab := TTN_19.addG 14 F_laws_markTable
theorem TTN_20_ok : TTN_20.Ok Tryd.prog := TTN_19_ok.addG ok_laws_markTable
theorem eq_laws_heldRowS (k : Int) (n : Nat) (c : List Sc) (K : V → List Blk → Prop) : VC_laws_heldRowS k n c K = vbody Tryd.prog (vin Tryd.prog TTN_20 annTTN 3) TTN_20.looks (annTTN 34) 34 [.row 0 n, .int .i64 k] [⟨.recs [.int .i64, .str, .int .i64] c, 47, .rows 3⟩] (K) := by kernel_rfl
theorem ok_laws_heldRowS : OK Tryd.prog 34 F_laws_heldRowS.spec := (vbody_ok (vin_ok TTN_20_ok annTTN 3) TTN_20_ok.looks _ _).ofFM fun args m p R h hp => by
  unfold F_laws_heldRowS at h
  split at h
  · injection h with h; injection h with h1 h2; subst h1; subst h2
    exact (congrArg At (eq_laws_heldRowS _ _ _ _)).mp ⟨vc_laws_heldRowS _ _ _ hp⟩
  · cases h
def TTN_21 : Tab := TTN_20.add 34 F_laws_heldRowS
theorem TTN_21_ok : TTN_21.Ok Tryd.prog := TTN_20_ok.add ok_laws_heldRowS
theorem eq_laws_heldTable (k : Int) (s : Int) (i : Int) (n : Nat) (c : List Sc) (K : V → List Blk → Prop) : VC_laws_heldTable k s i n c K = vbody Tryd.prog (vin Tryd.prog TTN_21 annTTN 3) TTN_21.looks (annTTN 16) 16 [.agg [.int .i64 s, .int .i64 i, .row 0 n], .int .i64 k] [⟨.recs [.int .i64, .str, .int .i64] c, 47, .rows 3⟩] (K) := by kernel_rfl
theorem ok_laws_heldTable : OK Tryd.prog 16 F_laws_heldTable.spec := (vbody_ok (vin_ok TTN_21_ok annTTN 3) TTN_21_ok.looks _ _).ofFM fun args m p R h hp => by
  unfold F_laws_heldTable at h
  split at h
  · injection h with h; injection h with h1 h2; subst h1; subst h2
    exact (congrArg At (eq_laws_heldTable _ _ _ _ _ _)).mp ⟨vc_laws_heldTable _ _ _ _ _ hp⟩
  · cases h
def TTN_22 : Tab := TTN_21.add 16 F_laws_heldTable
theorem TTN_22_ok : TTN_22.Ok Tryd.prog := TTN_21_ok.add ok_laws_heldTable
theorem eq_impl_Row  (n : Nat) (c : List Sc) (K : V → List Blk → Prop) : VC_impl_Row  n c K = vbody Tryd.prog (vin Tryd.prog TTN_22 annTTN 3) TTN_22.looks (annTTN 54) 54 [.row 0 n] [⟨.recs [.int .i64, .str, .int .i64] c, 47, .rows 3⟩] (K) := by kernel_rfl
theorem ok_impl_Row : OK Tryd.prog 54 F_impl_Row.spec := (vbody_ok (vin_ok TTN_22_ok annTTN 3) TTN_22_ok.looks _ _).ofG fun args m p R M h hp => by
  unfold F_impl_Row at h
  split at h
  · injection h with h; injection h with h1 h2; injection h2 with h2 h3; subst h1; subst h2; subst h3
    exact (congrArg At (eq_impl_Row _ _ _)).mp ⟨vc_impl_Row _ _ hp⟩
  · cases h
def TTN_23 : Tab := TTN_22.addG 54 F_impl_Row
theorem TTN_23_ok : TTN_23.Ok Tryd.prog := TTN_22_ok.addG ok_impl_Row
theorem eq_impl_copied  (s : Int) (i : Int) (n : Nat) (c : List Sc) (K : V → List Blk → Prop) : VC_impl_copied  s i n c K = vbody Tryd.prog (vin Tryd.prog TTN_23 annTTN 3) TTN_23.looks (annTTN 37) 37 [.agg [.int .i64 s, .int .i64 i, .row 0 n]] [⟨.recs [.int .i64, .str, .int .i64] c, 47, .rows 3⟩] (K) := by kernel_rfl
theorem ok_impl_copied : OK Tryd.prog 37 F_impl_copied.spec := (vbody_ok (vin_ok TTN_23_ok annTTN 3) TTN_23_ok.looks _ _).ofG fun args m p R M h hp => by
  unfold F_impl_copied at h
  split at h
  · injection h with h; injection h with h1 h2; injection h2 with h2 h3; subst h1; subst h2; subst h3
    exact (congrArg At (eq_impl_copied _ _ _ _ _)).mp ⟨vc_impl_copied _ _ _ _ hp⟩
  · cases h
def TTN_24 : Tab := TTN_23.addG 37 F_impl_copied
theorem TTN_24_ok : TTN_24.Ok Tryd.prog := TTN_23_ok.addG ok_impl_copied
theorem eq_laws_toIntS  (n : Nat) (a : List Int) (e : TypeId) (k : Kind) (K : V → List Blk → Prop) : VC_laws_toIntS  n a e k K = vbody Tryd.prog (vin Tryd.prog TTN_24 annTTN 3) TTN_24.looks (annTTN 10) 10 [.row 0 n] [⟨.ints .i64 a, e, k⟩] (K) := by kernel_rfl
theorem ok_laws_toIntS : OK Tryd.prog 10 F_laws_toIntS.spec := (vbody_ok (vin_ok TTN_24_ok annTTN 3) TTN_24_ok.looks _ _).ofG fun args m p R M h hp => by
  unfold F_laws_toIntS at h
  split at h
  · injection h with h; injection h with h1 h2; injection h2 with h2 h3; subst h1; subst h2; subst h3
    exact (congrArg At (eq_laws_toIntS _ _ _ _ _)).mp ⟨vc_laws_toIntS _ _ _ _ hp⟩
  · cases h
def TTN_25 : Tab := TTN_24.addG 10 F_laws_toIntS
theorem TTN_25_ok : TTN_25.Ok Tryd.prog := TTN_24_ok.addG ok_laws_toIntS
theorem eq_laws_eqIntS  (n : Nat) (m : Nat) (a : List Int) (b : List Int) (e : TypeId) (k : Kind) (f : TypeId) (q : Kind) (K : V → List Blk → Prop) : VC_laws_eqIntS  n m a b e k f q K = vbody Tryd.prog (vin Tryd.prog TTN_25 annTTN 3) TTN_25.looks (annTTN 13) 13 [.row 0 n, .row 1 m] [⟨.ints .i64 a, e, k⟩, ⟨.ints .i64 b, f, q⟩] (K) := by kernel_rfl
theorem ok_laws_eqIntS : OK Tryd.prog 13 F_laws_eqIntS.spec := (vbody_ok (vin_ok TTN_25_ok annTTN 3) TTN_25_ok.looks _ _).ofFM fun args m p R h hp => by
  unfold F_laws_eqIntS at h
  split at h
  · injection h with h; injection h with h1 h2; subst h1; subst h2
    exact (congrArg At (eq_laws_eqIntS _ _ _ _ _ _ _ _ _)).mp ⟨vc_laws_eqIntS _ _ _ _ _ _ _ _ hp⟩
  · cases h
def TTN_26 : Tab := TTN_25.add 13 F_laws_eqIntS
theorem TTN_26_ok : TTN_26.Ok Tryd.prog := TTN_25_ok.add ok_laws_eqIntS
theorem eq_laws_markIntS (k : Int) (n : Nat) (a : List Int) (K : V → List Blk → Prop) : VC_laws_markIntS k n a K = vbody Tryd.prog (vin Tryd.prog TTN_26 annTTN 3) TTN_26.looks (annTTN 15) 15 [.row 0 n, .int .i64 k] [⟨.ints .i64 (a), 3, .row⟩] (K) := by kernel_rfl
theorem ok_laws_markIntS : OK Tryd.prog 15 F_laws_markIntS.spec := (vbody_ok (vin_ok TTN_26_ok annTTN 3) TTN_26_ok.looks _ _).ofG fun args m p R M h hp => by
  unfold F_laws_markIntS at h
  split at h
  · injection h with h; injection h with h1 h2; injection h2 with h2 h3; subst h1; subst h2; subst h3
    exact (congrArg At (eq_laws_markIntS _ _ _ _)).mp ⟨vc_laws_markIntS _ _ _ hp⟩
  · cases h
def TTN_27 : Tab := TTN_26.addG 15 F_laws_markIntS
theorem TTN_27_ok : TTN_27.Ok Tryd.prog := TTN_26_ok.addG ok_laws_markIntS
theorem eq_spec_l1Has (v : Int) (n : Nat) (a : List Int) (e : TypeId) (k : Kind) (K : V → List Blk → Prop) : VC_spec_l1Has v n a e k K = vbody Tryd.prog (vin Tryd.prog TTN_27 annTTN 3) TTN_27.looks (annTTN 39) 39 [.row 0 n, .int .i64 v] [⟨.ints .i64 a, e, k⟩] (K) := by kernel_rfl
theorem ok_spec_l1Has : OK Tryd.prog 39 F_spec_l1Has.spec := (vbody_ok (vin_ok TTN_27_ok annTTN 3) TTN_27_ok.looks _ _).ofFM fun args m p R h hp => by
  unfold F_spec_l1Has at h
  split at h
  · injection h with h; injection h with h1 h2; subst h1; subst h2
    exact (congrArg At (eq_spec_l1Has _ _ _ _ _ _)).mp ⟨vc_spec_l1Has _ _ _ _ _ hp⟩
  · cases h
def TTN_28 : Tab := TTN_27.add 39 F_spec_l1Has
theorem TTN_28_ok : TTN_28.Ok Tryd.prog := TTN_27_ok.add ok_spec_l1Has
theorem eq_slices_Index_int_int (v : Int) (n : Nat) (a : List Int) (e : TypeId) (k : Kind) (K : V → List Blk → Prop) : VC_slices_Index_int_int v n a e k K = vbody Tryd.prog (vin Tryd.prog TTN_28 annTTN 3) TTN_28.looks (annTTN 55) 55 [.row 0 n, .int .i64 v] [⟨.ints .i64 a, e, k⟩] (K) := by kernel_rfl
theorem ok_slices_Index_int_int : OK Tryd.prog 55 F_slices_Index_int_int.spec := (vbody_ok (vin_ok TTN_28_ok annTTN 3) TTN_28_ok.looks _ _).ofFM fun args m p R h hp => by
  unfold F_slices_Index_int_int at h
  split at h
  · injection h with h; injection h with h1 h2; subst h1; subst h2
    exact (congrArg At (eq_slices_Index_int_int _ _ _ _ _ _)).mp ⟨vc_slices_Index_int_int _ _ _ _ _ hp⟩
  · cases h
def TTN_29 : Tab := TTN_28.add 55 F_slices_Index_int_int
theorem TTN_29_ok : TTN_29.Ok Tryd.prog := TTN_28_ok.add ok_slices_Index_int_int
theorem eq_slices_Contains_int_int (v : Int) (n : Nat) (a : List Int) (K : V → List Blk → Prop) : VC_slices_Contains_int_int v n a K = vbody Tryd.prog (vin Tryd.prog TTN_29 annTTN 3) TTN_29.looks (annTTN 42) 42 [.row 0 n, .int .i64 v] [⟨.ints .i64 (a), 3, .row⟩] (K) := by kernel_rfl
theorem ok_slices_Contains_int_int : OK Tryd.prog 42 F_slices_Contains_int_int.spec := (vbody_ok (vin_ok TTN_29_ok annTTN 3) TTN_29_ok.looks _ _).ofFM fun args m p R h hp => by
  unfold F_slices_Contains_int_int at h
  split at h
  · injection h with h; injection h with h1 h2; subst h1; subst h2
    exact (congrArg At (eq_slices_Contains_int_int _ _ _ _)).mp ⟨vc_slices_Contains_int_int _ _ _ hp⟩
  · cases h
def TTN_30 : Tab := TTN_29.add 42 F_slices_Contains_int_int
theorem TTN_30_ok : TTN_30.Ok Tryd.prog := TTN_29_ok.add ok_slices_Contains_int_int
theorem eq_spec_l1All (lo : Int) (hi : Int) (n : Nat) (a : List Int) (K : V → List Blk → Prop) : VC_spec_l1All lo hi n a K = vbody Tryd.prog (vin Tryd.prog TTN_30 annTTN 3) TTN_30.looks (annTTN 47) 47 [.row 0 n, .int .i64 lo, .int .i64 hi] [⟨.ints .i64 (a), 3, .row⟩] (K) := by kernel_rfl
theorem ok_spec_l1All : OK Tryd.prog 47 F_spec_l1All.spec := (vbody_ok (vin_ok TTN_30_ok annTTN 3) TTN_30_ok.looks _ _).ofFM fun args m p R h hp => by
  unfold F_spec_l1All at h
  split at h
  · injection h with h; injection h with h1 h2; subst h1; subst h2
    exact (congrArg At (eq_spec_l1All _ _ _ _ _)).mp ⟨vc_spec_l1All _ _ _ _ hp⟩
  · cases h
def TTN_31 : Tab := TTN_30.add 47 F_spec_l1All
theorem TTN_31_ok : TTN_31.Ok Tryd.prog := TTN_30_ok.add ok_spec_l1All
theorem eq_spec_taOrder (p : Int) (n : Nat) (a : List Int) (K : V → List Blk → Prop) : VC_spec_taOrder p n a K = vbody Tryd.prog (vin Tryd.prog TTN_31 annTTN 3) TTN_31.looks (annTTN 26) 26 [.int .i64 p, .row 0 n] [⟨.ints .i64 (a), 3, .row⟩] (K) := by kernel_rfl
theorem ok_spec_taOrder : OK Tryd.prog 26 F_spec_taOrder.spec := (vbody_ok (vin_ok TTN_31_ok annTTN 3) TTN_31_ok.looks _ _).ofFM fun args m p R h hp => by
  unfold F_spec_taOrder at h
  split at h
  · injection h with h; injection h with h1 h2; subst h1; subst h2
    exact (congrArg At (eq_spec_taOrder _ _ _ _)).mp ⟨vc_spec_taOrder _ _ _ hp⟩
  · cases h
def TTN_32 : Tab := TTN_31.add 26 F_spec_taOrder
theorem TTN_32_ok : TTN_32.Ok Tryd.prog := TTN_31_ok.add ok_spec_taOrder
theorem eq_impl_isOrder (p : Int) (n : Nat) (a : List Int) (K : V → List Blk → Prop) : VC_impl_isOrder p n a K = vbody Tryd.prog (vin Tryd.prog TTN_32 annTTN 3) TTN_32.looks (annTTN 29) 29 [.row 0 n, .int .i64 p] [⟨.ints .i64 (a), 3, .row⟩] (K) := by kernel_rfl
theorem ok_impl_isOrder : OK Tryd.prog 29 F_impl_isOrder.spec := (vbody_ok (vin_ok TTN_32_ok annTTN 3) TTN_32_ok.looks _ _).ofFM fun args m p R h hp => by
  unfold F_impl_isOrder at h
  split at h
  · injection h with h; injection h with h1 h2; subst h1; subst h2
    exact (congrArg At (eq_impl_isOrder _ _ _ _)).mp ⟨vc_impl_isOrder _ _ _ hp⟩
  · cases h
def TTN_33 : Tab := TTN_32.add 29 F_impl_isOrder
theorem TTN_33_ok : TTN_33.Ok Tryd.prog := TTN_32_ok.add ok_impl_isOrder
theorem eq_impl_RenameTints_1 (p : Int) (q : Int) (n : Nat) (a : List Int) (K : V → List Blk → Prop) : VC_impl_RenameTints_1 p q n a K = vbody Tryd.prog (vin Tryd.prog TTN_33 annTTN 3) TTN_33.looks (annTTN 35) 35 [.int .i64 p, .int .i64 q, .ptr 0 0] [⟨.vals [.row 1 n], 25, .box⟩, ⟨.ints .i64 (a), 3, .row⟩] (K) := by kernel_rfl
theorem ok_impl_RenameTints_1 : OK Tryd.prog 35 F_impl_RenameTints_1.spec := (vbody_ok (vin_ok TTN_33_ok annTTN 3) TTN_33_ok.looks _ _).ofFM fun args m p R h hp => by
  unfold F_impl_RenameTints_1 at h
  split at h
  · injection h with h; injection h with h1 h2; subst h1; subst h2
    exact (congrArg At (eq_impl_RenameTints_1 _ _ _ _ _)).mp ⟨vc_impl_RenameTints_1 _ _ _ _ hp⟩
  · cases h
def TTN_34 : Tab := TTN_33.add 35 F_impl_RenameTints_1
theorem TTN_34_ok : TTN_34.Ok Tryd.prog := TTN_33_ok.add ok_impl_RenameTints_1
theorem eq_impl_RenameStates_1 (p : Int) (q : Int) (n : Nat) (a : List Int) (K : V → List Blk → Prop) : VC_impl_RenameStates_1 p q n a K = vbody Tryd.prog (vin Tryd.prog TTN_34 annTTN 3) TTN_34.looks (annTTN 31) 31 [.int .i64 p, .int .i64 q, .ptr 0 0] [⟨.vals [.row 1 n], 25, .box⟩, ⟨.ints .i64 (a), 3, .row⟩] (K) := by kernel_rfl
theorem ok_impl_RenameStates_1 : OK Tryd.prog 31 F_impl_RenameStates_1.spec := (vbody_ok (vin_ok TTN_34_ok annTTN 3) TTN_34_ok.looks _ _).ofFM fun args m p R h hp => by
  unfold F_impl_RenameStates_1 at h
  split at h
  · injection h with h; injection h with h1 h2; subst h1; subst h2
    exact (congrArg At (eq_impl_RenameStates_1 _ _ _ _ _)).mp ⟨vc_impl_RenameStates_1 _ _ _ _ hp⟩
  · cases h
def TTN_35 : Tab := TTN_34.add 31 F_impl_RenameStates_1
theorem TTN_35_ok : TTN_35.Ok Tryd.prog := TTN_34_ok.add ok_impl_RenameStates_1
theorem eq_spec_RenameTints  (s : Int) (i : Int) (n : Nat) (c : List Sc) (m : Nat) (a : List Int) (K : V → List Blk → Prop) : VC_spec_RenameTints  s i n c m a K = vbody Tryd.prog (vin Tryd.prog TTN_35 annTTN 3) TTN_35.looks (annTTN 17) 17 [.agg [.int .i64 s, .int .i64 i, .row 0 n], .row 1 m] [⟨.recs [.int .i64, .str, .int .i64] c, 47, .rows 3⟩, ⟨.ints .i64 (a), 3, .row⟩] (K) := by kernel_rfl
theorem ok_spec_RenameTints : OK Tryd.prog 17 F_spec_RenameTints.spec := (vbody_ok (vin_ok TTN_35_ok annTTN 3) TTN_35_ok.looks _ _).ofG fun args m p R M h hp => by
  unfold F_spec_RenameTints at h
  split at h
  · injection h with h; injection h with h1 h2; injection h2 with h2 h3; subst h1; subst h2; subst h3
    exact (congrArg At (eq_spec_RenameTints _ _ _ _ _ _ _)).mp ⟨vc_spec_RenameTints _ _ _ _ _ _ hp⟩
  · cases h
def TTN_36 : Tab := TTN_35.addG 17 F_spec_RenameTints
theorem TTN_36_ok : TTN_36.Ok Tryd.prog := TTN_35_ok.addG ok_spec_RenameTints
theorem eq_impl_RenameTints  (s : Int) (i : Int) (n : Nat) (c : List Sc) (m : Nat) (a : List Int) (g0 : List UInt8) (g1 : List UInt8) (g2 : List UInt8) (g3 : List UInt8) (K : V → List Blk → Prop) : VC_impl_RenameTints  s i n c m a g0 g1 g2 g3 K = vbody Tryd.prog (vin Tryd.prog TTN_36 annTTN 4) TTN_36.looks (annTTN 18) 18 [.agg [.int .i64 s, .int .i64 i, .row 0 n], .row 1 m] [⟨.recs [.int .i64, .str, .int .i64] c, 47, .rows 3⟩, ⟨.ints .i64 (a), 3, .row⟩, ⟨.vals [.str g0, .str g1, .str g2, .str g3], 9, .gl 0⟩] (K) := by kernel_rfl
theorem ok_impl_RenameTints : OK Tryd.prog 18 F_impl_RenameTints.spec := (vbody_ok (vin_ok TTN_36_ok annTTN 4) TTN_36_ok.looks _ _).ofG fun args m p R M h hp => by
  unfold F_impl_RenameTints at h
  split at h
  · injection h with h; injection h with h1 h2; injection h2 with h2 h3; subst h1; subst h2; subst h3
    exact (congrArg At (eq_impl_RenameTints _ _ _ _ _ _ _ _ _ _ _)).mp ⟨vc_impl_RenameTints _ _ _ _ _ _ _ _ _ _ hp⟩
  · cases h
def TTN_37 : Tab := TTN_36.addG 18 F_impl_RenameTints
theorem TTN_37_ok : TTN_37.Ok Tryd.prog := TTN_36_ok.addG ok_impl_RenameTints
theorem eq_spec_RenameStates  (s : Int) (i : Int) (n : Nat) (c : List Sc) (m : Nat) (a : List Int) (K : V → List Blk → Prop) : VC_spec_RenameStates  s i n c m a K = vbody Tryd.prog (vin Tryd.prog TTN_37 annTTN 3) TTN_37.looks (annTTN 8) 8 [.agg [.int .i64 s, .int .i64 i, .row 0 n], .row 1 m] [⟨.recs [.int .i64, .str, .int .i64] c, 47, .rows 3⟩, ⟨.ints .i64 (a), 3, .row⟩] (K) := by kernel_rfl
theorem ok_spec_RenameStates : OK Tryd.prog 8 F_spec_RenameStates.spec := (vbody_ok (vin_ok TTN_37_ok annTTN 3) TTN_37_ok.looks _ _).ofG fun args m p R M h hp => by
  unfold F_spec_RenameStates at h
  split at h
  · injection h with h; injection h with h1 h2; injection h2 with h2 h3; subst h1; subst h2; subst h3
    exact (congrArg At (eq_spec_RenameStates _ _ _ _ _ _ _)).mp ⟨vc_spec_RenameStates _ _ _ _ _ _ hp⟩
  · cases h
def TTN_38 : Tab := TTN_37.addG 8 F_spec_RenameStates
theorem TTN_38_ok : TTN_38.Ok Tryd.prog := TTN_37_ok.addG ok_spec_RenameStates
theorem eq_impl_RenameStates  (s : Int) (i : Int) (n : Nat) (c : List Sc) (m : Nat) (a : List Int) (g0 : List UInt8) (g1 : List UInt8) (g2 : List UInt8) (g3 : List UInt8) (K : V → List Blk → Prop) : VC_impl_RenameStates  s i n c m a g0 g1 g2 g3 K = vbody Tryd.prog (vin Tryd.prog TTN_38 annTTN 4) TTN_38.looks (annTTN 11) 11 [.agg [.int .i64 s, .int .i64 i, .row 0 n], .row 1 m] [⟨.recs [.int .i64, .str, .int .i64] c, 47, .rows 3⟩, ⟨.ints .i64 (a), 3, .row⟩, ⟨.vals [.str g0, .str g1, .str g2, .str g3], 9, .gl 0⟩] (K) := by kernel_rfl
theorem ok_impl_RenameStates : OK Tryd.prog 11 F_impl_RenameStates.spec := (vbody_ok (vin_ok TTN_38_ok annTTN 4) TTN_38_ok.looks _ _).ofG fun args m p R M h hp => by
  unfold F_impl_RenameStates at h
  split at h
  · injection h with h; injection h with h1 h2; injection h2 with h2 h3; subst h1; subst h2; subst h3
    exact (congrArg At (eq_impl_RenameStates _ _ _ _ _ _ _ _ _ _ _)).mp ⟨vc_impl_RenameStates _ _ _ _ _ _ _ _ _ _ hp⟩
  · cases h
def TTN_39 : Tab := TTN_38.addG 11 F_impl_RenameStates
theorem TTN_39_ok : TTN_39.Ok Tryd.prog := TTN_38_ok.addG ok_impl_RenameStates
def TTN : Tab := TTN_39
theorem TTN_ok : TTN.Ok Tryd.prog := TTN_39_ok
end Go.Proofs.YtehglmfhohinbaaDoor
