/- The contracts of this chapter. -/
import Derived.Test.YtlnjbdaenikkiaaDoorProg
import Derived.Test.YtlnjbdaenikkiaaDoorTYPf
import Derived.KernelRfl
namespace Go.Proofs.YtlnjbdaenikkiaaDoor
open Go Go.Vi
set_option linter.unusedVariables false
def annTTY : FuncId → Nat → St → Option Ann := fun f => if f = 80 then ann_spec_woRule else if f = 63 then ann_impl_quartersOfTurn else if f = 31 then ann_laws_szRowS else if f = 36 then ann_laws_toRowS else if f = 41 then ann_laws_eqRowS else if f = 32 then ann_spec_taGood else if f = 37 then ann_impl_IsTable else if f = 49 then ann_spec_taText else if f = 22 then ann_impl_TableText else (fun _ _ => none)
def TTY_0 : Tab := Tab.none
theorem TTY_0_ok : TTY_0.Ok Tryd.prog := Tab.none_ok
theorem eq_spec_l1In (n : Int) (lo : Int) (hi : Int) (K : V → Prop) : VC_spec_l1In n lo hi K = vbody Tryd.prog (vin Tryd.prog TTY_0 annTTY 3) TTY_0.looks (annTTY 33) 33 [.int .i64 n, .int .i64 lo, .int .i64 hi] [] (fun v _ => K v) := by kernel_rfl
theorem ok_spec_l1In : OK Tryd.prog 33 F_spec_l1In.spec := (vbody_ok (vin_ok TTY_0_ok annTTY 3) TTY_0_ok.looks _ _).ofF fun args m p R h hp => by
  unfold F_spec_l1In at h
  split at h
  · injection h with h; injection h with h1 h2; subst h1; subst h2
    exact ⟨rfl, (congrArg At (eq_spec_l1In _ _ _ _)).mp ⟨vc_spec_l1In _ _ _ hp⟩⟩
  · cases h
def TTY_1 : Tab := TTY_0.add 33 F_spec_l1In
theorem TTY_1_ok : TTY_1.Ok Tryd.prog := TTY_0_ok.add ok_spec_l1In
theorem eq_impl_within (n : Int) (lo : Int) (hi : Int) (K : V → Prop) : VC_impl_within n lo hi K = vbody Tryd.prog (vin Tryd.prog TTY_1 annTTY 3) TTY_1.looks (annTTY 47) 47 [.int .i64 n, .int .i64 lo, .int .i64 hi] [] (fun v _ => K v) := by kernel_rfl
theorem ok_impl_within : OK Tryd.prog 47 F_impl_within.spec := (vbody_ok (vin_ok TTY_1_ok annTTY 3) TTY_1_ok.looks _ _).ofF fun args m p R h hp => by
  unfold F_impl_within at h
  split at h
  · injection h with h; injection h with h1 h2; subst h1; subst h2
    exact ⟨rfl, (congrArg At (eq_impl_within _ _ _ _)).mp ⟨vc_impl_within _ _ _ hp⟩⟩
  · cases h
def TTY_2 : Tab := TTY_1.add 47 F_impl_within
theorem TTY_2_ok : TTY_2.Ok Tryd.prog := TTY_1_ok.add ok_impl_within
theorem eq_spec_woRule (s : List UInt8) (K : V → Prop) : VC_spec_woRule s K = vbody Tryd.prog (vin Tryd.prog TTY_2 annTTY 3) TTY_2.looks (annTTY 80) 80 [.str s] [] (fun v _ => K v) := by kernel_rfl
theorem ok_spec_woRule : OK Tryd.prog 80 F_spec_woRule.spec := (vbody_ok (vin_ok TTY_2_ok annTTY 3) TTY_2_ok.looks _ _).ofF fun args m p R h hp => by
  unfold F_spec_woRule at h
  split at h
  · injection h with h; injection h with h1 h2; subst h1; subst h2
    exact ⟨rfl, (congrArg At (eq_spec_woRule _ _)).mp ⟨vc_spec_woRule _ hp⟩⟩
  · cases h
def TTY_3 : Tab := TTY_2.add 80 F_spec_woRule
theorem TTY_3_ok : TTY_3.Ok Tryd.prog := TTY_2_ok.add ok_spec_woRule
theorem eq_spec_taSign (s : List UInt8) (K : V → Prop) : VC_spec_taSign s K = vbody Tryd.prog (vin Tryd.prog TTY_3 annTTY 3) TTY_3.looks (annTTY 60) 60 [.str s] [] (fun v _ => K v) := by kernel_rfl
theorem ok_spec_taSign : OK Tryd.prog 60 F_spec_taSign.spec := (vbody_ok (vin_ok TTY_3_ok annTTY 3) TTY_3_ok.looks _ _).ofF fun args m p R h hp => by
  unfold F_spec_taSign at h
  split at h
  · injection h with h; injection h with h1 h2; subst h1; subst h2
    exact ⟨rfl, (congrArg At (eq_spec_taSign _ _)).mp ⟨vc_spec_taSign _ hp⟩⟩
  · cases h
def TTY_4 : Tab := TTY_3.add 60 F_spec_taSign
theorem TTY_4_ok : TTY_4.Ok Tryd.prog := TTY_3_ok.add ok_spec_taSign
theorem eq_impl_quartersOfTurn (s : List UInt8) (g0 : List UInt8) (g1 : List UInt8) (g2 : List UInt8) (g3 : List UInt8) (K : V → List Blk → Prop) : VC_impl_quartersOfTurn s g0 g1 g2 g3 K = vbody Tryd.prog (vin Tryd.prog TTY_4 annTTY 3) TTY_4.looks (annTTY 63) 63 [.str s] [⟨.vals [.str g0, .str g1, .str g2, .str g3], 9, .gl 0⟩] (K) := by kernel_rfl
theorem ok_impl_quartersOfTurn : OK Tryd.prog 63 F_impl_quartersOfTurn.spec := (vbody_ok (vin_ok TTY_4_ok annTTY 3) TTY_4_ok.looks _ _).ofFM fun args m p R h hp => by
  unfold F_impl_quartersOfTurn at h
  split at h
  · injection h with h; injection h with h1 h2; subst h1; subst h2
    exact (congrArg At (eq_impl_quartersOfTurn _ _ _ _ _ _)).mp ⟨vc_impl_quartersOfTurn _ _ _ _ _ hp⟩
  · cases h
def TTY_5 : Tab := TTY_4.add 63 F_impl_quartersOfTurn
theorem TTY_5_ok : TTY_5.Ok Tryd.prog := TTY_4_ok.add ok_impl_quartersOfTurn
theorem eq_laws_szRow (ra : Int) (rt : List UInt8) (rb : Int) (left : Int) (K : V → Prop) : VC_laws_szRow ra rt rb left K = vbody Tryd.prog (vin Tryd.prog TTY_5 annTTY 3) TTY_5.looks (annTTY 59) 59 [.agg [.int .i64 ra, .str rt, .int .i64 rb], .int .i64 left] [] (fun v _ => K v) := by kernel_rfl
theorem ok_laws_szRow : OK Tryd.prog 59 F_laws_szRow.spec := (vbody_ok (vin_ok TTY_5_ok annTTY 3) TTY_5_ok.looks _ _).ofF fun args m p R h hp => by
  unfold F_laws_szRow at h
  split at h
  · injection h with h; injection h with h1 h2; subst h1; subst h2
    exact ⟨rfl, (congrArg At (eq_laws_szRow _ _ _ _ _)).mp ⟨vc_laws_szRow _ _ _ _ hp⟩⟩
  · cases h
def TTY_6 : Tab := TTY_5.add 59 F_laws_szRow
theorem TTY_6_ok : TTY_6.Ok Tryd.prog := TTY_5_ok.add ok_laws_szRow
theorem eq_laws_szRowS (left : Int) (n : Nat) (c : List Sc) (K : V → List Blk → Prop) : VC_laws_szRowS left n c K = vbody Tryd.prog (vin Tryd.prog TTY_6 annTTY 3) TTY_6.looks (annTTY 31) 31 [.row 0 n, .int .i64 left] [⟨.recs [.int .i64, .str, .int .i64] c, 86, .arg 3⟩] (K) := by kernel_rfl
theorem ok_laws_szRowS : OK Tryd.prog 31 F_laws_szRowS.spec := (vbody_ok (vin_ok TTY_6_ok annTTY 3) TTY_6_ok.looks _ _).ofFM fun args m p R h hp => by
  unfold F_laws_szRowS at h
  split at h
  · injection h with h; injection h with h1 h2; subst h1; subst h2
    exact (congrArg At (eq_laws_szRowS _ _ _ _)).mp ⟨vc_laws_szRowS _ _ _ hp⟩
  · cases h
def TTY_7 : Tab := TTY_6.add 31 F_laws_szRowS
theorem TTY_7_ok : TTY_7.Ok Tryd.prog := TTY_6_ok.add ok_laws_szRowS
theorem eq_laws_szTable (left : Int) (s : Int) (i : Int) (n : Nat) (c : List Sc) (K : V → List Blk → Prop) : VC_laws_szTable left s i n c K = vbody Tryd.prog (vin Tryd.prog TTY_7 annTTY 3) TTY_7.looks (annTTY 8) 8 [.agg [.int .i64 s, .int .i64 i, .row 0 n], .int .i64 left] [⟨.recs [.int .i64, .str, .int .i64] c, 86, .arg 3⟩] (K) := by kernel_rfl
theorem ok_laws_szTable : OK Tryd.prog 8 F_laws_szTable.spec := (vbody_ok (vin_ok TTY_7_ok annTTY 3) TTY_7_ok.looks _ _).ofFM fun args m p R h hp => by
  unfold F_laws_szTable at h
  split at h
  · injection h with h; injection h with h1 h2; subst h1; subst h2
    exact (congrArg At (eq_laws_szTable _ _ _ _ _ _)).mp ⟨vc_laws_szTable _ _ _ _ _ hp⟩
  · cases h
def TTY_8 : Tab := TTY_7.add 8 F_laws_szTable
theorem TTY_8_ok : TTY_8.Ok Tryd.prog := TTY_7_ok.add ok_laws_szTable
theorem eq_laws_toRow (ra : Int) (rt : List UInt8) (rb : Int) (K : V → Prop) : VC_laws_toRow ra rt rb K = vbody Tryd.prog (vin Tryd.prog TTY_8 annTTY 3) TTY_8.looks (annTTY 61) 61 [.agg [.int .i64 ra, .str rt, .int .i64 rb]] [] (fun v _ => K v) := by kernel_rfl
theorem ok_laws_toRow : OK Tryd.prog 61 F_laws_toRow.spec := (vbody_ok (vin_ok TTY_8_ok annTTY 3) TTY_8_ok.looks _ _).ofF fun args m p R h hp => by
  unfold F_laws_toRow at h
  split at h
  · injection h with h; injection h with h1 h2; subst h1; subst h2
    exact ⟨rfl, (congrArg At (eq_laws_toRow _ _ _ _)).mp ⟨vc_laws_toRow _ _ _ hp⟩⟩
  · cases h
def TTY_9 : Tab := TTY_8.add 61 F_laws_toRow
theorem TTY_9_ok : TTY_9.Ok Tryd.prog := TTY_8_ok.add ok_laws_toRow
theorem eq_laws_toRowS  (n : Nat) (c : List Sc) (K : V → List Blk → Prop) : VC_laws_toRowS  n c K = vbody Tryd.prog (vin Tryd.prog TTY_9 annTTY 3) TTY_9.looks (annTTY 36) 36 [.row 0 n] [⟨.recs [.int .i64, .str, .int .i64] c, 86, .arg 3⟩] (K) := by kernel_rfl
theorem ok_laws_toRowS : OK Tryd.prog 36 F_laws_toRowS.spec := (vbody_ok (vin_ok TTY_9_ok annTTY 3) TTY_9_ok.looks _ _).ofG fun args m p R M h hp => by
  unfold F_laws_toRowS at h
  split at h
  · injection h with h; injection h with h1 h2; injection h2 with h2 h3; subst h1; subst h2; subst h3
    exact (congrArg At (eq_laws_toRowS _ _ _)).mp ⟨vc_laws_toRowS _ _ hp⟩
  · cases h
def TTY_10 : Tab := TTY_9.addG 36 F_laws_toRowS
theorem TTY_10_ok : TTY_10.Ok Tryd.prog := TTY_9_ok.addG ok_laws_toRowS
theorem eq_laws_toTable  (s : Int) (i : Int) (n : Nat) (c : List Sc) (K : V → List Blk → Prop) : VC_laws_toTable  s i n c K = vbody Tryd.prog (vin Tryd.prog TTY_10 annTTY 3) TTY_10.looks (annTTY 10) 10 [.agg [.int .i64 s, .int .i64 i, .row 0 n]] [⟨.recs [.int .i64, .str, .int .i64] c, 86, .arg 3⟩] (K) := by kernel_rfl
theorem ok_laws_toTable : OK Tryd.prog 10 F_laws_toTable.spec := (vbody_ok (vin_ok TTY_10_ok annTTY 3) TTY_10_ok.looks _ _).ofG fun args m p R M h hp => by
  unfold F_laws_toTable at h
  split at h
  · injection h with h; injection h with h1 h2; injection h2 with h2 h3; subst h1; subst h2; subst h3
    exact (congrArg At (eq_laws_toTable _ _ _ _ _)).mp ⟨vc_laws_toTable _ _ _ _ hp⟩
  · cases h
def TTY_11 : Tab := TTY_10.addG 10 F_laws_toTable
theorem TTY_11_ok : TTY_11.Ok Tryd.prog := TTY_10_ok.addG ok_laws_toTable
theorem eq_laws_eqRow (ra : Int) (rt : List UInt8) (rb : Int) (qa : Int) (qt : List UInt8) (qb : Int) (K : V → Prop) : VC_laws_eqRow ra rt rb qa qt qb K = vbody Tryd.prog (vin Tryd.prog TTY_11 annTTY 3) TTY_11.looks (annTTY 71) 71 [.agg [.int .i64 ra, .str rt, .int .i64 rb], .agg [.int .i64 qa, .str qt, .int .i64 qb]] [] (fun v _ => K v) := by kernel_rfl
theorem ok_laws_eqRow : OK Tryd.prog 71 F_laws_eqRow.spec := (vbody_ok (vin_ok TTY_11_ok annTTY 3) TTY_11_ok.looks _ _).ofF fun args m p R h hp => by
  unfold F_laws_eqRow at h
  split at h
  · injection h with h; injection h with h1 h2; subst h1; subst h2
    exact ⟨rfl, (congrArg At (eq_laws_eqRow _ _ _ _ _ _ _)).mp ⟨vc_laws_eqRow _ _ _ _ _ _ hp⟩⟩
  · cases h
def TTY_12 : Tab := TTY_11.add 71 F_laws_eqRow
theorem TTY_12_ok : TTY_12.Ok Tryd.prog := TTY_11_ok.add ok_laws_eqRow
theorem eq_laws_eqRowS  (n : Nat) (m : Nat) (c : List Sc) (d : List Sc) (K : V → List Blk → Prop) : VC_laws_eqRowS  n m c d K = vbody Tryd.prog (vin Tryd.prog TTY_12 annTTY 3) TTY_12.looks (annTTY 41) 41 [.row 0 n, .row 1 m] [⟨.recs [.int .i64, .str, .int .i64] c, 79, .rows 3⟩, ⟨.recs [.int .i64, .str, .int .i64] d, 79, .rows 3⟩] (K) := by kernel_rfl
theorem ok_laws_eqRowS : OK Tryd.prog 41 F_laws_eqRowS.spec := (vbody_ok (vin_ok TTY_12_ok annTTY 3) TTY_12_ok.looks _ _).ofFM fun args m p R h hp => by
  unfold F_laws_eqRowS at h
  split at h
  · injection h with h; injection h with h1 h2; subst h1; subst h2
    exact (congrArg At (eq_laws_eqRowS _ _ _ _ _)).mp ⟨vc_laws_eqRowS _ _ _ _ hp⟩
  · cases h
def TTY_13 : Tab := TTY_12.add 41 F_laws_eqRowS
theorem TTY_13_ok : TTY_13.Ok Tryd.prog := TTY_12_ok.add ok_laws_eqRowS
theorem eq_laws_eqTable  (s : Int) (i : Int) (n : Nat) (c : List Sc) (p : Int) (q : Int) (m : Nat) (d : List Sc) (K : V → List Blk → Prop) : VC_laws_eqTable  s i n c p q m d K = vbody Tryd.prog (vin Tryd.prog TTY_13 annTTY 3) TTY_13.looks (annTTY 13) 13 [.agg [.int .i64 s, .int .i64 i, .row 0 n], .agg [.int .i64 p, .int .i64 q, .row 1 m]] [⟨.recs [.int .i64, .str, .int .i64] c, 79, .rows 3⟩, ⟨.recs [.int .i64, .str, .int .i64] d, 79, .rows 3⟩] (K) := by kernel_rfl
theorem ok_laws_eqTable : OK Tryd.prog 13 F_laws_eqTable.spec := (vbody_ok (vin_ok TTY_13_ok annTTY 3) TTY_13_ok.looks _ _).ofFM fun args m p R h hp => by
  unfold F_laws_eqTable at h
  split at h
  · injection h with h; injection h with h1 h2; subst h1; subst h2
    exact (congrArg At (eq_laws_eqTable _ _ _ _ _ _ _ _ _)).mp ⟨vc_laws_eqTable _ _ _ _ _ _ _ _ hp⟩
  · cases h
def TTY_14 : Tab := TTY_13.add 13 F_laws_eqTable
theorem TTY_14_ok : TTY_14.Ok Tryd.prog := TTY_13_ok.add ok_laws_eqTable
theorem eq_spec_taGood  (s : Int) (i : Int) (n : Nat) (c : List Sc) (K : V → List Blk → Prop) : VC_spec_taGood  s i n c K = vbody Tryd.prog (vin Tryd.prog TTY_14 annTTY 3) TTY_14.looks (annTTY 32) 32 [.agg [.int .i64 s, .int .i64 i, .row 0 n]] [⟨.recs [.int .i64, .str, .int .i64] c, 79, .rows 3⟩] (K) := by kernel_rfl
theorem ok_spec_taGood : OK Tryd.prog 32 F_spec_taGood.spec := (vbody_ok (vin_ok TTY_14_ok annTTY 3) TTY_14_ok.looks _ _).ofFM fun args m p R h hp => by
  unfold F_spec_taGood at h
  split at h
  · injection h with h; injection h with h1 h2; subst h1; subst h2
    exact (congrArg At (eq_spec_taGood _ _ _ _ _)).mp ⟨vc_spec_taGood _ _ _ _ hp⟩
  · cases h
def TTY_15 : Tab := TTY_14.add 32 F_spec_taGood
theorem TTY_15_ok : TTY_15.Ok Tryd.prog := TTY_14_ok.add ok_spec_taGood
theorem eq_impl_isTableSize (a : Int) (b : Int) (K : V → Prop) : VC_impl_isTableSize a b K = vbody Tryd.prog (vin Tryd.prog TTY_15 annTTY 3) TTY_15.looks (annTTY 62) 62 [.int .i64 a, .int .i64 b] [] (fun v _ => K v) := by kernel_rfl
theorem ok_impl_isTableSize : OK Tryd.prog 62 F_impl_isTableSize.spec := (vbody_ok (vin_ok TTY_15_ok annTTY 3) TTY_15_ok.looks _ _).ofF fun args m p R h hp => by
  unfold F_impl_isTableSize at h
  split at h
  · injection h with h; injection h with h1 h2; subst h1; subst h2
    exact ⟨rfl, (congrArg At (eq_impl_isTableSize _ _ _)).mp ⟨vc_impl_isTableSize _ _ hp⟩⟩
  · cases h
def TTY_16 : Tab := TTY_15.add 62 F_impl_isTableSize
theorem TTY_16_ok : TTY_16.Ok Tryd.prog := TTY_15_ok.add ok_impl_isTableSize
theorem eq_impl_IsTable  (s : Int) (i : Int) (n : Nat) (c : List Sc) (g0 : List UInt8) (g1 : List UInt8) (g2 : List UInt8) (g3 : List UInt8) (K : V → List Blk → Prop) : VC_impl_IsTable  s i n c g0 g1 g2 g3 K = vbody Tryd.prog (vin Tryd.prog TTY_16 annTTY 3) TTY_16.looks (annTTY 37) 37 [.agg [.int .i64 s, .int .i64 i, .row 0 n]] [⟨.recs [.int .i64, .str, .int .i64] c, 79, .rows 3⟩, ⟨.vals [.str g0, .str g1, .str g2, .str g3], 9, .gl 0⟩] (K) := by kernel_rfl
theorem ok_impl_IsTable : OK Tryd.prog 37 F_impl_IsTable.spec := (vbody_ok (vin_ok TTY_16_ok annTTY 3) TTY_16_ok.looks _ _).ofFM fun args m p R h hp => by
  unfold F_impl_IsTable at h
  split at h
  · injection h with h; injection h with h1 h2; subst h1; subst h2
    exact (congrArg At (eq_impl_IsTable _ _ _ _ _ _ _ _ _)).mp ⟨vc_impl_IsTable _ _ _ _ _ _ _ _ hp⟩
  · cases h
def TTY_17 : Tab := TTY_16.add 37 F_impl_IsTable
theorem TTY_17_ok : TTY_17.Ok Tryd.prog := TTY_16_ok.add ok_impl_IsTable
theorem eq_spec_l1Num (n : Int) (K : V → Prop) : VC_spec_l1Num n K = vbody Tryd.prog (vin Tryd.prog TTY_17 annTTY 0) TTY_17.looks (annTTY 73) 73 [.int .i64 n] [] (fun v _ => K v) := by kernel_rfl
theorem ok_spec_l1Num : OK Tryd.prog 73 F_spec_l1Num.spec := (vbody_ok (vin_ok TTY_17_ok annTTY 0) TTY_17_ok.looks _ _).ofF fun args m p R h hp => by
  unfold F_spec_l1Num at h
  split at h
  · injection h with h; injection h with h1 h2; subst h1; subst h2
    exact ⟨rfl, (congrArg At (eq_spec_l1Num _ _)).mp ⟨vc_spec_l1Num _ hp⟩⟩
  · cases h
def TTY_18 : Tab := TTY_17.add 73 F_spec_l1Num
theorem TTY_18_ok : TTY_18.Ok Tryd.prog := TTY_17_ok.add ok_spec_l1Num
theorem eq_strconv_FormatInt (n : Int) (b : Int) (K : V → Prop) : VC_strconv_FormatInt n b K = vbody Tryd.prog (vin Tryd.prog TTY_18 annTTY 3) TTY_18.looks (annTTY 86) 86 [.int .i64 n, .int .i64 b] [] (fun v _ => K v) := by kernel_rfl
theorem ok_strconv_FormatInt : OK Tryd.prog 86 F_strconv_FormatInt.spec := (vbody_ok (vin_ok TTY_18_ok annTTY 3) TTY_18_ok.looks _ _).ofF fun args m p R h hp => by
  unfold F_strconv_FormatInt at h
  split at h
  · injection h with h; injection h with h1 h2; subst h1; subst h2
    exact ⟨rfl, (congrArg At (eq_strconv_FormatInt _ _ _)).mp ⟨vc_strconv_FormatInt _ _ hp⟩⟩
  · cases h
def TTY_19 : Tab := TTY_18.add 86 F_strconv_FormatInt
theorem TTY_19_ok : TTY_19.Ok Tryd.prog := TTY_18_ok.add ok_strconv_FormatInt
theorem eq_strconv_Itoa (n : Int) (K : V → Prop) : VC_strconv_Itoa n K = vbody Tryd.prog (vin Tryd.prog TTY_19 annTTY 3) TTY_19.looks (annTTY 50) 50 [.int .i64 n] [] (fun v _ => K v) := by kernel_rfl
theorem ok_strconv_Itoa : OK Tryd.prog 50 F_strconv_Itoa.spec := (vbody_ok (vin_ok TTY_19_ok annTTY 3) TTY_19_ok.looks _ _).ofF fun args m p R h hp => by
  unfold F_strconv_Itoa at h
  split at h
  · injection h with h; injection h with h1 h2; subst h1; subst h2
    exact ⟨rfl, (congrArg At (eq_strconv_Itoa _ _)).mp ⟨vc_strconv_Itoa _ hp⟩⟩
  · cases h
def TTY_20 : Tab := TTY_19.add 50 F_strconv_Itoa
theorem TTY_20_ok : TTY_20.Ok Tryd.prog := TTY_19_ok.add ok_strconv_Itoa
theorem eq_spec_taText  (s : Int) (i : Int) (n : Nat) (c : List Sc) (K : V → List Blk → Prop) : VC_spec_taText  s i n c K = vbody Tryd.prog (vin Tryd.prog TTY_20 annTTY 3) TTY_20.looks (annTTY 49) 49 [.agg [.int .i64 s, .int .i64 i, .row 0 n]] [⟨.recs [.int .i64, .str, .int .i64] c, 79, .rows 3⟩] (K) := by kernel_rfl
theorem ok_spec_taText : OK Tryd.prog 49 F_spec_taText.spec := (vbody_ok (vin_ok TTY_20_ok annTTY 3) TTY_20_ok.looks _ _).ofFM fun args m p R h hp => by
  unfold F_spec_taText at h
  split at h
  · injection h with h; injection h with h1 h2; subst h1; subst h2
    exact (congrArg At (eq_spec_taText _ _ _ _ _)).mp ⟨vc_spec_taText _ _ _ _ hp⟩
  · cases h
def TTY_21 : Tab := TTY_20.add 49 F_spec_taText
theorem TTY_21_ok : TTY_21.Ok Tryd.prog := TTY_20_ok.add ok_spec_taText
theorem eq_spec_TableText  (s : Int) (i : Int) (n : Nat) (c : List Sc) (K : V → List Blk → Prop) : VC_spec_TableText  s i n c K = vbody Tryd.prog (vin Tryd.prog TTY_21 annTTY 3) TTY_21.looks (annTTY 21) 21 [.agg [.int .i64 s, .int .i64 i, .row 0 n]] [⟨.recs [.int .i64, .str, .int .i64] c, 79, .rows 3⟩] (K) := by kernel_rfl
theorem ok_spec_TableText : OK Tryd.prog 21 F_spec_TableText.spec := (vbody_ok (vin_ok TTY_21_ok annTTY 3) TTY_21_ok.looks _ _).ofFM fun args m p R h hp => by
  unfold F_spec_TableText at h
  split at h
  · injection h with h; injection h with h1 h2; subst h1; subst h2
    exact (congrArg At (eq_spec_TableText _ _ _ _ _)).mp ⟨vc_spec_TableText _ _ _ _ hp⟩
  · cases h
def TTY_22 : Tab := TTY_21.add 21 F_spec_TableText
theorem TTY_22_ok : TTY_22.Ok Tryd.prog := TTY_21_ok.add ok_spec_TableText
theorem eq_impl_TableText  (s : Int) (i : Int) (n : Nat) (c : List Sc) (g0 : List UInt8) (g1 : List UInt8) (g2 : List UInt8) (g3 : List UInt8) (K : V → List Blk → Prop) : VC_impl_TableText  s i n c g0 g1 g2 g3 K = vbody Tryd.prog (vin Tryd.prog TTY_22 annTTY 3) TTY_22.looks (annTTY 22) 22 [.agg [.int .i64 s, .int .i64 i, .row 0 n]] [⟨.recs [.int .i64, .str, .int .i64] c, 79, .rows 3⟩, ⟨.vals [.str g0, .str g1, .str g2, .str g3], 9, .gl 0⟩] (K) := by kernel_rfl
theorem ok_impl_TableText : OK Tryd.prog 22 F_impl_TableText.spec := (vbody_ok (vin_ok TTY_22_ok annTTY 3) TTY_22_ok.looks _ _).ofFM fun args m p R h hp => by
  unfold F_impl_TableText at h
  split at h
  · injection h with h; injection h with h1 h2; subst h1; subst h2
    exact (congrArg At (eq_impl_TableText _ _ _ _ _ _ _ _ _)).mp ⟨vc_impl_TableText _ _ _ _ _ _ _ _ hp⟩
  · cases h
def TTY_23 : Tab := TTY_22.add 22 F_impl_TableText
theorem TTY_23_ok : TTY_23.Ok Tryd.prog := TTY_22_ok.add ok_impl_TableText
def TTY : Tab := TTY_23
theorem TTY_ok : TTY.Ok Tryd.prog := TTY_23_ok
end Go.Proofs.YtlnjbdaenikkiaaDoor
