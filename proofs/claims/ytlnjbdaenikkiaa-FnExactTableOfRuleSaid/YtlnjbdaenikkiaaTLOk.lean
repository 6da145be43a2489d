/- The contracts of this chapter. -/
import Derived.Test.YtlnjbdaenikkiaaProg
import Derived.Test.YtlnjbdaenikkiaaTLPf
import Derived.KernelRfl
namespace Go.Proofs.Ytlnjbdaenikkiaa
open Go Go.Vi
set_option linter.unusedVariables false
def annTTL : FuncId → Nat → St → Option Ann := fun f => if f = 9 then ann_spec_woRule else if f = 11 then ann_laws_eqRowS else if f = 18 then ann_laws_markText else if f = 12 then ann_laws_markRowS else if f = 13 then ann_laws_heldRowS else if f = 10 then ann_impl_IsRule else if f = 4 then ann_spec_TableOfRule else if f = 5 then ann_impl_TableOfRule else (fun _ _ => none)
def TTL_0 : Tab := Tab.none
theorem TTL_0_ok : TTL_0.Ok Try.prog := Tab.none_ok
theorem eq_spec_l1In (n : Int) (lo : Int) (hi : Int) (K : V → Prop) : VC_spec_l1In n lo hi K = vbody Try.prog (vin Try.prog TTL_0 annTTL 3) TTL_0.looks (annTTL 14) 14 [.int .i64 n, .int .i64 lo, .int .i64 hi] [] (fun v _ => K v) := by kernel_rfl
theorem ok_spec_l1In : OK Try.prog 14 F_spec_l1In.spec := (vbody_ok (vin_ok TTL_0_ok annTTL 3) TTL_0_ok.looks _ _).ofF fun args m p R h hp => by
  unfold F_spec_l1In at h
  split at h
  · injection h with h; injection h with h1 h2; subst h1; subst h2
    exact ⟨rfl, (congrArg At (eq_spec_l1In _ _ _ _)).mp ⟨vc_spec_l1In _ _ _ hp⟩⟩
  · cases h
def TTL_1 : Tab := TTL_0.add 14 F_spec_l1In
theorem TTL_1_ok : TTL_1.Ok Try.prog := TTL_0_ok.add ok_spec_l1In
theorem eq_impl_within (n : Int) (lo : Int) (hi : Int) (K : V → Prop) : VC_impl_within n lo hi K = vbody Try.prog (vin Try.prog TTL_1 annTTL 3) TTL_1.looks (annTTL 15) 15 [.int .i64 n, .int .i64 lo, .int .i64 hi] [] (fun v _ => K v) := by kernel_rfl
theorem ok_impl_within : OK Try.prog 15 F_impl_within.spec := (vbody_ok (vin_ok TTL_1_ok annTTL 3) TTL_1_ok.looks _ _).ofF fun args m p R h hp => by
  unfold F_impl_within at h
  split at h
  · injection h with h; injection h with h1 h2; subst h1; subst h2
    exact ⟨rfl, (congrArg At (eq_impl_within _ _ _ _)).mp ⟨vc_impl_within _ _ _ hp⟩⟩
  · cases h
def TTL_2 : Tab := TTL_1.add 15 F_impl_within
theorem TTL_2_ok : TTL_2.Ok Try.prog := TTL_1_ok.add ok_impl_within
theorem eq_spec_woRule (s : List UInt8) (K : V → Prop) : VC_spec_woRule s K = vbody Try.prog (vin Try.prog TTL_2 annTTL 3) TTL_2.looks (annTTL 9) 9 [.str s] [] (fun v _ => K v) := by kernel_rfl
theorem ok_spec_woRule : OK Try.prog 9 F_spec_woRule.spec := (vbody_ok (vin_ok TTL_2_ok annTTL 3) TTL_2_ok.looks _ _).ofF fun args m p R h hp => by
  unfold F_spec_woRule at h
  split at h
  · injection h with h; injection h with h1 h2; subst h1; subst h2
    exact ⟨rfl, (congrArg At (eq_spec_woRule _ _)).mp ⟨vc_spec_woRule _ hp⟩⟩
  · cases h
def TTL_3 : Tab := TTL_2.add 9 F_spec_woRule
theorem TTL_3_ok : TTL_3.Ok Try.prog := TTL_2_ok.add ok_spec_woRule
theorem eq_laws_eqRow (ra : Int) (rt : List UInt8) (rb : Int) (qa : Int) (qt : List UInt8) (qb : Int) (K : V → Prop) : VC_laws_eqRow ra rt rb qa qt qb K = vbody Try.prog (vin Try.prog TTL_3 annTTL 3) TTL_3.looks (annTTL 17) 17 [.agg [.int .i64 ra, .str rt, .int .i64 rb], .agg [.int .i64 qa, .str qt, .int .i64 qb]] [] (fun v _ => K v) := by kernel_rfl
theorem ok_laws_eqRow : OK Try.prog 17 F_laws_eqRow.spec := (vbody_ok (vin_ok TTL_3_ok annTTL 3) TTL_3_ok.looks _ _).ofF fun args m p R h hp => by
  unfold F_laws_eqRow at h
  split at h
  · injection h with h; injection h with h1 h2; subst h1; subst h2
    exact ⟨rfl, (congrArg At (eq_laws_eqRow _ _ _ _ _ _ _)).mp ⟨vc_laws_eqRow _ _ _ _ _ _ hp⟩⟩
  · cases h
def TTL_4 : Tab := TTL_3.add 17 F_laws_eqRow
theorem TTL_4_ok : TTL_4.Ok Try.prog := TTL_3_ok.add ok_laws_eqRow
theorem eq_laws_eqRowS  (n : Nat) (m : Nat) (c : List Sc) (d : List Sc) (K : V → List Blk → Prop) : VC_laws_eqRowS  n m c d K = vbody Try.prog (vin Try.prog TTL_4 annTTL 3) TTL_4.looks (annTTL 11) 11 [.row 0 n, .row 1 m] [⟨.recs [.int .i64, .str, .int .i64] c, 31, .rows 3⟩, ⟨.recs [.int .i64, .str, .int .i64] d, 31, .rows 3⟩] (K) := by kernel_rfl
theorem ok_laws_eqRowS : OK Try.prog 11 F_laws_eqRowS.spec := (vbody_ok (vin_ok TTL_4_ok annTTL 3) TTL_4_ok.looks _ _).ofFM fun args m p R h hp => by
  unfold F_laws_eqRowS at h
  split at h
  · injection h with h; injection h with h1 h2; subst h1; subst h2
    exact (congrArg At (eq_laws_eqRowS _ _ _ _ _)).mp ⟨vc_laws_eqRowS _ _ _ _ hp⟩
  · cases h
def TTL_5 : Tab := TTL_4.add 11 F_laws_eqRowS
theorem TTL_5_ok : TTL_5.Ok Try.prog := TTL_4_ok.add ok_laws_eqRowS
theorem eq_laws_eqTable  (s : Int) (i : Int) (n : Nat) (c : List Sc) (p : Int) (q : Int) (m : Nat) (d : List Sc) (K : V → List Blk → Prop) : VC_laws_eqTable  s i n c p q m d K = vbody Try.prog (vin Try.prog TTL_5 annTTL 3) TTL_5.looks (annTTL 6) 6 [.agg [.int .i64 s, .int .i64 i, .row 0 n], .agg [.int .i64 p, .int .i64 q, .row 1 m]] [⟨.recs [.int .i64, .str, .int .i64] c, 31, .rows 3⟩, ⟨.recs [.int .i64, .str, .int .i64] d, 31, .rows 3⟩] (K) := by kernel_rfl
theorem ok_laws_eqTable : OK Try.prog 6 F_laws_eqTable.spec := (vbody_ok (vin_ok TTL_5_ok annTTL 3) TTL_5_ok.looks _ _).ofFM fun args m p R h hp => by
  unfold F_laws_eqTable at h
  split at h
  · injection h with h; injection h with h1 h2; subst h1; subst h2
    exact (congrArg At (eq_laws_eqTable _ _ _ _ _ _ _ _ _)).mp ⟨vc_laws_eqTable _ _ _ _ _ _ _ _ hp⟩
  · cases h
def TTL_6 : Tab := TTL_5.add 6 F_laws_eqTable
theorem TTL_6_ok : TTL_6.Ok Try.prog := TTL_5_ok.add ok_laws_eqTable
theorem eq_laws_markText (k : Int) (K : V → Prop) : VC_laws_markText k K = vbody Try.prog (vin Try.prog TTL_6 annTTL 3) TTL_6.looks (annTTL 18) 18 [.int .i64 k] [] (fun v _ => K v) := by kernel_rfl
theorem ok_laws_markText : OK Try.prog 18 F_laws_markText.spec := (vbody_ok (vin_ok TTL_6_ok annTTL 3) TTL_6_ok.looks _ _).ofF fun args m p R h hp => by
  unfold F_laws_markText at h
  split at h
  · injection h with h; injection h with h1 h2; subst h1; subst h2
    exact ⟨rfl, (congrArg At (eq_laws_markText _ _)).mp ⟨vc_laws_markText _ hp⟩⟩
  · cases h
def TTL_7 : Tab := TTL_6.add 18 F_laws_markText
theorem TTL_7_ok : TTL_7.Ok Try.prog := TTL_6_ok.add ok_laws_markText
theorem eq_laws_markRowS (k : Int) (n : Nat) (c : List Sc) (K : V → List Blk → Prop) : VC_laws_markRowS k n c K = vbody Try.prog (vin Try.prog TTL_7 annTTL 3) TTL_7.looks (annTTL 12) 12 [.row 0 n, .int .i64 k] [⟨.recs [.int .i64, .str, .int .i64] c, 31, .rows 3⟩] (K) := by kernel_rfl
theorem ok_laws_markRowS : OK Try.prog 12 F_laws_markRowS.spec := (vbody_ok (vin_ok TTL_7_ok annTTL 3) TTL_7_ok.looks _ _).ofG fun args m p R M h hp => by
  unfold F_laws_markRowS at h
  split at h
  · injection h with h; injection h with h1 h2; injection h2 with h2 h3; subst h1; subst h2; subst h3
    exact (congrArg At (eq_laws_markRowS _ _ _ _)).mp ⟨vc_laws_markRowS _ _ _ hp⟩
  · cases h
def TTL_8 : Tab := TTL_7.addG 12 F_laws_markRowS
theorem TTL_8_ok : TTL_8.Ok Try.prog := TTL_7_ok.addG ok_laws_markRowS
theorem eq_laws_markTable (k : Int) (s : Int) (i : Int) (n : Nat) (c : List Sc) (K : V → List Blk → Prop) : VC_laws_markTable k s i n c K = vbody Try.prog (vin Try.prog TTL_8 annTTL 3) TTL_8.looks (annTTL 7) 7 [.agg [.int .i64 s, .int .i64 i, .row 0 n], .int .i64 k] [⟨.recs [.int .i64, .str, .int .i64] c, 31, .rows 3⟩] (K) := by kernel_rfl
theorem ok_laws_markTable : OK Try.prog 7 F_laws_markTable.spec := (vbody_ok (vin_ok TTL_8_ok annTTL 3) TTL_8_ok.looks _ _).ofG fun args m p R M h hp => by
  unfold F_laws_markTable at h
  split at h
  · injection h with h; injection h with h1 h2; injection h2 with h2 h3; subst h1; subst h2; subst h3
    exact (congrArg At (eq_laws_markTable _ _ _ _ _ _)).mp ⟨vc_laws_markTable _ _ _ _ _ hp⟩
  · cases h
def TTL_9 : Tab := TTL_8.addG 7 F_laws_markTable
theorem TTL_9_ok : TTL_9.Ok Try.prog := TTL_8_ok.addG ok_laws_markTable
theorem eq_laws_heldRowS (k : Int) (n : Nat) (c : List Sc) (K : V → List Blk → Prop) : VC_laws_heldRowS k n c K = vbody Try.prog (vin Try.prog TTL_9 annTTL 3) TTL_9.looks (annTTL 13) 13 [.row 0 n, .int .i64 k] [⟨.recs [.int .i64, .str, .int .i64] c, 31, .rows 3⟩] (K) := by kernel_rfl
theorem ok_laws_heldRowS : OK Try.prog 13 F_laws_heldRowS.spec := (vbody_ok (vin_ok TTL_9_ok annTTL 3) TTL_9_ok.looks _ _).ofFM fun args m p R h hp => by
  unfold F_laws_heldRowS at h
  split at h
  · injection h with h; injection h with h1 h2; subst h1; subst h2
    exact (congrArg At (eq_laws_heldRowS _ _ _ _)).mp ⟨vc_laws_heldRowS _ _ _ hp⟩
  · cases h
def TTL_10 : Tab := TTL_9.add 13 F_laws_heldRowS
theorem TTL_10_ok : TTL_10.Ok Try.prog := TTL_9_ok.add ok_laws_heldRowS
theorem eq_laws_heldTable (k : Int) (s : Int) (i : Int) (n : Nat) (c : List Sc) (K : V → List Blk → Prop) : VC_laws_heldTable k s i n c K = vbody Try.prog (vin Try.prog TTL_10 annTTL 3) TTL_10.looks (annTTL 8) 8 [.agg [.int .i64 s, .int .i64 i, .row 0 n], .int .i64 k] [⟨.recs [.int .i64, .str, .int .i64] c, 31, .rows 3⟩] (K) := by kernel_rfl
theorem ok_laws_heldTable : OK Try.prog 8 F_laws_heldTable.spec := (vbody_ok (vin_ok TTL_10_ok annTTL 3) TTL_10_ok.looks _ _).ofFM fun args m p R h hp => by
  unfold F_laws_heldTable at h
  split at h
  · injection h with h; injection h with h1 h2; subst h1; subst h2
    exact (congrArg At (eq_laws_heldTable _ _ _ _ _ _)).mp ⟨vc_laws_heldTable _ _ _ _ _ hp⟩
  · cases h
def TTL_11 : Tab := TTL_10.add 8 F_laws_heldTable
theorem TTL_11_ok : TTL_11.Ok Try.prog := TTL_10_ok.add ok_laws_heldTable
theorem eq_impl_IsRule (s : List UInt8) (K : V → Prop) : VC_impl_IsRule s K = vbody Try.prog (vin Try.prog TTL_11 annTTL 3) TTL_11.looks (annTTL 10) 10 [.str s] [] (fun v _ => K v) := by kernel_rfl
theorem ok_impl_IsRule : OK Try.prog 10 F_impl_IsRule.spec := (vbody_ok (vin_ok TTL_11_ok annTTL 3) TTL_11_ok.looks _ _).ofF fun args m p R h hp => by
  unfold F_impl_IsRule at h
  split at h
  · injection h with h; injection h with h1 h2; subst h1; subst h2
    exact ⟨rfl, (congrArg At (eq_impl_IsRule _ _)).mp ⟨vc_impl_IsRule _ hp⟩⟩
  · cases h
def TTL_12 : Tab := TTL_11.add 10 F_impl_IsRule
theorem TTL_12_ok : TTL_12.Ok Try.prog := TTL_11_ok.add ok_impl_IsRule
theorem eq_spec_TableOfRule (s : List UInt8) (K : V → List Blk → Prop) : VC_spec_TableOfRule s K = vbody Try.prog (vin Try.prog TTL_12 annTTL 3) TTL_12.looks (annTTL 4) 4 [.str s] [] (K) := by kernel_rfl
theorem ok_spec_TableOfRule : OK Try.prog 4 F_spec_TableOfRule.spec := (vbody_ok (vin_ok TTL_12_ok annTTL 3) TTL_12_ok.looks _ _).ofG fun args m p R M h hp => by
  unfold F_spec_TableOfRule at h
  split at h
  · injection h with h; injection h with h1 h2; injection h2 with h2 h3; subst h1; subst h2; subst h3
    exact (congrArg At (eq_spec_TableOfRule _ _)).mp ⟨vc_spec_TableOfRule _ hp⟩
  · cases h
def TTL_13 : Tab := TTL_12.addG 4 F_spec_TableOfRule
theorem TTL_13_ok : TTL_13.Ok Try.prog := TTL_12_ok.addG ok_spec_TableOfRule
theorem eq_impl_TableOfRule (s : List UInt8) (K : V → List Blk → Prop) : VC_impl_TableOfRule s K = vbody Try.prog (vin Try.prog TTL_13 annTTL 3) TTL_13.looks (annTTL 5) 5 [.str s] [] (K) := by kernel_rfl
theorem ok_impl_TableOfRule : OK Try.prog 5 F_impl_TableOfRule.spec := (vbody_ok (vin_ok TTL_13_ok annTTL 3) TTL_13_ok.looks _ _).ofG fun args m p R M h hp => by
  unfold F_impl_TableOfRule at h
  split at h
  · injection h with h; injection h with h1 h2; injection h2 with h2 h3; subst h1; subst h2; subst h3
    exact (congrArg At (eq_impl_TableOfRule _ _)).mp ⟨vc_impl_TableOfRule _ hp⟩
  · cases h
def TTL_14 : Tab := TTL_13.addG 5 F_impl_TableOfRule
theorem TTL_14_ok : TTL_14.Ok Try.prog := TTL_13_ok.addG ok_impl_TableOfRule
def TTL : Tab := TTL_14
theorem TTL_ok : TTL.Ok Try.prog := TTL_14_ok
end Go.Proofs.Ytlnjbdaenikkiaa
