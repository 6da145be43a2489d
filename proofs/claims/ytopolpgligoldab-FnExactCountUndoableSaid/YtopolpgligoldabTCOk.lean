/- The contracts of this chapter. -/
import Derived.Test.YtopolpgligoldabProg
import Derived.Test.YtopolpgligoldabTCPf
import Derived.KernelRfl
namespace Go.Proofs.Ytopolpgligoldab
open Go Go.Vi
set_option linter.unusedVariables false
def annTTC : FuncId → Nat → St → Option Ann := fun f => if f = 33 then ann_spec_taPower else if f = 11 then ann_impl_CountTables else if f = 12 then ann_spec_CountUndoable else if f = 13 then ann_impl_CountUndoable else (fun _ _ => none)
def TTC_0 : Tab := Tab.none
theorem TTC_0_ok : TTC_0.Ok Try.prog := Tab.none_ok
theorem eq_spec_l1In (n : Int) (lo : Int) (hi : Int) (K : V → Prop) : VC_spec_l1In n lo hi K = vbody Try.prog (vin Try.prog TTC_0 annTTC 3) TTC_0.looks (annTTC 35) 35 [.int .i64 n, .int .i64 lo, .int .i64 hi] [] (fun v _ => K v) := by kernel_rfl
theorem ok_spec_l1In : OK Try.prog 35 F_spec_l1In.spec := (vbody_ok (vin_ok TTC_0_ok annTTC 3) TTC_0_ok.looks _ _).ofF fun args m p R h hp => by
  unfold F_spec_l1In at h
  split at h
  · injection h with h; injection h with h1 h2; subst h1; subst h2
    exact ⟨rfl, (congrArg At (eq_spec_l1In _ _ _ _)).mp ⟨vc_spec_l1In _ _ _ hp⟩⟩
  · cases h
def TTC_1 : Tab := TTC_0.add 35 F_spec_l1In
theorem TTC_1_ok : TTC_1.Ok Try.prog := TTC_0_ok.add ok_spec_l1In
theorem eq_impl_within (n : Int) (lo : Int) (hi : Int) (K : V → Prop) : VC_impl_within n lo hi K = vbody Try.prog (vin Try.prog TTC_1 annTTC 3) TTC_1.looks (annTTC 36) 36 [.int .i64 n, .int .i64 lo, .int .i64 hi] [] (fun v _ => K v) := by kernel_rfl
theorem ok_impl_within : OK Try.prog 36 F_impl_within.spec := (vbody_ok (vin_ok TTC_1_ok annTTC 3) TTC_1_ok.looks _ _).ofF fun args m p R h hp => by
  unfold F_impl_within at h
  split at h
  · injection h with h; injection h with h1 h2; subst h1; subst h2
    exact ⟨rfl, (congrArg At (eq_impl_within _ _ _ _)).mp ⟨vc_impl_within _ _ _ hp⟩⟩
  · cases h
def TTC_2 : Tab := TTC_1.add 36 F_impl_within
theorem TTC_2_ok : TTC_2.Ok Try.prog := TTC_1_ok.add ok_impl_within
theorem eq_spec_taRows (states : Int) (tints : Int) (K : V → Prop) : VC_spec_taRows states tints K = vbody Try.prog (vin Try.prog TTC_2 annTTC 3) TTC_2.looks (annTTC 32) 32 [.int .i64 states, .int .i64 tints] [] (fun v _ => K v) := by kernel_rfl
theorem ok_spec_taRows : OK Try.prog 32 F_spec_taRows.spec := (vbody_ok (vin_ok TTC_2_ok annTTC 3) TTC_2_ok.looks _ _).ofF fun args m p R h hp => by
  unfold F_spec_taRows at h
  split at h
  · injection h with h; injection h with h1 h2; subst h1; subst h2
    exact ⟨rfl, (congrArg At (eq_spec_taRows _ _ _)).mp ⟨vc_spec_taRows _ _ hp⟩⟩
  · cases h
def TTC_3 : Tab := TTC_2.add 32 F_spec_taRows
theorem TTC_3_ok : TTC_3.Ok Try.prog := TTC_2_ok.add ok_spec_taRows
theorem eq_spec_taPower (n : Int) (by_ : Int) (K : V → Prop) : VC_spec_taPower n by_ K = vbody Try.prog (vin Try.prog TTC_3 annTTC 3) TTC_3.looks (annTTC 33) 33 [.int .i64 n, .int .i64 by_] [] (fun v _ => K v) := by kernel_rfl
theorem ok_spec_taPower : OK Try.prog 33 F_spec_taPower.spec := (vbody_ok (vin_ok TTC_3_ok annTTC 3) TTC_3_ok.looks _ _).ofF fun args m p R h hp => by
  unfold F_spec_taPower at h
  split at h
  · injection h with h; injection h with h1 h2; subst h1; subst h2
    exact ⟨rfl, (congrArg At (eq_spec_taPower _ _ _)).mp ⟨vc_spec_taPower _ _ hp⟩⟩
  · cases h
def TTC_4 : Tab := TTC_3.add 33 F_spec_taPower
theorem TTC_4_ok : TTC_4.Ok Try.prog := TTC_3_ok.add ok_spec_taPower
theorem eq_impl_isTableSize (states : Int) (tints : Int) (K : V → Prop) : VC_impl_isTableSize states tints K = vbody Try.prog (vin Try.prog TTC_4 annTTC 3) TTC_4.looks (annTTC 53) 53 [.int .i64 states, .int .i64 tints] [] (fun v _ => K v) := by kernel_rfl
theorem ok_impl_isTableSize : OK Try.prog 53 F_impl_isTableSize.spec := (vbody_ok (vin_ok TTC_4_ok annTTC 3) TTC_4_ok.looks _ _).ofF fun args m p R h hp => by
  unfold F_impl_isTableSize at h
  split at h
  · injection h with h; injection h with h1 h2; subst h1; subst h2
    exact ⟨rfl, (congrArg At (eq_impl_isTableSize _ _ _)).mp ⟨vc_impl_isTableSize _ _ hp⟩⟩
  · cases h
def TTC_5 : Tab := TTC_4.add 53 F_impl_isTableSize
theorem TTC_5_ok : TTC_5.Ok Try.prog := TTC_4_ok.add ok_impl_isTableSize
theorem eq_impl_isCounted (states : Int) (tints : Int) (K : V → Prop) : VC_impl_isCounted states tints K = vbody Try.prog (vin Try.prog TTC_5 annTTC 3) TTC_5.looks (annTTC 34) 34 [.int .i64 states, .int .i64 tints] [] (fun v _ => K v) := by kernel_rfl
theorem ok_impl_isCounted : OK Try.prog 34 F_impl_isCounted.spec := (vbody_ok (vin_ok TTC_5_ok annTTC 3) TTC_5_ok.looks _ _).ofF fun args m p R h hp => by
  unfold F_impl_isCounted at h
  split at h
  · injection h with h; injection h with h1 h2; subst h1; subst h2
    exact ⟨rfl, (congrArg At (eq_impl_isCounted _ _ _)).mp ⟨vc_impl_isCounted _ _ hp⟩⟩
  · cases h
def TTC_6 : Tab := TTC_5.add 34 F_impl_isCounted
theorem TTC_6_ok : TTC_6.Ok Try.prog := TTC_5_ok.add ok_impl_isCounted
theorem eq_spec_CountTables (states : Int) (tints : Int) (K : V → Prop) : VC_spec_CountTables states tints K = vbody Try.prog (vin Try.prog TTC_6 annTTC 3) TTC_6.looks (annTTC 10) 10 [.int .i64 states, .int .i64 tints] [] (fun v _ => K v) := by kernel_rfl
theorem ok_spec_CountTables : OK Try.prog 10 F_spec_CountTables.spec := (vbody_ok (vin_ok TTC_6_ok annTTC 3) TTC_6_ok.looks _ _).ofF fun args m p R h hp => by
  unfold F_spec_CountTables at h
  split at h
  · injection h with h; injection h with h1 h2; subst h1; subst h2
    exact ⟨rfl, (congrArg At (eq_spec_CountTables _ _ _)).mp ⟨vc_spec_CountTables _ _ hp⟩⟩
  · cases h
def TTC_7 : Tab := TTC_6.add 10 F_spec_CountTables
theorem TTC_7_ok : TTC_7.Ok Try.prog := TTC_6_ok.add ok_spec_CountTables
theorem eq_impl_CountTables (states : Int) (tints : Int) (K : V → Prop) : VC_impl_CountTables states tints K = vbody Try.prog (vin Try.prog TTC_7 annTTC 3) TTC_7.looks (annTTC 11) 11 [.int .i64 states, .int .i64 tints] [] (fun v _ => K v) := by kernel_rfl
theorem ok_impl_CountTables : OK Try.prog 11 F_impl_CountTables.spec := (vbody_ok (vin_ok TTC_7_ok annTTC 3) TTC_7_ok.looks _ _).ofF fun args m p R h hp => by
  unfold F_impl_CountTables at h
  split at h
  · injection h with h; injection h with h1 h2; subst h1; subst h2
    exact ⟨rfl, (congrArg At (eq_impl_CountTables _ _ _)).mp ⟨vc_impl_CountTables _ _ hp⟩⟩
  · cases h
def TTC_8 : Tab := TTC_7.add 11 F_impl_CountTables
theorem TTC_8_ok : TTC_8.Ok Try.prog := TTC_7_ok.add ok_impl_CountTables
theorem eq_spec_CountUndoable (states : Int) (tints : Int) (K : V → Prop) : VC_spec_CountUndoable states tints K = vbody Try.prog (vin Try.prog TTC_8 annTTC 3) TTC_8.looks (annTTC 12) 12 [.int .i64 states, .int .i64 tints] [] (fun v _ => K v) := by kernel_rfl
theorem ok_spec_CountUndoable : OK Try.prog 12 F_spec_CountUndoable.spec := (vbody_ok (vin_ok TTC_8_ok annTTC 3) TTC_8_ok.looks _ _).ofF fun args m p R h hp => by
  unfold F_spec_CountUndoable at h
  split at h
  · injection h with h; injection h with h1 h2; subst h1; subst h2
    exact ⟨rfl, (congrArg At (eq_spec_CountUndoable _ _ _)).mp ⟨vc_spec_CountUndoable _ _ hp⟩⟩
  · cases h
def TTC_9 : Tab := TTC_8.add 12 F_spec_CountUndoable
theorem TTC_9_ok : TTC_9.Ok Try.prog := TTC_8_ok.add ok_spec_CountUndoable
theorem eq_impl_CountUndoable (states : Int) (tints : Int) (K : V → Prop) : VC_impl_CountUndoable states tints K = vbody Try.prog (vin Try.prog TTC_9 annTTC 3) TTC_9.looks (annTTC 13) 13 [.int .i64 states, .int .i64 tints] [] (fun v _ => K v) := by kernel_rfl
theorem ok_impl_CountUndoable : OK Try.prog 13 F_impl_CountUndoable.spec := (vbody_ok (vin_ok TTC_9_ok annTTC 3) TTC_9_ok.looks _ _).ofF fun args m p R h hp => by
  unfold F_impl_CountUndoable at h
  split at h
  · injection h with h; injection h with h1 h2; subst h1; subst h2
    exact ⟨rfl, (congrArg At (eq_impl_CountUndoable _ _ _)).mp ⟨vc_impl_CountUndoable _ _ hp⟩⟩
  · cases h
def TTC_10 : Tab := TTC_9.add 13 F_impl_CountUndoable
theorem TTC_10_ok : TTC_10.Ok Try.prog := TTC_9_ok.add ok_impl_CountUndoable
def TTC : Tab := TTC_10
theorem TTC_ok : TTC.Ok Try.prog := TTC_10_ok
end Go.Proofs.Ytopolpgligoldab
