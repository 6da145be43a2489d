/- The contracts of this chapter. -/
import Derived.Test.YtccahaefpbkelabProg
import Derived.Test.YtccahaefpbkelabR1Pf
import Derived.KernelRfl
namespace Go.Proofs.Ytccahaefpbkelab
open Go Go.Vi
set_option linter.unusedVariables false
def annTR1 : FuncId → Nat → St → Option Ann := fun f => if f = 34 then ann_spec_woRule else if f = 35 then ann_impl_IsRule else if f = 24 then ann_spec_woOther else if f = 26 then ann_impl_exchanged else (fun _ _ => none)
def TR1_0 : Tab := Tab.none
theorem TR1_0_ok : TR1_0.Ok Try.prog := Tab.none_ok
theorem eq_spec_l1In (n : Int) (lo : Int) (hi : Int) (K : V → Prop) : VC_spec_l1In n lo hi K = vbody Try.prog (vin Try.prog TR1_0 annTR1 3) TR1_0.looks (annTR1 36) 36 [.int .i64 n, .int .i64 lo, .int .i64 hi] [] fun v _ => K v := by kernel_rfl
theorem ok_spec_l1In : OK Try.prog 36 F_spec_l1In.spec := (vbody_ok (vin_ok TR1_0_ok annTR1 3) TR1_0_ok.looks _ _).ofF fun args m p R h hp => by
  unfold F_spec_l1In at h
  split at h
  · injection h with h; injection h with h1 h2; subst h1; subst h2
    exact ⟨rfl, (congrArg At (eq_spec_l1In _ _ _ _)).mp ⟨vc_spec_l1In _ _ _ hp⟩⟩
  · cases h
def TR1_1 : Tab := TR1_0.add 36 F_spec_l1In
theorem TR1_1_ok : TR1_1.Ok Try.prog := TR1_0_ok.add ok_spec_l1In
theorem eq_impl_within (n : Int) (lo : Int) (hi : Int) (K : V → Prop) : VC_impl_within n lo hi K = vbody Try.prog (vin Try.prog TR1_1 annTR1 3) TR1_1.looks (annTR1 45) 45 [.int .i64 n, .int .i64 lo, .int .i64 hi] [] fun v _ => K v := by kernel_rfl
theorem ok_impl_within : OK Try.prog 45 F_impl_within.spec := (vbody_ok (vin_ok TR1_1_ok annTR1 3) TR1_1_ok.looks _ _).ofF fun args m p R h hp => by
  unfold F_impl_within at h
  split at h
  · injection h with h; injection h with h1 h2; subst h1; subst h2
    exact ⟨rfl, (congrArg At (eq_impl_within _ _ _ _)).mp ⟨vc_impl_within _ _ _ hp⟩⟩
  · cases h
def TR1_2 : Tab := TR1_1.add 45 F_impl_within
theorem TR1_2_ok : TR1_2.Ok Try.prog := TR1_1_ok.add ok_impl_within
theorem eq_spec_woRule (s : List UInt8) (K : V → Prop) : VC_spec_woRule s K = vbody Try.prog (vin Try.prog TR1_2 annTR1 3) TR1_2.looks (annTR1 34) 34 [.str s] [] fun v _ => K v := by kernel_rfl
theorem ok_spec_woRule : OK Try.prog 34 F_spec_woRule.spec := (vbody_ok (vin_ok TR1_2_ok annTR1 3) TR1_2_ok.looks _ _).ofF fun args m p R h hp => by
  unfold F_spec_woRule at h
  split at h
  · injection h with h; injection h with h1 h2; subst h1; subst h2
    exact ⟨rfl, (congrArg At (eq_spec_woRule _ _)).mp ⟨vc_spec_woRule _ hp⟩⟩
  · cases h
def TR1_3 : Tab := TR1_2.add 34 F_spec_woRule
theorem TR1_3_ok : TR1_3.Ok Try.prog := TR1_2_ok.add ok_spec_woRule
theorem eq_impl_IsRule (s : List UInt8) (K : V → Prop) : VC_impl_IsRule s K = vbody Try.prog (vin Try.prog TR1_3 annTR1 3) TR1_3.looks (annTR1 35) 35 [.str s] [] fun v _ => K v := by kernel_rfl
theorem ok_impl_IsRule : OK Try.prog 35 F_impl_IsRule.spec := (vbody_ok (vin_ok TR1_3_ok annTR1 3) TR1_3_ok.looks _ _).ofF fun args m p R h hp => by
  unfold F_impl_IsRule at h
  split at h
  · injection h with h; injection h with h1 h2; subst h1; subst h2
    exact ⟨rfl, (congrArg At (eq_impl_IsRule _ _)).mp ⟨vc_impl_IsRule _ hp⟩⟩
  · cases h
def TR1_4 : Tab := TR1_3.add 35 F_impl_IsRule
theorem TR1_4_ok : TR1_4.Ok Try.prog := TR1_3_ok.add ok_impl_IsRule
theorem eq_spec_woOther (s : List UInt8) (K : V → Prop) : VC_spec_woOther s K = vbody Try.prog (vin Try.prog TR1_4 annTR1 3) TR1_4.looks (annTR1 24) 24 [.str s] [] fun v _ => K v := by kernel_rfl
theorem ok_spec_woOther : OK Try.prog 24 F_spec_woOther.spec := (vbody_ok (vin_ok TR1_4_ok annTR1 3) TR1_4_ok.looks _ _).ofF fun args m p R h hp => by
  unfold F_spec_woOther at h
  split at h
  · injection h with h; injection h with h1 h2; subst h1; subst h2
    exact ⟨rfl, (congrArg At (eq_spec_woOther _ _)).mp ⟨vc_spec_woOther _ hp⟩⟩
  · cases h
def TR1_5 : Tab := TR1_4.add 24 F_spec_woOther
theorem TR1_5_ok : TR1_5.Ok Try.prog := TR1_4_ok.add ok_spec_woOther
theorem eq_impl_exchanged (s : List UInt8) (K : V → Prop) : VC_impl_exchanged s K = vbody Try.prog (vin Try.prog TR1_5 annTR1 3) TR1_5.looks (annTR1 26) 26 [.str s] [] fun v _ => K v := by kernel_rfl
theorem ok_impl_exchanged : OK Try.prog 26 F_impl_exchanged.spec := (vbody_ok (vin_ok TR1_5_ok annTR1 3) TR1_5_ok.looks _ _).ofF fun args m p R h hp => by
  unfold F_impl_exchanged at h
  split at h
  · injection h with h; injection h with h1 h2; subst h1; subst h2
    exact ⟨rfl, (congrArg At (eq_impl_exchanged _ _)).mp ⟨vc_impl_exchanged _ hp⟩⟩
  · cases h
def TR1_6 : Tab := TR1_5.add 26 F_impl_exchanged
theorem TR1_6_ok : TR1_6.Ok Try.prog := TR1_5_ok.add ok_impl_exchanged
theorem eq_spec_OtherRule (s : List UInt8) (K : V → Prop) : VC_spec_OtherRule s K = vbody Try.prog (vin Try.prog TR1_6 annTR1 3) TR1_6.looks (annTR1 16) 16 [.str s] [] fun v _ => K v := by kernel_rfl
theorem ok_spec_OtherRule : OK Try.prog 16 F_spec_OtherRule.spec := (vbody_ok (vin_ok TR1_6_ok annTR1 3) TR1_6_ok.looks _ _).ofF fun args m p R h hp => by
  unfold F_spec_OtherRule at h
  split at h
  · injection h with h; injection h with h1 h2; subst h1; subst h2
    exact ⟨rfl, (congrArg At (eq_spec_OtherRule _ _)).mp ⟨vc_spec_OtherRule _ hp⟩⟩
  · cases h
def TR1_7 : Tab := TR1_6.add 16 F_spec_OtherRule
theorem TR1_7_ok : TR1_7.Ok Try.prog := TR1_6_ok.add ok_spec_OtherRule
theorem eq_impl_OtherRule (s : List UInt8) (K : V → Prop) : VC_impl_OtherRule s K = vbody Try.prog (vin Try.prog TR1_7 annTR1 3) TR1_7.looks (annTR1 17) 17 [.str s] [] fun v _ => K v := by kernel_rfl
theorem ok_impl_OtherRule : OK Try.prog 17 F_impl_OtherRule.spec := (vbody_ok (vin_ok TR1_7_ok annTR1 3) TR1_7_ok.looks _ _).ofF fun args m p R h hp => by
  unfold F_impl_OtherRule at h
  split at h
  · injection h with h; injection h with h1 h2; subst h1; subst h2
    exact ⟨rfl, (congrArg At (eq_impl_OtherRule _ _)).mp ⟨vc_impl_OtherRule _ hp⟩⟩
  · cases h
def TR1_8 : Tab := TR1_7.add 17 F_impl_OtherRule
theorem TR1_8_ok : TR1_8.Ok Try.prog := TR1_7_ok.add ok_impl_OtherRule
def TR1 : Tab := TR1_8
theorem TR1_ok : TR1.Ok Try.prog := TR1_8_ok
end Go.Proofs.Ytccahaefpbkelab
