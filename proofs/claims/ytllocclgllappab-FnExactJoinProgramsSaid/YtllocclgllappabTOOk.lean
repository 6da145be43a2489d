/- The contracts of this chapter. -/
import Derived.Test.YtllocclgllappabProg
import Derived.Test.YtllocclgllappabTOPf
import Derived.KernelRfl
namespace Go.Proofs.Ytllocclgllappab
open Go Go.Vi
set_option linter.unusedVariables false
def annTTO : FuncId → Nat → St → Option Ann := fun f => if f = 32 then ann_spec_woRule else if f = 19 then ann_spec_tuGood else if f = 33 then ann_impl_partsOf else if f = 20 then ann_spec_woOther else if f = 22 then ann_impl_exchanged else (fun _ _ => none)
def TTO_0 : Tab := Tab.none
theorem TTO_0_ok : TTO_0.Ok Try.prog := Tab.none_ok
theorem eq_spec_l1In (n : Int) (lo : Int) (hi : Int) (K : V → Prop) : VC_spec_l1In n lo hi K = vbody Try.prog (vin Try.prog TTO_0 annTTO 3) TTO_0.looks (annTTO 31) 31 [.int .i64 n, .int .i64 lo, .int .i64 hi] [] (fun v _ => K v) := by kernel_rfl
theorem ok_spec_l1In : OK Try.prog 31 F_spec_l1In.spec := (vbody_ok (vin_ok TTO_0_ok annTTO 3) TTO_0_ok.looks _ _).ofF fun args m p R h hp => by
  unfold F_spec_l1In at h
  split at h
  · injection h with h; injection h with h1 h2; subst h1; subst h2
    exact ⟨rfl, (congrArg At (eq_spec_l1In _ _ _ _)).mp ⟨vc_spec_l1In _ _ _ hp⟩⟩
  · cases h
def TTO_1 : Tab := TTO_0.add 31 F_spec_l1In
theorem TTO_1_ok : TTO_1.Ok Try.prog := TTO_0_ok.add ok_spec_l1In
theorem eq_impl_within (n : Int) (lo : Int) (hi : Int) (K : V → Prop) : VC_impl_within n lo hi K = vbody Try.prog (vin Try.prog TTO_1 annTTO 3) TTO_1.looks (annTTO 42) 42 [.int .i64 n, .int .i64 lo, .int .i64 hi] [] (fun v _ => K v) := by kernel_rfl
theorem ok_impl_within : OK Try.prog 42 F_impl_within.spec := (vbody_ok (vin_ok TTO_1_ok annTTO 3) TTO_1_ok.looks _ _).ofF fun args m p R h hp => by
  unfold F_impl_within at h
  split at h
  · injection h with h; injection h with h1 h2; subst h1; subst h2
    exact ⟨rfl, (congrArg At (eq_impl_within _ _ _ _)).mp ⟨vc_impl_within _ _ _ hp⟩⟩
  · cases h
def TTO_2 : Tab := TTO_1.add 42 F_impl_within
theorem TTO_2_ok : TTO_2.Ok Try.prog := TTO_1_ok.add ok_impl_within
theorem eq_impl_digit (b : Int) (K : V → Prop) : VC_impl_digit b K = vbody Try.prog (vin Try.prog TTO_2 annTTO 3) TTO_2.looks (annTTO 45) 45 [.int .u8 b] [] (fun v _ => K v) := by kernel_rfl
theorem ok_impl_digit : OK Try.prog 45 F_impl_digit.spec := (vbody_ok (vin_ok TTO_2_ok annTTO 3) TTO_2_ok.looks _ _).ofF fun args m p R h hp => by
  unfold F_impl_digit at h
  split at h
  · injection h with h; injection h with h1 h2; subst h1; subst h2
    exact ⟨rfl, (congrArg At (eq_impl_digit _ _)).mp ⟨vc_impl_digit _ hp⟩⟩
  · cases h
def TTO_3 : Tab := TTO_2.add 45 F_impl_digit
theorem TTO_3_ok : TTO_3.Ok Try.prog := TTO_2_ok.add ok_impl_digit
theorem eq_impl_isSign (b : Int) (K : V → Prop) : VC_impl_isSign b K = vbody Try.prog (vin Try.prog TTO_3 annTTO 3) TTO_3.looks (annTTO 46) 46 [.int .u8 b] [] (fun v _ => K v) := by kernel_rfl
theorem ok_impl_isSign : OK Try.prog 46 F_impl_isSign.spec := (vbody_ok (vin_ok TTO_3_ok annTTO 3) TTO_3_ok.looks _ _).ofF fun args m p R h hp => by
  unfold F_impl_isSign at h
  split at h
  · injection h with h; injection h with h1 h2; subst h1; subst h2
    exact ⟨rfl, (congrArg At (eq_impl_isSign _ _)).mp ⟨vc_impl_isSign _ hp⟩⟩
  · cases h
def TTO_4 : Tab := TTO_3.add 46 F_impl_isSign
theorem TTO_4_ok : TTO_4.Ok Try.prog := TTO_3_ok.add ok_impl_isSign
theorem eq_spec_woRule (s : List UInt8) (K : V → Prop) : VC_spec_woRule s K = vbody Try.prog (vin Try.prog TTO_4 annTTO 3) TTO_4.looks (annTTO 32) 32 [.str s] [] (fun v _ => K v) := by kernel_rfl
theorem ok_spec_woRule : OK Try.prog 32 F_spec_woRule.spec := (vbody_ok (vin_ok TTO_4_ok annTTO 3) TTO_4_ok.looks _ _).ofF fun args m p R h hp => by
  unfold F_spec_woRule at h
  split at h
  · injection h with h; injection h with h1 h2; subst h1; subst h2
    exact ⟨rfl, (congrArg At (eq_spec_woRule _ _)).mp ⟨vc_spec_woRule _ hp⟩⟩
  · cases h
def TTO_5 : Tab := TTO_4.add 32 F_spec_woRule
theorem TTO_5_ok : TTO_5.Ok Try.prog := TTO_4_ok.add ok_spec_woRule
theorem eq_spec_tuGood (s : List UInt8) (K : V → Prop) : VC_spec_tuGood s K = vbody Try.prog (vin Try.prog TTO_5 annTTO 3) TTO_5.looks (annTTO 19) 19 [.str s] [] (fun v _ => K v) := by kernel_rfl
theorem ok_spec_tuGood : OK Try.prog 19 F_spec_tuGood.spec := (vbody_ok (vin_ok TTO_5_ok annTTO 3) TTO_5_ok.looks _ _).ofF fun args m p R h hp => by
  unfold F_spec_tuGood at h
  split at h
  · injection h with h; injection h with h1 h2; subst h1; subst h2
    exact ⟨rfl, (congrArg At (eq_spec_tuGood _ _)).mp ⟨vc_spec_tuGood _ hp⟩⟩
  · cases h
def TTO_6 : Tab := TTO_5.add 19 F_spec_tuGood
theorem TTO_6_ok : TTO_6.Ok Try.prog := TTO_5_ok.add ok_spec_tuGood
theorem eq_impl_partsOf (s : List UInt8) (K : V → List Blk → Prop) : VC_impl_partsOf s K = vbody Try.prog (vin Try.prog TTO_6 annTTO 3) TTO_6.looks (annTTO 33) 33 [.str s] [] (K) := by kernel_rfl
theorem ok_impl_partsOf : OK Try.prog 33 F_impl_partsOf.spec := (vbody_ok (vin_ok TTO_6_ok annTTO 3) TTO_6_ok.looks _ _).ofG fun args m p R M h hp => by
  unfold F_impl_partsOf at h
  split at h
  · injection h with h; injection h with h1 h2; injection h2 with h2 h3; subst h1; subst h2; subst h3
    exact (congrArg At (eq_impl_partsOf _ _)).mp ⟨vc_impl_partsOf _ hp⟩
  · cases h
def TTO_7 : Tab := TTO_6.addG 33 F_impl_partsOf
theorem TTO_7_ok : TTO_7.Ok Try.prog := TTO_6_ok.addG ok_impl_partsOf
theorem eq_spec_woOther (s : List UInt8) (K : V → Prop) : VC_spec_woOther s K = vbody Try.prog (vin Try.prog TTO_7 annTTO 3) TTO_7.looks (annTTO 20) 20 [.str s] [] (fun v _ => K v) := by kernel_rfl
theorem ok_spec_woOther : OK Try.prog 20 F_spec_woOther.spec := (vbody_ok (vin_ok TTO_7_ok annTTO 3) TTO_7_ok.looks _ _).ofF fun args m p R h hp => by
  unfold F_spec_woOther at h
  split at h
  · injection h with h; injection h with h1 h2; subst h1; subst h2
    exact ⟨rfl, (congrArg At (eq_spec_woOther _ _)).mp ⟨vc_spec_woOther _ hp⟩⟩
  · cases h
def TTO_8 : Tab := TTO_7.add 20 F_spec_woOther
theorem TTO_8_ok : TTO_8.Ok Try.prog := TTO_7_ok.add ok_spec_woOther
theorem eq_impl_exchanged (s : List UInt8) (K : V → Prop) : VC_impl_exchanged s K = vbody Try.prog (vin Try.prog TTO_8 annTTO 3) TTO_8.looks (annTTO 22) 22 [.str s] [] (fun v _ => K v) := by kernel_rfl
theorem ok_impl_exchanged : OK Try.prog 22 F_impl_exchanged.spec := (vbody_ok (vin_ok TTO_8_ok annTTO 3) TTO_8_ok.looks _ _).ofF fun args m p R h hp => by
  unfold F_impl_exchanged at h
  split at h
  · injection h with h; injection h with h1 h2; subst h1; subst h2
    exact ⟨rfl, (congrArg At (eq_impl_exchanged _ _)).mp ⟨vc_impl_exchanged _ hp⟩⟩
  · cases h
def TTO_9 : Tab := TTO_8.add 22 F_impl_exchanged
theorem TTO_9_ok : TTO_9.Ok Try.prog := TTO_8_ok.add ok_impl_exchanged
theorem eq_impl_IsProgram (s : List UInt8) (K : V → Prop) : VC_impl_IsProgram s K = vbody Try.prog (vin Try.prog TTO_9 annTTO 3) TTO_9.looks (annTTO 21) 21 [.str s] [] (fun v _ => K v) := by kernel_rfl
theorem ok_impl_IsProgram : OK Try.prog 21 F_impl_IsProgram.spec := (vbody_ok (vin_ok TTO_9_ok annTTO 3) TTO_9_ok.looks _ _).ofF fun args m p R h hp => by
  unfold F_impl_IsProgram at h
  split at h
  · injection h with h; injection h with h1 h2; subst h1; subst h2
    exact ⟨rfl, (congrArg At (eq_impl_IsProgram _ _)).mp ⟨vc_impl_IsProgram _ hp⟩⟩
  · cases h
def TTO_10 : Tab := TTO_9.add 21 F_impl_IsProgram
theorem TTO_10_ok : TTO_10.Ok Try.prog := TTO_9_ok.add ok_impl_IsProgram
theorem eq_spec_OtherProgram (s : List UInt8) (K : V → Prop) : VC_spec_OtherProgram s K = vbody Try.prog (vin Try.prog TTO_10 annTTO 3) TTO_10.looks (annTTO 6) 6 [.str s] [] (fun v _ => K v) := by kernel_rfl
theorem ok_spec_OtherProgram : OK Try.prog 6 F_spec_OtherProgram.spec := (vbody_ok (vin_ok TTO_10_ok annTTO 3) TTO_10_ok.looks _ _).ofF fun args m p R h hp => by
  unfold F_spec_OtherProgram at h
  split at h
  · injection h with h; injection h with h1 h2; subst h1; subst h2
    exact ⟨rfl, (congrArg At (eq_spec_OtherProgram _ _)).mp ⟨vc_spec_OtherProgram _ hp⟩⟩
  · cases h
def TTO_11 : Tab := TTO_10.add 6 F_spec_OtherProgram
theorem TTO_11_ok : TTO_11.Ok Try.prog := TTO_10_ok.add ok_spec_OtherProgram
theorem eq_impl_OtherProgram (s : List UInt8) (K : V → Prop) : VC_impl_OtherProgram s K = vbody Try.prog (vin Try.prog TTO_11 annTTO 3) TTO_11.looks (annTTO 7) 7 [.str s] [] (fun v _ => K v) := by kernel_rfl
theorem ok_impl_OtherProgram : OK Try.prog 7 F_impl_OtherProgram.spec := (vbody_ok (vin_ok TTO_11_ok annTTO 3) TTO_11_ok.looks _ _).ofF fun args m p R h hp => by
  unfold F_impl_OtherProgram at h
  split at h
  · injection h with h; injection h with h1 h2; subst h1; subst h2
    exact ⟨rfl, (congrArg At (eq_impl_OtherProgram _ _)).mp ⟨vc_impl_OtherProgram _ hp⟩⟩
  · cases h
def TTO_12 : Tab := TTO_11.add 7 F_impl_OtherProgram
theorem TTO_12_ok : TTO_12.Ok Try.prog := TTO_11_ok.add ok_impl_OtherProgram
theorem eq_spec_JoinPrograms (s : List UInt8) (t : List UInt8) (K : V → Prop) : VC_spec_JoinPrograms s t K = vbody Try.prog (vin Try.prog TTO_12 annTTO 3) TTO_12.looks (annTTO 8) 8 [.str s, .str t] [] (fun v _ => K v) := by kernel_rfl
theorem ok_spec_JoinPrograms : OK Try.prog 8 F_spec_JoinPrograms.spec := (vbody_ok (vin_ok TTO_12_ok annTTO 3) TTO_12_ok.looks _ _).ofF fun args m p R h hp => by
  unfold F_spec_JoinPrograms at h
  split at h
  · injection h with h; injection h with h1 h2; subst h1; subst h2
    exact ⟨rfl, (congrArg At (eq_spec_JoinPrograms _ _ _)).mp ⟨vc_spec_JoinPrograms _ _ hp⟩⟩
  · cases h
def TTO_13 : Tab := TTO_12.add 8 F_spec_JoinPrograms
theorem TTO_13_ok : TTO_13.Ok Try.prog := TTO_12_ok.add ok_spec_JoinPrograms
theorem eq_impl_JoinPrograms (s : List UInt8) (t : List UInt8) (K : V → Prop) : VC_impl_JoinPrograms s t K = vbody Try.prog (vin Try.prog TTO_13 annTTO 3) TTO_13.looks (annTTO 9) 9 [.str s, .str t] [] (fun v _ => K v) := by kernel_rfl
theorem ok_impl_JoinPrograms : OK Try.prog 9 F_impl_JoinPrograms.spec := (vbody_ok (vin_ok TTO_13_ok annTTO 3) TTO_13_ok.looks _ _).ofF fun args m p R h hp => by
  unfold F_impl_JoinPrograms at h
  split at h
  · injection h with h; injection h with h1 h2; subst h1; subst h2
    exact ⟨rfl, (congrArg At (eq_impl_JoinPrograms _ _ _)).mp ⟨vc_impl_JoinPrograms _ _ hp⟩⟩
  · cases h
def TTO_14 : Tab := TTO_13.add 9 F_impl_JoinPrograms
theorem TTO_14_ok : TTO_14.Ok Try.prog := TTO_13_ok.add ok_impl_JoinPrograms
def TTO : Tab := TTO_14
theorem TTO_ok : TTO.Ok Try.prog := TTO_14_ok
end Go.Proofs.Ytllocclgllappab
