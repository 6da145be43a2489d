/- The contracts of this chapter. -/
import Derived.Test.YtdeppknmibhokabProg
import Derived.Test.YtdeppknmibhokabFAPf
import Derived.KernelRfl
namespace Go.Proofs.Ytdeppknmibhokab
open Go Go.Vi
set_option linter.unusedVariables false
def annTFA : FuncId → Nat → St → Option Ann := fun f => if f = 67 then ann_spec_roFill else if f = 68 then ann_impl_filledBy else (fun _ _ => none)
def TFA_0 : Tab := Tab.none
theorem TFA_0_ok : TFA_0.Ok Try.prog := Tab.none_ok
theorem eq_spec_l1In (n : Int) (lo : Int) (hi : Int) (K : V → Prop) : VC_spec_l1In n lo hi K = vbody Try.prog (vin Try.prog TFA_0 annTFA 3) TFA_0.looks (annTFA 66) 66 [.int .i64 n, .int .i64 lo, .int .i64 hi] [] (fun v _ => K v) := by kernel_rfl
theorem ok_spec_l1In : OK Try.prog 66 F_spec_l1In.spec := (vbody_ok (vin_ok TFA_0_ok annTFA 3) TFA_0_ok.looks _ _).ofF fun args m p R h hp => by
  unfold F_spec_l1In at h
  split at h
  · injection h with h; injection h with h1 h2; subst h1; subst h2
    exact ⟨rfl, (congrArg At (eq_spec_l1In _ _ _ _)).mp ⟨vc_spec_l1In _ _ _ hp⟩⟩
  · cases h
def TFA_1 : Tab := TFA_0.add 66 F_spec_l1In
theorem TFA_1_ok : TFA_1.Ok Try.prog := TFA_0_ok.add ok_spec_l1In
theorem eq_impl_within (n : Int) (lo : Int) (hi : Int) (K : V → Prop) : VC_impl_within n lo hi K = vbody Try.prog (vin Try.prog TFA_1 annTFA 3) TFA_1.looks (annTFA 79) 79 [.int .i64 n, .int .i64 lo, .int .i64 hi] [] (fun v _ => K v) := by kernel_rfl
theorem ok_impl_within : OK Try.prog 79 F_impl_within.spec := (vbody_ok (vin_ok TFA_1_ok annTFA 3) TFA_1_ok.looks _ _).ofF fun args m p R h hp => by
  unfold F_impl_within at h
  split at h
  · injection h with h; injection h with h1 h2; subst h1; subst h2
    exact ⟨rfl, (congrArg At (eq_impl_within _ _ _ _)).mp ⟨vc_impl_within _ _ _ hp⟩⟩
  · cases h
def TFA_2 : Tab := TFA_1.add 79 F_impl_within
theorem TFA_2_ok : TFA_2.Ok Try.prog := TFA_1_ok.add ok_impl_within
theorem eq_spec_l1Least (a : Int) (b : Int) (K : V → Prop) : VC_spec_l1Least a b K = vbody Try.prog (vin Try.prog TFA_2 annTFA 3) TFA_2.looks (annTFA 102) 102 [.int .i64 a, .int .i64 b] [] (fun v _ => K v) := by kernel_rfl
theorem ok_spec_l1Least : OK Try.prog 102 F_spec_l1Least.spec := (vbody_ok (vin_ok TFA_2_ok annTFA 3) TFA_2_ok.looks _ _).ofF fun args m p R h hp => by
  unfold F_spec_l1Least at h
  split at h
  · injection h with h; injection h with h1 h2; subst h1; subst h2
    exact ⟨rfl, (congrArg At (eq_spec_l1Least _ _ _)).mp ⟨vc_spec_l1Least _ _ hp⟩⟩
  · cases h
def TFA_3 : Tab := TFA_2.add 102 F_spec_l1Least
theorem TFA_3_ok : TFA_3.Ok Try.prog := TFA_2_ok.add ok_spec_l1Least
theorem eq_spec_l1Most (a : Int) (b : Int) (K : V → Prop) : VC_spec_l1Most a b K = vbody Try.prog (vin Try.prog TFA_3 annTFA 3) TFA_3.looks (annTFA 103) 103 [.int .i64 a, .int .i64 b] [] (fun v _ => K v) := by kernel_rfl
theorem ok_spec_l1Most : OK Try.prog 103 F_spec_l1Most.spec := (vbody_ok (vin_ok TFA_3_ok annTFA 3) TFA_3_ok.looks _ _).ofF fun args m p R h hp => by
  unfold F_spec_l1Most at h
  split at h
  · injection h with h; injection h with h1 h2; subst h1; subst h2
    exact ⟨rfl, (congrArg At (eq_spec_l1Most _ _ _)).mp ⟨vc_spec_l1Most _ _ hp⟩⟩
  · cases h
def TFA_4 : Tab := TFA_3.add 103 F_spec_l1Most
theorem TFA_4_ok : TFA_4.Ok Try.prog := TFA_3_ok.add ok_spec_l1Most
theorem eq_spec_roFill (walkers : Int) (K : V → Prop) : VC_spec_roFill walkers K = vbody Try.prog (vin Try.prog TFA_4 annTFA 3) TFA_4.looks (annTFA 67) 67 [.int .i64 walkers] [] (fun v _ => K v) := by kernel_rfl
theorem ok_spec_roFill : OK Try.prog 67 F_spec_roFill.spec := (vbody_ok (vin_ok TFA_4_ok annTFA 3) TFA_4_ok.looks _ _).ofF fun args m p R h hp => by
  unfold F_spec_roFill at h
  split at h
  · injection h with h; injection h with h1 h2; subst h1; subst h2
    exact ⟨rfl, (congrArg At (eq_spec_roFill _ _)).mp ⟨vc_spec_roFill _ hp⟩⟩
  · cases h
def TFA_5 : Tab := TFA_4.add 67 F_spec_roFill
theorem TFA_5_ok : TFA_5.Ok Try.prog := TFA_4_ok.add ok_spec_roFill
theorem eq_impl_filledBy (walkers : Int) (K : V → Prop) : VC_impl_filledBy walkers K = vbody Try.prog (vin Try.prog TFA_5 annTFA 3) TFA_5.looks (annTFA 68) 68 [.int .i64 walkers] [] (fun v _ => K v) := by kernel_rfl
theorem ok_impl_filledBy : OK Try.prog 68 F_impl_filledBy.spec := (vbody_ok (vin_ok TFA_5_ok annTFA 3) TFA_5_ok.looks _ _).ofF fun args m p R h hp => by
  unfold F_impl_filledBy at h
  split at h
  · injection h with h; injection h with h1 h2; subst h1; subst h2
    exact ⟨rfl, (congrArg At (eq_impl_filledBy _ _)).mp ⟨vc_impl_filledBy _ hp⟩⟩
  · cases h
def TFA_6 : Tab := TFA_5.add 68 F_impl_filledBy
theorem TFA_6_ok : TFA_6.Ok Try.prog := TFA_5_ok.add ok_impl_filledBy
theorem eq_spec_FillLine (walkers : Int) (K : V → Prop) : VC_spec_FillLine walkers K = vbody Try.prog (vin Try.prog TFA_6 annTFA 3) TFA_6.looks (annTFA 24) 24 [.int .i64 walkers] [] (fun v _ => K v) := by kernel_rfl
theorem ok_spec_FillLine : OK Try.prog 24 F_spec_FillLine.spec := (vbody_ok (vin_ok TFA_6_ok annTFA 3) TFA_6_ok.looks _ _).ofF fun args m p R h hp => by
  unfold F_spec_FillLine at h
  split at h
  · injection h with h; injection h with h1 h2; subst h1; subst h2
    exact ⟨rfl, (congrArg At (eq_spec_FillLine _ _)).mp ⟨vc_spec_FillLine _ hp⟩⟩
  · cases h
def TFA_7 : Tab := TFA_6.add 24 F_spec_FillLine
theorem TFA_7_ok : TFA_7.Ok Try.prog := TFA_6_ok.add ok_spec_FillLine
theorem eq_spec_FillSteps (walkers : Int) (K : V → Prop) : VC_spec_FillSteps walkers K = vbody Try.prog (vin Try.prog TFA_7 annTFA 3) TFA_7.looks (annTFA 26) 26 [.int .i64 walkers] [] (fun v _ => K v) := by kernel_rfl
theorem ok_spec_FillSteps : OK Try.prog 26 F_spec_FillSteps.spec := (vbody_ok (vin_ok TFA_7_ok annTFA 3) TFA_7_ok.looks _ _).ofF fun args m p R h hp => by
  unfold F_spec_FillSteps at h
  split at h
  · injection h with h; injection h with h1 h2; subst h1; subst h2
    exact ⟨rfl, (congrArg At (eq_spec_FillSteps _ _)).mp ⟨vc_spec_FillSteps _ hp⟩⟩
  · cases h
def TFA_8 : Tab := TFA_7.add 26 F_spec_FillSteps
theorem TFA_8_ok : TFA_8.Ok Try.prog := TFA_7_ok.add ok_spec_FillSteps
theorem eq_impl_FillLine (walkers : Int) (K : V → Prop) : VC_impl_FillLine walkers K = vbody Try.prog (vin Try.prog TFA_8 annTFA 3) TFA_8.looks (annTFA 25) 25 [.int .i64 walkers] [] (fun v _ => K v) := by kernel_rfl
theorem ok_impl_FillLine : OK Try.prog 25 F_impl_FillLine.spec := (vbody_ok (vin_ok TFA_8_ok annTFA 3) TFA_8_ok.looks _ _).ofF fun args m p R h hp => by
  unfold F_impl_FillLine at h
  split at h
  · injection h with h; injection h with h1 h2; subst h1; subst h2
    exact ⟨rfl, (congrArg At (eq_impl_FillLine _ _)).mp ⟨vc_impl_FillLine _ hp⟩⟩
  · cases h
def TFA_9 : Tab := TFA_8.add 25 F_impl_FillLine
theorem TFA_9_ok : TFA_9.Ok Try.prog := TFA_8_ok.add ok_impl_FillLine
theorem eq_impl_FillSteps (walkers : Int) (K : V → Prop) : VC_impl_FillSteps walkers K = vbody Try.prog (vin Try.prog TFA_9 annTFA 3) TFA_9.looks (annTFA 27) 27 [.int .i64 walkers] [] (fun v _ => K v) := by kernel_rfl
theorem ok_impl_FillSteps : OK Try.prog 27 F_impl_FillSteps.spec := (vbody_ok (vin_ok TFA_9_ok annTFA 3) TFA_9_ok.looks _ _).ofF fun args m p R h hp => by
  unfold F_impl_FillSteps at h
  split at h
  · injection h with h; injection h with h1 h2; subst h1; subst h2
    exact ⟨rfl, (congrArg At (eq_impl_FillSteps _ _)).mp ⟨vc_impl_FillSteps _ hp⟩⟩
  · cases h
def TFA_10 : Tab := TFA_9.add 27 F_impl_FillSteps
theorem TFA_10_ok : TFA_10.Ok Try.prog := TFA_9_ok.add ok_impl_FillSteps
def TFA : Tab := TFA_10
theorem TFA_ok : TFA.Ok Try.prog := TFA_10_ok
end Go.Proofs.Ytdeppknmibhokab
