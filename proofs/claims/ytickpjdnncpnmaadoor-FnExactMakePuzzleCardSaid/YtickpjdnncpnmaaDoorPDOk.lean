/- The contracts of this chapter. -/
import Derived.Test.YtickpjdnncpnmaaDoorProg
import Derived.Test.YtickpjdnncpnmaaDoorPDPf
import Derived.KernelRfl
namespace Go.Proofs.YtickpjdnncpnmaaDoor.PD
open Go Go.Vi
set_option linter.unusedVariables false
def annTPD : FuncId -> Nat -> St -> Option Ann := fun f => (fun _ _ => none)
def TPD_0 : Tab := Tab.none
theorem TPD_0_ok : TPD_0.Ok Tryd.prog := Tab.none_ok
theorem eq_impl_within (n : Int) (lo : Int) (hi : Int) (K : V -> Prop) : VC_impl_within n lo hi K = vbody Tryd.prog (vin Tryd.prog TPD_0 annTPD 3) TPD_0.looks (annTPD 67) 67 [.int .i64 n, .int .i64 lo, .int .i64 hi] [] (fun v _ => K v) := by kernel_rfl
theorem ok_impl_within : OK Tryd.prog 67 F_impl_within.spec := (vbody_ok (vin_ok TPD_0_ok annTPD 3) TPD_0_ok.looks _ _).ofF fun args m p R h hp => by
 unfold F_impl_within at h
 split at h
 ·injection h with h; injection h with h1 h2; subst h1; subst h2
  exact ⟨rfl, (congrArg At (eq_impl_within _ _ _ _)).mp ⟨vc_impl_within _ _ _ hp⟩⟩
 ·cases h
def TPD_1 : Tab := TPD_0.add 67 F_impl_within
theorem TPD_1_ok : TPD_1.Ok Tryd.prog := TPD_0_ok.add ok_impl_within
theorem eq_impl_greatestOf (k : Int) (cols : Int) (cells : Int) (K : V -> Prop) : VC_impl_greatestOf k cols cells K = vbody Tryd.prog (vin Tryd.prog TPD_1 annTPD 3) TPD_1.looks (annTPD 138) 138 [.int .i64 k, .int .i64 cols, .int .i64 cells] [] (fun v _ => K v) := by kernel_rfl
theorem ok_impl_greatestOf : OK Tryd.prog 138 F_impl_greatestOf.spec := (vbody_ok (vin_ok TPD_1_ok annTPD 3) TPD_1_ok.looks _ _).ofF fun args m p R h hp => by
 unfold F_impl_greatestOf at h
 split at h
 ·injection h with h; injection h with h1 h2; subst h1; subst h2
  exact ⟨rfl, (congrArg At (eq_impl_greatestOf _ _ _ _)).mp ⟨vc_impl_greatestOf _ _ _ hp⟩⟩
 ·cases h
def TPD_2 : Tab := TPD_1.add 138 F_impl_greatestOf
theorem TPD_2_ok : TPD_2.Ok Tryd.prog := TPD_1_ok.add ok_impl_greatestOf
def TPD : Tab := TPD_2
theorem TPD_ok : TPD.Ok Tryd.prog := TPD_2_ok
end Go.Proofs.YtickpjdnncpnmaaDoor.PD
