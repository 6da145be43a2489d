/- The contracts of this chapter. -/
import Derived.Test.YtioppaofihbmpaaWXLib
import Derived.Test.YtioppaofihbmpaaProg
import Derived.Test.YtioppaofihbmpaaWXPf
import Derived.KernelRfl
namespace Go.Proofs.Ytioppaofihbmpaa
open Go Go.Vi
set_option linter.unusedVariables false
def annTWX : FuncId → Nat → St → Option Ann := fun f => if f = 8 then ann_spec_wmOnes else (fun _ _ => none)
def TWX_0 : Tab := Tab.none
theorem TWX_0_ok : TWX_0.Ok Try.prog := Tab.none_ok
theorem eq_spec_l1In (n : Int) (lo : Int) (hi : Int) (K : V → Prop) : VC_spec_l1In n lo hi K = vbody Try.prog (vin Try.prog TWX_0 annTWX 3) TWX_0.looks (annTWX 7) 7 [.int .i64 n, .int .i64 lo, .int .i64 hi] [] (fun v _ => K v) := by kernel_rfl
theorem ok_spec_l1In : OK Try.prog 7 F_spec_l1In.spec := (vbody_ok (vin_ok TWX_0_ok annTWX 3) TWX_0_ok.looks _ _).ofF fun args m p R h hp => by
  unfold F_spec_l1In at h
  split at h
  · injection h with h; injection h with h1 h2; subst h1; subst h2
    exact ⟨rfl, (congrArg At (eq_spec_l1In _ _ _ _)).mp ⟨vc_spec_l1In _ _ _ hp⟩⟩
  · cases h
def TWX_1 : Tab := TWX_0.add 7 F_spec_l1In
theorem TWX_1_ok : TWX_1.Ok Try.prog := TWX_0_ok.add ok_spec_l1In
theorem eq_impl_within (n : Int) (lo : Int) (hi : Int) (K : V → Prop) : VC_impl_within n lo hi K = vbody Try.prog (vin Try.prog TWX_1 annTWX 3) TWX_1.looks (annTWX 11) 11 [.int .i64 n, .int .i64 lo, .int .i64 hi] [] (fun v _ => K v) := by kernel_rfl
theorem ok_impl_within : OK Try.prog 11 F_impl_within.spec := (vbody_ok (vin_ok TWX_1_ok annTWX 3) TWX_1_ok.looks _ _).ofF fun args m p R h hp => by
  unfold F_impl_within at h
  split at h
  · injection h with h; injection h with h1 h2; subst h1; subst h2
    exact ⟨rfl, (congrArg At (eq_impl_within _ _ _ _)).mp ⟨vc_impl_within _ _ _ hp⟩⟩
  · cases h
def TWX_2 : Tab := TWX_1.add 11 F_impl_within
theorem TWX_2_ok : TWX_2.Ok Try.prog := TWX_1_ok.add ok_impl_within
theorem eq_impl_isGrid (a : Int) (b : Int) (K : V → Prop) : VC_impl_isGrid a b K = vbody Try.prog (vin Try.prog TWX_2 annTWX 3) TWX_2.looks (annTWX 9) 9 [.int .i64 a, .int .i64 b] [] (fun v _ => K v) := by kernel_rfl
theorem ok_impl_isGrid : OK Try.prog 9 F_impl_isGrid.spec := (vbody_ok (vin_ok TWX_2_ok annTWX 3) TWX_2_ok.looks _ _).ofF fun args m p R h hp => by
  unfold F_impl_isGrid at h
  split at h
  · injection h with h; injection h with h1 h2; subst h1; subst h2
    exact ⟨rfl, (congrArg At (eq_impl_isGrid _ _ _)).mp ⟨vc_impl_isGrid _ _ hp⟩⟩
  · cases h
def TWX_3 : Tab := TWX_2.add 9 F_impl_isGrid
theorem TWX_3_ok : TWX_3.Ok Try.prog := TWX_2_ok.add ok_impl_isGrid
theorem eq_laws_eqWorm (aw : Int) (ah : Int) (ar : List UInt8) (an : List UInt8) (ax : Int) (ay : Int) (ad : Int) (bw : Int) (bh : Int) (br : List UInt8) (bn : List UInt8) (bx : Int) (by_ : Int) (bd : Int) (K : V → Prop) : VC_laws_eqWorm aw ah ar an ax ay ad bw bh br bn bx by_ bd K = vbody Try.prog (vin Try.prog TWX_3 annTWX 3) TWX_3.looks (annTWX 6) 6 [.agg [.int .i64 aw, .int .i64 ah, .str ar, .str an, .int .i64 ax, .int .i64 ay, .int .i64 ad], .agg [.int .i64 bw, .int .i64 bh, .str br, .str bn, .int .i64 bx, .int .i64 by_, .int .i64 bd]] [] (fun v _ => K v) := by kernel_rfl
theorem ok_laws_eqWorm : OK Try.prog 6 F_laws_eqWorm.spec := (vbody_ok (vin_ok TWX_3_ok annTWX 3) TWX_3_ok.looks _ _).ofF fun args m p R h hp => by
  unfold F_laws_eqWorm at h
  split at h
  · injection h with h; injection h with h1 h2; subst h1; subst h2
    exact ⟨rfl, (congrArg At (eq_laws_eqWorm _ _ _ _ _ _ _ _ _ _ _ _ _ _ _)).mp ⟨vc_laws_eqWorm _ _ _ _ _ _ _ _ _ _ _ _ _ _ hp⟩⟩
  · cases h
def TWX_4 : Tab := TWX_3.add 6 F_laws_eqWorm
theorem TWX_4_ok : TWX_4.Ok Try.prog := TWX_3_ok.add ok_laws_eqWorm
theorem ok_strings_Repeat : OK Try.prog 10 F_strings_Repeat.spec := Go.Proofs.Try.libRepeat
def TWX_5 : Tab := TWX_4.add 10 F_strings_Repeat
theorem TWX_5_ok : TWX_5.Ok Try.prog := TWX_4_ok.add ok_strings_Repeat
theorem eq_spec_wmOnes (n : Int) (K : V → Prop) : VC_spec_wmOnes n K = vbody Try.prog (vin Try.prog TWX_5 annTWX 3) TWX_5.looks (annTWX 8) 8 [.int .i64 n] [] (fun v _ => K v) := by kernel_rfl
theorem ok_spec_wmOnes : OK Try.prog 8 F_spec_wmOnes.spec := (vbody_ok (vin_ok TWX_5_ok annTWX 3) TWX_5_ok.looks _ _).ofF fun args m p R h hp => by
  unfold F_spec_wmOnes at h
  split at h
  · injection h with h; injection h with h1 h2; subst h1; subst h2
    exact ⟨rfl, (congrArg At (eq_spec_wmOnes _ _)).mp ⟨vc_spec_wmOnes _ hp⟩⟩
  · cases h
def TWX_6 : Tab := TWX_5.add 8 F_spec_wmOnes
theorem TWX_6_ok : TWX_6.Ok Try.prog := TWX_5_ok.add ok_spec_wmOnes
theorem eq_spec_FreshWorm (a : Int) (b : Int) (K : V → Prop) : VC_spec_FreshWorm a b K = vbody Try.prog (vin Try.prog TWX_6 annTWX 3) TWX_6.looks (annTWX 4) 4 [.int .i64 a, .int .i64 b] [] (fun v _ => K v) := by kernel_rfl
theorem ok_spec_FreshWorm : OK Try.prog 4 F_spec_FreshWorm.spec := (vbody_ok (vin_ok TWX_6_ok annTWX 3) TWX_6_ok.looks _ _).ofF fun args m p R h hp => by
  unfold F_spec_FreshWorm at h
  split at h
  · injection h with h; injection h with h1 h2; subst h1; subst h2
    exact ⟨rfl, (congrArg At (eq_spec_FreshWorm _ _ _)).mp ⟨vc_spec_FreshWorm _ _ hp⟩⟩
  · cases h
def TWX_7 : Tab := TWX_6.add 4 F_spec_FreshWorm
theorem TWX_7_ok : TWX_7.Ok Try.prog := TWX_6_ok.add ok_spec_FreshWorm
theorem eq_impl_FreshWorm (a : Int) (b : Int) (K : V → Prop) : VC_impl_FreshWorm a b K = vbody Try.prog (vin Try.prog TWX_7 annTWX 3) TWX_7.looks (annTWX 5) 5 [.int .i64 a, .int .i64 b] [] (fun v _ => K v) := by kernel_rfl
theorem ok_impl_FreshWorm : OK Try.prog 5 F_impl_FreshWorm.spec := (vbody_ok (vin_ok TWX_7_ok annTWX 3) TWX_7_ok.looks _ _).ofF fun args m p R h hp => by
  unfold F_impl_FreshWorm at h
  split at h
  · injection h with h; injection h with h1 h2; subst h1; subst h2
    exact ⟨rfl, (congrArg At (eq_impl_FreshWorm _ _ _)).mp ⟨vc_impl_FreshWorm _ _ hp⟩⟩
  · cases h
def TWX_8 : Tab := TWX_7.add 5 F_impl_FreshWorm
theorem TWX_8_ok : TWX_8.Ok Try.prog := TWX_7_ok.add ok_impl_FreshWorm
def TWX : Tab := TWX_8
theorem TWX_ok : TWX.Ok Try.prog := TWX_8_ok
end Go.Proofs.Ytioppaofihbmpaa
