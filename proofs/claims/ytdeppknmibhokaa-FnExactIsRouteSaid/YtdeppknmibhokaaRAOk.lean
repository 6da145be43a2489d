/- The contracts of this chapter. -/
import Derived.Test.YtdeppknmibhokaaProg
import Derived.Test.YtdeppknmibhokaaRAPf
import Derived.KernelRfl
namespace Go.Proofs.Ytdeppknmibhokaa
open Go Go.Vi
set_option linter.unusedVariables false
def annTRA : FuncId → Nat → St → Option Ann := fun f => if f = 51 then ann_laws_szIntSS else if f = 49 then ann_laws_toIntS else if f = 54 then ann_laws_toIntSS else if f = 32 then ann_laws_eqIntS else if f = 39 then ann_laws_eqIntSS else if f = 71 then ann_spec_l1All else if f = 53 then ann_spec_roGood else if f = 18 then ann_impl_IsRoute else (fun _ _ => none)
def TRA_0 : Tab := Tab.none
theorem TRA_0_ok : TRA_0.Ok Try.prog := Tab.none_ok
theorem eq_spec_l1In (n : Int) (lo : Int) (hi : Int) (K : V → Prop) : VC_spec_l1In n lo hi K = vbody Try.prog (vin Try.prog TRA_0 annTRA 3) TRA_0.looks (annTRA 57) 57 [.int .i64 n, .int .i64 lo, .int .i64 hi] [] (fun v _ => K v) := by kernel_rfl
theorem ok_spec_l1In : OK Try.prog 57 F_spec_l1In.spec := (vbody_ok (vin_ok TRA_0_ok annTRA 3) TRA_0_ok.looks _ _).ofF fun args m p R h hp => by
  unfold F_spec_l1In at h
  split at h
  · injection h with h; injection h with h1 h2; subst h1; subst h2
    exact ⟨rfl, (congrArg At (eq_spec_l1In _ _ _ _)).mp ⟨vc_spec_l1In _ _ _ hp⟩⟩
  · cases h
def TRA_1 : Tab := TRA_0.add 57 F_spec_l1In
theorem TRA_1_ok : TRA_1.Ok Try.prog := TRA_0_ok.add ok_spec_l1In
theorem eq_impl_within (n : Int) (lo : Int) (hi : Int) (K : V → Prop) : VC_impl_within n lo hi K = vbody Try.prog (vin Try.prog TRA_1 annTRA 3) TRA_1.looks (annTRA 55) 55 [.int .i64 n, .int .i64 lo, .int .i64 hi] [] (fun v _ => K v) := by kernel_rfl
theorem ok_impl_within : OK Try.prog 55 F_impl_within.spec := (vbody_ok (vin_ok TRA_1_ok annTRA 3) TRA_1_ok.looks _ _).ofF fun args m p R h hp => by
  unfold F_impl_within at h
  split at h
  · injection h with h; injection h with h1 h2; subst h1; subst h2
    exact ⟨rfl, (congrArg At (eq_impl_within _ _ _ _)).mp ⟨vc_impl_within _ _ _ hp⟩⟩
  · cases h
def TRA_2 : Tab := TRA_1.add 55 F_impl_within
theorem TRA_2_ok : TRA_2.Ok Try.prog := TRA_1_ok.add ok_impl_within
theorem eq_laws_szIntS (left : Int) (n : Nat) (a : List Int) (e : TypeId) (k : Kind) (K : V → List Blk → Prop) : VC_laws_szIntS left n a e k K = vbody Try.prog (vin Try.prog TRA_2 annTRA 3) TRA_2.looks (annTRA 52) 52 [.row 0 n, .int .i64 left] [⟨.ints .i64 a, e, k⟩] (K) := by kernel_rfl
theorem ok_laws_szIntS : OK Try.prog 52 F_laws_szIntS.spec := (vbody_ok (vin_ok TRA_2_ok annTRA 3) TRA_2_ok.looks _ _).ofFM fun args m p R h hp => by
  unfold F_laws_szIntS at h
  split at h
  · injection h with h; injection h with h1 h2; subst h1; subst h2
    exact (congrArg At (eq_laws_szIntS _ _ _ _ _ _)).mp ⟨vc_laws_szIntS _ _ _ _ _ hp⟩
  · cases h
def TRA_3 : Tab := TRA_2.add 52 F_laws_szIntS
theorem TRA_3_ok : TRA_3.Ok Try.prog := TRA_2_ok.add ok_laws_szIntS
theorem eq_laws_szIntSS (left : Int) (n : Nat) (l : List (List Int)) (K : V → List Blk → Prop) : VC_laws_szIntSS left n l K = vbody Try.prog (vin Try.prog TRA_3 annTRA 3) TRA_3.looks (annTRA 51) 51 [.row 0 n, .int .i64 left] [⟨.mat .i64 3 (l), 23, .amat⟩] (K) := by kernel_rfl
theorem ok_laws_szIntSS : OK Try.prog 51 F_laws_szIntSS.spec := (vbody_ok (vin_ok TRA_3_ok annTRA 3) TRA_3_ok.looks _ _).ofFM fun args m p R h hp => by
  unfold F_laws_szIntSS at h
  split at h
  · injection h with h; injection h with h1 h2; subst h1; subst h2
    exact (congrArg At (eq_laws_szIntSS _ _ _ _)).mp ⟨vc_laws_szIntSS _ _ _ hp⟩
  · cases h
def TRA_4 : Tab := TRA_3.add 51 F_laws_szIntSS
theorem TRA_4_ok : TRA_4.Ok Try.prog := TRA_3_ok.add ok_laws_szIntSS
theorem eq_laws_szRoute (left : Int) (n : Nat) (m : Nat) (l : List (List Int)) (ro : List Int) (K : V → List Blk → Prop) : VC_laws_szRoute left n m l ro K = vbody Try.prog (vin Try.prog TRA_4 annTRA 3) TRA_4.looks (annTRA 15) 15 [.agg [.row 0 n, .row 1 m], .int .i64 left] [⟨.mat .i64 3 (l), 23, .amat⟩, ⟨.ints .i64 (ro), 3, .arg 1⟩] (K) := by kernel_rfl
theorem ok_laws_szRoute : OK Try.prog 15 F_laws_szRoute.spec := (vbody_ok (vin_ok TRA_4_ok annTRA 3) TRA_4_ok.looks _ _).ofFM fun args m p R h hp => by
  unfold F_laws_szRoute at h
  split at h
  · injection h with h; injection h with h1 h2; subst h1; subst h2
    exact (congrArg At (eq_laws_szRoute _ _ _ _ _ _)).mp ⟨vc_laws_szRoute _ _ _ _ _ hp⟩
  · cases h
def TRA_5 : Tab := TRA_4.add 15 F_laws_szRoute
theorem TRA_5_ok : TRA_5.Ok Try.prog := TRA_4_ok.add ok_laws_szRoute
theorem eq_laws_toIntS  (n : Nat) (a : List Int) (e : TypeId) (k : Kind) (K : V → List Blk → Prop) : VC_laws_toIntS  n a e k K = vbody Try.prog (vin Try.prog TRA_5 annTRA 3) TRA_5.looks (annTRA 49) 49 [.row 0 n] [⟨.ints .i64 a, e, k⟩] (K) := by kernel_rfl
theorem ok_laws_toIntS : OK Try.prog 49 F_laws_toIntS.spec := (vbody_ok (vin_ok TRA_5_ok annTRA 3) TRA_5_ok.looks _ _).ofG fun args m p R M h hp => by
  unfold F_laws_toIntS at h
  split at h
  · injection h with h; injection h with h1 h2; injection h2 with h2 h3; subst h1; subst h2; subst h3
    exact (congrArg At (eq_laws_toIntS _ _ _ _ _)).mp ⟨vc_laws_toIntS _ _ _ _ hp⟩
  · cases h
def TRA_6 : Tab := TRA_5.addG 49 F_laws_toIntS
theorem TRA_6_ok : TRA_6.Ok Try.prog := TRA_5_ok.addG ok_laws_toIntS
theorem eq_laws_toIntSS  (n : Nat) (l : List (List Int)) (K : V → List Blk → Prop) : VC_laws_toIntSS  n l K = vbody Try.prog (vin Try.prog TRA_6 annTRA 3) TRA_6.looks (annTRA 54) 54 [.row 0 n] [⟨.mat .i64 3 (l), 23, .amat⟩] (K) := by kernel_rfl
theorem ok_laws_toIntSS : OK Try.prog 54 F_laws_toIntSS.spec := (vbody_ok (vin_ok TRA_6_ok annTRA 3) TRA_6_ok.looks _ _).ofG fun args m p R M h hp => by
  unfold F_laws_toIntSS at h
  split at h
  · injection h with h; injection h with h1 h2; injection h2 with h2 h3; subst h1; subst h2; subst h3
    exact (congrArg At (eq_laws_toIntSS _ _ _)).mp ⟨vc_laws_toIntSS _ _ hp⟩
  · cases h
def TRA_7 : Tab := TRA_6.addG 54 F_laws_toIntSS
theorem TRA_7_ok : TRA_7.Ok Try.prog := TRA_6_ok.addG ok_laws_toIntSS
theorem eq_laws_toRoute  (n : Nat) (m : Nat) (l : List (List Int)) (ro : List Int) (K : V → List Blk → Prop) : VC_laws_toRoute  n m l ro K = vbody Try.prog (vin Try.prog TRA_7 annTRA 3) TRA_7.looks (annTRA 17) 17 [.agg [.row 0 n, .row 1 m]] [⟨.mat .i64 3 (l), 23, .amat⟩, ⟨.ints .i64 (ro), 3, .arg 1⟩] (K) := by kernel_rfl
theorem ok_laws_toRoute : OK Try.prog 17 F_laws_toRoute.spec := (vbody_ok (vin_ok TRA_7_ok annTRA 3) TRA_7_ok.looks _ _).ofG fun args m p R M h hp => by
  unfold F_laws_toRoute at h
  split at h
  · injection h with h; injection h with h1 h2; injection h2 with h2 h3; subst h1; subst h2; subst h3
    exact (congrArg At (eq_laws_toRoute _ _ _ _ _)).mp ⟨vc_laws_toRoute _ _ _ _ hp⟩
  · cases h
def TRA_8 : Tab := TRA_7.addG 17 F_laws_toRoute
theorem TRA_8_ok : TRA_8.Ok Try.prog := TRA_7_ok.addG ok_laws_toRoute
theorem eq_laws_eqIntS  (n : Nat) (m : Nat) (a : List Int) (b : List Int) (e : TypeId) (k : Kind) (f : TypeId) (q : Kind) (K : V → List Blk → Prop) : VC_laws_eqIntS  n m a b e k f q K = vbody Try.prog (vin Try.prog TRA_8 annTRA 3) TRA_8.looks (annTRA 32) 32 [.row 0 n, .row 1 m] [⟨.ints .i64 a, e, k⟩, ⟨.ints .i64 b, f, q⟩] (K) := by kernel_rfl
theorem ok_laws_eqIntS : OK Try.prog 32 F_laws_eqIntS.spec := (vbody_ok (vin_ok TRA_8_ok annTRA 3) TRA_8_ok.looks _ _).ofFM fun args m p R h hp => by
  unfold F_laws_eqIntS at h
  split at h
  · injection h with h; injection h with h1 h2; subst h1; subst h2
    exact (congrArg At (eq_laws_eqIntS _ _ _ _ _ _ _ _ _)).mp ⟨vc_laws_eqIntS _ _ _ _ _ _ _ _ hp⟩
  · cases h
def TRA_9 : Tab := TRA_8.add 32 F_laws_eqIntS
theorem TRA_9_ok : TRA_9.Ok Try.prog := TRA_8_ok.add ok_laws_eqIntS
theorem eq_laws_eqIntSS  (n : Nat) (m : Nat) (l : List (List Int)) (j : List (List Int)) (K : V → List Blk → Prop) : VC_laws_eqIntSS  n m l j K = vbody Try.prog (vin Try.prog TRA_9 annTRA 3) TRA_9.looks (annTRA 39) 39 [.row 0 n, .row 1 m] [⟨.mat .i64 3 (l), 23, .mat⟩, ⟨.mat .i64 3 (j), 23, .mat⟩] (K) := by kernel_rfl
theorem ok_laws_eqIntSS : OK Try.prog 39 F_laws_eqIntSS.spec := (vbody_ok (vin_ok TRA_9_ok annTRA 3) TRA_9_ok.looks _ _).ofFM fun args m p R h hp => by
  unfold F_laws_eqIntSS at h
  split at h
  · injection h with h; injection h with h1 h2; subst h1; subst h2
    exact (congrArg At (eq_laws_eqIntSS _ _ _ _ _)).mp ⟨vc_laws_eqIntSS _ _ _ _ hp⟩
  · cases h
def TRA_10 : Tab := TRA_9.add 39 F_laws_eqIntSS
theorem TRA_10_ok : TRA_10.Ok Try.prog := TRA_9_ok.add ok_laws_eqIntSS
theorem eq_laws_eqRoute  (n : Nat) (m : Nat) (l : List (List Int)) (ro : List Int) (u : Nat) (v : Nat) (j : List (List Int)) (so : List Int) (K : V → List Blk → Prop) : VC_laws_eqRoute  n m l ro u v j so K = vbody Try.prog (vin Try.prog TRA_10 annTRA 3) TRA_10.looks (annTRA 19) 19 [.agg [.row 0 n, .row 1 m], .agg [.row 2 u, .row 3 v]] [⟨.mat .i64 3 (l), 23, .mat⟩, ⟨.ints .i64 (ro), 3, .row⟩, ⟨.mat .i64 3 (j), 23, .mat⟩, ⟨.ints .i64 (so), 3, .row⟩] (K) := by kernel_rfl
theorem ok_laws_eqRoute : OK Try.prog 19 F_laws_eqRoute.spec := (vbody_ok (vin_ok TRA_10_ok annTRA 3) TRA_10_ok.looks _ _).ofFM fun args m p R h hp => by
  unfold F_laws_eqRoute at h
  split at h
  · injection h with h; injection h with h1 h2; subst h1; subst h2
    exact (congrArg At (eq_laws_eqRoute _ _ _ _ _ _ _ _ _)).mp ⟨vc_laws_eqRoute _ _ _ _ _ _ _ _ hp⟩
  · cases h
def TRA_11 : Tab := TRA_10.add 19 F_laws_eqRoute
theorem TRA_11_ok : TRA_11.Ok Try.prog := TRA_10_ok.add ok_laws_eqRoute
theorem eq_spec_l1All (lo : Int) (hi : Int) (n : Nat) (a : List Int) (e : TypeId) (k : Kind) (K : V → List Blk → Prop) : VC_spec_l1All lo hi n a e k K = vbody Try.prog (vin Try.prog TRA_11 annTRA 3) TRA_11.looks (annTRA 71) 71 [.row 0 n, .int .i64 lo, .int .i64 hi] [⟨.ints .i64 a, e, k⟩] (K) := by kernel_rfl
theorem ok_spec_l1All : OK Try.prog 71 F_spec_l1All.spec := (vbody_ok (vin_ok TRA_11_ok annTRA 3) TRA_11_ok.looks _ _).ofFM fun args m p R h hp => by
  unfold F_spec_l1All at h
  split at h
  · injection h with h; injection h with h1 h2; subst h1; subst h2
    exact (congrArg At (eq_spec_l1All _ _ _ _ _ _ _)).mp ⟨vc_spec_l1All _ _ _ _ _ _ hp⟩
  · cases h
def TRA_12 : Tab := TRA_11.add 71 F_spec_l1All
theorem TRA_12_ok : TRA_12.Ok Try.prog := TRA_11_ok.add ok_spec_l1All
theorem eq_spec_roGood  (n : Nat) (m : Nat) (l : List (List Int)) (ro : List Int) (K : V → List Blk → Prop) : VC_spec_roGood  n m l ro K = vbody Try.prog (vin Try.prog TRA_12 annTRA 3) TRA_12.looks (annTRA 53) 53 [.agg [.row 0 n, .row 1 m]] [⟨.mat .i64 3 (l), 23, .mat⟩, ⟨.ints .i64 (ro), 3, .row⟩] (K) := by kernel_rfl
theorem ok_spec_roGood : OK Try.prog 53 F_spec_roGood.spec := (vbody_ok (vin_ok TRA_12_ok annTRA 3) TRA_12_ok.looks _ _).ofFM fun args m p R h hp => by
  unfold F_spec_roGood at h
  split at h
  · injection h with h; injection h with h1 h2; subst h1; subst h2
    exact (congrArg At (eq_spec_roGood _ _ _ _ _)).mp ⟨vc_spec_roGood _ _ _ _ hp⟩
  · cases h
def TRA_13 : Tab := TRA_12.add 53 F_spec_roGood
theorem TRA_13_ok : TRA_13.Ok Try.prog := TRA_12_ok.add ok_spec_roGood
theorem eq_impl_isNode (node : Int) (n : Nat) (m : Nat) (l : List (List Int)) (ro : List Int) (K : V → List Blk → Prop) : VC_impl_isNode node n m l ro K = vbody Try.prog (vin Try.prog TRA_13 annTRA 3) TRA_13.looks (annTRA 56) 56 [.agg [.row 0 n, .row 1 m], .int .i64 node] [⟨.mat .i64 3 (l), 23, .mat⟩, ⟨.ints .i64 (ro), 3, .row⟩] (K) := by kernel_rfl
theorem ok_impl_isNode : OK Try.prog 56 F_impl_isNode.spec := (vbody_ok (vin_ok TRA_13_ok annTRA 3) TRA_13_ok.looks _ _).ofFM fun args m p R h hp => by
  unfold F_impl_isNode at h
  split at h
  · injection h with h; injection h with h1 h2; subst h1; subst h2
    exact (congrArg At (eq_impl_isNode _ _ _ _ _ _)).mp ⟨vc_impl_isNode _ _ _ _ _ hp⟩
  · cases h
def TRA_14 : Tab := TRA_13.add 56 F_impl_isNode
theorem TRA_14_ok : TRA_14.Ok Try.prog := TRA_13_ok.add ok_impl_isNode
theorem eq_impl_IsRoute  (n : Nat) (m : Nat) (l : List (List Int)) (ro : List Int) (K : V → List Blk → Prop) : VC_impl_IsRoute  n m l ro K = vbody Try.prog (vin Try.prog TRA_14 annTRA 3) TRA_14.looks (annTRA 18) 18 [.agg [.row 0 n, .row 1 m]] [⟨.mat .i64 3 (l), 23, .mat⟩, ⟨.ints .i64 (ro), 3, .row⟩] (K) := by kernel_rfl
theorem ok_impl_IsRoute : OK Try.prog 18 F_impl_IsRoute.spec := (vbody_ok (vin_ok TRA_14_ok annTRA 3) TRA_14_ok.looks _ _).ofFM fun args m p R h hp => by
  unfold F_impl_IsRoute at h
  split at h
  · injection h with h; injection h with h1 h2; subst h1; subst h2
    exact (congrArg At (eq_impl_IsRoute _ _ _ _ _)).mp ⟨vc_impl_IsRoute _ _ _ _ hp⟩
  · cases h
def TRA_15 : Tab := TRA_14.add 18 F_impl_IsRoute
theorem TRA_15_ok : TRA_15.Ok Try.prog := TRA_14_ok.add ok_impl_IsRoute
def TRA : Tab := TRA_15
theorem TRA_ok : TRA.Ok Try.prog := TRA_15_ok
end Go.Proofs.Ytdeppknmibhokaa
