/- The contracts of this chapter. -/
import Derived.Test.YtopolpgligoldabProg
import Derived.Test.YtopolpgligoldabRDPf
import Derived.KernelRfl
namespace Go.Proofs.Ytopolpgligoldab
open Go Go.Vi
set_option linter.unusedVariables false
def annTRD : FuncId → Nat → St → Option Ann := fun f => if f = 40 then ann_laws_szIntSS else if f = 46 then ann_laws_toIntS else if f = 45 then ann_laws_toIntSS else if f = 27 then ann_laws_eqIntS else if f = 37 then ann_laws_eqIntSS else if f = 59 then ann_spec_l1All else if f = 54 then ann_spec_roGood else if f = 56 then ann_impl_IsRoute else if f = 28 then ann_laws_markIntS else if f = 38 then ann_laws_markIntSS else if f = 29 then ann_laws_heldIntS else if f = 39 then ann_laws_heldIntSS else if f = 43 then ann_spec_roOwn else if f = 51 then ann_impl_walk_routeNow else if f = 23 then ann_spec_WalkAfter else if f = 24 then ann_impl_WalkAfter else if f = 52 then ann_spec_roTrack else if f = 26 then ann_impl_TrackOfWalk else if f = 30 then ann_spec_VisitsOfWalk else if f = 31 then ann_impl_VisitsOfWalk else (fun _ _ => none)
def TRD_0 : Tab := Tab.none
theorem TRD_0_ok : TRD_0.Ok Try.prog := Tab.none_ok
theorem eq_spec_l1In (n : Int) (lo : Int) (hi : Int) (K : V → Prop) : VC_spec_l1In n lo hi K = vbody Try.prog (vin Try.prog TRD_0 annTRD 3) TRD_0.looks (annTRD 35) 35 [.int .i64 n, .int .i64 lo, .int .i64 hi] [] (fun v _ => K v) := by kernel_rfl
theorem ok_spec_l1In : OK Try.prog 35 F_spec_l1In.spec := (vbody_ok (vin_ok TRD_0_ok annTRD 3) TRD_0_ok.looks _ _).ofF fun args m p R h hp => by
  unfold F_spec_l1In at h
  split at h
  · injection h with h; injection h with h1 h2; subst h1; subst h2
    exact ⟨rfl, (congrArg At (eq_spec_l1In _ _ _ _)).mp ⟨vc_spec_l1In _ _ _ hp⟩⟩
  · cases h
def TRD_1 : Tab := TRD_0.add 35 F_spec_l1In
theorem TRD_1_ok : TRD_1.Ok Try.prog := TRD_0_ok.add ok_spec_l1In
theorem eq_impl_within (n : Int) (lo : Int) (hi : Int) (K : V → Prop) : VC_impl_within n lo hi K = vbody Try.prog (vin Try.prog TRD_1 annTRD 3) TRD_1.looks (annTRD 36) 36 [.int .i64 n, .int .i64 lo, .int .i64 hi] [] (fun v _ => K v) := by kernel_rfl
theorem ok_impl_within : OK Try.prog 36 F_impl_within.spec := (vbody_ok (vin_ok TRD_1_ok annTRD 3) TRD_1_ok.looks _ _).ofF fun args m p R h hp => by
  unfold F_impl_within at h
  split at h
  · injection h with h; injection h with h1 h2; subst h1; subst h2
    exact ⟨rfl, (congrArg At (eq_impl_within _ _ _ _)).mp ⟨vc_impl_within _ _ _ hp⟩⟩
  · cases h
def TRD_2 : Tab := TRD_1.add 36 F_impl_within
theorem TRD_2_ok : TRD_2.Ok Try.prog := TRD_1_ok.add ok_impl_within
theorem eq_laws_szIntS (left : Int) (n : Nat) (a : List Int) (e : TypeId) (k : Kind) (K : V → List Blk → Prop) : VC_laws_szIntS left n a e k K = vbody Try.prog (vin Try.prog TRD_2 annTRD 3) TRD_2.looks (annTRD 41) 41 [.row 0 n, .int .i64 left] [⟨.ints .i64 a, e, k⟩] (K) := by kernel_rfl
theorem ok_laws_szIntS : OK Try.prog 41 F_laws_szIntS.spec := (vbody_ok (vin_ok TRD_2_ok annTRD 3) TRD_2_ok.looks _ _).ofFM fun args m p R h hp => by
  unfold F_laws_szIntS at h
  split at h
  · injection h with h; injection h with h1 h2; subst h1; subst h2
    exact (congrArg At (eq_laws_szIntS _ _ _ _ _ _)).mp ⟨vc_laws_szIntS _ _ _ _ _ hp⟩
  · cases h
def TRD_3 : Tab := TRD_2.add 41 F_laws_szIntS
theorem TRD_3_ok : TRD_3.Ok Try.prog := TRD_2_ok.add ok_laws_szIntS
theorem eq_laws_szIntSS (left : Int) (n : Nat) (l : List (List Int)) (K : V → List Blk → Prop) : VC_laws_szIntSS left n l K = vbody Try.prog (vin Try.prog TRD_3 annTRD 3) TRD_3.looks (annTRD 40) 40 [.row 0 n, .int .i64 left] [⟨.mat .i64 3 (l), 26, .amat⟩] (K) := by kernel_rfl
theorem ok_laws_szIntSS : OK Try.prog 40 F_laws_szIntSS.spec := (vbody_ok (vin_ok TRD_3_ok annTRD 3) TRD_3_ok.looks _ _).ofFM fun args m p R h hp => by
  unfold F_laws_szIntSS at h
  split at h
  · injection h with h; injection h with h1 h2; subst h1; subst h2
    exact (congrArg At (eq_laws_szIntSS _ _ _ _)).mp ⟨vc_laws_szIntSS _ _ _ hp⟩
  · cases h
def TRD_4 : Tab := TRD_3.add 40 F_laws_szIntSS
theorem TRD_4_ok : TRD_4.Ok Try.prog := TRD_3_ok.add ok_laws_szIntSS
theorem eq_laws_szRoute (left : Int) (n : Nat) (m : Nat) (l : List (List Int)) (ro : List Int) (K : V → List Blk → Prop) : VC_laws_szRoute left n m l ro K = vbody Try.prog (vin Try.prog TRD_4 annTRD 3) TRD_4.looks (annTRD 19) 19 [.agg [.row 0 n, .row 1 m], .int .i64 left] [⟨.mat .i64 3 (l), 26, .amat⟩, ⟨.ints .i64 (ro), 3, .arg 1⟩] (K) := by kernel_rfl
theorem ok_laws_szRoute : OK Try.prog 19 F_laws_szRoute.spec := (vbody_ok (vin_ok TRD_4_ok annTRD 3) TRD_4_ok.looks _ _).ofFM fun args m p R h hp => by
  unfold F_laws_szRoute at h
  split at h
  · injection h with h; injection h with h1 h2; subst h1; subst h2
    exact (congrArg At (eq_laws_szRoute _ _ _ _ _ _)).mp ⟨vc_laws_szRoute _ _ _ _ _ hp⟩
  · cases h
def TRD_5 : Tab := TRD_4.add 19 F_laws_szRoute
theorem TRD_5_ok : TRD_5.Ok Try.prog := TRD_4_ok.add ok_laws_szRoute
theorem eq_laws_toIntS  (n : Nat) (a : List Int) (e : TypeId) (k : Kind) (K : V → List Blk → Prop) : VC_laws_toIntS  n a e k K = vbody Try.prog (vin Try.prog TRD_5 annTRD 3) TRD_5.looks (annTRD 46) 46 [.row 0 n] [⟨.ints .i64 a, e, k⟩] (K) := by kernel_rfl
theorem ok_laws_toIntS : OK Try.prog 46 F_laws_toIntS.spec := (vbody_ok (vin_ok TRD_5_ok annTRD 3) TRD_5_ok.looks _ _).ofG fun args m p R M h hp => by
  unfold F_laws_toIntS at h
  split at h
  · injection h with h; injection h with h1 h2; injection h2 with h2 h3; subst h1; subst h2; subst h3
    exact (congrArg At (eq_laws_toIntS _ _ _ _ _)).mp ⟨vc_laws_toIntS _ _ _ _ hp⟩
  · cases h
def TRD_6 : Tab := TRD_5.addG 46 F_laws_toIntS
theorem TRD_6_ok : TRD_6.Ok Try.prog := TRD_5_ok.addG ok_laws_toIntS
theorem eq_laws_toIntSS  (n : Nat) (l : List (List Int)) (K : V → List Blk → Prop) : VC_laws_toIntSS  n l K = vbody Try.prog (vin Try.prog TRD_6 annTRD 3) TRD_6.looks (annTRD 45) 45 [.row 0 n] [⟨.mat .i64 3 (l), 26, .amat⟩] (K) := by kernel_rfl
theorem ok_laws_toIntSS : OK Try.prog 45 F_laws_toIntSS.spec := (vbody_ok (vin_ok TRD_6_ok annTRD 3) TRD_6_ok.looks _ _).ofG fun args m p R M h hp => by
  unfold F_laws_toIntSS at h
  split at h
  · injection h with h; injection h with h1 h2; injection h2 with h2 h3; subst h1; subst h2; subst h3
    exact (congrArg At (eq_laws_toIntSS _ _ _)).mp ⟨vc_laws_toIntSS _ _ hp⟩
  · cases h
def TRD_7 : Tab := TRD_6.addG 45 F_laws_toIntSS
theorem TRD_7_ok : TRD_7.Ok Try.prog := TRD_6_ok.addG ok_laws_toIntSS
theorem eq_laws_toRoute  (n : Nat) (m : Nat) (l : List (List Int)) (ro : List Int) (K : V → List Blk → Prop) : VC_laws_toRoute  n m l ro K = vbody Try.prog (vin Try.prog TRD_7 annTRD 3) TRD_7.looks (annTRD 21) 21 [.agg [.row 0 n, .row 1 m]] [⟨.mat .i64 3 (l), 26, .amat⟩, ⟨.ints .i64 (ro), 3, .arg 1⟩] (K) := by kernel_rfl
theorem ok_laws_toRoute : OK Try.prog 21 F_laws_toRoute.spec := (vbody_ok (vin_ok TRD_7_ok annTRD 3) TRD_7_ok.looks _ _).ofG fun args m p R M h hp => by
  unfold F_laws_toRoute at h
  split at h
  · injection h with h; injection h with h1 h2; injection h2 with h2 h3; subst h1; subst h2; subst h3
    exact (congrArg At (eq_laws_toRoute _ _ _ _ _)).mp ⟨vc_laws_toRoute _ _ _ _ hp⟩
  · cases h
def TRD_8 : Tab := TRD_7.addG 21 F_laws_toRoute
theorem TRD_8_ok : TRD_8.Ok Try.prog := TRD_7_ok.addG ok_laws_toRoute
theorem eq_laws_eqIntS  (n : Nat) (m : Nat) (a : List Int) (b : List Int) (e : TypeId) (k : Kind) (f : TypeId) (q : Kind) (K : V → List Blk → Prop) : VC_laws_eqIntS  n m a b e k f q K = vbody Try.prog (vin Try.prog TRD_8 annTRD 3) TRD_8.looks (annTRD 27) 27 [.row 0 n, .row 1 m] [⟨.ints .i64 a, e, k⟩, ⟨.ints .i64 b, f, q⟩] (K) := by kernel_rfl
theorem ok_laws_eqIntS : OK Try.prog 27 F_laws_eqIntS.spec := (vbody_ok (vin_ok TRD_8_ok annTRD 3) TRD_8_ok.looks _ _).ofFM fun args m p R h hp => by
  unfold F_laws_eqIntS at h
  split at h
  · injection h with h; injection h with h1 h2; subst h1; subst h2
    exact (congrArg At (eq_laws_eqIntS _ _ _ _ _ _ _ _ _)).mp ⟨vc_laws_eqIntS _ _ _ _ _ _ _ _ hp⟩
  · cases h
def TRD_9 : Tab := TRD_8.add 27 F_laws_eqIntS
theorem TRD_9_ok : TRD_9.Ok Try.prog := TRD_8_ok.add ok_laws_eqIntS
theorem eq_laws_eqIntSS  (n : Nat) (m : Nat) (l : List (List Int)) (j : List (List Int)) (K : V → List Blk → Prop) : VC_laws_eqIntSS  n m l j K = vbody Try.prog (vin Try.prog TRD_9 annTRD 3) TRD_9.looks (annTRD 37) 37 [.row 0 n, .row 1 m] [⟨.mat .i64 3 (l), 26, .mat⟩, ⟨.mat .i64 3 (j), 26, .mat⟩] (K) := by kernel_rfl
theorem ok_laws_eqIntSS : OK Try.prog 37 F_laws_eqIntSS.spec := (vbody_ok (vin_ok TRD_9_ok annTRD 3) TRD_9_ok.looks _ _).ofFM fun args m p R h hp => by
  unfold F_laws_eqIntSS at h
  split at h
  · injection h with h; injection h with h1 h2; subst h1; subst h2
    exact (congrArg At (eq_laws_eqIntSS _ _ _ _ _)).mp ⟨vc_laws_eqIntSS _ _ _ _ hp⟩
  · cases h
def TRD_10 : Tab := TRD_9.add 37 F_laws_eqIntSS
theorem TRD_10_ok : TRD_10.Ok Try.prog := TRD_9_ok.add ok_laws_eqIntSS
theorem eq_laws_eqRoute  (n : Nat) (m : Nat) (l : List (List Int)) (ro : List Int) (u : Nat) (v : Nat) (j : List (List Int)) (so : List Int) (K : V → List Blk → Prop) : VC_laws_eqRoute  n m l ro u v j so K = vbody Try.prog (vin Try.prog TRD_10 annTRD 3) TRD_10.looks (annTRD 16) 16 [.agg [.row 0 n, .row 1 m], .agg [.row 2 u, .row 3 v]] [⟨.mat .i64 3 (l), 26, .mat⟩, ⟨.ints .i64 (ro), 3, .row⟩, ⟨.mat .i64 3 (j), 26, .mat⟩, ⟨.ints .i64 (so), 3, .row⟩] (K) := by kernel_rfl
theorem ok_laws_eqRoute : OK Try.prog 16 F_laws_eqRoute.spec := (vbody_ok (vin_ok TRD_10_ok annTRD 3) TRD_10_ok.looks _ _).ofFM fun args m p R h hp => by
  unfold F_laws_eqRoute at h
  split at h
  · injection h with h; injection h with h1 h2; subst h1; subst h2
    exact (congrArg At (eq_laws_eqRoute _ _ _ _ _ _ _ _ _)).mp ⟨vc_laws_eqRoute _ _ _ _ _ _ _ _ hp⟩
  · cases h
def TRD_11 : Tab := TRD_10.add 16 F_laws_eqRoute
theorem TRD_11_ok : TRD_11.Ok Try.prog := TRD_10_ok.add ok_laws_eqRoute
theorem eq_spec_l1All (lo : Int) (hi : Int) (n : Nat) (a : List Int) (e : TypeId) (k : Kind) (K : V → List Blk → Prop) : VC_spec_l1All lo hi n a e k K = vbody Try.prog (vin Try.prog TRD_11 annTRD 3) TRD_11.looks (annTRD 59) 59 [.row 0 n, .int .i64 lo, .int .i64 hi] [⟨.ints .i64 a, e, k⟩] (K) := by kernel_rfl
theorem ok_spec_l1All : OK Try.prog 59 F_spec_l1All.spec := (vbody_ok (vin_ok TRD_11_ok annTRD 3) TRD_11_ok.looks _ _).ofFM fun args m p R h hp => by
  unfold F_spec_l1All at h
  split at h
  · injection h with h; injection h with h1 h2; subst h1; subst h2
    exact (congrArg At (eq_spec_l1All _ _ _ _ _ _ _)).mp ⟨vc_spec_l1All _ _ _ _ _ _ hp⟩
  · cases h
def TRD_12 : Tab := TRD_11.add 59 F_spec_l1All
theorem TRD_12_ok : TRD_12.Ok Try.prog := TRD_11_ok.add ok_spec_l1All
theorem eq_spec_roGood  (n : Nat) (m : Nat) (l : List (List Int)) (ro : List Int) (K : V → List Blk → Prop) : VC_spec_roGood  n m l ro K = vbody Try.prog (vin Try.prog TRD_12 annTRD 3) TRD_12.looks (annTRD 54) 54 [.agg [.row 0 n, .row 1 m]] [⟨.mat .i64 3 (l), 26, .mat⟩, ⟨.ints .i64 (ro), 3, .row⟩] (K) := by kernel_rfl
theorem ok_spec_roGood : OK Try.prog 54 F_spec_roGood.spec := (vbody_ok (vin_ok TRD_12_ok annTRD 3) TRD_12_ok.looks _ _).ofFM fun args m p R h hp => by
  unfold F_spec_roGood at h
  split at h
  · injection h with h; injection h with h1 h2; subst h1; subst h2
    exact (congrArg At (eq_spec_roGood _ _ _ _ _)).mp ⟨vc_spec_roGood _ _ _ _ hp⟩
  · cases h
def TRD_13 : Tab := TRD_12.add 54 F_spec_roGood
theorem TRD_13_ok : TRD_13.Ok Try.prog := TRD_12_ok.add ok_spec_roGood
theorem eq_impl_isNode (node : Int) (n : Nat) (m : Nat) (l : List (List Int)) (ro : List Int) (K : V → List Blk → Prop) : VC_impl_isNode node n m l ro K = vbody Try.prog (vin Try.prog TRD_13 annTRD 3) TRD_13.looks (annTRD 57) 57 [.agg [.row 0 n, .row 1 m], .int .i64 node] [⟨.mat .i64 3 (l), 26, .mat⟩, ⟨.ints .i64 (ro), 3, .row⟩] (K) := by kernel_rfl
theorem ok_impl_isNode : OK Try.prog 57 F_impl_isNode.spec := (vbody_ok (vin_ok TRD_13_ok annTRD 3) TRD_13_ok.looks _ _).ofFM fun args m p R h hp => by
  unfold F_impl_isNode at h
  split at h
  · injection h with h; injection h with h1 h2; subst h1; subst h2
    exact (congrArg At (eq_impl_isNode _ _ _ _ _ _)).mp ⟨vc_impl_isNode _ _ _ _ _ hp⟩
  · cases h
def TRD_14 : Tab := TRD_13.add 57 F_impl_isNode
theorem TRD_14_ok : TRD_14.Ok Try.prog := TRD_13_ok.add ok_impl_isNode
theorem eq_impl_IsRoute  (n : Nat) (m : Nat) (l : List (List Int)) (ro : List Int) (K : V → List Blk → Prop) : VC_impl_IsRoute  n m l ro K = vbody Try.prog (vin Try.prog TRD_14 annTRD 3) TRD_14.looks (annTRD 56) 56 [.agg [.row 0 n, .row 1 m]] [⟨.mat .i64 3 (l), 26, .mat⟩, ⟨.ints .i64 (ro), 3, .row⟩] (K) := by kernel_rfl
theorem ok_impl_IsRoute : OK Try.prog 56 F_impl_IsRoute.spec := (vbody_ok (vin_ok TRD_14_ok annTRD 3) TRD_14_ok.looks _ _).ofFM fun args m p R h hp => by
  unfold F_impl_IsRoute at h
  split at h
  · injection h with h; injection h with h1 h2; subst h1; subst h2
    exact (congrArg At (eq_impl_IsRoute _ _ _ _ _)).mp ⟨vc_impl_IsRoute _ _ _ _ hp⟩
  · cases h
def TRD_15 : Tab := TRD_14.add 56 F_impl_IsRoute
theorem TRD_15_ok : TRD_15.Ok Try.prog := TRD_14_ok.add ok_impl_IsRoute
theorem eq_laws_markIntS (k : Int) (n : Nat) (a : List Int) (K : V → List Blk → Prop) : VC_laws_markIntS k n a K = vbody Try.prog (vin Try.prog TRD_15 annTRD 3) TRD_15.looks (annTRD 28) 28 [.row 0 n, .int .i64 k] [⟨.ints .i64 (a), 3, .row⟩] (K) := by kernel_rfl
theorem ok_laws_markIntS : OK Try.prog 28 F_laws_markIntS.spec := (vbody_ok (vin_ok TRD_15_ok annTRD 3) TRD_15_ok.looks _ _).ofG fun args m p R M h hp => by
  unfold F_laws_markIntS at h
  split at h
  · injection h with h; injection h with h1 h2; injection h2 with h2 h3; subst h1; subst h2; subst h3
    exact (congrArg At (eq_laws_markIntS _ _ _ _)).mp ⟨vc_laws_markIntS _ _ _ hp⟩
  · cases h
def TRD_16 : Tab := TRD_15.addG 28 F_laws_markIntS
theorem TRD_16_ok : TRD_16.Ok Try.prog := TRD_15_ok.addG ok_laws_markIntS
theorem eq_laws_markIntSS (k : Int) (n : Nat) (l : List (List Int)) (K : V → List Blk → Prop) : VC_laws_markIntSS k n l K = vbody Try.prog (vin Try.prog TRD_16 annTRD 3) TRD_16.looks (annTRD 38) 38 [.row 0 n, .int .i64 k] [⟨.mat .i64 3 (l), 26, .mat⟩] (K) := by kernel_rfl
theorem ok_laws_markIntSS : OK Try.prog 38 F_laws_markIntSS.spec := (vbody_ok (vin_ok TRD_16_ok annTRD 3) TRD_16_ok.looks _ _).ofG fun args m p R M h hp => by
  unfold F_laws_markIntSS at h
  split at h
  · injection h with h; injection h with h1 h2; injection h2 with h2 h3; subst h1; subst h2; subst h3
    exact (congrArg At (eq_laws_markIntSS _ _ _ _)).mp ⟨vc_laws_markIntSS _ _ _ hp⟩
  · cases h
def TRD_17 : Tab := TRD_16.addG 38 F_laws_markIntSS
theorem TRD_17_ok : TRD_17.Ok Try.prog := TRD_16_ok.addG ok_laws_markIntSS
theorem eq_laws_markRoute (k : Int) (n : Nat) (m : Nat) (l : List (List Int)) (ro : List Int) (K : V → List Blk → Prop) : VC_laws_markRoute k n m l ro K = vbody Try.prog (vin Try.prog TRD_17 annTRD 3) TRD_17.looks (annTRD 17) 17 [.agg [.row 0 n, .row 1 m], .int .i64 k] [⟨.mat .i64 3 (l), 26, .mat⟩, ⟨.ints .i64 (ro), 3, .row⟩] (K) := by kernel_rfl
theorem ok_laws_markRoute : OK Try.prog 17 F_laws_markRoute.spec := (vbody_ok (vin_ok TRD_17_ok annTRD 3) TRD_17_ok.looks _ _).ofG fun args m p R M h hp => by
  unfold F_laws_markRoute at h
  split at h
  · injection h with h; injection h with h1 h2; injection h2 with h2 h3; subst h1; subst h2; subst h3
    exact (congrArg At (eq_laws_markRoute _ _ _ _ _ _)).mp ⟨vc_laws_markRoute _ _ _ _ _ hp⟩
  · cases h
def TRD_18 : Tab := TRD_17.addG 17 F_laws_markRoute
theorem TRD_18_ok : TRD_18.Ok Try.prog := TRD_17_ok.addG ok_laws_markRoute
theorem eq_laws_heldIntS (q : Int) (n : Nat) (a : List Int) (e : TypeId) (k : Kind) (K : V → List Blk → Prop) : VC_laws_heldIntS q n a e k K = vbody Try.prog (vin Try.prog TRD_18 annTRD 3) TRD_18.looks (annTRD 29) 29 [.row 0 n, .int .i64 q] [⟨.ints .i64 a, e, k⟩] (K) := by kernel_rfl
theorem ok_laws_heldIntS : OK Try.prog 29 F_laws_heldIntS.spec := (vbody_ok (vin_ok TRD_18_ok annTRD 3) TRD_18_ok.looks _ _).ofFM fun args m p R h hp => by
  unfold F_laws_heldIntS at h
  split at h
  · injection h with h; injection h with h1 h2; subst h1; subst h2
    exact (congrArg At (eq_laws_heldIntS _ _ _ _ _ _)).mp ⟨vc_laws_heldIntS _ _ _ _ _ hp⟩
  · cases h
def TRD_19 : Tab := TRD_18.add 29 F_laws_heldIntS
theorem TRD_19_ok : TRD_19.Ok Try.prog := TRD_18_ok.add ok_laws_heldIntS
theorem eq_laws_heldIntSS (q : Int) (n : Nat) (l : List (List Int)) (K : V → List Blk → Prop) : VC_laws_heldIntSS q n l K = vbody Try.prog (vin Try.prog TRD_19 annTRD 3) TRD_19.looks (annTRD 39) 39 [.row 0 n, .int .i64 q] [⟨.mat .i64 3 (l), 26, .mat⟩] (K) := by kernel_rfl
theorem ok_laws_heldIntSS : OK Try.prog 39 F_laws_heldIntSS.spec := (vbody_ok (vin_ok TRD_19_ok annTRD 3) TRD_19_ok.looks _ _).ofFM fun args m p R h hp => by
  unfold F_laws_heldIntSS at h
  split at h
  · injection h with h; injection h with h1 h2; subst h1; subst h2
    exact (congrArg At (eq_laws_heldIntSS _ _ _ _)).mp ⟨vc_laws_heldIntSS _ _ _ hp⟩
  · cases h
def TRD_20 : Tab := TRD_19.add 39 F_laws_heldIntSS
theorem TRD_20_ok : TRD_20.Ok Try.prog := TRD_19_ok.add ok_laws_heldIntSS
theorem eq_laws_heldRoute (q : Int) (n : Nat) (m : Nat) (l : List (List Int)) (ro : List Int) (K : V → List Blk → Prop) : VC_laws_heldRoute q n m l ro K = vbody Try.prog (vin Try.prog TRD_20 annTRD 3) TRD_20.looks (annTRD 18) 18 [.agg [.row 0 n, .row 1 m], .int .i64 q] [⟨.mat .i64 3 (l), 26, .mat⟩, ⟨.ints .i64 (ro), 3, .row⟩] (K) := by kernel_rfl
theorem ok_laws_heldRoute : OK Try.prog 18 F_laws_heldRoute.spec := (vbody_ok (vin_ok TRD_20_ok annTRD 3) TRD_20_ok.looks _ _).ofFM fun args m p R h hp => by
  unfold F_laws_heldRoute at h
  split at h
  · injection h with h; injection h with h1 h2; subst h1; subst h2
    exact (congrArg At (eq_laws_heldRoute _ _ _ _ _ _)).mp ⟨vc_laws_heldRoute _ _ _ _ _ hp⟩
  · cases h
def TRD_21 : Tab := TRD_20.add 18 F_laws_heldRoute
theorem TRD_21_ok : TRD_21.Ok Try.prog := TRD_20_ok.add ok_laws_heldRoute
theorem eq_spec_roNode (x : Int) (n : Nat) (m : Nat) (l : List (List Int)) (ro : List Int) (K : V → List Blk → Prop) : VC_spec_roNode x n m l ro K = vbody Try.prog (vin Try.prog TRD_21 annTRD 3) TRD_21.looks (annTRD 42) 42 [.agg [.row 0 n, .row 1 m], .int .i64 x] [⟨.mat .i64 3 (l), 26, .mat⟩, ⟨.ints .i64 (ro), 3, .row⟩] (K) := by kernel_rfl
theorem ok_spec_roNode : OK Try.prog 42 F_spec_roNode.spec := (vbody_ok (vin_ok TRD_21_ok annTRD 3) TRD_21_ok.looks _ _).ofFM fun args m p R h hp => by
  unfold F_spec_roNode at h
  split at h
  · injection h with h; injection h with h1 h2; subst h1; subst h2
    exact (congrArg At (eq_spec_roNode _ _ _ _ _ _)).mp ⟨vc_spec_roNode _ _ _ _ _ hp⟩
  · cases h
def TRD_22 : Tab := TRD_21.add 42 F_spec_roNode
theorem TRD_22_ok : TRD_22.Ok Try.prog := TRD_21_ok.add ok_spec_roNode
theorem eq_spec_roWalk (x : Int) (steps : Int) (n : Nat) (m : Nat) (l : List (List Int)) (ro : List Int) (K : V → List Blk → Prop) : VC_spec_roWalk x steps n m l ro K = vbody Try.prog (vin Try.prog TRD_22 annTRD 3) TRD_22.looks (annTRD 47) 47 [.agg [.row 0 n, .row 1 m], .int .i64 x, .int .i64 steps] [⟨.mat .i64 3 (l), 26, .mat⟩, ⟨.ints .i64 (ro), 3, .row⟩] (K) := by kernel_rfl
theorem ok_spec_roWalk : OK Try.prog 47 F_spec_roWalk.spec := (vbody_ok (vin_ok TRD_22_ok annTRD 3) TRD_22_ok.looks _ _).ofFM fun args m p R h hp => by
  unfold F_spec_roWalk at h
  split at h
  · injection h with h; injection h with h1 h2; subst h1; subst h2
    exact (congrArg At (eq_spec_roWalk _ _ _ _ _ _ _)).mp ⟨vc_spec_roWalk _ _ _ _ _ _ hp⟩
  · cases h
def TRD_23 : Tab := TRD_22.add 47 F_spec_roWalk
theorem TRD_23_ok : TRD_23.Ok Try.prog := TRD_22_ok.add ok_spec_roWalk
theorem eq_impl_isWalk (steps : Int) (K : V → Prop) : VC_impl_isWalk steps K = vbody Try.prog (vin Try.prog TRD_23 annTRD 3) TRD_23.looks (annTRD 49) 49 [.int .i64 steps] [] (fun v _ => K v) := by kernel_rfl
theorem ok_impl_isWalk : OK Try.prog 49 F_impl_isWalk.spec := (vbody_ok (vin_ok TRD_23_ok annTRD 3) TRD_23_ok.looks _ _).ofF fun args m p R h hp => by
  unfold F_impl_isWalk at h
  split at h
  · injection h with h; injection h with h1 h2; subst h1; subst h2
    exact ⟨rfl, (congrArg At (eq_impl_isWalk _ _)).mp ⟨vc_impl_isWalk _ hp⟩⟩
  · cases h
def TRD_24 : Tab := TRD_23.add 49 F_impl_isWalk
theorem TRD_24_ok : TRD_24.Ok Try.prog := TRD_23_ok.add ok_impl_isWalk
theorem eq_spec_roOwn  (n : Nat) (m : Nat) (l : List (List Int)) (ro : List Int) (K : V → List Blk → Prop) : VC_spec_roOwn  n m l ro K = vbody Try.prog (vin Try.prog TRD_24 annTRD 3) TRD_24.looks (annTRD 43) 43 [.agg [.row 0 n, .row 1 m]] [⟨.mat .i64 3 (l), 26, .mat⟩, ⟨.ints .i64 (ro), 3, .row⟩] (K) := by kernel_rfl
theorem ok_spec_roOwn : OK Try.prog 43 F_spec_roOwn.spec := (vbody_ok (vin_ok TRD_24_ok annTRD 3) TRD_24_ok.looks _ _).ofG fun args m p R M h hp => by
  unfold F_spec_roOwn at h
  split at h
  · injection h with h; injection h with h1 h2; injection h2 with h2 h3; subst h1; subst h2; subst h3
    exact (congrArg At (eq_spec_roOwn _ _ _ _ _)).mp ⟨vc_spec_roOwn _ _ _ _ hp⟩
  · cases h
def TRD_25 : Tab := TRD_24.addG 43 F_spec_roOwn
theorem TRD_25_ok : TRD_25.Ok Try.prog := TRD_24_ok.addG ok_spec_roOwn
theorem eq_spec_roStep (x : Int) (n : Nat) (m : Nat) (l : List (List Int)) (ro : List Int) (K : V → List Blk → Prop) : VC_spec_roStep x n m l ro K = vbody Try.prog (vin Try.prog TRD_25 annTRD 3) TRD_25.looks (annTRD 44) 44 [.agg [.row 0 n, .row 1 m], .int .i64 x] [⟨.mat .i64 3 (l), 26, .mat⟩, ⟨.ints .i64 (ro), 3, .row⟩] (K) := by kernel_rfl
theorem ok_spec_roStep : OK Try.prog 44 F_spec_roStep.spec := (vbody_ok (vin_ok TRD_25_ok annTRD 3) TRD_25_ok.looks _ _).ofG fun args m p R M h hp => by
  unfold F_spec_roStep at h
  split at h
  · injection h with h; injection h with h1 h2; injection h2 with h2 h3; subst h1; subst h2; subst h3
    exact (congrArg At (eq_spec_roStep _ _ _ _ _ _)).mp ⟨vc_spec_roStep _ _ _ _ _ hp⟩
  · cases h
def TRD_26 : Tab := TRD_25.addG 44 F_spec_roStep
theorem TRD_26_ok : TRD_26.Ok Try.prog := TRD_25_ok.addG ok_spec_roStep
theorem eq_impl_walk_goOn  (n : Nat) (x : Int) (q : List Int) (l : List (List Int)) (K : V → List Blk → Prop) : VC_impl_walk_goOn  n x q l K = vbody Try.prog (vin Try.prog TRD_26 annTRD 3) TRD_26.looks (annTRD 50) 50 [.ptr 0 0] [⟨.mixi [.row 1 n, .int .i64 (x)] 10 (q) [], 64, .box⟩, ⟨.mat .i64 3 (l), 26, .mat⟩] (K) := by kernel_rfl
theorem ok_impl_walk_goOn : OK Try.prog 50 F_impl_walk_goOn.spec := (vbody_ok (vin_ok TRD_26_ok annTRD 3) TRD_26_ok.looks _ _).ofG fun args m p R M h hp => by
  unfold F_impl_walk_goOn at h
  split at h
  · injection h with h; injection h with h1 h2; injection h2 with h2 h3; subst h1; subst h2; subst h3
    exact (congrArg At (eq_impl_walk_goOn _ _ _ _ _)).mp ⟨vc_impl_walk_goOn _ _ _ _ hp⟩
  · cases h
def TRD_27 : Tab := TRD_26.addG 50 F_impl_walk_goOn
theorem TRD_27_ok : TRD_27.Ok Try.prog := TRD_26_ok.addG ok_impl_walk_goOn
theorem eq_impl_walk_routeNow  (n : Nat) (x : Int) (q : List Int) (l : List (List Int)) (K : V → List Blk → Prop) : VC_impl_walk_routeNow  n x q l K = vbody Try.prog (vin Try.prog TRD_27 annTRD 3) TRD_27.looks (annTRD 51) 51 [.ptr 0 0] [⟨.mixi [.row 1 n, .int .i64 (x)] 10 (q) [], 64, .box⟩, ⟨.mat .i64 3 (l), 26, .mat⟩] (K) := by kernel_rfl
theorem ok_impl_walk_routeNow : OK Try.prog 51 F_impl_walk_routeNow.spec := (vbody_ok (vin_ok TRD_27_ok annTRD 3) TRD_27_ok.looks _ _).ofG fun args m p R M h hp => by
  unfold F_impl_walk_routeNow at h
  split at h
  · injection h with h; injection h with h1 h2; injection h2 with h2 h3; subst h1; subst h2; subst h3
    exact (congrArg At (eq_impl_walk_routeNow _ _ _ _ _)).mp ⟨vc_impl_walk_routeNow _ _ _ _ hp⟩
  · cases h
def TRD_28 : Tab := TRD_27.addG 51 F_impl_walk_routeNow
theorem TRD_28_ok : TRD_28.Ok Try.prog := TRD_27_ok.addG ok_impl_walk_routeNow
theorem eq_spec_WalkAfter (x : Int) (steps : Int) (n : Nat) (m : Nat) (l : List (List Int)) (ro : List Int) (K : V → List Blk → Prop) : VC_spec_WalkAfter x steps n m l ro K = vbody Try.prog (vin Try.prog TRD_28 annTRD 3) TRD_28.looks (annTRD 23) 23 [.agg [.row 0 n, .row 1 m], .int .i64 x, .int .i64 steps] [⟨.mat .i64 3 (l), 26, .mat⟩, ⟨.ints .i64 (ro), 3, .row⟩] (K) := by kernel_rfl
theorem ok_spec_WalkAfter : OK Try.prog 23 F_spec_WalkAfter.spec := (vbody_ok (vin_ok TRD_28_ok annTRD 3) TRD_28_ok.looks _ _).ofG fun args m p R M h hp => by
  unfold F_spec_WalkAfter at h
  split at h
  · injection h with h; injection h with h1 h2; injection h2 with h2 h3; subst h1; subst h2; subst h3
    exact (congrArg At (eq_spec_WalkAfter _ _ _ _ _ _ _)).mp ⟨vc_spec_WalkAfter _ _ _ _ _ _ hp⟩
  · cases h
def TRD_29 : Tab := TRD_28.addG 23 F_spec_WalkAfter
theorem TRD_29_ok : TRD_29.Ok Try.prog := TRD_28_ok.addG ok_spec_WalkAfter
theorem eq_impl_WalkAfter (x : Int) (steps : Int) (n : Nat) (m : Nat) (l : List (List Int)) (ro : List Int) (K : V → List Blk → Prop) : VC_impl_WalkAfter x steps n m l ro K = vbody Try.prog (vin Try.prog TRD_29 annTRD 3) TRD_29.looks (annTRD 24) 24 [.agg [.row 0 n, .row 1 m], .int .i64 x, .int .i64 steps] [⟨.mat .i64 3 (l), 26, .mat⟩, ⟨.ints .i64 (ro), 3, .row⟩] (K) := by kernel_rfl
theorem ok_impl_WalkAfter : OK Try.prog 24 F_impl_WalkAfter.spec := (vbody_ok (vin_ok TRD_29_ok annTRD 3) TRD_29_ok.looks _ _).ofG fun args m p R M h hp => by
  unfold F_impl_WalkAfter at h
  split at h
  · injection h with h; injection h with h1 h2; injection h2 with h2 h3; subst h1; subst h2; subst h3
    exact (congrArg At (eq_impl_WalkAfter _ _ _ _ _ _ _)).mp ⟨vc_impl_WalkAfter _ _ _ _ _ _ hp⟩
  · cases h
def TRD_30 : Tab := TRD_29.addG 24 F_impl_WalkAfter
theorem TRD_30_ok : TRD_30.Ok Try.prog := TRD_29_ok.addG ok_impl_WalkAfter
theorem eq_spec_StepRoute (x : Int) (n : Nat) (m : Nat) (l : List (List Int)) (ro : List Int) (K : V → List Blk → Prop) : VC_spec_StepRoute x n m l ro K = vbody Try.prog (vin Try.prog TRD_30 annTRD 3) TRD_30.looks (annTRD 20) 20 [.agg [.row 0 n, .row 1 m], .int .i64 x] [⟨.mat .i64 3 (l), 26, .mat⟩, ⟨.ints .i64 (ro), 3, .row⟩] (K) := by kernel_rfl
theorem ok_spec_StepRoute : OK Try.prog 20 F_spec_StepRoute.spec := (vbody_ok (vin_ok TRD_30_ok annTRD 3) TRD_30_ok.looks _ _).ofG fun args m p R M h hp => by
  unfold F_spec_StepRoute at h
  split at h
  · injection h with h; injection h with h1 h2; injection h2 with h2 h3; subst h1; subst h2; subst h3
    exact (congrArg At (eq_spec_StepRoute _ _ _ _ _ _)).mp ⟨vc_spec_StepRoute _ _ _ _ _ hp⟩
  · cases h
def TRD_31 : Tab := TRD_30.addG 20 F_spec_StepRoute
theorem TRD_31_ok : TRD_31.Ok Try.prog := TRD_30_ok.addG ok_spec_StepRoute
theorem eq_impl_StepRoute (x : Int) (n : Nat) (m : Nat) (l : List (List Int)) (ro : List Int) (K : V → List Blk → Prop) : VC_impl_StepRoute x n m l ro K = vbody Try.prog (vin Try.prog TRD_31 annTRD 3) TRD_31.looks (annTRD 22) 22 [.agg [.row 0 n, .row 1 m], .int .i64 x] [⟨.mat .i64 3 (l), 26, .mat⟩, ⟨.ints .i64 (ro), 3, .row⟩] (K) := by kernel_rfl
theorem ok_impl_StepRoute : OK Try.prog 22 F_impl_StepRoute.spec := (vbody_ok (vin_ok TRD_31_ok annTRD 3) TRD_31_ok.looks _ _).ofG fun args m p R M h hp => by
  unfold F_impl_StepRoute at h
  split at h
  · injection h with h; injection h with h1 h2; injection h2 with h2 h3; subst h1; subst h2; subst h3
    exact (congrArg At (eq_impl_StepRoute _ _ _ _ _ _)).mp ⟨vc_impl_StepRoute _ _ _ _ _ hp⟩
  · cases h
def TRD_32 : Tab := TRD_31.addG 22 F_impl_StepRoute
theorem TRD_32_ok : TRD_32.Ok Try.prog := TRD_31_ok.addG ok_impl_StepRoute
theorem eq_spec_roTrack (x : Int) (steps : Int) (n : Nat) (m : Nat) (l : List (List Int)) (ro : List Int) (K : V → List Blk → Prop) : VC_spec_roTrack x steps n m l ro K = vbody Try.prog (vin Try.prog TRD_32 annTRD 3) TRD_32.looks (annTRD 52) 52 [.agg [.row 0 n, .row 1 m], .int .i64 x, .int .i64 steps] [⟨.mat .i64 3 (l), 26, .mat⟩, ⟨.ints .i64 (ro), 3, .row⟩] (K) := by kernel_rfl
theorem ok_spec_roTrack : OK Try.prog 52 F_spec_roTrack.spec := (vbody_ok (vin_ok TRD_32_ok annTRD 3) TRD_32_ok.looks _ _).ofG fun args m p R M h hp => by
  unfold F_spec_roTrack at h
  split at h
  · injection h with h; injection h with h1 h2; injection h2 with h2 h3; subst h1; subst h2; subst h3
    exact (congrArg At (eq_spec_roTrack _ _ _ _ _ _ _)).mp ⟨vc_spec_roTrack _ _ _ _ _ _ hp⟩
  · cases h
def TRD_33 : Tab := TRD_32.addG 52 F_spec_roTrack
theorem TRD_33_ok : TRD_33.Ok Try.prog := TRD_32_ok.addG ok_spec_roTrack
theorem eq_spec_TrackOfWalk (x : Int) (steps : Int) (n : Nat) (m : Nat) (l : List (List Int)) (ro : List Int) (K : V → List Blk → Prop) : VC_spec_TrackOfWalk x steps n m l ro K = vbody Try.prog (vin Try.prog TRD_33 annTRD 3) TRD_33.looks (annTRD 25) 25 [.agg [.row 0 n, .row 1 m], .int .i64 x, .int .i64 steps] [⟨.mat .i64 3 (l), 26, .mat⟩, ⟨.ints .i64 (ro), 3, .row⟩] (K) := by kernel_rfl
theorem ok_spec_TrackOfWalk : OK Try.prog 25 F_spec_TrackOfWalk.spec := (vbody_ok (vin_ok TRD_33_ok annTRD 3) TRD_33_ok.looks _ _).ofG fun args m p R M h hp => by
  unfold F_spec_TrackOfWalk at h
  split at h
  · injection h with h; injection h with h1 h2; injection h2 with h2 h3; subst h1; subst h2; subst h3
    exact (congrArg At (eq_spec_TrackOfWalk _ _ _ _ _ _ _)).mp ⟨vc_spec_TrackOfWalk _ _ _ _ _ _ hp⟩
  · cases h
def TRD_34 : Tab := TRD_33.addG 25 F_spec_TrackOfWalk
theorem TRD_34_ok : TRD_34.Ok Try.prog := TRD_33_ok.addG ok_spec_TrackOfWalk
theorem eq_impl_TrackOfWalk (x : Int) (steps : Int) (n : Nat) (m : Nat) (l : List (List Int)) (ro : List Int) (K : V → List Blk → Prop) : VC_impl_TrackOfWalk x steps n m l ro K = vbody Try.prog (vin Try.prog TRD_34 annTRD 3) TRD_34.looks (annTRD 26) 26 [.agg [.row 0 n, .row 1 m], .int .i64 x, .int .i64 steps] [⟨.mat .i64 3 (l), 26, .mat⟩, ⟨.ints .i64 (ro), 3, .row⟩] (K) := by kernel_rfl
theorem ok_impl_TrackOfWalk : OK Try.prog 26 F_impl_TrackOfWalk.spec := (vbody_ok (vin_ok TRD_34_ok annTRD 3) TRD_34_ok.looks _ _).ofG fun args m p R M h hp => by
  unfold F_impl_TrackOfWalk at h
  split at h
  · injection h with h; injection h with h1 h2; injection h2 with h2 h3; subst h1; subst h2; subst h3
    exact (congrArg At (eq_impl_TrackOfWalk _ _ _ _ _ _ _)).mp ⟨vc_impl_TrackOfWalk _ _ _ _ _ _ hp⟩
  · cases h
def TRD_35 : Tab := TRD_34.addG 26 F_impl_TrackOfWalk
theorem TRD_35_ok : TRD_35.Ok Try.prog := TRD_34_ok.addG ok_impl_TrackOfWalk
theorem eq_spec_VisitsOfWalk (x : Int) (steps : Int) (n : Nat) (m : Nat) (l : List (List Int)) (ro : List Int) (K : V → List Blk → Prop) : VC_spec_VisitsOfWalk x steps n m l ro K = vbody Try.prog (vin Try.prog TRD_35 annTRD 3) TRD_35.looks (annTRD 30) 30 [.agg [.row 0 n, .row 1 m], .int .i64 x, .int .i64 steps] [⟨.mat .i64 3 (l), 26, .mat⟩, ⟨.ints .i64 (ro), 3, .row⟩] (K) := by kernel_rfl
theorem ok_spec_VisitsOfWalk : OK Try.prog 30 F_spec_VisitsOfWalk.spec := (vbody_ok (vin_ok TRD_35_ok annTRD 3) TRD_35_ok.looks _ _).ofG fun args m p R M h hp => by
  unfold F_spec_VisitsOfWalk at h
  split at h
  · injection h with h; injection h with h1 h2; injection h2 with h2 h3; subst h1; subst h2; subst h3
    exact (congrArg At (eq_spec_VisitsOfWalk _ _ _ _ _ _ _)).mp ⟨vc_spec_VisitsOfWalk _ _ _ _ _ _ hp⟩
  · cases h
def TRD_36 : Tab := TRD_35.addG 30 F_spec_VisitsOfWalk
theorem TRD_36_ok : TRD_36.Ok Try.prog := TRD_35_ok.addG ok_spec_VisitsOfWalk
theorem eq_impl_VisitsOfWalk (x : Int) (steps : Int) (n : Nat) (m : Nat) (l : List (List Int)) (ro : List Int) (K : V → List Blk → Prop) : VC_impl_VisitsOfWalk x steps n m l ro K = vbody Try.prog (vin Try.prog TRD_36 annTRD 3) TRD_36.looks (annTRD 31) 31 [.agg [.row 0 n, .row 1 m], .int .i64 x, .int .i64 steps] [⟨.mat .i64 3 (l), 26, .mat⟩, ⟨.ints .i64 (ro), 3, .row⟩] (K) := by kernel_rfl
theorem ok_impl_VisitsOfWalk : OK Try.prog 31 F_impl_VisitsOfWalk.spec := (vbody_ok (vin_ok TRD_36_ok annTRD 3) TRD_36_ok.looks _ _).ofG fun args m p R M h hp => by
  unfold F_impl_VisitsOfWalk at h
  split at h
  · injection h with h; injection h with h1 h2; injection h2 with h2 h3; subst h1; subst h2; subst h3
    exact (congrArg At (eq_impl_VisitsOfWalk _ _ _ _ _ _ _)).mp ⟨vc_impl_VisitsOfWalk _ _ _ _ _ _ hp⟩
  · cases h
def TRD_37 : Tab := TRD_36.addG 31 F_impl_VisitsOfWalk
theorem TRD_37_ok : TRD_37.Ok Try.prog := TRD_36_ok.addG ok_impl_VisitsOfWalk
def TRD : Tab := TRD_37
theorem TRD_ok : TRD.Ok Try.prog := TRD_37_ok
end Go.Proofs.Ytopolpgligoldab
