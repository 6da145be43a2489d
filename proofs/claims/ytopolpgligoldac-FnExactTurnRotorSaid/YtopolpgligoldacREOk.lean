/- The contracts of this chapter. -/
import Derived.Test.YtopolpgligoldacProg
import Derived.Test.YtopolpgligoldacREPf
import Derived.KernelRfl
namespace Go.Proofs.Ytopolpgligoldac
open Go Go.Vi
set_option linter.unusedVariables false
def annTRE : FuncId → Nat → St → Option Ann := fun f => if f = 26 then ann_laws_szIntSS else if f = 32 then ann_laws_toIntS else if f = 31 then ann_laws_toIntSS else if f = 36 then ann_laws_eqIntS else if f = 12 then ann_laws_eqIntSS else if f = 52 then ann_spec_l1All else if f = 43 then ann_spec_roGood else if f = 48 then ann_impl_IsRoute else if f = 37 then ann_laws_markIntS else if f = 15 then ann_laws_markIntSS else if f = 38 then ann_laws_heldIntS else if f = 16 then ann_laws_heldIntSS else if f = 29 then ann_spec_roOwn else if f = 44 then ann_impl_walk_routeNow else if f = 54 then ann_impl_WalkAfter else if f = 50 then ann_spec_l1Has else if f = 55 then ann_slices_Index_int_int else if f = 40 then ann_spec_roTo else if f = 42 then ann_impl_walk_goTo else if f = 9 then ann_spec_LinesUsed else if f = 11 then ann_impl_LinesUsed else (fun _ _ => none)
def TRE_0 : Tab := Tab.none
theorem TRE_0_ok : TRE_0.Ok Try.prog := Tab.none_ok
theorem eq_spec_l1In (n : Int) (lo : Int) (hi : Int) (K : V → Prop) : VC_spec_l1In n lo hi K = vbody Try.prog (vin Try.prog TRE_0 annTRE 3) TRE_0.looks (annTRE 46) 46 [.int .i64 n, .int .i64 lo, .int .i64 hi] [] (fun v _ => K v) := by kernel_rfl
theorem ok_spec_l1In : OK Try.prog 46 F_spec_l1In.spec := (vbody_ok (vin_ok TRE_0_ok annTRE 3) TRE_0_ok.looks _ _).ofF fun args m p R h hp => by
  unfold F_spec_l1In at h
  split at h
  · injection h with h; injection h with h1 h2; subst h1; subst h2
    exact ⟨rfl, (congrArg At (eq_spec_l1In _ _ _ _)).mp ⟨vc_spec_l1In _ _ _ hp⟩⟩
  · cases h
def TRE_1 : Tab := TRE_0.add 46 F_spec_l1In
theorem TRE_1_ok : TRE_1.Ok Try.prog := TRE_0_ok.add ok_spec_l1In
theorem eq_impl_within (n : Int) (lo : Int) (hi : Int) (K : V → Prop) : VC_impl_within n lo hi K = vbody Try.prog (vin Try.prog TRE_1 annTRE 3) TRE_1.looks (annTRE 49) 49 [.int .i64 n, .int .i64 lo, .int .i64 hi] [] (fun v _ => K v) := by kernel_rfl
theorem ok_impl_within : OK Try.prog 49 F_impl_within.spec := (vbody_ok (vin_ok TRE_1_ok annTRE 3) TRE_1_ok.looks _ _).ofF fun args m p R h hp => by
  unfold F_impl_within at h
  split at h
  · injection h with h; injection h with h1 h2; subst h1; subst h2
    exact ⟨rfl, (congrArg At (eq_impl_within _ _ _ _)).mp ⟨vc_impl_within _ _ _ hp⟩⟩
  · cases h
def TRE_2 : Tab := TRE_1.add 49 F_impl_within
theorem TRE_2_ok : TRE_2.Ok Try.prog := TRE_1_ok.add ok_impl_within
theorem eq_laws_szIntS (left : Int) (n : Nat) (a : List Int) (e : TypeId) (k : Kind) (K : V → List Blk → Prop) : VC_laws_szIntS left n a e k K = vbody Try.prog (vin Try.prog TRE_2 annTRE 3) TRE_2.looks (annTRE 27) 27 [.row 0 n, .int .i64 left] [⟨.ints .i64 a, e, k⟩] (K) := by kernel_rfl
theorem ok_laws_szIntS : OK Try.prog 27 F_laws_szIntS.spec := (vbody_ok (vin_ok TRE_2_ok annTRE 3) TRE_2_ok.looks _ _).ofFM fun args m p R h hp => by
  unfold F_laws_szIntS at h
  split at h
  · injection h with h; injection h with h1 h2; subst h1; subst h2
    exact (congrArg At (eq_laws_szIntS _ _ _ _ _ _)).mp ⟨vc_laws_szIntS _ _ _ _ _ hp⟩
  · cases h
def TRE_3 : Tab := TRE_2.add 27 F_laws_szIntS
theorem TRE_3_ok : TRE_3.Ok Try.prog := TRE_2_ok.add ok_laws_szIntS
theorem eq_laws_szIntSS (left : Int) (n : Nat) (l : List (List Int)) (K : V → List Blk → Prop) : VC_laws_szIntSS left n l K = vbody Try.prog (vin Try.prog TRE_3 annTRE 3) TRE_3.looks (annTRE 26) 26 [.row 0 n, .int .i64 left] [⟨.mat .i64 3 (l), 23, .amat⟩] (K) := by kernel_rfl
theorem ok_laws_szIntSS : OK Try.prog 26 F_laws_szIntSS.spec := (vbody_ok (vin_ok TRE_3_ok annTRE 3) TRE_3_ok.looks _ _).ofFM fun args m p R h hp => by
  unfold F_laws_szIntSS at h
  split at h
  · injection h with h; injection h with h1 h2; subst h1; subst h2
    exact (congrArg At (eq_laws_szIntSS _ _ _ _)).mp ⟨vc_laws_szIntSS _ _ _ hp⟩
  · cases h
def TRE_4 : Tab := TRE_3.add 26 F_laws_szIntSS
theorem TRE_4_ok : TRE_4.Ok Try.prog := TRE_3_ok.add ok_laws_szIntSS
theorem eq_laws_szRoute (left : Int) (n : Nat) (m : Nat) (l : List (List Int)) (ro : List Int) (K : V → List Blk → Prop) : VC_laws_szRoute left n m l ro K = vbody Try.prog (vin Try.prog TRE_4 annTRE 3) TRE_4.looks (annTRE 8) 8 [.agg [.row 0 n, .row 1 m], .int .i64 left] [⟨.mat .i64 3 (l), 23, .amat⟩, ⟨.ints .i64 (ro), 3, .arg 1⟩] (K) := by kernel_rfl
theorem ok_laws_szRoute : OK Try.prog 8 F_laws_szRoute.spec := (vbody_ok (vin_ok TRE_4_ok annTRE 3) TRE_4_ok.looks _ _).ofFM fun args m p R h hp => by
  unfold F_laws_szRoute at h
  split at h
  · injection h with h; injection h with h1 h2; subst h1; subst h2
    exact (congrArg At (eq_laws_szRoute _ _ _ _ _ _)).mp ⟨vc_laws_szRoute _ _ _ _ _ hp⟩
  · cases h
def TRE_5 : Tab := TRE_4.add 8 F_laws_szRoute
theorem TRE_5_ok : TRE_5.Ok Try.prog := TRE_4_ok.add ok_laws_szRoute
theorem eq_laws_toIntS  (n : Nat) (a : List Int) (e : TypeId) (k : Kind) (K : V → List Blk → Prop) : VC_laws_toIntS  n a e k K = vbody Try.prog (vin Try.prog TRE_5 annTRE 3) TRE_5.looks (annTRE 32) 32 [.row 0 n] [⟨.ints .i64 a, e, k⟩] (K) := by kernel_rfl
theorem ok_laws_toIntS : OK Try.prog 32 F_laws_toIntS.spec := (vbody_ok (vin_ok TRE_5_ok annTRE 3) TRE_5_ok.looks _ _).ofG fun args m p R M h hp => by
  unfold F_laws_toIntS at h
  split at h
  · injection h with h; injection h with h1 h2; injection h2 with h2 h3; subst h1; subst h2; subst h3
    exact (congrArg At (eq_laws_toIntS _ _ _ _ _)).mp ⟨vc_laws_toIntS _ _ _ _ hp⟩
  · cases h
def TRE_6 : Tab := TRE_5.addG 32 F_laws_toIntS
theorem TRE_6_ok : TRE_6.Ok Try.prog := TRE_5_ok.addG ok_laws_toIntS
theorem eq_laws_toIntSS  (n : Nat) (l : List (List Int)) (K : V → List Blk → Prop) : VC_laws_toIntSS  n l K = vbody Try.prog (vin Try.prog TRE_6 annTRE 3) TRE_6.looks (annTRE 31) 31 [.row 0 n] [⟨.mat .i64 3 (l), 23, .amat⟩] (K) := by kernel_rfl
theorem ok_laws_toIntSS : OK Try.prog 31 F_laws_toIntSS.spec := (vbody_ok (vin_ok TRE_6_ok annTRE 3) TRE_6_ok.looks _ _).ofG fun args m p R M h hp => by
  unfold F_laws_toIntSS at h
  split at h
  · injection h with h; injection h with h1 h2; injection h2 with h2 h3; subst h1; subst h2; subst h3
    exact (congrArg At (eq_laws_toIntSS _ _ _)).mp ⟨vc_laws_toIntSS _ _ hp⟩
  · cases h
def TRE_7 : Tab := TRE_6.addG 31 F_laws_toIntSS
theorem TRE_7_ok : TRE_7.Ok Try.prog := TRE_6_ok.addG ok_laws_toIntSS
theorem eq_laws_toRoute  (n : Nat) (m : Nat) (l : List (List Int)) (ro : List Int) (K : V → List Blk → Prop) : VC_laws_toRoute  n m l ro K = vbody Try.prog (vin Try.prog TRE_7 annTRE 3) TRE_7.looks (annTRE 10) 10 [.agg [.row 0 n, .row 1 m]] [⟨.mat .i64 3 (l), 23, .amat⟩, ⟨.ints .i64 (ro), 3, .arg 1⟩] (K) := by kernel_rfl
theorem ok_laws_toRoute : OK Try.prog 10 F_laws_toRoute.spec := (vbody_ok (vin_ok TRE_7_ok annTRE 3) TRE_7_ok.looks _ _).ofG fun args m p R M h hp => by
  unfold F_laws_toRoute at h
  split at h
  · injection h with h; injection h with h1 h2; injection h2 with h2 h3; subst h1; subst h2; subst h3
    exact (congrArg At (eq_laws_toRoute _ _ _ _ _)).mp ⟨vc_laws_toRoute _ _ _ _ hp⟩
  · cases h
def TRE_8 : Tab := TRE_7.addG 10 F_laws_toRoute
theorem TRE_8_ok : TRE_8.Ok Try.prog := TRE_7_ok.addG ok_laws_toRoute
theorem eq_laws_eqIntS  (n : Nat) (m : Nat) (a : List Int) (b : List Int) (e : TypeId) (k : Kind) (f : TypeId) (q : Kind) (K : V → List Blk → Prop) : VC_laws_eqIntS  n m a b e k f q K = vbody Try.prog (vin Try.prog TRE_8 annTRE 3) TRE_8.looks (annTRE 36) 36 [.row 0 n, .row 1 m] [⟨.ints .i64 a, e, k⟩, ⟨.ints .i64 b, f, q⟩] (K) := by kernel_rfl
theorem ok_laws_eqIntS : OK Try.prog 36 F_laws_eqIntS.spec := (vbody_ok (vin_ok TRE_8_ok annTRE 3) TRE_8_ok.looks _ _).ofFM fun args m p R h hp => by
  unfold F_laws_eqIntS at h
  split at h
  · injection h with h; injection h with h1 h2; subst h1; subst h2
    exact (congrArg At (eq_laws_eqIntS _ _ _ _ _ _ _ _ _)).mp ⟨vc_laws_eqIntS _ _ _ _ _ _ _ _ hp⟩
  · cases h
def TRE_9 : Tab := TRE_8.add 36 F_laws_eqIntS
theorem TRE_9_ok : TRE_9.Ok Try.prog := TRE_8_ok.add ok_laws_eqIntS
theorem eq_laws_eqIntSS  (n : Nat) (m : Nat) (l : List (List Int)) (j : List (List Int)) (K : V → List Blk → Prop) : VC_laws_eqIntSS  n m l j K = vbody Try.prog (vin Try.prog TRE_9 annTRE 3) TRE_9.looks (annTRE 12) 12 [.row 0 n, .row 1 m] [⟨.mat .i64 3 (l), 23, .mat⟩, ⟨.mat .i64 3 (j), 23, .mat⟩] (K) := by kernel_rfl
theorem ok_laws_eqIntSS : OK Try.prog 12 F_laws_eqIntSS.spec := (vbody_ok (vin_ok TRE_9_ok annTRE 3) TRE_9_ok.looks _ _).ofFM fun args m p R h hp => by
  unfold F_laws_eqIntSS at h
  split at h
  · injection h with h; injection h with h1 h2; subst h1; subst h2
    exact (congrArg At (eq_laws_eqIntSS _ _ _ _ _)).mp ⟨vc_laws_eqIntSS _ _ _ _ hp⟩
  · cases h
def TRE_10 : Tab := TRE_9.add 12 F_laws_eqIntSS
theorem TRE_10_ok : TRE_10.Ok Try.prog := TRE_9_ok.add ok_laws_eqIntSS
theorem eq_laws_eqRoute  (n : Nat) (m : Nat) (l : List (List Int)) (ro : List Int) (u : Nat) (v : Nat) (j : List (List Int)) (so : List Int) (K : V → List Blk → Prop) : VC_laws_eqRoute  n m l ro u v j so K = vbody Try.prog (vin Try.prog TRE_10 annTRE 3) TRE_10.looks (annTRE 13) 13 [.agg [.row 0 n, .row 1 m], .agg [.row 2 u, .row 3 v]] [⟨.mat .i64 3 (l), 23, .mat⟩, ⟨.ints .i64 (ro), 3, .row⟩, ⟨.mat .i64 3 (j), 23, .mat⟩, ⟨.ints .i64 (so), 3, .row⟩] (K) := by kernel_rfl
theorem ok_laws_eqRoute : OK Try.prog 13 F_laws_eqRoute.spec := (vbody_ok (vin_ok TRE_10_ok annTRE 3) TRE_10_ok.looks _ _).ofFM fun args m p R h hp => by
  unfold F_laws_eqRoute at h
  split at h
  · injection h with h; injection h with h1 h2; subst h1; subst h2
    exact (congrArg At (eq_laws_eqRoute _ _ _ _ _ _ _ _ _)).mp ⟨vc_laws_eqRoute _ _ _ _ _ _ _ _ hp⟩
  · cases h
def TRE_11 : Tab := TRE_10.add 13 F_laws_eqRoute
theorem TRE_11_ok : TRE_11.Ok Try.prog := TRE_10_ok.add ok_laws_eqRoute
theorem eq_spec_l1All (lo : Int) (hi : Int) (n : Nat) (a : List Int) (e : TypeId) (k : Kind) (K : V → List Blk → Prop) : VC_spec_l1All lo hi n a e k K = vbody Try.prog (vin Try.prog TRE_11 annTRE 3) TRE_11.looks (annTRE 52) 52 [.row 0 n, .int .i64 lo, .int .i64 hi] [⟨.ints .i64 a, e, k⟩] (K) := by kernel_rfl
theorem ok_spec_l1All : OK Try.prog 52 F_spec_l1All.spec := (vbody_ok (vin_ok TRE_11_ok annTRE 3) TRE_11_ok.looks _ _).ofFM fun args m p R h hp => by
  unfold F_spec_l1All at h
  split at h
  · injection h with h; injection h with h1 h2; subst h1; subst h2
    exact (congrArg At (eq_spec_l1All _ _ _ _ _ _ _)).mp ⟨vc_spec_l1All _ _ _ _ _ _ hp⟩
  · cases h
def TRE_12 : Tab := TRE_11.add 52 F_spec_l1All
theorem TRE_12_ok : TRE_12.Ok Try.prog := TRE_11_ok.add ok_spec_l1All
theorem eq_spec_roGood  (n : Nat) (m : Nat) (l : List (List Int)) (ro : List Int) (K : V → List Blk → Prop) : VC_spec_roGood  n m l ro K = vbody Try.prog (vin Try.prog TRE_12 annTRE 3) TRE_12.looks (annTRE 43) 43 [.agg [.row 0 n, .row 1 m]] [⟨.mat .i64 3 (l), 23, .mat⟩, ⟨.ints .i64 (ro), 3, .row⟩] (K) := by kernel_rfl
theorem ok_spec_roGood : OK Try.prog 43 F_spec_roGood.spec := (vbody_ok (vin_ok TRE_12_ok annTRE 3) TRE_12_ok.looks _ _).ofFM fun args m p R h hp => by
  unfold F_spec_roGood at h
  split at h
  · injection h with h; injection h with h1 h2; subst h1; subst h2
    exact (congrArg At (eq_spec_roGood _ _ _ _ _)).mp ⟨vc_spec_roGood _ _ _ _ hp⟩
  · cases h
def TRE_13 : Tab := TRE_12.add 43 F_spec_roGood
theorem TRE_13_ok : TRE_13.Ok Try.prog := TRE_12_ok.add ok_spec_roGood
theorem eq_impl_isNode (node : Int) (n : Nat) (m : Nat) (l : List (List Int)) (ro : List Int) (K : V → List Blk → Prop) : VC_impl_isNode node n m l ro K = vbody Try.prog (vin Try.prog TRE_13 annTRE 3) TRE_13.looks (annTRE 41) 41 [.agg [.row 0 n, .row 1 m], .int .i64 node] [⟨.mat .i64 3 (l), 23, .mat⟩, ⟨.ints .i64 (ro), 3, .row⟩] (K) := by kernel_rfl
theorem ok_impl_isNode : OK Try.prog 41 F_impl_isNode.spec := (vbody_ok (vin_ok TRE_13_ok annTRE 3) TRE_13_ok.looks _ _).ofFM fun args m p R h hp => by
  unfold F_impl_isNode at h
  split at h
  · injection h with h; injection h with h1 h2; subst h1; subst h2
    exact (congrArg At (eq_impl_isNode _ _ _ _ _ _)).mp ⟨vc_impl_isNode _ _ _ _ _ hp⟩
  · cases h
def TRE_14 : Tab := TRE_13.add 41 F_impl_isNode
theorem TRE_14_ok : TRE_14.Ok Try.prog := TRE_13_ok.add ok_impl_isNode
theorem eq_impl_IsRoute  (n : Nat) (m : Nat) (l : List (List Int)) (ro : List Int) (K : V → List Blk → Prop) : VC_impl_IsRoute  n m l ro K = vbody Try.prog (vin Try.prog TRE_14 annTRE 3) TRE_14.looks (annTRE 48) 48 [.agg [.row 0 n, .row 1 m]] [⟨.mat .i64 3 (l), 23, .mat⟩, ⟨.ints .i64 (ro), 3, .row⟩] (K) := by kernel_rfl
theorem ok_impl_IsRoute : OK Try.prog 48 F_impl_IsRoute.spec := (vbody_ok (vin_ok TRE_14_ok annTRE 3) TRE_14_ok.looks _ _).ofFM fun args m p R h hp => by
  unfold F_impl_IsRoute at h
  split at h
  · injection h with h; injection h with h1 h2; subst h1; subst h2
    exact (congrArg At (eq_impl_IsRoute _ _ _ _ _)).mp ⟨vc_impl_IsRoute _ _ _ _ hp⟩
  · cases h
def TRE_15 : Tab := TRE_14.add 48 F_impl_IsRoute
theorem TRE_15_ok : TRE_15.Ok Try.prog := TRE_14_ok.add ok_impl_IsRoute
theorem eq_laws_markIntS (k : Int) (n : Nat) (a : List Int) (K : V → List Blk → Prop) : VC_laws_markIntS k n a K = vbody Try.prog (vin Try.prog TRE_15 annTRE 3) TRE_15.looks (annTRE 37) 37 [.row 0 n, .int .i64 k] [⟨.ints .i64 (a), 3, .row⟩] (K) := by kernel_rfl
theorem ok_laws_markIntS : OK Try.prog 37 F_laws_markIntS.spec := (vbody_ok (vin_ok TRE_15_ok annTRE 3) TRE_15_ok.looks _ _).ofG fun args m p R M h hp => by
  unfold F_laws_markIntS at h
  split at h
  · injection h with h; injection h with h1 h2; injection h2 with h2 h3; subst h1; subst h2; subst h3
    exact (congrArg At (eq_laws_markIntS _ _ _ _)).mp ⟨vc_laws_markIntS _ _ _ hp⟩
  · cases h
def TRE_16 : Tab := TRE_15.addG 37 F_laws_markIntS
theorem TRE_16_ok : TRE_16.Ok Try.prog := TRE_15_ok.addG ok_laws_markIntS
theorem eq_laws_markIntSS (k : Int) (n : Nat) (l : List (List Int)) (K : V → List Blk → Prop) : VC_laws_markIntSS k n l K = vbody Try.prog (vin Try.prog TRE_16 annTRE 3) TRE_16.looks (annTRE 15) 15 [.row 0 n, .int .i64 k] [⟨.mat .i64 3 (l), 23, .mat⟩] (K) := by kernel_rfl
theorem ok_laws_markIntSS : OK Try.prog 15 F_laws_markIntSS.spec := (vbody_ok (vin_ok TRE_16_ok annTRE 3) TRE_16_ok.looks _ _).ofG fun args m p R M h hp => by
  unfold F_laws_markIntSS at h
  split at h
  · injection h with h; injection h with h1 h2; injection h2 with h2 h3; subst h1; subst h2; subst h3
    exact (congrArg At (eq_laws_markIntSS _ _ _ _)).mp ⟨vc_laws_markIntSS _ _ _ hp⟩
  · cases h
def TRE_17 : Tab := TRE_16.addG 15 F_laws_markIntSS
theorem TRE_17_ok : TRE_17.Ok Try.prog := TRE_16_ok.addG ok_laws_markIntSS
theorem eq_laws_markRoute (k : Int) (n : Nat) (m : Nat) (l : List (List Int)) (ro : List Int) (K : V → List Blk → Prop) : VC_laws_markRoute k n m l ro K = vbody Try.prog (vin Try.prog TRE_17 annTRE 3) TRE_17.looks (annTRE 14) 14 [.agg [.row 0 n, .row 1 m], .int .i64 k] [⟨.mat .i64 3 (l), 23, .mat⟩, ⟨.ints .i64 (ro), 3, .row⟩] (K) := by kernel_rfl
theorem ok_laws_markRoute : OK Try.prog 14 F_laws_markRoute.spec := (vbody_ok (vin_ok TRE_17_ok annTRE 3) TRE_17_ok.looks _ _).ofG fun args m p R M h hp => by
  unfold F_laws_markRoute at h
  split at h
  · injection h with h; injection h with h1 h2; injection h2 with h2 h3; subst h1; subst h2; subst h3
    exact (congrArg At (eq_laws_markRoute _ _ _ _ _ _)).mp ⟨vc_laws_markRoute _ _ _ _ _ hp⟩
  · cases h
def TRE_18 : Tab := TRE_17.addG 14 F_laws_markRoute
theorem TRE_18_ok : TRE_18.Ok Try.prog := TRE_17_ok.addG ok_laws_markRoute
theorem eq_laws_heldIntS (q : Int) (n : Nat) (a : List Int) (e : TypeId) (k : Kind) (K : V → List Blk → Prop) : VC_laws_heldIntS q n a e k K = vbody Try.prog (vin Try.prog TRE_18 annTRE 3) TRE_18.looks (annTRE 38) 38 [.row 0 n, .int .i64 q] [⟨.ints .i64 a, e, k⟩] (K) := by kernel_rfl
theorem ok_laws_heldIntS : OK Try.prog 38 F_laws_heldIntS.spec := (vbody_ok (vin_ok TRE_18_ok annTRE 3) TRE_18_ok.looks _ _).ofFM fun args m p R h hp => by
  unfold F_laws_heldIntS at h
  split at h
  · injection h with h; injection h with h1 h2; subst h1; subst h2
    exact (congrArg At (eq_laws_heldIntS _ _ _ _ _ _)).mp ⟨vc_laws_heldIntS _ _ _ _ _ hp⟩
  · cases h
def TRE_19 : Tab := TRE_18.add 38 F_laws_heldIntS
theorem TRE_19_ok : TRE_19.Ok Try.prog := TRE_18_ok.add ok_laws_heldIntS
theorem eq_laws_heldIntSS (q : Int) (n : Nat) (l : List (List Int)) (K : V → List Blk → Prop) : VC_laws_heldIntSS q n l K = vbody Try.prog (vin Try.prog TRE_19 annTRE 3) TRE_19.looks (annTRE 16) 16 [.row 0 n, .int .i64 q] [⟨.mat .i64 3 (l), 23, .mat⟩] (K) := by kernel_rfl
theorem ok_laws_heldIntSS : OK Try.prog 16 F_laws_heldIntSS.spec := (vbody_ok (vin_ok TRE_19_ok annTRE 3) TRE_19_ok.looks _ _).ofFM fun args m p R h hp => by
  unfold F_laws_heldIntSS at h
  split at h
  · injection h with h; injection h with h1 h2; subst h1; subst h2
    exact (congrArg At (eq_laws_heldIntSS _ _ _ _)).mp ⟨vc_laws_heldIntSS _ _ _ hp⟩
  · cases h
def TRE_20 : Tab := TRE_19.add 16 F_laws_heldIntSS
theorem TRE_20_ok : TRE_20.Ok Try.prog := TRE_19_ok.add ok_laws_heldIntSS
theorem eq_laws_heldRoute (q : Int) (n : Nat) (m : Nat) (l : List (List Int)) (ro : List Int) (K : V → List Blk → Prop) : VC_laws_heldRoute q n m l ro K = vbody Try.prog (vin Try.prog TRE_20 annTRE 3) TRE_20.looks (annTRE 23) 23 [.agg [.row 0 n, .row 1 m], .int .i64 q] [⟨.mat .i64 3 (l), 23, .mat⟩, ⟨.ints .i64 (ro), 3, .row⟩] (K) := by kernel_rfl
theorem ok_laws_heldRoute : OK Try.prog 23 F_laws_heldRoute.spec := (vbody_ok (vin_ok TRE_20_ok annTRE 3) TRE_20_ok.looks _ _).ofFM fun args m p R h hp => by
  unfold F_laws_heldRoute at h
  split at h
  · injection h with h; injection h with h1 h2; subst h1; subst h2
    exact (congrArg At (eq_laws_heldRoute _ _ _ _ _ _)).mp ⟨vc_laws_heldRoute _ _ _ _ _ hp⟩
  · cases h
def TRE_21 : Tab := TRE_20.add 23 F_laws_heldRoute
theorem TRE_21_ok : TRE_21.Ok Try.prog := TRE_20_ok.add ok_laws_heldRoute
theorem eq_spec_roNode (x : Int) (n : Nat) (m : Nat) (l : List (List Int)) (ro : List Int) (K : V → List Blk → Prop) : VC_spec_roNode x n m l ro K = vbody Try.prog (vin Try.prog TRE_21 annTRE 3) TRE_21.looks (annTRE 39) 39 [.agg [.row 0 n, .row 1 m], .int .i64 x] [⟨.mat .i64 3 (l), 23, .mat⟩, ⟨.ints .i64 (ro), 3, .row⟩] (K) := by kernel_rfl
theorem ok_spec_roNode : OK Try.prog 39 F_spec_roNode.spec := (vbody_ok (vin_ok TRE_21_ok annTRE 3) TRE_21_ok.looks _ _).ofFM fun args m p R h hp => by
  unfold F_spec_roNode at h
  split at h
  · injection h with h; injection h with h1 h2; subst h1; subst h2
    exact (congrArg At (eq_spec_roNode _ _ _ _ _ _)).mp ⟨vc_spec_roNode _ _ _ _ _ hp⟩
  · cases h
def TRE_22 : Tab := TRE_21.add 39 F_spec_roNode
theorem TRE_22_ok : TRE_22.Ok Try.prog := TRE_21_ok.add ok_spec_roNode
theorem eq_spec_roWalk (x : Int) (steps : Int) (n : Nat) (m : Nat) (l : List (List Int)) (ro : List Int) (K : V → List Blk → Prop) : VC_spec_roWalk x steps n m l ro K = vbody Try.prog (vin Try.prog TRE_22 annTRE 3) TRE_22.looks (annTRE 28) 28 [.agg [.row 0 n, .row 1 m], .int .i64 x, .int .i64 steps] [⟨.mat .i64 3 (l), 23, .mat⟩, ⟨.ints .i64 (ro), 3, .row⟩] (K) := by kernel_rfl
theorem ok_spec_roWalk : OK Try.prog 28 F_spec_roWalk.spec := (vbody_ok (vin_ok TRE_22_ok annTRE 3) TRE_22_ok.looks _ _).ofFM fun args m p R h hp => by
  unfold F_spec_roWalk at h
  split at h
  · injection h with h; injection h with h1 h2; subst h1; subst h2
    exact (congrArg At (eq_spec_roWalk _ _ _ _ _ _ _)).mp ⟨vc_spec_roWalk _ _ _ _ _ _ hp⟩
  · cases h
def TRE_23 : Tab := TRE_22.add 28 F_spec_roWalk
theorem TRE_23_ok : TRE_23.Ok Try.prog := TRE_22_ok.add ok_spec_roWalk
theorem eq_impl_isWalk (steps : Int) (K : V → Prop) : VC_impl_isWalk steps K = vbody Try.prog (vin Try.prog TRE_23 annTRE 3) TRE_23.looks (annTRE 34) 34 [.int .i64 steps] [] (fun v _ => K v) := by kernel_rfl
theorem ok_impl_isWalk : OK Try.prog 34 F_impl_isWalk.spec := (vbody_ok (vin_ok TRE_23_ok annTRE 3) TRE_23_ok.looks _ _).ofF fun args m p R h hp => by
  unfold F_impl_isWalk at h
  split at h
  · injection h with h; injection h with h1 h2; subst h1; subst h2
    exact ⟨rfl, (congrArg At (eq_impl_isWalk _ _)).mp ⟨vc_impl_isWalk _ hp⟩⟩
  · cases h
def TRE_24 : Tab := TRE_23.add 34 F_impl_isWalk
theorem TRE_24_ok : TRE_24.Ok Try.prog := TRE_23_ok.add ok_impl_isWalk
theorem eq_spec_roOwn  (n : Nat) (m : Nat) (l : List (List Int)) (ro : List Int) (K : V → List Blk → Prop) : VC_spec_roOwn  n m l ro K = vbody Try.prog (vin Try.prog TRE_24 annTRE 3) TRE_24.looks (annTRE 29) 29 [.agg [.row 0 n, .row 1 m]] [⟨.mat .i64 3 (l), 23, .mat⟩, ⟨.ints .i64 (ro), 3, .row⟩] (K) := by kernel_rfl
theorem ok_spec_roOwn : OK Try.prog 29 F_spec_roOwn.spec := (vbody_ok (vin_ok TRE_24_ok annTRE 3) TRE_24_ok.looks _ _).ofG fun args m p R M h hp => by
  unfold F_spec_roOwn at h
  split at h
  · injection h with h; injection h with h1 h2; injection h2 with h2 h3; subst h1; subst h2; subst h3
    exact (congrArg At (eq_spec_roOwn _ _ _ _ _)).mp ⟨vc_spec_roOwn _ _ _ _ hp⟩
  · cases h
def TRE_25 : Tab := TRE_24.addG 29 F_spec_roOwn
theorem TRE_25_ok : TRE_25.Ok Try.prog := TRE_24_ok.addG ok_spec_roOwn
theorem eq_spec_roStep (x : Int) (n : Nat) (m : Nat) (l : List (List Int)) (ro : List Int) (K : V → List Blk → Prop) : VC_spec_roStep x n m l ro K = vbody Try.prog (vin Try.prog TRE_25 annTRE 3) TRE_25.looks (annTRE 30) 30 [.agg [.row 0 n, .row 1 m], .int .i64 x] [⟨.mat .i64 3 (l), 23, .mat⟩, ⟨.ints .i64 (ro), 3, .row⟩] (K) := by kernel_rfl
theorem ok_spec_roStep : OK Try.prog 30 F_spec_roStep.spec := (vbody_ok (vin_ok TRE_25_ok annTRE 3) TRE_25_ok.looks _ _).ofG fun args m p R M h hp => by
  unfold F_spec_roStep at h
  split at h
  · injection h with h; injection h with h1 h2; injection h2 with h2 h3; subst h1; subst h2; subst h3
    exact (congrArg At (eq_spec_roStep _ _ _ _ _ _)).mp ⟨vc_spec_roStep _ _ _ _ _ hp⟩
  · cases h
def TRE_26 : Tab := TRE_25.addG 30 F_spec_roStep
theorem TRE_26_ok : TRE_26.Ok Try.prog := TRE_25_ok.addG ok_spec_roStep
theorem eq_impl_walk_goOn  (n : Nat) (x : Int) (q : List Int) (l : List (List Int)) (K : V → List Blk → Prop) : VC_impl_walk_goOn  n x q l K = vbody Try.prog (vin Try.prog TRE_26 annTRE 3) TRE_26.looks (annTRE 35) 35 [.ptr 0 0] [⟨.mixi [.row 1 n, .int .i64 (x)] 10 (q) [], 58, .box⟩, ⟨.mat .i64 3 (l), 23, .mat⟩] (K) := by kernel_rfl
theorem ok_impl_walk_goOn : OK Try.prog 35 F_impl_walk_goOn.spec := (vbody_ok (vin_ok TRE_26_ok annTRE 3) TRE_26_ok.looks _ _).ofG fun args m p R M h hp => by
  unfold F_impl_walk_goOn at h
  split at h
  · injection h with h; injection h with h1 h2; injection h2 with h2 h3; subst h1; subst h2; subst h3
    exact (congrArg At (eq_impl_walk_goOn _ _ _ _ _)).mp ⟨vc_impl_walk_goOn _ _ _ _ hp⟩
  · cases h
def TRE_27 : Tab := TRE_26.addG 35 F_impl_walk_goOn
theorem TRE_27_ok : TRE_27.Ok Try.prog := TRE_26_ok.addG ok_impl_walk_goOn
theorem eq_impl_walk_routeNow  (n : Nat) (x : Int) (q : List Int) (l : List (List Int)) (K : V → List Blk → Prop) : VC_impl_walk_routeNow  n x q l K = vbody Try.prog (vin Try.prog TRE_27 annTRE 3) TRE_27.looks (annTRE 44) 44 [.ptr 0 0] [⟨.mixi [.row 1 n, .int .i64 (x)] 10 (q) [], 58, .box⟩, ⟨.mat .i64 3 (l), 23, .mat⟩] (K) := by kernel_rfl
theorem ok_impl_walk_routeNow : OK Try.prog 44 F_impl_walk_routeNow.spec := (vbody_ok (vin_ok TRE_27_ok annTRE 3) TRE_27_ok.looks _ _).ofG fun args m p R M h hp => by
  unfold F_impl_walk_routeNow at h
  split at h
  · injection h with h; injection h with h1 h2; injection h2 with h2 h3; subst h1; subst h2; subst h3
    exact (congrArg At (eq_impl_walk_routeNow _ _ _ _ _)).mp ⟨vc_impl_walk_routeNow _ _ _ _ hp⟩
  · cases h
def TRE_28 : Tab := TRE_27.addG 44 F_impl_walk_routeNow
theorem TRE_28_ok : TRE_28.Ok Try.prog := TRE_27_ok.addG ok_impl_walk_routeNow
theorem eq_impl_WalkAfter (x : Int) (steps : Int) (n : Nat) (m : Nat) (l : List (List Int)) (ro : List Int) (K : V → List Blk → Prop) : VC_impl_WalkAfter x steps n m l ro K = vbody Try.prog (vin Try.prog TRE_28 annTRE 3) TRE_28.looks (annTRE 54) 54 [.agg [.row 0 n, .row 1 m], .int .i64 x, .int .i64 steps] [⟨.mat .i64 3 (l), 23, .mat⟩, ⟨.ints .i64 (ro), 3, .row⟩] (K) := by kernel_rfl
theorem ok_impl_WalkAfter : OK Try.prog 54 F_impl_WalkAfter.spec := (vbody_ok (vin_ok TRE_28_ok annTRE 3) TRE_28_ok.looks _ _).ofG fun args m p R M h hp => by
  unfold F_impl_WalkAfter at h
  split at h
  · injection h with h; injection h with h1 h2; injection h2 with h2 h3; subst h1; subst h2; subst h3
    exact (congrArg At (eq_impl_WalkAfter _ _ _ _ _ _ _)).mp ⟨vc_impl_WalkAfter _ _ _ _ _ _ hp⟩
  · cases h
def TRE_29 : Tab := TRE_28.addG 54 F_impl_WalkAfter
theorem TRE_29_ok : TRE_29.Ok Try.prog := TRE_28_ok.addG ok_impl_WalkAfter
theorem eq_impl_StepRoute (x : Int) (n : Nat) (m : Nat) (l : List (List Int)) (ro : List Int) (K : V → List Blk → Prop) : VC_impl_StepRoute x n m l ro K = vbody Try.prog (vin Try.prog TRE_29 annTRE 3) TRE_29.looks (annTRE 45) 45 [.agg [.row 0 n, .row 1 m], .int .i64 x] [⟨.mat .i64 3 (l), 23, .mat⟩, ⟨.ints .i64 (ro), 3, .row⟩] (K) := by kernel_rfl
theorem ok_impl_StepRoute : OK Try.prog 45 F_impl_StepRoute.spec := (vbody_ok (vin_ok TRE_29_ok annTRE 3) TRE_29_ok.looks _ _).ofG fun args m p R M h hp => by
  unfold F_impl_StepRoute at h
  split at h
  · injection h with h; injection h with h1 h2; injection h2 with h2 h3; subst h1; subst h2; subst h3
    exact (congrArg At (eq_impl_StepRoute _ _ _ _ _ _)).mp ⟨vc_impl_StepRoute _ _ _ _ _ hp⟩
  · cases h
def TRE_30 : Tab := TRE_29.addG 45 F_impl_StepRoute
theorem TRE_30_ok : TRE_30.Ok Try.prog := TRE_29_ok.addG ok_impl_StepRoute
theorem eq_spec_l1Has (v : Int) (n : Nat) (a : List Int) (e : TypeId) (k : Kind) (K : V → List Blk → Prop) : VC_spec_l1Has v n a e k K = vbody Try.prog (vin Try.prog TRE_30 annTRE 3) TRE_30.looks (annTRE 50) 50 [.row 0 n, .int .i64 v] [⟨.ints .i64 a, e, k⟩] (K) := by kernel_rfl
theorem ok_spec_l1Has : OK Try.prog 50 F_spec_l1Has.spec := (vbody_ok (vin_ok TRE_30_ok annTRE 3) TRE_30_ok.looks _ _).ofFM fun args m p R h hp => by
  unfold F_spec_l1Has at h
  split at h
  · injection h with h; injection h with h1 h2; subst h1; subst h2
    exact (congrArg At (eq_spec_l1Has _ _ _ _ _ _)).mp ⟨vc_spec_l1Has _ _ _ _ _ hp⟩
  · cases h
def TRE_31 : Tab := TRE_30.add 50 F_spec_l1Has
theorem TRE_31_ok : TRE_31.Ok Try.prog := TRE_30_ok.add ok_spec_l1Has
theorem eq_slices_Index_int_int (v : Int) (n : Nat) (a : List Int) (e : TypeId) (k : Kind) (K : V → List Blk → Prop) : VC_slices_Index_int_int v n a e k K = vbody Try.prog (vin Try.prog TRE_31 annTRE 3) TRE_31.looks (annTRE 55) 55 [.row 0 n, .int .i64 v] [⟨.ints .i64 a, e, k⟩] (K) := by kernel_rfl
theorem ok_slices_Index_int_int : OK Try.prog 55 F_slices_Index_int_int.spec := (vbody_ok (vin_ok TRE_31_ok annTRE 3) TRE_31_ok.looks _ _).ofFM fun args m p R h hp => by
  unfold F_slices_Index_int_int at h
  split at h
  · injection h with h; injection h with h1 h2; subst h1; subst h2
    exact (congrArg At (eq_slices_Index_int_int _ _ _ _ _ _)).mp ⟨vc_slices_Index_int_int _ _ _ _ _ hp⟩
  · cases h
def TRE_32 : Tab := TRE_31.add 55 F_slices_Index_int_int
theorem TRE_32_ok : TRE_32.Ok Try.prog := TRE_31_ok.add ok_slices_Index_int_int
theorem eq_slices_Contains_int_int (v : Int) (n : Nat) (a : List Int) (K : V → List Blk → Prop) : VC_slices_Contains_int_int v n a K = vbody Try.prog (vin Try.prog TRE_32 annTRE 3) TRE_32.looks (annTRE 51) 51 [.row 0 n, .int .i64 v] [⟨.ints .i64 (a), 3, .row⟩] (K) := by kernel_rfl
theorem ok_slices_Contains_int_int : OK Try.prog 51 F_slices_Contains_int_int.spec := (vbody_ok (vin_ok TRE_32_ok annTRE 3) TRE_32_ok.looks _ _).ofFM fun args m p R h hp => by
  unfold F_slices_Contains_int_int at h
  split at h
  · injection h with h; injection h with h1 h2; subst h1; subst h2
    exact (congrArg At (eq_slices_Contains_int_int _ _ _ _)).mp ⟨vc_slices_Contains_int_int _ _ _ hp⟩
  · cases h
def TRE_33 : Tab := TRE_32.add 51 F_slices_Contains_int_int
theorem TRE_33_ok : TRE_33.Ok Try.prog := TRE_32_ok.add ok_slices_Contains_int_int
theorem eq_spec_TurnRotor (x : Int) (n : Nat) (m : Nat) (l : List (List Int)) (ro : List Int) (K : V → List Blk → Prop) : VC_spec_TurnRotor x n m l ro K = vbody Try.prog (vin Try.prog TRE_33 annTRE 3) TRE_33.looks (annTRE 24) 24 [.agg [.row 0 n, .row 1 m], .int .i64 x] [⟨.mat .i64 3 (l), 23, .mat⟩, ⟨.ints .i64 (ro), 3, .row⟩] (K) := by kernel_rfl
theorem ok_spec_TurnRotor : OK Try.prog 24 F_spec_TurnRotor.spec := (vbody_ok (vin_ok TRE_33_ok annTRE 3) TRE_33_ok.looks _ _).ofG fun args m p R M h hp => by
  unfold F_spec_TurnRotor at h
  split at h
  · injection h with h; injection h with h1 h2; injection h2 with h2 h3; subst h1; subst h2; subst h3
    exact (congrArg At (eq_spec_TurnRotor _ _ _ _ _ _)).mp ⟨vc_spec_TurnRotor _ _ _ _ _ hp⟩
  · cases h
def TRE_34 : Tab := TRE_33.addG 24 F_spec_TurnRotor
theorem TRE_34_ok : TRE_34.Ok Try.prog := TRE_33_ok.addG ok_spec_TurnRotor
theorem eq_impl_TurnRotor (x : Int) (n : Nat) (m : Nat) (l : List (List Int)) (ro : List Int) (K : V → List Blk → Prop) : VC_impl_TurnRotor x n m l ro K = vbody Try.prog (vin Try.prog TRE_34 annTRE 3) TRE_34.looks (annTRE 25) 25 [.agg [.row 0 n, .row 1 m], .int .i64 x] [⟨.mat .i64 3 (l), 23, .mat⟩, ⟨.ints .i64 (ro), 3, .row⟩] (K) := by kernel_rfl
theorem ok_impl_TurnRotor : OK Try.prog 25 F_impl_TurnRotor.spec := (vbody_ok (vin_ok TRE_34_ok annTRE 3) TRE_34_ok.looks _ _).ofG fun args m p R M h hp => by
  unfold F_impl_TurnRotor at h
  split at h
  · injection h with h; injection h with h1 h2; injection h2 with h2 h3; subst h1; subst h2; subst h3
    exact (congrArg At (eq_impl_TurnRotor _ _ _ _ _ _)).mp ⟨vc_impl_TurnRotor _ _ _ _ _ hp⟩
  · cases h
def TRE_35 : Tab := TRE_34.addG 25 F_impl_TurnRotor
theorem TRE_35_ok : TRE_35.Ok Try.prog := TRE_34_ok.addG ok_impl_TurnRotor
theorem eq_spec_ResetRoute  (n : Nat) (m : Nat) (l : List (List Int)) (ro : List Int) (K : V → List Blk → Prop) : VC_spec_ResetRoute  n m l ro K = vbody Try.prog (vin Try.prog TRE_35 annTRE 3) TRE_35.looks (annTRE 21) 21 [.agg [.row 0 n, .row 1 m]] [⟨.mat .i64 3 (l), 23, .mat⟩, ⟨.ints .i64 (ro), 3, .row⟩] (K) := by kernel_rfl
theorem ok_spec_ResetRoute : OK Try.prog 21 F_spec_ResetRoute.spec := (vbody_ok (vin_ok TRE_35_ok annTRE 3) TRE_35_ok.looks _ _).ofG fun args m p R M h hp => by
  unfold F_spec_ResetRoute at h
  split at h
  · injection h with h; injection h with h1 h2; injection h2 with h2 h3; subst h1; subst h2; subst h3
    exact (congrArg At (eq_spec_ResetRoute _ _ _ _ _)).mp ⟨vc_spec_ResetRoute _ _ _ _ hp⟩
  · cases h
def TRE_36 : Tab := TRE_35.addG 21 F_spec_ResetRoute
theorem TRE_36_ok : TRE_36.Ok Try.prog := TRE_35_ok.addG ok_spec_ResetRoute
theorem eq_impl_ResetRoute  (n : Nat) (m : Nat) (l : List (List Int)) (ro : List Int) (K : V → List Blk → Prop) : VC_impl_ResetRoute  n m l ro K = vbody Try.prog (vin Try.prog TRE_36 annTRE 3) TRE_36.looks (annTRE 22) 22 [.agg [.row 0 n, .row 1 m]] [⟨.mat .i64 3 (l), 23, .mat⟩, ⟨.ints .i64 (ro), 3, .row⟩] (K) := by kernel_rfl
theorem ok_impl_ResetRoute : OK Try.prog 22 F_impl_ResetRoute.spec := (vbody_ok (vin_ok TRE_36_ok annTRE 3) TRE_36_ok.looks _ _).ofG fun args m p R M h hp => by
  unfold F_impl_ResetRoute at h
  split at h
  · injection h with h; injection h with h1 h2; injection h2 with h2 h3; subst h1; subst h2; subst h3
    exact (congrArg At (eq_impl_ResetRoute _ _ _ _ _)).mp ⟨vc_impl_ResetRoute _ _ _ _ hp⟩
  · cases h
def TRE_37 : Tab := TRE_36.addG 22 F_impl_ResetRoute
theorem TRE_37_ok : TRE_37.Ok Try.prog := TRE_36_ok.addG ok_impl_ResetRoute
theorem eq_spec_roTo (x : Int) (n : Nat) (m : Nat) (k : Nat) (l : List (List Int)) (ro : List Int) (e : List Int) (K : V → List Blk → Prop) : VC_spec_roTo x n m k l ro e K = vbody Try.prog (vin Try.prog TRE_37 annTRE 3) TRE_37.looks (annTRE 40) 40 [.agg [.row 0 n, .row 1 m], .int .i64 x, .row 2 k] [⟨.mat .i64 3 (l), 23, .mat⟩, ⟨.ints .i64 (ro), 3, .row⟩, ⟨.ints .i64 (e), 3, .row⟩] (K) := by kernel_rfl
theorem ok_spec_roTo : OK Try.prog 40 F_spec_roTo.spec := (vbody_ok (vin_ok TRE_37_ok annTRE 3) TRE_37_ok.looks _ _).ofG fun args m p R M h hp => by
  unfold F_spec_roTo at h
  split at h
  · injection h with h; injection h with h1 h2; injection h2 with h2 h3; subst h1; subst h2; subst h3
    exact (congrArg At (eq_spec_roTo _ _ _ _ _ _ _ _)).mp ⟨vc_spec_roTo _ _ _ _ _ _ _ hp⟩
  · cases h
def TRE_38 : Tab := TRE_37.addG 40 F_spec_roTo
theorem TRE_38_ok : TRE_38.Ok Try.prog := TRE_37_ok.addG ok_spec_roTo
theorem eq_impl_walk_goTo  (n : Nat) (k : Nat) (x : Int) (q : List Int) (e : List Int) (l : List (List Int)) (K : V → List Blk → Prop) : VC_impl_walk_goTo  n k x q e l K = vbody Try.prog (vin Try.prog TRE_38 annTRE 3) TRE_38.looks (annTRE 42) 42 [.ptr 0 0, .row 1 k] [⟨.mixi [.row 2 n, .int .i64 (x)] 10 (q) [], 58, .box⟩, ⟨.ints .i64 (e), 3, .row⟩, ⟨.mat .i64 3 (l), 23, .mat⟩] (K) := by kernel_rfl
theorem ok_impl_walk_goTo : OK Try.prog 42 F_impl_walk_goTo.spec := (vbody_ok (vin_ok TRE_38_ok annTRE 3) TRE_38_ok.looks _ _).ofG fun args m p R M h hp => by
  unfold F_impl_walk_goTo at h
  split at h
  · injection h with h; injection h with h1 h2; injection h2 with h2 h3; subst h1; subst h2; subst h3
    exact (congrArg At (eq_impl_walk_goTo _ _ _ _ _ _ _)).mp ⟨vc_impl_walk_goTo _ _ _ _ _ _ hp⟩
  · cases h
def TRE_39 : Tab := TRE_38.addG 42 F_impl_walk_goTo
theorem TRE_39_ok : TRE_39.Ok Try.prog := TRE_38_ok.addG ok_impl_walk_goTo
theorem eq_spec_StepsToNode (x : Int) (goal : Int) (n : Nat) (m : Nat) (l : List (List Int)) (ro : List Int) (K : V → List Blk → Prop) : VC_spec_StepsToNode x goal n m l ro K = vbody Try.prog (vin Try.prog TRE_39 annTRE 3) TRE_39.looks (annTRE 17) 17 [.agg [.row 0 n, .row 1 m], .int .i64 x, .int .i64 goal] [⟨.mat .i64 3 (l), 23, .mat⟩, ⟨.ints .i64 (ro), 3, .row⟩] (K) := by kernel_rfl
theorem ok_spec_StepsToNode : OK Try.prog 17 F_spec_StepsToNode.spec := (vbody_ok (vin_ok TRE_39_ok annTRE 3) TRE_39_ok.looks _ _).ofFM fun args m p R h hp => by
  unfold F_spec_StepsToNode at h
  split at h
  · injection h with h; injection h with h1 h2; subst h1; subst h2
    exact (congrArg At (eq_spec_StepsToNode _ _ _ _ _ _ _)).mp ⟨vc_spec_StepsToNode _ _ _ _ _ _ hp⟩
  · cases h
def TRE_40 : Tab := TRE_39.add 17 F_spec_StepsToNode
theorem TRE_40_ok : TRE_40.Ok Try.prog := TRE_39_ok.add ok_spec_StepsToNode
theorem eq_impl_StepsToNode (x : Int) (goal : Int) (n : Nat) (m : Nat) (l : List (List Int)) (ro : List Int) (K : V → List Blk → Prop) : VC_impl_StepsToNode x goal n m l ro K = vbody Try.prog (vin Try.prog TRE_40 annTRE 3) TRE_40.looks (annTRE 18) 18 [.agg [.row 0 n, .row 1 m], .int .i64 x, .int .i64 goal] [⟨.mat .i64 3 (l), 23, .mat⟩, ⟨.ints .i64 (ro), 3, .row⟩] (K) := by kernel_rfl
theorem ok_impl_StepsToNode : OK Try.prog 18 F_impl_StepsToNode.spec := (vbody_ok (vin_ok TRE_40_ok annTRE 3) TRE_40_ok.looks _ _).ofFM fun args m p R h hp => by
  unfold F_impl_StepsToNode at h
  split at h
  · injection h with h; injection h with h1 h2; subst h1; subst h2
    exact (congrArg At (eq_impl_StepsToNode _ _ _ _ _ _ _)).mp ⟨vc_impl_StepsToNode _ _ _ _ _ _ hp⟩
  · cases h
def TRE_41 : Tab := TRE_40.add 18 F_impl_StepsToNode
theorem TRE_41_ok : TRE_41.Ok Try.prog := TRE_40_ok.add ok_impl_StepsToNode
theorem eq_spec_LinesUsed (x : Int) (steps : Int) (n : Nat) (m : Nat) (l : List (List Int)) (ro : List Int) (K : V → List Blk → Prop) : VC_spec_LinesUsed x steps n m l ro K = vbody Try.prog (vin Try.prog TRE_41 annTRE 3) TRE_41.looks (annTRE 9) 9 [.agg [.row 0 n, .row 1 m], .int .i64 x, .int .i64 steps] [⟨.mat .i64 3 (l), 23, .mat⟩, ⟨.ints .i64 (ro), 3, .row⟩] (K) := by kernel_rfl
theorem ok_spec_LinesUsed : OK Try.prog 9 F_spec_LinesUsed.spec := (vbody_ok (vin_ok TRE_41_ok annTRE 3) TRE_41_ok.looks _ _).ofG fun args m p R M h hp => by
  unfold F_spec_LinesUsed at h
  split at h
  · injection h with h; injection h with h1 h2; injection h2 with h2 h3; subst h1; subst h2; subst h3
    exact (congrArg At (eq_spec_LinesUsed _ _ _ _ _ _ _)).mp ⟨vc_spec_LinesUsed _ _ _ _ _ _ hp⟩
  · cases h
def TRE_42 : Tab := TRE_41.addG 9 F_spec_LinesUsed
theorem TRE_42_ok : TRE_42.Ok Try.prog := TRE_41_ok.addG ok_spec_LinesUsed
theorem eq_impl_LinesUsed (x : Int) (steps : Int) (n : Nat) (m : Nat) (l : List (List Int)) (ro : List Int) (K : V → List Blk → Prop) : VC_impl_LinesUsed x steps n m l ro K = vbody Try.prog (vin Try.prog TRE_42 annTRE 3) TRE_42.looks (annTRE 11) 11 [.agg [.row 0 n, .row 1 m], .int .i64 x, .int .i64 steps] [⟨.mat .i64 3 (l), 23, .mat⟩, ⟨.ints .i64 (ro), 3, .row⟩] (K) := by kernel_rfl
theorem ok_impl_LinesUsed : OK Try.prog 11 F_impl_LinesUsed.spec := (vbody_ok (vin_ok TRE_42_ok annTRE 3) TRE_42_ok.looks _ _).ofG fun args m p R M h hp => by
  unfold F_impl_LinesUsed at h
  split at h
  · injection h with h; injection h with h1 h2; injection h2 with h2 h3; subst h1; subst h2; subst h3
    exact (congrArg At (eq_impl_LinesUsed _ _ _ _ _ _ _)).mp ⟨vc_impl_LinesUsed _ _ _ _ _ _ hp⟩
  · cases h
def TRE_43 : Tab := TRE_42.addG 11 F_impl_LinesUsed
theorem TRE_43_ok : TRE_43.Ok Try.prog := TRE_42_ok.addG ok_impl_LinesUsed
def TRE : Tab := TRE_43
theorem TRE_ok : TRE.Ok Try.prog := TRE_43_ok
end Go.Proofs.Ytopolpgligoldac
