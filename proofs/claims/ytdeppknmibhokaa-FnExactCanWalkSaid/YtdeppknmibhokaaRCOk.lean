/- The contracts of this chapter. -/
import Derived.Test.YtdeppknmibhokaaProg
import Derived.Test.YtdeppknmibhokaaRCPf
import Derived.KernelRfl
namespace Go.Proofs.Ytdeppknmibhokaa
open Go Go.Vi
set_option linter.unusedVariables false
def annTRC : FuncId → Nat → St → Option Ann := fun f => if f = 51 then ann_laws_szIntSS else if f = 49 then ann_laws_toIntS else if f = 54 then ann_laws_toIntSS else if f = 32 then ann_laws_eqIntS else if f = 39 then ann_laws_eqIntSS else if f = 71 then ann_spec_l1All else if f = 53 then ann_spec_roGood else if f = 18 then ann_impl_IsRoute else if f = 69 then ann_spec_l1Has else if f = 78 then ann_slices_Index_int_int else if f = 46 then ann_spec_CanWalk else if f = 47 then ann_impl_CanWalk else (fun _ _ => none)
def TRC_0 : Tab := Tab.none
theorem TRC_0_ok : TRC_0.Ok Try.prog := Tab.none_ok
theorem eq_spec_l1In (n : Int) (lo : Int) (hi : Int) (K : V → Prop) : VC_spec_l1In n lo hi K = vbody Try.prog (vin Try.prog TRC_0 annTRC 3) TRC_0.looks (annTRC 57) 57 [.int .i64 n, .int .i64 lo, .int .i64 hi] [] (fun v _ => K v) := by kernel_rfl
theorem ok_spec_l1In : OK Try.prog 57 F_spec_l1In.spec := (vbody_ok (vin_ok TRC_0_ok annTRC 3) TRC_0_ok.looks _ _).ofF fun args m p R h hp => by
  unfold F_spec_l1In at h
  split at h
  · injection h with h; injection h with h1 h2; subst h1; subst h2
    exact ⟨rfl, (congrArg At (eq_spec_l1In _ _ _ _)).mp ⟨vc_spec_l1In _ _ _ hp⟩⟩
  · cases h
def TRC_1 : Tab := TRC_0.add 57 F_spec_l1In
theorem TRC_1_ok : TRC_1.Ok Try.prog := TRC_0_ok.add ok_spec_l1In
theorem eq_impl_within (n : Int) (lo : Int) (hi : Int) (K : V → Prop) : VC_impl_within n lo hi K = vbody Try.prog (vin Try.prog TRC_1 annTRC 3) TRC_1.looks (annTRC 55) 55 [.int .i64 n, .int .i64 lo, .int .i64 hi] [] (fun v _ => K v) := by kernel_rfl
theorem ok_impl_within : OK Try.prog 55 F_impl_within.spec := (vbody_ok (vin_ok TRC_1_ok annTRC 3) TRC_1_ok.looks _ _).ofF fun args m p R h hp => by
  unfold F_impl_within at h
  split at h
  · injection h with h; injection h with h1 h2; subst h1; subst h2
    exact ⟨rfl, (congrArg At (eq_impl_within _ _ _ _)).mp ⟨vc_impl_within _ _ _ hp⟩⟩
  · cases h
def TRC_2 : Tab := TRC_1.add 55 F_impl_within
theorem TRC_2_ok : TRC_2.Ok Try.prog := TRC_1_ok.add ok_impl_within
theorem eq_laws_szIntS (left : Int) (n : Nat) (a : List Int) (e : TypeId) (k : Kind) (K : V → List Blk → Prop) : VC_laws_szIntS left n a e k K = vbody Try.prog (vin Try.prog TRC_2 annTRC 3) TRC_2.looks (annTRC 52) 52 [.row 0 n, .int .i64 left] [⟨.ints .i64 a, e, k⟩] (K) := by kernel_rfl
theorem ok_laws_szIntS : OK Try.prog 52 F_laws_szIntS.spec := (vbody_ok (vin_ok TRC_2_ok annTRC 3) TRC_2_ok.looks _ _).ofFM fun args m p R h hp => by
  unfold F_laws_szIntS at h
  split at h
  · injection h with h; injection h with h1 h2; subst h1; subst h2
    exact (congrArg At (eq_laws_szIntS _ _ _ _ _ _)).mp ⟨vc_laws_szIntS _ _ _ _ _ hp⟩
  · cases h
def TRC_3 : Tab := TRC_2.add 52 F_laws_szIntS
theorem TRC_3_ok : TRC_3.Ok Try.prog := TRC_2_ok.add ok_laws_szIntS
theorem eq_laws_szIntSS (left : Int) (n : Nat) (l : List (List Int)) (K : V → List Blk → Prop) : VC_laws_szIntSS left n l K = vbody Try.prog (vin Try.prog TRC_3 annTRC 3) TRC_3.looks (annTRC 51) 51 [.row 0 n, .int .i64 left] [⟨.mat .i64 3 (l), 23, .amat⟩] (K) := by kernel_rfl
theorem ok_laws_szIntSS : OK Try.prog 51 F_laws_szIntSS.spec := (vbody_ok (vin_ok TRC_3_ok annTRC 3) TRC_3_ok.looks _ _).ofFM fun args m p R h hp => by
  unfold F_laws_szIntSS at h
  split at h
  · injection h with h; injection h with h1 h2; subst h1; subst h2
    exact (congrArg At (eq_laws_szIntSS _ _ _ _)).mp ⟨vc_laws_szIntSS _ _ _ hp⟩
  · cases h
def TRC_4 : Tab := TRC_3.add 51 F_laws_szIntSS
theorem TRC_4_ok : TRC_4.Ok Try.prog := TRC_3_ok.add ok_laws_szIntSS
theorem eq_laws_szRoute (left : Int) (n : Nat) (m : Nat) (l : List (List Int)) (ro : List Int) (K : V → List Blk → Prop) : VC_laws_szRoute left n m l ro K = vbody Try.prog (vin Try.prog TRC_4 annTRC 3) TRC_4.looks (annTRC 15) 15 [.agg [.row 0 n, .row 1 m], .int .i64 left] [⟨.mat .i64 3 (l), 23, .amat⟩, ⟨.ints .i64 (ro), 3, .arg 1⟩] (K) := by kernel_rfl
theorem ok_laws_szRoute : OK Try.prog 15 F_laws_szRoute.spec := (vbody_ok (vin_ok TRC_4_ok annTRC 3) TRC_4_ok.looks _ _).ofFM fun args m p R h hp => by
  unfold F_laws_szRoute at h
  split at h
  · injection h with h; injection h with h1 h2; subst h1; subst h2
    exact (congrArg At (eq_laws_szRoute _ _ _ _ _ _)).mp ⟨vc_laws_szRoute _ _ _ _ _ hp⟩
  · cases h
def TRC_5 : Tab := TRC_4.add 15 F_laws_szRoute
theorem TRC_5_ok : TRC_5.Ok Try.prog := TRC_4_ok.add ok_laws_szRoute
theorem eq_laws_toIntS  (n : Nat) (a : List Int) (e : TypeId) (k : Kind) (K : V → List Blk → Prop) : VC_laws_toIntS  n a e k K = vbody Try.prog (vin Try.prog TRC_5 annTRC 3) TRC_5.looks (annTRC 49) 49 [.row 0 n] [⟨.ints .i64 a, e, k⟩] (K) := by kernel_rfl
theorem ok_laws_toIntS : OK Try.prog 49 F_laws_toIntS.spec := (vbody_ok (vin_ok TRC_5_ok annTRC 3) TRC_5_ok.looks _ _).ofG fun args m p R M h hp => by
  unfold F_laws_toIntS at h
  split at h
  · injection h with h; injection h with h1 h2; injection h2 with h2 h3; subst h1; subst h2; subst h3
    exact (congrArg At (eq_laws_toIntS _ _ _ _ _)).mp ⟨vc_laws_toIntS _ _ _ _ hp⟩
  · cases h
def TRC_6 : Tab := TRC_5.addG 49 F_laws_toIntS
theorem TRC_6_ok : TRC_6.Ok Try.prog := TRC_5_ok.addG ok_laws_toIntS
theorem eq_laws_toIntSS  (n : Nat) (l : List (List Int)) (K : V → List Blk → Prop) : VC_laws_toIntSS  n l K = vbody Try.prog (vin Try.prog TRC_6 annTRC 3) TRC_6.looks (annTRC 54) 54 [.row 0 n] [⟨.mat .i64 3 (l), 23, .amat⟩] (K) := by kernel_rfl
theorem ok_laws_toIntSS : OK Try.prog 54 F_laws_toIntSS.spec := (vbody_ok (vin_ok TRC_6_ok annTRC 3) TRC_6_ok.looks _ _).ofG fun args m p R M h hp => by
  unfold F_laws_toIntSS at h
  split at h
  · injection h with h; injection h with h1 h2; injection h2 with h2 h3; subst h1; subst h2; subst h3
    exact (congrArg At (eq_laws_toIntSS _ _ _)).mp ⟨vc_laws_toIntSS _ _ hp⟩
  · cases h
def TRC_7 : Tab := TRC_6.addG 54 F_laws_toIntSS
theorem TRC_7_ok : TRC_7.Ok Try.prog := TRC_6_ok.addG ok_laws_toIntSS
theorem eq_laws_toRoute  (n : Nat) (m : Nat) (l : List (List Int)) (ro : List Int) (K : V → List Blk → Prop) : VC_laws_toRoute  n m l ro K = vbody Try.prog (vin Try.prog TRC_7 annTRC 3) TRC_7.looks (annTRC 17) 17 [.agg [.row 0 n, .row 1 m]] [⟨.mat .i64 3 (l), 23, .amat⟩, ⟨.ints .i64 (ro), 3, .arg 1⟩] (K) := by kernel_rfl
theorem ok_laws_toRoute : OK Try.prog 17 F_laws_toRoute.spec := (vbody_ok (vin_ok TRC_7_ok annTRC 3) TRC_7_ok.looks _ _).ofG fun args m p R M h hp => by
  unfold F_laws_toRoute at h
  split at h
  · injection h with h; injection h with h1 h2; injection h2 with h2 h3; subst h1; subst h2; subst h3
    exact (congrArg At (eq_laws_toRoute _ _ _ _ _)).mp ⟨vc_laws_toRoute _ _ _ _ hp⟩
  · cases h
def TRC_8 : Tab := TRC_7.addG 17 F_laws_toRoute
theorem TRC_8_ok : TRC_8.Ok Try.prog := TRC_7_ok.addG ok_laws_toRoute
theorem eq_laws_eqIntS  (n : Nat) (m : Nat) (a : List Int) (b : List Int) (e : TypeId) (k : Kind) (f : TypeId) (q : Kind) (K : V → List Blk → Prop) : VC_laws_eqIntS  n m a b e k f q K = vbody Try.prog (vin Try.prog TRC_8 annTRC 3) TRC_8.looks (annTRC 32) 32 [.row 0 n, .row 1 m] [⟨.ints .i64 a, e, k⟩, ⟨.ints .i64 b, f, q⟩] (K) := by kernel_rfl
theorem ok_laws_eqIntS : OK Try.prog 32 F_laws_eqIntS.spec := (vbody_ok (vin_ok TRC_8_ok annTRC 3) TRC_8_ok.looks _ _).ofFM fun args m p R h hp => by
  unfold F_laws_eqIntS at h
  split at h
  · injection h with h; injection h with h1 h2; subst h1; subst h2
    exact (congrArg At (eq_laws_eqIntS _ _ _ _ _ _ _ _ _)).mp ⟨vc_laws_eqIntS _ _ _ _ _ _ _ _ hp⟩
  · cases h
def TRC_9 : Tab := TRC_8.add 32 F_laws_eqIntS
theorem TRC_9_ok : TRC_9.Ok Try.prog := TRC_8_ok.add ok_laws_eqIntS
theorem eq_laws_eqIntSS  (n : Nat) (m : Nat) (l : List (List Int)) (j : List (List Int)) (K : V → List Blk → Prop) : VC_laws_eqIntSS  n m l j K = vbody Try.prog (vin Try.prog TRC_9 annTRC 3) TRC_9.looks (annTRC 39) 39 [.row 0 n, .row 1 m] [⟨.mat .i64 3 (l), 23, .mat⟩, ⟨.mat .i64 3 (j), 23, .mat⟩] (K) := by kernel_rfl
theorem ok_laws_eqIntSS : OK Try.prog 39 F_laws_eqIntSS.spec := (vbody_ok (vin_ok TRC_9_ok annTRC 3) TRC_9_ok.looks _ _).ofFM fun args m p R h hp => by
  unfold F_laws_eqIntSS at h
  split at h
  · injection h with h; injection h with h1 h2; subst h1; subst h2
    exact (congrArg At (eq_laws_eqIntSS _ _ _ _ _)).mp ⟨vc_laws_eqIntSS _ _ _ _ hp⟩
  · cases h
def TRC_10 : Tab := TRC_9.add 39 F_laws_eqIntSS
theorem TRC_10_ok : TRC_10.Ok Try.prog := TRC_9_ok.add ok_laws_eqIntSS
theorem eq_laws_eqRoute  (n : Nat) (m : Nat) (l : List (List Int)) (ro : List Int) (u : Nat) (v : Nat) (j : List (List Int)) (so : List Int) (K : V → List Blk → Prop) : VC_laws_eqRoute  n m l ro u v j so K = vbody Try.prog (vin Try.prog TRC_10 annTRC 3) TRC_10.looks (annTRC 19) 19 [.agg [.row 0 n, .row 1 m], .agg [.row 2 u, .row 3 v]] [⟨.mat .i64 3 (l), 23, .mat⟩, ⟨.ints .i64 (ro), 3, .row⟩, ⟨.mat .i64 3 (j), 23, .mat⟩, ⟨.ints .i64 (so), 3, .row⟩] (K) := by kernel_rfl
theorem ok_laws_eqRoute : OK Try.prog 19 F_laws_eqRoute.spec := (vbody_ok (vin_ok TRC_10_ok annTRC 3) TRC_10_ok.looks _ _).ofFM fun args m p R h hp => by
  unfold F_laws_eqRoute at h
  split at h
  · injection h with h; injection h with h1 h2; subst h1; subst h2
    exact (congrArg At (eq_laws_eqRoute _ _ _ _ _ _ _ _ _)).mp ⟨vc_laws_eqRoute _ _ _ _ _ _ _ _ hp⟩
  · cases h
def TRC_11 : Tab := TRC_10.add 19 F_laws_eqRoute
theorem TRC_11_ok : TRC_11.Ok Try.prog := TRC_10_ok.add ok_laws_eqRoute
theorem eq_spec_l1All (lo : Int) (hi : Int) (n : Nat) (a : List Int) (e : TypeId) (k : Kind) (K : V → List Blk → Prop) : VC_spec_l1All lo hi n a e k K = vbody Try.prog (vin Try.prog TRC_11 annTRC 3) TRC_11.looks (annTRC 71) 71 [.row 0 n, .int .i64 lo, .int .i64 hi] [⟨.ints .i64 a, e, k⟩] (K) := by kernel_rfl
theorem ok_spec_l1All : OK Try.prog 71 F_spec_l1All.spec := (vbody_ok (vin_ok TRC_11_ok annTRC 3) TRC_11_ok.looks _ _).ofFM fun args m p R h hp => by
  unfold F_spec_l1All at h
  split at h
  · injection h with h; injection h with h1 h2; subst h1; subst h2
    exact (congrArg At (eq_spec_l1All _ _ _ _ _ _ _)).mp ⟨vc_spec_l1All _ _ _ _ _ _ hp⟩
  · cases h
def TRC_12 : Tab := TRC_11.add 71 F_spec_l1All
theorem TRC_12_ok : TRC_12.Ok Try.prog := TRC_11_ok.add ok_spec_l1All
theorem eq_spec_roGood  (n : Nat) (m : Nat) (l : List (List Int)) (ro : List Int) (K : V → List Blk → Prop) : VC_spec_roGood  n m l ro K = vbody Try.prog (vin Try.prog TRC_12 annTRC 3) TRC_12.looks (annTRC 53) 53 [.agg [.row 0 n, .row 1 m]] [⟨.mat .i64 3 (l), 23, .mat⟩, ⟨.ints .i64 (ro), 3, .row⟩] (K) := by kernel_rfl
theorem ok_spec_roGood : OK Try.prog 53 F_spec_roGood.spec := (vbody_ok (vin_ok TRC_12_ok annTRC 3) TRC_12_ok.looks _ _).ofFM fun args m p R h hp => by
  unfold F_spec_roGood at h
  split at h
  · injection h with h; injection h with h1 h2; subst h1; subst h2
    exact (congrArg At (eq_spec_roGood _ _ _ _ _)).mp ⟨vc_spec_roGood _ _ _ _ hp⟩
  · cases h
def TRC_13 : Tab := TRC_12.add 53 F_spec_roGood
theorem TRC_13_ok : TRC_13.Ok Try.prog := TRC_12_ok.add ok_spec_roGood
theorem eq_impl_isNode (node : Int) (n : Nat) (m : Nat) (l : List (List Int)) (ro : List Int) (K : V → List Blk → Prop) : VC_impl_isNode node n m l ro K = vbody Try.prog (vin Try.prog TRC_13 annTRC 3) TRC_13.looks (annTRC 56) 56 [.agg [.row 0 n, .row 1 m], .int .i64 node] [⟨.mat .i64 3 (l), 23, .mat⟩, ⟨.ints .i64 (ro), 3, .row⟩] (K) := by kernel_rfl
theorem ok_impl_isNode : OK Try.prog 56 F_impl_isNode.spec := (vbody_ok (vin_ok TRC_13_ok annTRC 3) TRC_13_ok.looks _ _).ofFM fun args m p R h hp => by
  unfold F_impl_isNode at h
  split at h
  · injection h with h; injection h with h1 h2; subst h1; subst h2
    exact (congrArg At (eq_impl_isNode _ _ _ _ _ _)).mp ⟨vc_impl_isNode _ _ _ _ _ hp⟩
  · cases h
def TRC_14 : Tab := TRC_13.add 56 F_impl_isNode
theorem TRC_14_ok : TRC_14.Ok Try.prog := TRC_13_ok.add ok_impl_isNode
theorem eq_impl_IsRoute  (n : Nat) (m : Nat) (l : List (List Int)) (ro : List Int) (K : V → List Blk → Prop) : VC_impl_IsRoute  n m l ro K = vbody Try.prog (vin Try.prog TRC_14 annTRC 3) TRC_14.looks (annTRC 18) 18 [.agg [.row 0 n, .row 1 m]] [⟨.mat .i64 3 (l), 23, .mat⟩, ⟨.ints .i64 (ro), 3, .row⟩] (K) := by kernel_rfl
theorem ok_impl_IsRoute : OK Try.prog 18 F_impl_IsRoute.spec := (vbody_ok (vin_ok TRC_14_ok annTRC 3) TRC_14_ok.looks _ _).ofFM fun args m p R h hp => by
  unfold F_impl_IsRoute at h
  split at h
  · injection h with h; injection h with h1 h2; subst h1; subst h2
    exact (congrArg At (eq_impl_IsRoute _ _ _ _ _)).mp ⟨vc_impl_IsRoute _ _ _ _ hp⟩
  · cases h
def TRC_15 : Tab := TRC_14.add 18 F_impl_IsRoute
theorem TRC_15_ok : TRC_15.Ok Try.prog := TRC_14_ok.add ok_impl_IsRoute
theorem eq_spec_l1Has (v : Int) (n : Nat) (a : List Int) (e : TypeId) (k : Kind) (K : V → List Blk → Prop) : VC_spec_l1Has v n a e k K = vbody Try.prog (vin Try.prog TRC_15 annTRC 3) TRC_15.looks (annTRC 69) 69 [.row 0 n, .int .i64 v] [⟨.ints .i64 a, e, k⟩] (K) := by kernel_rfl
theorem ok_spec_l1Has : OK Try.prog 69 F_spec_l1Has.spec := (vbody_ok (vin_ok TRC_15_ok annTRC 3) TRC_15_ok.looks _ _).ofFM fun args m p R h hp => by
  unfold F_spec_l1Has at h
  split at h
  · injection h with h; injection h with h1 h2; subst h1; subst h2
    exact (congrArg At (eq_spec_l1Has _ _ _ _ _ _)).mp ⟨vc_spec_l1Has _ _ _ _ _ hp⟩
  · cases h
def TRC_16 : Tab := TRC_15.add 69 F_spec_l1Has
theorem TRC_16_ok : TRC_16.Ok Try.prog := TRC_15_ok.add ok_spec_l1Has
theorem eq_slices_Index_int_int (v : Int) (n : Nat) (a : List Int) (e : TypeId) (k : Kind) (K : V → List Blk → Prop) : VC_slices_Index_int_int v n a e k K = vbody Try.prog (vin Try.prog TRC_16 annTRC 3) TRC_16.looks (annTRC 78) 78 [.row 0 n, .int .i64 v] [⟨.ints .i64 a, e, k⟩] (K) := by kernel_rfl
theorem ok_slices_Index_int_int : OK Try.prog 78 F_slices_Index_int_int.spec := (vbody_ok (vin_ok TRC_16_ok annTRC 3) TRC_16_ok.looks _ _).ofFM fun args m p R h hp => by
  unfold F_slices_Index_int_int at h
  split at h
  · injection h with h; injection h with h1 h2; subst h1; subst h2
    exact (congrArg At (eq_slices_Index_int_int _ _ _ _ _ _)).mp ⟨vc_slices_Index_int_int _ _ _ _ _ hp⟩
  · cases h
def TRC_17 : Tab := TRC_16.add 78 F_slices_Index_int_int
theorem TRC_17_ok : TRC_17.Ok Try.prog := TRC_16_ok.add ok_slices_Index_int_int
theorem eq_slices_Contains_int_int (v : Int) (n : Nat) (a : List Int) (K : V → List Blk → Prop) : VC_slices_Contains_int_int v n a K = vbody Try.prog (vin Try.prog TRC_17 annTRC 3) TRC_17.looks (annTRC 70) 70 [.row 0 n, .int .i64 v] [⟨.ints .i64 (a), 3, .row⟩] (K) := by kernel_rfl
theorem ok_slices_Contains_int_int : OK Try.prog 70 F_slices_Contains_int_int.spec := (vbody_ok (vin_ok TRC_17_ok annTRC 3) TRC_17_ok.looks _ _).ofFM fun args m p R h hp => by
  unfold F_slices_Contains_int_int at h
  split at h
  · injection h with h; injection h with h1 h2; subst h1; subst h2
    exact (congrArg At (eq_slices_Contains_int_int _ _ _ _)).mp ⟨vc_slices_Contains_int_int _ _ _ hp⟩
  · cases h
def TRC_18 : Tab := TRC_17.add 70 F_slices_Contains_int_int
theorem TRC_18_ok : TRC_18.Ok Try.prog := TRC_17_ok.add ok_slices_Contains_int_int
theorem eq_spec_roNode (node : Int) (n : Nat) (m : Nat) (l : List (List Int)) (ro : List Int) (K : V → List Blk → Prop) : VC_spec_roNode node n m l ro K = vbody Try.prog (vin Try.prog TRC_18 annTRC 3) TRC_18.looks (annTRC 58) 58 [.agg [.row 0 n, .row 1 m], .int .i64 node] [⟨.mat .i64 3 (l), 23, .mat⟩, ⟨.ints .i64 (ro), 3, .row⟩] (K) := by kernel_rfl
theorem ok_spec_roNode : OK Try.prog 58 F_spec_roNode.spec := (vbody_ok (vin_ok TRC_18_ok annTRC 3) TRC_18_ok.looks _ _).ofFM fun args m p R h hp => by
  unfold F_spec_roNode at h
  split at h
  · injection h with h; injection h with h1 h2; subst h1; subst h2
    exact (congrArg At (eq_spec_roNode _ _ _ _ _ _)).mp ⟨vc_spec_roNode _ _ _ _ _ hp⟩
  · cases h
def TRC_19 : Tab := TRC_18.add 58 F_spec_roNode
theorem TRC_19_ok : TRC_19.Ok Try.prog := TRC_18_ok.add ok_spec_roNode
theorem eq_spec_CanWalk (aat : Int) (goal : Int) (n : Nat) (m : Nat) (l : List (List Int)) (ro : List Int) (K : V → List Blk → Prop) : VC_spec_CanWalk aat goal n m l ro K = vbody Try.prog (vin Try.prog TRC_19 annTRC 3) TRC_19.looks (annTRC 46) 46 [.agg [.row 0 n, .row 1 m], .int .i64 aat, .int .i64 goal] [⟨.mat .i64 3 (l), 23, .mat⟩, ⟨.ints .i64 (ro), 3, .row⟩] (K) := by kernel_rfl
theorem ok_spec_CanWalk : OK Try.prog 46 F_spec_CanWalk.spec := (vbody_ok (vin_ok TRC_19_ok annTRC 3) TRC_19_ok.looks _ _).ofFM fun args m p R h hp => by
  unfold F_spec_CanWalk at h
  split at h
  · injection h with h; injection h with h1 h2; subst h1; subst h2
    exact (congrArg At (eq_spec_CanWalk _ _ _ _ _ _ _)).mp ⟨vc_spec_CanWalk _ _ _ _ _ _ hp⟩
  · cases h
def TRC_20 : Tab := TRC_19.add 46 F_spec_CanWalk
theorem TRC_20_ok : TRC_20.Ok Try.prog := TRC_19_ok.add ok_spec_CanWalk
theorem eq_impl_CanWalk (aat : Int) (goal : Int) (n : Nat) (m : Nat) (l : List (List Int)) (ro : List Int) (K : V → List Blk → Prop) : VC_impl_CanWalk aat goal n m l ro K = vbody Try.prog (vin Try.prog TRC_20 annTRC 3) TRC_20.looks (annTRC 47) 47 [.agg [.row 0 n, .row 1 m], .int .i64 aat, .int .i64 goal] [⟨.mat .i64 3 (l), 23, .mat⟩, ⟨.ints .i64 (ro), 3, .row⟩] (K) := by kernel_rfl
theorem ok_impl_CanWalk : OK Try.prog 47 F_impl_CanWalk.spec := (vbody_ok (vin_ok TRC_20_ok annTRC 3) TRC_20_ok.looks _ _).ofFM fun args m p R h hp => by
  unfold F_impl_CanWalk at h
  split at h
  · injection h with h; injection h with h1 h2; subst h1; subst h2
    exact (congrArg At (eq_impl_CanWalk _ _ _ _ _ _ _)).mp ⟨vc_impl_CanWalk _ _ _ _ _ _ hp⟩
  · cases h
def TRC_21 : Tab := TRC_20.add 47 F_impl_CanWalk
theorem TRC_21_ok : TRC_21.Ok Try.prog := TRC_20_ok.add ok_impl_CanWalk
def TRC : Tab := TRC_21
theorem TRC_ok : TRC.Ok Try.prog := TRC_21_ok
end Go.Proofs.Ytdeppknmibhokaa
