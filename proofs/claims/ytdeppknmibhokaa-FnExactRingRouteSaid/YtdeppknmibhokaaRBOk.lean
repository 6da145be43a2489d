/- The contracts of this chapter. -/
import Derived.Test.YtdeppknmibhokaaProg
import Derived.Test.YtdeppknmibhokaaRBPf
import Derived.KernelRfl
namespace Go.Proofs.Ytdeppknmibhokaa
open Go Go.Vi
set_option linter.unusedVariables false
def annTRB : FuncId → Nat → St → Option Ann := fun f => if f = 51 then ann_laws_szIntSS else if f = 49 then ann_laws_toIntS else if f = 54 then ann_laws_toIntSS else if f = 32 then ann_laws_eqIntS else if f = 39 then ann_laws_eqIntSS else if f = 33 then ann_laws_markIntS else if f = 40 then ann_laws_markIntSS else if f = 34 then ann_laws_heldIntS else if f = 41 then ann_laws_heldIntSS else if f = 20 then ann_spec_RingRoute else if f = 21 then ann_impl_RingRoute else (fun _ _ => none)
def TRB_0 : Tab := Tab.none
theorem TRB_0_ok : TRB_0.Ok Try.prog := Tab.none_ok
theorem eq_spec_l1In (n : Int) (lo : Int) (hi : Int) (K : V → Prop) : VC_spec_l1In n lo hi K = vbody Try.prog (vin Try.prog TRB_0 annTRB 3) TRB_0.looks (annTRB 57) 57 [.int .i64 n, .int .i64 lo, .int .i64 hi] [] (fun v _ => K v) := by kernel_rfl
theorem ok_spec_l1In : OK Try.prog 57 F_spec_l1In.spec := (vbody_ok (vin_ok TRB_0_ok annTRB 3) TRB_0_ok.looks _ _).ofF fun args m p R h hp => by
  unfold F_spec_l1In at h
  split at h
  · injection h with h; injection h with h1 h2; subst h1; subst h2
    exact ⟨rfl, (congrArg At (eq_spec_l1In _ _ _ _)).mp ⟨vc_spec_l1In _ _ _ hp⟩⟩
  · cases h
def TRB_1 : Tab := TRB_0.add 57 F_spec_l1In
theorem TRB_1_ok : TRB_1.Ok Try.prog := TRB_0_ok.add ok_spec_l1In
theorem eq_impl_within (n : Int) (lo : Int) (hi : Int) (K : V → Prop) : VC_impl_within n lo hi K = vbody Try.prog (vin Try.prog TRB_1 annTRB 3) TRB_1.looks (annTRB 55) 55 [.int .i64 n, .int .i64 lo, .int .i64 hi] [] (fun v _ => K v) := by kernel_rfl
theorem ok_impl_within : OK Try.prog 55 F_impl_within.spec := (vbody_ok (vin_ok TRB_1_ok annTRB 3) TRB_1_ok.looks _ _).ofF fun args m p R h hp => by
  unfold F_impl_within at h
  split at h
  · injection h with h; injection h with h1 h2; subst h1; subst h2
    exact ⟨rfl, (congrArg At (eq_impl_within _ _ _ _)).mp ⟨vc_impl_within _ _ _ hp⟩⟩
  · cases h
def TRB_2 : Tab := TRB_1.add 55 F_impl_within
theorem TRB_2_ok : TRB_2.Ok Try.prog := TRB_1_ok.add ok_impl_within
theorem eq_laws_szIntS (left : Int) (n : Nat) (a : List Int) (e : TypeId) (k : Kind) (K : V → List Blk → Prop) : VC_laws_szIntS left n a e k K = vbody Try.prog (vin Try.prog TRB_2 annTRB 3) TRB_2.looks (annTRB 52) 52 [.row 0 n, .int .i64 left] [⟨.ints .i64 a, e, k⟩] (K) := by kernel_rfl
theorem ok_laws_szIntS : OK Try.prog 52 F_laws_szIntS.spec := (vbody_ok (vin_ok TRB_2_ok annTRB 3) TRB_2_ok.looks _ _).ofFM fun args m p R h hp => by
  unfold F_laws_szIntS at h
  split at h
  · injection h with h; injection h with h1 h2; subst h1; subst h2
    exact (congrArg At (eq_laws_szIntS _ _ _ _ _ _)).mp ⟨vc_laws_szIntS _ _ _ _ _ hp⟩
  · cases h
def TRB_3 : Tab := TRB_2.add 52 F_laws_szIntS
theorem TRB_3_ok : TRB_3.Ok Try.prog := TRB_2_ok.add ok_laws_szIntS
theorem eq_laws_szIntSS (left : Int) (n : Nat) (l : List (List Int)) (K : V → List Blk → Prop) : VC_laws_szIntSS left n l K = vbody Try.prog (vin Try.prog TRB_3 annTRB 3) TRB_3.looks (annTRB 51) 51 [.row 0 n, .int .i64 left] [⟨.mat .i64 3 (l), 23, .amat⟩] (K) := by kernel_rfl
theorem ok_laws_szIntSS : OK Try.prog 51 F_laws_szIntSS.spec := (vbody_ok (vin_ok TRB_3_ok annTRB 3) TRB_3_ok.looks _ _).ofFM fun args m p R h hp => by
  unfold F_laws_szIntSS at h
  split at h
  · injection h with h; injection h with h1 h2; subst h1; subst h2
    exact (congrArg At (eq_laws_szIntSS _ _ _ _)).mp ⟨vc_laws_szIntSS _ _ _ hp⟩
  · cases h
def TRB_4 : Tab := TRB_3.add 51 F_laws_szIntSS
theorem TRB_4_ok : TRB_4.Ok Try.prog := TRB_3_ok.add ok_laws_szIntSS
theorem eq_laws_szRoute (left : Int) (n : Nat) (m : Nat) (l : List (List Int)) (ro : List Int) (K : V → List Blk → Prop) : VC_laws_szRoute left n m l ro K = vbody Try.prog (vin Try.prog TRB_4 annTRB 3) TRB_4.looks (annTRB 15) 15 [.agg [.row 0 n, .row 1 m], .int .i64 left] [⟨.mat .i64 3 (l), 23, .amat⟩, ⟨.ints .i64 (ro), 3, .arg 1⟩] (K) := by kernel_rfl
theorem ok_laws_szRoute : OK Try.prog 15 F_laws_szRoute.spec := (vbody_ok (vin_ok TRB_4_ok annTRB 3) TRB_4_ok.looks _ _).ofFM fun args m p R h hp => by
  unfold F_laws_szRoute at h
  split at h
  · injection h with h; injection h with h1 h2; subst h1; subst h2
    exact (congrArg At (eq_laws_szRoute _ _ _ _ _ _)).mp ⟨vc_laws_szRoute _ _ _ _ _ hp⟩
  · cases h
def TRB_5 : Tab := TRB_4.add 15 F_laws_szRoute
theorem TRB_5_ok : TRB_5.Ok Try.prog := TRB_4_ok.add ok_laws_szRoute
theorem eq_laws_toIntS  (n : Nat) (a : List Int) (e : TypeId) (k : Kind) (K : V → List Blk → Prop) : VC_laws_toIntS  n a e k K = vbody Try.prog (vin Try.prog TRB_5 annTRB 3) TRB_5.looks (annTRB 49) 49 [.row 0 n] [⟨.ints .i64 a, e, k⟩] (K) := by kernel_rfl
theorem ok_laws_toIntS : OK Try.prog 49 F_laws_toIntS.spec := (vbody_ok (vin_ok TRB_5_ok annTRB 3) TRB_5_ok.looks _ _).ofG fun args m p R M h hp => by
  unfold F_laws_toIntS at h
  split at h
  · injection h with h; injection h with h1 h2; injection h2 with h2 h3; subst h1; subst h2; subst h3
    exact (congrArg At (eq_laws_toIntS _ _ _ _ _)).mp ⟨vc_laws_toIntS _ _ _ _ hp⟩
  · cases h
def TRB_6 : Tab := TRB_5.addG 49 F_laws_toIntS
theorem TRB_6_ok : TRB_6.Ok Try.prog := TRB_5_ok.addG ok_laws_toIntS
theorem eq_laws_toIntSS  (n : Nat) (l : List (List Int)) (K : V → List Blk → Prop) : VC_laws_toIntSS  n l K = vbody Try.prog (vin Try.prog TRB_6 annTRB 3) TRB_6.looks (annTRB 54) 54 [.row 0 n] [⟨.mat .i64 3 (l), 23, .amat⟩] (K) := by kernel_rfl
theorem ok_laws_toIntSS : OK Try.prog 54 F_laws_toIntSS.spec := (vbody_ok (vin_ok TRB_6_ok annTRB 3) TRB_6_ok.looks _ _).ofG fun args m p R M h hp => by
  unfold F_laws_toIntSS at h
  split at h
  · injection h with h; injection h with h1 h2; injection h2 with h2 h3; subst h1; subst h2; subst h3
    exact (congrArg At (eq_laws_toIntSS _ _ _)).mp ⟨vc_laws_toIntSS _ _ hp⟩
  · cases h
def TRB_7 : Tab := TRB_6.addG 54 F_laws_toIntSS
theorem TRB_7_ok : TRB_7.Ok Try.prog := TRB_6_ok.addG ok_laws_toIntSS
theorem eq_laws_toRoute  (n : Nat) (m : Nat) (l : List (List Int)) (ro : List Int) (K : V → List Blk → Prop) : VC_laws_toRoute  n m l ro K = vbody Try.prog (vin Try.prog TRB_7 annTRB 3) TRB_7.looks (annTRB 17) 17 [.agg [.row 0 n, .row 1 m]] [⟨.mat .i64 3 (l), 23, .amat⟩, ⟨.ints .i64 (ro), 3, .arg 1⟩] (K) := by kernel_rfl
theorem ok_laws_toRoute : OK Try.prog 17 F_laws_toRoute.spec := (vbody_ok (vin_ok TRB_7_ok annTRB 3) TRB_7_ok.looks _ _).ofG fun args m p R M h hp => by
  unfold F_laws_toRoute at h
  split at h
  · injection h with h; injection h with h1 h2; injection h2 with h2 h3; subst h1; subst h2; subst h3
    exact (congrArg At (eq_laws_toRoute _ _ _ _ _)).mp ⟨vc_laws_toRoute _ _ _ _ hp⟩
  · cases h
def TRB_8 : Tab := TRB_7.addG 17 F_laws_toRoute
theorem TRB_8_ok : TRB_8.Ok Try.prog := TRB_7_ok.addG ok_laws_toRoute
theorem eq_laws_eqIntS  (n : Nat) (m : Nat) (a : List Int) (b : List Int) (e : TypeId) (k : Kind) (f : TypeId) (q : Kind) (K : V → List Blk → Prop) : VC_laws_eqIntS  n m a b e k f q K = vbody Try.prog (vin Try.prog TRB_8 annTRB 3) TRB_8.looks (annTRB 32) 32 [.row 0 n, .row 1 m] [⟨.ints .i64 a, e, k⟩, ⟨.ints .i64 b, f, q⟩] (K) := by kernel_rfl
theorem ok_laws_eqIntS : OK Try.prog 32 F_laws_eqIntS.spec := (vbody_ok (vin_ok TRB_8_ok annTRB 3) TRB_8_ok.looks _ _).ofFM fun args m p R h hp => by
  unfold F_laws_eqIntS at h
  split at h
  · injection h with h; injection h with h1 h2; subst h1; subst h2
    exact (congrArg At (eq_laws_eqIntS _ _ _ _ _ _ _ _ _)).mp ⟨vc_laws_eqIntS _ _ _ _ _ _ _ _ hp⟩
  · cases h
def TRB_9 : Tab := TRB_8.add 32 F_laws_eqIntS
theorem TRB_9_ok : TRB_9.Ok Try.prog := TRB_8_ok.add ok_laws_eqIntS
theorem eq_laws_eqIntSS  (n : Nat) (m : Nat) (l : List (List Int)) (j : List (List Int)) (K : V → List Blk → Prop) : VC_laws_eqIntSS  n m l j K = vbody Try.prog (vin Try.prog TRB_9 annTRB 3) TRB_9.looks (annTRB 39) 39 [.row 0 n, .row 1 m] [⟨.mat .i64 3 (l), 23, .mat⟩, ⟨.mat .i64 3 (j), 23, .mat⟩] (K) := by kernel_rfl
theorem ok_laws_eqIntSS : OK Try.prog 39 F_laws_eqIntSS.spec := (vbody_ok (vin_ok TRB_9_ok annTRB 3) TRB_9_ok.looks _ _).ofFM fun args m p R h hp => by
  unfold F_laws_eqIntSS at h
  split at h
  · injection h with h; injection h with h1 h2; subst h1; subst h2
    exact (congrArg At (eq_laws_eqIntSS _ _ _ _ _)).mp ⟨vc_laws_eqIntSS _ _ _ _ hp⟩
  · cases h
def TRB_10 : Tab := TRB_9.add 39 F_laws_eqIntSS
theorem TRB_10_ok : TRB_10.Ok Try.prog := TRB_9_ok.add ok_laws_eqIntSS
theorem eq_laws_eqRoute  (n : Nat) (m : Nat) (l : List (List Int)) (ro : List Int) (u : Nat) (v : Nat) (j : List (List Int)) (so : List Int) (K : V → List Blk → Prop) : VC_laws_eqRoute  n m l ro u v j so K = vbody Try.prog (vin Try.prog TRB_10 annTRB 3) TRB_10.looks (annTRB 19) 19 [.agg [.row 0 n, .row 1 m], .agg [.row 2 u, .row 3 v]] [⟨.mat .i64 3 (l), 23, .mat⟩, ⟨.ints .i64 (ro), 3, .row⟩, ⟨.mat .i64 3 (j), 23, .mat⟩, ⟨.ints .i64 (so), 3, .row⟩] (K) := by kernel_rfl
theorem ok_laws_eqRoute : OK Try.prog 19 F_laws_eqRoute.spec := (vbody_ok (vin_ok TRB_10_ok annTRB 3) TRB_10_ok.looks _ _).ofFM fun args m p R h hp => by
  unfold F_laws_eqRoute at h
  split at h
  · injection h with h; injection h with h1 h2; subst h1; subst h2
    exact (congrArg At (eq_laws_eqRoute _ _ _ _ _ _ _ _ _)).mp ⟨vc_laws_eqRoute _ _ _ _ _ _ _ _ hp⟩
  · cases h
def TRB_11 : Tab := TRB_10.add 19 F_laws_eqRoute
theorem TRB_11_ok : TRB_11.Ok Try.prog := TRB_10_ok.add ok_laws_eqRoute
theorem eq_laws_markIntS (k : Int) (n : Nat) (a : List Int) (K : V → List Blk → Prop) : VC_laws_markIntS k n a K = vbody Try.prog (vin Try.prog TRB_11 annTRB 3) TRB_11.looks (annTRB 33) 33 [.row 0 n, .int .i64 k] [⟨.ints .i64 (a), 3, .row⟩] (K) := by kernel_rfl
theorem ok_laws_markIntS : OK Try.prog 33 F_laws_markIntS.spec := (vbody_ok (vin_ok TRB_11_ok annTRB 3) TRB_11_ok.looks _ _).ofG fun args m p R M h hp => by
  unfold F_laws_markIntS at h
  split at h
  · injection h with h; injection h with h1 h2; injection h2 with h2 h3; subst h1; subst h2; subst h3
    exact (congrArg At (eq_laws_markIntS _ _ _ _)).mp ⟨vc_laws_markIntS _ _ _ hp⟩
  · cases h
def TRB_12 : Tab := TRB_11.addG 33 F_laws_markIntS
theorem TRB_12_ok : TRB_12.Ok Try.prog := TRB_11_ok.addG ok_laws_markIntS
theorem eq_laws_markIntSS (k : Int) (n : Nat) (l : List (List Int)) (K : V → List Blk → Prop) : VC_laws_markIntSS k n l K = vbody Try.prog (vin Try.prog TRB_12 annTRB 3) TRB_12.looks (annTRB 40) 40 [.row 0 n, .int .i64 k] [⟨.mat .i64 3 (l), 23, .mat⟩] (K) := by kernel_rfl
theorem ok_laws_markIntSS : OK Try.prog 40 F_laws_markIntSS.spec := (vbody_ok (vin_ok TRB_12_ok annTRB 3) TRB_12_ok.looks _ _).ofG fun args m p R M h hp => by
  unfold F_laws_markIntSS at h
  split at h
  · injection h with h; injection h with h1 h2; injection h2 with h2 h3; subst h1; subst h2; subst h3
    exact (congrArg At (eq_laws_markIntSS _ _ _ _)).mp ⟨vc_laws_markIntSS _ _ _ hp⟩
  · cases h
def TRB_13 : Tab := TRB_12.addG 40 F_laws_markIntSS
theorem TRB_13_ok : TRB_13.Ok Try.prog := TRB_12_ok.addG ok_laws_markIntSS
theorem eq_laws_markRoute (k : Int) (n : Nat) (m : Nat) (l : List (List Int)) (ro : List Int) (K : V → List Blk → Prop) : VC_laws_markRoute k n m l ro K = vbody Try.prog (vin Try.prog TRB_13 annTRB 3) TRB_13.looks (annTRB 22) 22 [.agg [.row 0 n, .row 1 m], .int .i64 k] [⟨.mat .i64 3 (l), 23, .mat⟩, ⟨.ints .i64 (ro), 3, .row⟩] (K) := by kernel_rfl
theorem ok_laws_markRoute : OK Try.prog 22 F_laws_markRoute.spec := (vbody_ok (vin_ok TRB_13_ok annTRB 3) TRB_13_ok.looks _ _).ofG fun args m p R M h hp => by
  unfold F_laws_markRoute at h
  split at h
  · injection h with h; injection h with h1 h2; injection h2 with h2 h3; subst h1; subst h2; subst h3
    exact (congrArg At (eq_laws_markRoute _ _ _ _ _ _)).mp ⟨vc_laws_markRoute _ _ _ _ _ hp⟩
  · cases h
def TRB_14 : Tab := TRB_13.addG 22 F_laws_markRoute
theorem TRB_14_ok : TRB_14.Ok Try.prog := TRB_13_ok.addG ok_laws_markRoute
theorem eq_laws_heldIntS (q : Int) (n : Nat) (a : List Int) (e : TypeId) (k : Kind) (K : V → List Blk → Prop) : VC_laws_heldIntS q n a e k K = vbody Try.prog (vin Try.prog TRB_14 annTRB 3) TRB_14.looks (annTRB 34) 34 [.row 0 n, .int .i64 q] [⟨.ints .i64 a, e, k⟩] (K) := by kernel_rfl
theorem ok_laws_heldIntS : OK Try.prog 34 F_laws_heldIntS.spec := (vbody_ok (vin_ok TRB_14_ok annTRB 3) TRB_14_ok.looks _ _).ofFM fun args m p R h hp => by
  unfold F_laws_heldIntS at h
  split at h
  · injection h with h; injection h with h1 h2; subst h1; subst h2
    exact (congrArg At (eq_laws_heldIntS _ _ _ _ _ _)).mp ⟨vc_laws_heldIntS _ _ _ _ _ hp⟩
  · cases h
def TRB_15 : Tab := TRB_14.add 34 F_laws_heldIntS
theorem TRB_15_ok : TRB_15.Ok Try.prog := TRB_14_ok.add ok_laws_heldIntS
theorem eq_laws_heldIntSS (q : Int) (n : Nat) (l : List (List Int)) (K : V → List Blk → Prop) : VC_laws_heldIntSS q n l K = vbody Try.prog (vin Try.prog TRB_15 annTRB 3) TRB_15.looks (annTRB 41) 41 [.row 0 n, .int .i64 q] [⟨.mat .i64 3 (l), 23, .mat⟩] (K) := by kernel_rfl
theorem ok_laws_heldIntSS : OK Try.prog 41 F_laws_heldIntSS.spec := (vbody_ok (vin_ok TRB_15_ok annTRB 3) TRB_15_ok.looks _ _).ofFM fun args m p R h hp => by
  unfold F_laws_heldIntSS at h
  split at h
  · injection h with h; injection h with h1 h2; subst h1; subst h2
    exact (congrArg At (eq_laws_heldIntSS _ _ _ _)).mp ⟨vc_laws_heldIntSS _ _ _ hp⟩
  · cases h
def TRB_16 : Tab := TRB_15.add 41 F_laws_heldIntSS
theorem TRB_16_ok : TRB_16.Ok Try.prog := TRB_15_ok.add ok_laws_heldIntSS
theorem eq_laws_heldRoute (q : Int) (n : Nat) (m : Nat) (l : List (List Int)) (ro : List Int) (K : V → List Blk → Prop) : VC_laws_heldRoute q n m l ro K = vbody Try.prog (vin Try.prog TRB_16 annTRB 3) TRB_16.looks (annTRB 23) 23 [.agg [.row 0 n, .row 1 m], .int .i64 q] [⟨.mat .i64 3 (l), 23, .mat⟩, ⟨.ints .i64 (ro), 3, .row⟩] (K) := by kernel_rfl
theorem ok_laws_heldRoute : OK Try.prog 23 F_laws_heldRoute.spec := (vbody_ok (vin_ok TRB_16_ok annTRB 3) TRB_16_ok.looks _ _).ofFM fun args m p R h hp => by
  unfold F_laws_heldRoute at h
  split at h
  · injection h with h; injection h with h1 h2; subst h1; subst h2
    exact (congrArg At (eq_laws_heldRoute _ _ _ _ _ _)).mp ⟨vc_laws_heldRoute _ _ _ _ _ hp⟩
  · cases h
def TRB_17 : Tab := TRB_16.add 23 F_laws_heldRoute
theorem TRB_17_ok : TRB_17.Ok Try.prog := TRB_16_ok.add ok_laws_heldRoute
theorem eq_spec_RingRoute (nodes : Int) (K : V → List Blk → Prop) : VC_spec_RingRoute nodes K = vbody Try.prog (vin Try.prog TRB_17 annTRB 3) TRB_17.looks (annTRB 20) 20 [.int .i64 nodes] [] (K) := by kernel_rfl
theorem ok_spec_RingRoute : OK Try.prog 20 F_spec_RingRoute.spec := (vbody_ok (vin_ok TRB_17_ok annTRB 3) TRB_17_ok.looks _ _).ofG fun args m p R M h hp => by
  unfold F_spec_RingRoute at h
  split at h
  · injection h with h; injection h with h1 h2; injection h2 with h2 h3; subst h1; subst h2; subst h3
    exact (congrArg At (eq_spec_RingRoute _ _)).mp ⟨vc_spec_RingRoute _ hp⟩
  · cases h
def TRB_18 : Tab := TRB_17.addG 20 F_spec_RingRoute
theorem TRB_18_ok : TRB_18.Ok Try.prog := TRB_17_ok.addG ok_spec_RingRoute
theorem eq_impl_RingRoute (nodes : Int) (K : V → List Blk → Prop) : VC_impl_RingRoute nodes K = vbody Try.prog (vin Try.prog TRB_18 annTRB 3) TRB_18.looks (annTRB 21) 21 [.int .i64 nodes] [] (K) := by kernel_rfl
theorem ok_impl_RingRoute : OK Try.prog 21 F_impl_RingRoute.spec := (vbody_ok (vin_ok TRB_18_ok annTRB 3) TRB_18_ok.looks _ _).ofG fun args m p R M h hp => by
  unfold F_impl_RingRoute at h
  split at h
  · injection h with h; injection h with h1 h2; injection h2 with h2 h3; subst h1; subst h2; subst h3
    exact (congrArg At (eq_impl_RingRoute _ _)).mp ⟨vc_impl_RingRoute _ hp⟩
  · cases h
def TRB_19 : Tab := TRB_18.addG 21 F_impl_RingRoute
theorem TRB_19_ok : TRB_19.Ok Try.prog := TRB_18_ok.addG ok_impl_RingRoute
def TRB : Tab := TRB_19
theorem TRB_ok : TRB.Ok Try.prog := TRB_19_ok
end Go.Proofs.Ytdeppknmibhokaa
