/- The contracts of this chapter. -/
import Derived.Test.YtbchncdchanomaaProg
import Derived.Test.YtbchncdchanomaaF1Pf
import Derived.KernelRfl
namespace Go.Proofs.Ytbchncdchanomaa
open Go Go.Vi
set_option linter.unusedVariables false
def annTF1 : FuncId → Nat → St → Option Ann := fun f => if f = 49 then ann_spec_woRule else if f = 43 then ann_impl_IsRule else if f = 48 then ann_laws_eqSpotS else if f = 50 then ann_laws_markSpotS else if f = 51 then ann_laws_heldSpotS else (fun _ _ => none)
def TF1_0 : Tab := Tab.none
theorem TF1_0_ok : TF1_0.Ok Try.prog := Tab.none_ok
theorem eq_spec_l1In (n : Int) (lo : Int) (hi : Int) (K : V → Prop) : VC_spec_l1In n lo hi K = vbody Try.prog (vin Try.prog TF1_0 annTF1 3) TF1_0.looks (annTF1 60) 60 [.int .i64 n, .int .i64 lo, .int .i64 hi] [] (fun v _ => K v) := by kernel_rfl
theorem ok_spec_l1In : OK Try.prog 60 F_spec_l1In.spec := (vbody_ok (vin_ok TF1_0_ok annTF1 3) TF1_0_ok.looks _ _).ofF fun args m p R h hp => by
  unfold F_spec_l1In at h
  split at h
  · injection h with h; injection h with h1 h2; subst h1; subst h2
    exact ⟨rfl, (congrArg At (eq_spec_l1In _ _ _ _)).mp ⟨vc_spec_l1In _ _ _ hp⟩⟩
  · cases h
def TF1_1 : Tab := TF1_0.add 60 F_spec_l1In
theorem TF1_1_ok : TF1_1.Ok Try.prog := TF1_0_ok.add ok_spec_l1In
theorem eq_impl_within (n : Int) (lo : Int) (hi : Int) (K : V → Prop) : VC_impl_within n lo hi K = vbody Try.prog (vin Try.prog TF1_1 annTF1 3) TF1_1.looks (annTF1 46) 46 [.int .i64 n, .int .i64 lo, .int .i64 hi] [] (fun v _ => K v) := by kernel_rfl
theorem ok_impl_within : OK Try.prog 46 F_impl_within.spec := (vbody_ok (vin_ok TF1_1_ok annTF1 3) TF1_1_ok.looks _ _).ofF fun args m p R h hp => by
  unfold F_impl_within at h
  split at h
  · injection h with h; injection h with h1 h2; subst h1; subst h2
    exact ⟨rfl, (congrArg At (eq_impl_within _ _ _ _)).mp ⟨vc_impl_within _ _ _ hp⟩⟩
  · cases h
def TF1_2 : Tab := TF1_1.add 46 F_impl_within
theorem TF1_2_ok : TF1_2.Ok Try.prog := TF1_1_ok.add ok_impl_within
theorem eq_spec_woRule (s : List UInt8) (K : V → Prop) : VC_spec_woRule s K = vbody Try.prog (vin Try.prog TF1_2 annTF1 3) TF1_2.looks (annTF1 49) 49 [.str s] [] (fun v _ => K v) := by kernel_rfl
theorem ok_spec_woRule : OK Try.prog 49 F_spec_woRule.spec := (vbody_ok (vin_ok TF1_2_ok annTF1 3) TF1_2_ok.looks _ _).ofF fun args m p R h hp => by
  unfold F_spec_woRule at h
  split at h
  · injection h with h; injection h with h1 h2; subst h1; subst h2
    exact ⟨rfl, (congrArg At (eq_spec_woRule _ _)).mp ⟨vc_spec_woRule _ hp⟩⟩
  · cases h
def TF1_3 : Tab := TF1_2.add 49 F_spec_woRule
theorem TF1_3_ok : TF1_3.Ok Try.prog := TF1_2_ok.add ok_spec_woRule
theorem eq_impl_IsRule (s : List UInt8) (K : V → Prop) : VC_impl_IsRule s K = vbody Try.prog (vin Try.prog TF1_3 annTF1 3) TF1_3.looks (annTF1 43) 43 [.str s] [] (fun v _ => K v) := by kernel_rfl
theorem ok_impl_IsRule : OK Try.prog 43 F_impl_IsRule.spec := (vbody_ok (vin_ok TF1_3_ok annTF1 3) TF1_3_ok.looks _ _).ofF fun args m p R h hp => by
  unfold F_impl_IsRule at h
  split at h
  · injection h with h; injection h with h1 h2; subst h1; subst h2
    exact ⟨rfl, (congrArg At (eq_impl_IsRule _ _)).mp ⟨vc_impl_IsRule _ hp⟩⟩
  · cases h
def TF1_4 : Tab := TF1_3.add 43 F_impl_IsRule
theorem TF1_4_ok : TF1_4.Ok Try.prog := TF1_3_ok.add ok_impl_IsRule
theorem eq_laws_eqSpot (ax : Int) (ay : Int) (ak : Int) (bx : Int) (by_ : Int) (bk : Int) (K : V → Prop) : VC_laws_eqSpot ax ay ak bx by_ bk K = vbody Try.prog (vin Try.prog TF1_4 annTF1 3) TF1_4.looks (annTF1 79) 79 [.agg [.int .i64 ax, .int .i64 ay, .int .i64 ak], .agg [.int .i64 bx, .int .i64 by_, .int .i64 bk]] [] (fun v _ => K v) := by kernel_rfl
theorem ok_laws_eqSpot : OK Try.prog 79 F_laws_eqSpot.spec := (vbody_ok (vin_ok TF1_4_ok annTF1 3) TF1_4_ok.looks _ _).ofF fun args m p R h hp => by
  unfold F_laws_eqSpot at h
  split at h
  · injection h with h; injection h with h1 h2; subst h1; subst h2
    exact ⟨rfl, (congrArg At (eq_laws_eqSpot _ _ _ _ _ _ _)).mp ⟨vc_laws_eqSpot _ _ _ _ _ _ hp⟩⟩
  · cases h
def TF1_5 : Tab := TF1_4.add 79 F_laws_eqSpot
theorem TF1_5_ok : TF1_5.Ok Try.prog := TF1_4_ok.add ok_laws_eqSpot
theorem eq_laws_eqSpotS  (n : Nat) (m : Nat) (a : List Int) (b : List Int) (K : V → List Blk → Prop) : VC_laws_eqSpotS  n m a b K = vbody Try.prog (vin Try.prog TF1_5 annTF1 3) TF1_5.looks (annTF1 48) 48 [.row 0 n, .row 1 m] [⟨.ints .i64 a, 61, .rows 3⟩, ⟨.ints .i64 b, 61, .rows 3⟩] (K) := by kernel_rfl
theorem ok_laws_eqSpotS : OK Try.prog 48 F_laws_eqSpotS.spec := (vbody_ok (vin_ok TF1_5_ok annTF1 3) TF1_5_ok.looks _ _).ofFM fun args m p R h hp => by
  unfold F_laws_eqSpotS at h
  split at h
  · injection h with h; injection h with h1 h2; subst h1; subst h2
    exact (congrArg At (eq_laws_eqSpotS _ _ _ _ _)).mp ⟨vc_laws_eqSpotS _ _ _ _ hp⟩
  · cases h
def TF1_6 : Tab := TF1_5.add 48 F_laws_eqSpotS
theorem TF1_6_ok : TF1_6.Ok Try.prog := TF1_5_ok.add ok_laws_eqSpotS
theorem eq_laws_eqPlain  (ar : List UInt8) (an : Nat) (ax : Int) (ay : Int) (ad : Int) (cr : List UInt8) (cn : Nat) (cx : Int) (cy : Int) (cd : Int) (a : List Int) (b : List Int) (K : V → List Blk → Prop) : VC_laws_eqPlain  ar an ax ay ad cr cn cx cy cd a b K = vbody Try.prog (vin Try.prog TF1_6 annTF1 3) TF1_6.looks (annTF1 16) 16 [.agg [.str ar, .row 0 an, .int .i64 ax, .int .i64 ay, .int .i64 ad], .agg [.str cr, .row 1 cn, .int .i64 cx, .int .i64 cy, .int .i64 cd]] [⟨.ints .i64 a, 61, .rows 3⟩, ⟨.ints .i64 b, 61, .rows 3⟩] (K) := by kernel_rfl
theorem ok_laws_eqPlain : OK Try.prog 16 F_laws_eqPlain.spec := (vbody_ok (vin_ok TF1_6_ok annTF1 3) TF1_6_ok.looks _ _).ofFM fun args m p R h hp => by
  unfold F_laws_eqPlain at h
  split at h
  · injection h with h; injection h with h1 h2; subst h1; subst h2
    exact (congrArg At (eq_laws_eqPlain _ _ _ _ _ _ _ _ _ _ _ _ _)).mp ⟨vc_laws_eqPlain _ _ _ _ _ _ _ _ _ _ _ _ hp⟩
  · cases h
def TF1_7 : Tab := TF1_6.add 16 F_laws_eqPlain
theorem TF1_7_ok : TF1_7.Ok Try.prog := TF1_6_ok.add ok_laws_eqPlain
theorem eq_laws_markSpotS (k : Int) (n : Nat) (a : List Int) (K : V → List Blk → Prop) : VC_laws_markSpotS k n a K = vbody Try.prog (vin Try.prog TF1_7 annTF1 3) TF1_7.looks (annTF1 50) 50 [.row 0 n, .int .i64 k] [⟨.ints .i64 a, 61, .rows 3⟩] (K) := by kernel_rfl
theorem ok_laws_markSpotS : OK Try.prog 50 F_laws_markSpotS.spec := (vbody_ok (vin_ok TF1_7_ok annTF1 3) TF1_7_ok.looks _ _).ofG fun args m p R M h hp => by
  unfold F_laws_markSpotS at h
  split at h
  · injection h with h; injection h with h1 h2; injection h2 with h2 h3; subst h1; subst h2; subst h3
    exact (congrArg At (eq_laws_markSpotS _ _ _ _)).mp ⟨vc_laws_markSpotS _ _ _ hp⟩
  · cases h
def TF1_8 : Tab := TF1_7.addG 50 F_laws_markSpotS
theorem TF1_8_ok : TF1_8.Ok Try.prog := TF1_7_ok.addG ok_laws_markSpotS
theorem eq_laws_heldSpotS (k : Int) (n : Nat) (a : List Int) (K : V → List Blk → Prop) : VC_laws_heldSpotS k n a K = vbody Try.prog (vin Try.prog TF1_8 annTF1 3) TF1_8.looks (annTF1 51) 51 [.row 0 n, .int .i64 k] [⟨.ints .i64 a, 61, .rows 3⟩] (K) := by kernel_rfl
theorem ok_laws_heldSpotS : OK Try.prog 51 F_laws_heldSpotS.spec := (vbody_ok (vin_ok TF1_8_ok annTF1 3) TF1_8_ok.looks _ _).ofFM fun args m p R h hp => by
  unfold F_laws_heldSpotS at h
  split at h
  · injection h with h; injection h with h1 h2; subst h1; subst h2
    exact (congrArg At (eq_laws_heldSpotS _ _ _ _)).mp ⟨vc_laws_heldSpotS _ _ _ hp⟩
  · cases h
def TF1_9 : Tab := TF1_8.add 51 F_laws_heldSpotS
theorem TF1_9_ok : TF1_9.Ok Try.prog := TF1_8_ok.add ok_laws_heldSpotS
theorem eq_spec_FirstPlain (s : List UInt8) (K : V → List Blk → Prop) : VC_spec_FirstPlain s K = vbody Try.prog (vin Try.prog TF1_9 annTF1 3) TF1_9.looks (annTF1 17) 17 [.str s] [] (K) := by kernel_rfl
theorem ok_spec_FirstPlain : OK Try.prog 17 F_spec_FirstPlain.spec := (vbody_ok (vin_ok TF1_9_ok annTF1 3) TF1_9_ok.looks _ _).ofG fun args m p R M h hp => by
  unfold F_spec_FirstPlain at h
  split at h
  · injection h with h; injection h with h1 h2; injection h2 with h2 h3; subst h1; subst h2; subst h3
    exact (congrArg At (eq_spec_FirstPlain _ _)).mp ⟨vc_spec_FirstPlain _ hp⟩
  · cases h
def TF1_10 : Tab := TF1_9.addG 17 F_spec_FirstPlain
theorem TF1_10_ok : TF1_10.Ok Try.prog := TF1_9_ok.addG ok_spec_FirstPlain
theorem eq_impl_FirstPlain (s : List UInt8) (K : V → List Blk → Prop) : VC_impl_FirstPlain s K = vbody Try.prog (vin Try.prog TF1_10 annTF1 3) TF1_10.looks (annTF1 18) 18 [.str s] [] (K) := by kernel_rfl
theorem ok_impl_FirstPlain : OK Try.prog 18 F_impl_FirstPlain.spec := (vbody_ok (vin_ok TF1_10_ok annTF1 3) TF1_10_ok.looks _ _).ofG fun args m p R M h hp => by
  unfold F_impl_FirstPlain at h
  split at h
  · injection h with h; injection h with h1 h2; injection h2 with h2 h3; subst h1; subst h2; subst h3
    exact (congrArg At (eq_impl_FirstPlain _ _)).mp ⟨vc_impl_FirstPlain _ hp⟩
  · cases h
def TF1_11 : Tab := TF1_10.addG 18 F_impl_FirstPlain
theorem TF1_11_ok : TF1_11.Ok Try.prog := TF1_10_ok.addG ok_impl_FirstPlain
def TF1 : Tab := TF1_11
theorem TF1_ok : TF1.Ok Try.prog := TF1_11_ok
end Go.Proofs.Ytbchncdchanomaa
