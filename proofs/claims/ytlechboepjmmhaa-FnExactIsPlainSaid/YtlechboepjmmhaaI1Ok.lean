/- The contracts of this chapter. -/
import Derived.Test.YtlechboepjmmhaaProg
import Derived.Test.YtlechboepjmmhaaI1Pf
import Derived.KernelRfl
namespace Go.Proofs.Ytlechboepjmmhaa
open Go Go.Vi
set_option linter.unusedVariables false
def annTI1 : FuncId → Nat → St → Option Ann := fun f => if f = 90 then ann_spec_woRule else if f = 54 then ann_impl_IsRule else if f = 63 then ann_laws_eqSpotS else if f = 65 then ann_laws_markSpotS else if f = 74 then ann_laws_heldSpotS else if f = 58 then ann_laws_toSpotS else if f = 98 then ann_cmp_Or_int else if f = 57 then ann_spec_enGood else if f = 24 then ann_impl_IsPlain else (fun _ _ => none)
def TI1_0 : Tab := Tab.none
theorem TI1_0_ok : TI1_0.Ok Try.prog := Tab.none_ok
theorem eq_spec_l1In (n : Int) (lo : Int) (hi : Int) (K : V → Prop) : VC_spec_l1In n lo hi K = vbody Try.prog (vin Try.prog TI1_0 annTI1 3) TI1_0.looks (annTI1 69) 69 [.int .i64 n, .int .i64 lo, .int .i64 hi] [] (fun v _ => K v) := by kernel_rfl
theorem ok_spec_l1In : OK Try.prog 69 F_spec_l1In.spec := (vbody_ok (vin_ok TI1_0_ok annTI1 3) TI1_0_ok.looks _ _).ofF fun args m p R h hp => by
  unfold F_spec_l1In at h
  split at h
  · injection h with h; injection h with h1 h2; subst h1; subst h2
    exact ⟨rfl, (congrArg At (eq_spec_l1In _ _ _ _)).mp ⟨vc_spec_l1In _ _ _ hp⟩⟩
  · cases h
def TI1_1 : Tab := TI1_0.add 69 F_spec_l1In
theorem TI1_1_ok : TI1_1.Ok Try.prog := TI1_0_ok.add ok_spec_l1In
theorem eq_impl_within (n : Int) (lo : Int) (hi : Int) (K : V → Prop) : VC_impl_within n lo hi K = vbody Try.prog (vin Try.prog TI1_1 annTI1 3) TI1_1.looks (annTI1 61) 61 [.int .i64 n, .int .i64 lo, .int .i64 hi] [] (fun v _ => K v) := by kernel_rfl
theorem ok_impl_within : OK Try.prog 61 F_impl_within.spec := (vbody_ok (vin_ok TI1_1_ok annTI1 3) TI1_1_ok.looks _ _).ofF fun args m p R h hp => by
  unfold F_impl_within at h
  split at h
  · injection h with h; injection h with h1 h2; subst h1; subst h2
    exact ⟨rfl, (congrArg At (eq_impl_within _ _ _ _)).mp ⟨vc_impl_within _ _ _ hp⟩⟩
  · cases h
def TI1_2 : Tab := TI1_1.add 61 F_impl_within
theorem TI1_2_ok : TI1_2.Ok Try.prog := TI1_1_ok.add ok_impl_within
theorem eq_spec_woRule (s : List UInt8) (K : V → Prop) : VC_spec_woRule s K = vbody Try.prog (vin Try.prog TI1_2 annTI1 3) TI1_2.looks (annTI1 90) 90 [.str s] [] (fun v _ => K v) := by kernel_rfl
theorem ok_spec_woRule : OK Try.prog 90 F_spec_woRule.spec := (vbody_ok (vin_ok TI1_2_ok annTI1 3) TI1_2_ok.looks _ _).ofF fun args m p R h hp => by
  unfold F_spec_woRule at h
  split at h
  · injection h with h; injection h with h1 h2; subst h1; subst h2
    exact ⟨rfl, (congrArg At (eq_spec_woRule _ _)).mp ⟨vc_spec_woRule _ hp⟩⟩
  · cases h
def TI1_3 : Tab := TI1_2.add 90 F_spec_woRule
theorem TI1_3_ok : TI1_3.Ok Try.prog := TI1_2_ok.add ok_spec_woRule
theorem eq_impl_IsRule (s : List UInt8) (K : V → Prop) : VC_impl_IsRule s K = vbody Try.prog (vin Try.prog TI1_3 annTI1 3) TI1_3.looks (annTI1 54) 54 [.str s] [] (fun v _ => K v) := by kernel_rfl
theorem ok_impl_IsRule : OK Try.prog 54 F_impl_IsRule.spec := (vbody_ok (vin_ok TI1_3_ok annTI1 3) TI1_3_ok.looks _ _).ofF fun args m p R h hp => by
  unfold F_impl_IsRule at h
  split at h
  · injection h with h; injection h with h1 h2; subst h1; subst h2
    exact ⟨rfl, (congrArg At (eq_impl_IsRule _ _)).mp ⟨vc_impl_IsRule _ hp⟩⟩
  · cases h
def TI1_4 : Tab := TI1_3.add 54 F_impl_IsRule
theorem TI1_4_ok : TI1_4.Ok Try.prog := TI1_3_ok.add ok_impl_IsRule
theorem eq_laws_eqSpot (ax : Int) (ay : Int) (ak : Int) (bx : Int) (by_ : Int) (bk : Int) (K : V → Prop) : VC_laws_eqSpot ax ay ak bx by_ bk K = vbody Try.prog (vin Try.prog TI1_4 annTI1 3) TI1_4.looks (annTI1 100) 100 [.agg [.int .i64 ax, .int .i64 ay, .int .i64 ak], .agg [.int .i64 bx, .int .i64 by_, .int .i64 bk]] [] (fun v _ => K v) := by kernel_rfl
theorem ok_laws_eqSpot : OK Try.prog 100 F_laws_eqSpot.spec := (vbody_ok (vin_ok TI1_4_ok annTI1 3) TI1_4_ok.looks _ _).ofF fun args m p R h hp => by
  unfold F_laws_eqSpot at h
  split at h
  · injection h with h; injection h with h1 h2; subst h1; subst h2
    exact ⟨rfl, (congrArg At (eq_laws_eqSpot _ _ _ _ _ _ _)).mp ⟨vc_laws_eqSpot _ _ _ _ _ _ hp⟩⟩
  · cases h
def TI1_5 : Tab := TI1_4.add 100 F_laws_eqSpot
theorem TI1_5_ok : TI1_5.Ok Try.prog := TI1_4_ok.add ok_laws_eqSpot
theorem eq_laws_eqSpotS  (n : Nat) (m : Nat) (a : List Int) (b : List Int) (K : V → List Blk → Prop) : VC_laws_eqSpotS  n m a b K = vbody Try.prog (vin Try.prog TI1_5 annTI1 3) TI1_5.looks (annTI1 63) 63 [.row 0 n, .row 1 m] [⟨.ints .i64 a, 67, .rows 3⟩, ⟨.ints .i64 b, 67, .rows 3⟩] (K) := by kernel_rfl
theorem ok_laws_eqSpotS : OK Try.prog 63 F_laws_eqSpotS.spec := (vbody_ok (vin_ok TI1_5_ok annTI1 3) TI1_5_ok.looks _ _).ofFM fun args m p R h hp => by
  unfold F_laws_eqSpotS at h
  split at h
  · injection h with h; injection h with h1 h2; subst h1; subst h2
    exact (congrArg At (eq_laws_eqSpotS _ _ _ _ _)).mp ⟨vc_laws_eqSpotS _ _ _ _ hp⟩
  · cases h
def TI1_6 : Tab := TI1_5.add 63 F_laws_eqSpotS
theorem TI1_6_ok : TI1_6.Ok Try.prog := TI1_5_ok.add ok_laws_eqSpotS
theorem eq_laws_eqPlain  (ar : List UInt8) (an : Nat) (ax : Int) (ay : Int) (ad : Int) (cr : List UInt8) (cn : Nat) (cx : Int) (cy : Int) (cd : Int) (a : List Int) (b : List Int) (K : V → List Blk → Prop) : VC_laws_eqPlain  ar an ax ay ad cr cn cx cy cd a b K = vbody Try.prog (vin Try.prog TI1_6 annTI1 3) TI1_6.looks (annTI1 25) 25 [.agg [.str ar, .row 0 an, .int .i64 ax, .int .i64 ay, .int .i64 ad], .agg [.str cr, .row 1 cn, .int .i64 cx, .int .i64 cy, .int .i64 cd]] [⟨.ints .i64 a, 67, .rows 3⟩, ⟨.ints .i64 b, 67, .rows 3⟩] (K) := by kernel_rfl
theorem ok_laws_eqPlain : OK Try.prog 25 F_laws_eqPlain.spec := (vbody_ok (vin_ok TI1_6_ok annTI1 3) TI1_6_ok.looks _ _).ofFM fun args m p R h hp => by
  unfold F_laws_eqPlain at h
  split at h
  · injection h with h; injection h with h1 h2; subst h1; subst h2
    exact (congrArg At (eq_laws_eqPlain _ _ _ _ _ _ _ _ _ _ _ _ _)).mp ⟨vc_laws_eqPlain _ _ _ _ _ _ _ _ _ _ _ _ hp⟩
  · cases h
def TI1_7 : Tab := TI1_6.add 25 F_laws_eqPlain
theorem TI1_7_ok : TI1_7.Ok Try.prog := TI1_6_ok.add ok_laws_eqPlain
theorem eq_laws_markSpotS (k : Int) (n : Nat) (a : List Int) (K : V → List Blk → Prop) : VC_laws_markSpotS k n a K = vbody Try.prog (vin Try.prog TI1_7 annTI1 3) TI1_7.looks (annTI1 65) 65 [.row 0 n, .int .i64 k] [⟨.ints .i64 a, 67, .rows 3⟩] (K) := by kernel_rfl
theorem ok_laws_markSpotS : OK Try.prog 65 F_laws_markSpotS.spec := (vbody_ok (vin_ok TI1_7_ok annTI1 3) TI1_7_ok.looks _ _).ofG fun args m p R M h hp => by
  unfold F_laws_markSpotS at h
  split at h
  · injection h with h; injection h with h1 h2; injection h2 with h2 h3; subst h1; subst h2; subst h3
    exact (congrArg At (eq_laws_markSpotS _ _ _ _)).mp ⟨vc_laws_markSpotS _ _ _ hp⟩
  · cases h
def TI1_8 : Tab := TI1_7.addG 65 F_laws_markSpotS
theorem TI1_8_ok : TI1_8.Ok Try.prog := TI1_7_ok.addG ok_laws_markSpotS
theorem eq_laws_heldSpotS (k : Int) (n : Nat) (a : List Int) (K : V → List Blk → Prop) : VC_laws_heldSpotS k n a K = vbody Try.prog (vin Try.prog TI1_8 annTI1 3) TI1_8.looks (annTI1 74) 74 [.row 0 n, .int .i64 k] [⟨.ints .i64 a, 67, .rows 3⟩] (K) := by kernel_rfl
theorem ok_laws_heldSpotS : OK Try.prog 74 F_laws_heldSpotS.spec := (vbody_ok (vin_ok TI1_8_ok annTI1 3) TI1_8_ok.looks _ _).ofFM fun args m p R h hp => by
  unfold F_laws_heldSpotS at h
  split at h
  · injection h with h; injection h with h1 h2; subst h1; subst h2
    exact (congrArg At (eq_laws_heldSpotS _ _ _ _)).mp ⟨vc_laws_heldSpotS _ _ _ hp⟩
  · cases h
def TI1_9 : Tab := TI1_8.add 74 F_laws_heldSpotS
theorem TI1_9_ok : TI1_9.Ok Try.prog := TI1_8_ok.add ok_laws_heldSpotS
theorem eq_laws_szSpotS (left : Int) (n : Nat) (a : List Int) (K : V → List Blk → Prop) : VC_laws_szSpotS left n a K = vbody Try.prog (vin Try.prog TI1_9 annTI1 3) TI1_9.looks (annTI1 56) 56 [.row 0 n, .int .i64 left] [⟨.ints .i64 a, 104, .arg 3⟩] (K) := by kernel_rfl
theorem ok_laws_szSpotS : OK Try.prog 56 F_laws_szSpotS.spec := (vbody_ok (vin_ok TI1_9_ok annTI1 3) TI1_9_ok.looks _ _).ofFM fun args m p R h hp => by
  unfold F_laws_szSpotS at h
  split at h
  · injection h with h; injection h with h1 h2; subst h1; subst h2
    exact (congrArg At (eq_laws_szSpotS _ _ _ _)).mp ⟨vc_laws_szSpotS _ _ _ hp⟩
  · cases h
def TI1_10 : Tab := TI1_9.add 56 F_laws_szSpotS
theorem TI1_10_ok : TI1_10.Ok Try.prog := TI1_9_ok.add ok_laws_szSpotS
theorem eq_laws_szPlain (left : Int) (pr : List UInt8) (n : Nat) (px : Int) (py : Int) (pd : Int) (a : List Int) (K : V → List Blk → Prop) : VC_laws_szPlain left pr n px py pd a K = vbody Try.prog (vin Try.prog TI1_10 annTI1 3) TI1_10.looks (annTI1 21) 21 [.agg [.str pr, .row 0 n, .int .i64 px, .int .i64 py, .int .i64 pd], .int .i64 left] [⟨.ints .i64 a, 104, .arg 3⟩] (K) := by kernel_rfl
theorem ok_laws_szPlain : OK Try.prog 21 F_laws_szPlain.spec := (vbody_ok (vin_ok TI1_10_ok annTI1 3) TI1_10_ok.looks _ _).ofFM fun args m p R h hp => by
  unfold F_laws_szPlain at h
  split at h
  · injection h with h; injection h with h1 h2; subst h1; subst h2
    exact (congrArg At (eq_laws_szPlain _ _ _ _ _ _ _ _)).mp ⟨vc_laws_szPlain _ _ _ _ _ _ _ hp⟩
  · cases h
def TI1_11 : Tab := TI1_10.add 21 F_laws_szPlain
theorem TI1_11_ok : TI1_11.Ok Try.prog := TI1_10_ok.add ok_laws_szPlain
theorem eq_laws_toSpot (ax : Int) (ay : Int) (ak : Int) (K : V → Prop) : VC_laws_toSpot ax ay ak K = vbody Try.prog (vin Try.prog TI1_11 annTI1 3) TI1_11.looks (annTI1 96) 96 [.agg [.int .i64 ax, .int .i64 ay, .int .i64 ak]] [] (fun v _ => K v) := by kernel_rfl
theorem ok_laws_toSpot : OK Try.prog 96 F_laws_toSpot.spec := (vbody_ok (vin_ok TI1_11_ok annTI1 3) TI1_11_ok.looks _ _).ofF fun args m p R h hp => by
  unfold F_laws_toSpot at h
  split at h
  · injection h with h; injection h with h1 h2; subst h1; subst h2
    exact ⟨rfl, (congrArg At (eq_laws_toSpot _ _ _ _)).mp ⟨vc_laws_toSpot _ _ _ hp⟩⟩
  · cases h
def TI1_12 : Tab := TI1_11.add 96 F_laws_toSpot
theorem TI1_12_ok : TI1_12.Ok Try.prog := TI1_11_ok.add ok_laws_toSpot
theorem eq_laws_toSpotS  (n : Nat) (a : List Int) (K : V → List Blk → Prop) : VC_laws_toSpotS  n a K = vbody Try.prog (vin Try.prog TI1_12 annTI1 3) TI1_12.looks (annTI1 58) 58 [.row 0 n] [⟨.ints .i64 a, 104, .arg 3⟩] (K) := by kernel_rfl
theorem ok_laws_toSpotS : OK Try.prog 58 F_laws_toSpotS.spec := (vbody_ok (vin_ok TI1_12_ok annTI1 3) TI1_12_ok.looks _ _).ofG fun args m p R M h hp => by
  unfold F_laws_toSpotS at h
  split at h
  · injection h with h; injection h with h1 h2; injection h2 with h2 h3; subst h1; subst h2; subst h3
    exact (congrArg At (eq_laws_toSpotS _ _ _)).mp ⟨vc_laws_toSpotS _ _ hp⟩
  · cases h
def TI1_13 : Tab := TI1_12.addG 58 F_laws_toSpotS
theorem TI1_13_ok : TI1_13.Ok Try.prog := TI1_12_ok.addG ok_laws_toSpotS
theorem eq_laws_toPlain  (pr : List UInt8) (n : Nat) (px : Int) (py : Int) (pd : Int) (a : List Int) (K : V → List Blk → Prop) : VC_laws_toPlain  pr n px py pd a K = vbody Try.prog (vin Try.prog TI1_13 annTI1 3) TI1_13.looks (annTI1 23) 23 [.agg [.str pr, .row 0 n, .int .i64 px, .int .i64 py, .int .i64 pd]] [⟨.ints .i64 a, 104, .arg 3⟩] (K) := by kernel_rfl
theorem ok_laws_toPlain : OK Try.prog 23 F_laws_toPlain.spec := (vbody_ok (vin_ok TI1_13_ok annTI1 3) TI1_13_ok.looks _ _).ofG fun args m p R M h hp => by
  unfold F_laws_toPlain at h
  split at h
  · injection h with h; injection h with h1 h2; injection h2 with h2 h3; subst h1; subst h2; subst h3
    exact (congrArg At (eq_laws_toPlain _ _ _ _ _ _ _)).mp ⟨vc_laws_toPlain _ _ _ _ _ _ hp⟩
  · cases h
def TI1_14 : Tab := TI1_13.addG 23 F_laws_toPlain
theorem TI1_14_ok : TI1_14.Ok Try.prog := TI1_13_ok.addG ok_laws_toPlain
theorem eq_spec_enFar (n : Int) (K : V → Prop) : VC_spec_enFar n K = vbody Try.prog (vin Try.prog TI1_14 annTI1 3) TI1_14.looks (annTI1 94) 94 [.int .i64 n] [] (fun v _ => K v) := by kernel_rfl
theorem ok_spec_enFar : OK Try.prog 94 F_spec_enFar.spec := (vbody_ok (vin_ok TI1_14_ok annTI1 3) TI1_14_ok.looks _ _).ofF fun args m p R h hp => by
  unfold F_spec_enFar at h
  split at h
  · injection h with h; injection h with h1 h2; subst h1; subst h2
    exact ⟨rfl, (congrArg At (eq_spec_enFar _ _)).mp ⟨vc_spec_enFar _ hp⟩⟩
  · cases h
def TI1_15 : Tab := TI1_14.add 94 F_spec_enFar
theorem TI1_15_ok : TI1_15.Ok Try.prog := TI1_14_ok.add ok_spec_enFar
theorem eq_spec_enLess (ax : Int) (ay : Int) (ak : Int) (bx : Int) (by_ : Int) (bk : Int) (K : V → Prop) : VC_spec_enLess ax ay ak bx by_ bk K = vbody Try.prog (vin Try.prog TI1_15 annTI1 3) TI1_15.looks (annTI1 95) 95 [.agg [.int .i64 ax, .int .i64 ay, .int .i64 ak], .agg [.int .i64 bx, .int .i64 by_, .int .i64 bk]] [] (fun v _ => K v) := by kernel_rfl
theorem ok_spec_enLess : OK Try.prog 95 F_spec_enLess.spec := (vbody_ok (vin_ok TI1_15_ok annTI1 3) TI1_15_ok.looks _ _).ofF fun args m p R h hp => by
  unfold F_spec_enLess at h
  split at h
  · injection h with h; injection h with h1 h2; subst h1; subst h2
    exact ⟨rfl, (congrArg At (eq_spec_enLess _ _ _ _ _ _ _)).mp ⟨vc_spec_enLess _ _ _ _ _ _ hp⟩⟩
  · cases h
def TI1_16 : Tab := TI1_15.add 95 F_spec_enLess
theorem TI1_16_ok : TI1_16.Ok Try.prog := TI1_15_ok.add ok_spec_enLess
theorem eq_cmp_Compare_int (a : Int) (b : Int) (K : V → Prop) : VC_cmp_Compare_int a b K = vbody Try.prog (vin Try.prog TI1_16 annTI1 3) TI1_16.looks (annTI1 99) 99 [.int .i64 a, .int .i64 b] [] (fun v _ => K v) := by kernel_rfl
theorem ok_cmp_Compare_int : OK Try.prog 99 F_cmp_Compare_int.spec := (vbody_ok (vin_ok TI1_16_ok annTI1 3) TI1_16_ok.looks _ _).ofF fun args m p R h hp => by
  unfold F_cmp_Compare_int at h
  split at h
  · injection h with h; injection h with h1 h2; subst h1; subst h2
    exact ⟨rfl, (congrArg At (eq_cmp_Compare_int _ _ _)).mp ⟨vc_cmp_Compare_int _ _ hp⟩⟩
  · cases h
def TI1_17 : Tab := TI1_16.add 99 F_cmp_Compare_int
theorem TI1_17_ok : TI1_17.Ok Try.prog := TI1_16_ok.add ok_cmp_Compare_int
theorem eq_cmp_Or_int  (n : Nat) (a : List Int) (K : V → List Blk → Prop) : VC_cmp_Or_int  n a K = vbody Try.prog (vin Try.prog TI1_17 annTI1 3) TI1_17.looks (annTI1 98) 98 [.row 0 n] [⟨.ints .i64 a, 3, .row⟩] (K) := by kernel_rfl
theorem ok_cmp_Or_int : OK Try.prog 98 F_cmp_Or_int.spec := (vbody_ok (vin_ok TI1_17_ok annTI1 3) TI1_17_ok.looks _ _).ofFM fun args m p R h hp => by
  unfold F_cmp_Or_int at h
  split at h
  · injection h with h; injection h with h1 h2; subst h1; subst h2
    exact (congrArg At (eq_cmp_Or_int _ _ _)).mp ⟨vc_cmp_Or_int _ _ hp⟩
  · cases h
def TI1_18 : Tab := TI1_17.add 98 F_cmp_Or_int
theorem TI1_18_ok : TI1_18.Ok Try.prog := TI1_17_ok.add ok_cmp_Or_int
theorem eq_impl_compareSpots (ax : Int) (ay : Int) (ak : Int) (bx : Int) (by_ : Int) (bk : Int) (K : V → Prop) : VC_impl_compareSpots ax ay ak bx by_ bk K = vbody Try.prog (vin Try.prog TI1_18 annTI1 3) TI1_18.looks (annTI1 62) 62 [.agg [.int .i64 ax, .int .i64 ay, .int .i64 ak], .agg [.int .i64 bx, .int .i64 by_, .int .i64 bk]] [] (fun v _ => K v) := by kernel_rfl
theorem ok_impl_compareSpots : OK Try.prog 62 F_impl_compareSpots.spec := (vbody_ok (vin_ok TI1_18_ok annTI1 3) TI1_18_ok.looks _ _).ofF fun args m p R h hp => by
  unfold F_impl_compareSpots at h
  split at h
  · injection h with h; injection h with h1 h2; subst h1; subst h2
    exact ⟨rfl, (congrArg At (eq_impl_compareSpots _ _ _ _ _ _ _)).mp ⟨vc_impl_compareSpots _ _ _ _ _ _ hp⟩⟩
  · cases h
def TI1_19 : Tab := TI1_18.add 62 F_impl_compareSpots
theorem TI1_19_ok : TI1_19.Ok Try.prog := TI1_18_ok.add ok_impl_compareSpots
theorem eq_spec_enGood  (pr : List UInt8) (n : Nat) (px : Int) (py : Int) (pd : Int) (a : List Int) (K : V → List Blk → Prop) : VC_spec_enGood  pr n px py pd a K = vbody Try.prog (vin Try.prog TI1_19 annTI1 3) TI1_19.looks (annTI1 57) 57 [.agg [.str pr, .row 0 n, .int .i64 px, .int .i64 py, .int .i64 pd]] [⟨.ints .i64 a, 67, .rows 3⟩] (K) := by kernel_rfl
theorem ok_spec_enGood : OK Try.prog 57 F_spec_enGood.spec := (vbody_ok (vin_ok TI1_19_ok annTI1 3) TI1_19_ok.looks _ _).ofFM fun args m p R h hp => by
  unfold F_spec_enGood at h
  split at h
  · injection h with h; injection h with h1 h2; subst h1; subst h2
    exact (congrArg At (eq_spec_enGood _ _ _ _ _ _ _)).mp ⟨vc_spec_enGood _ _ _ _ _ _ hp⟩
  · cases h
def TI1_20 : Tab := TI1_19.add 57 F_spec_enGood
theorem TI1_20_ok : TI1_20.Ok Try.prog := TI1_19_ok.add ok_spec_enGood
theorem eq_impl_IsPlain  (pr : List UInt8) (n : Nat) (px : Int) (py : Int) (pd : Int) (a : List Int) (K : V → List Blk → Prop) : VC_impl_IsPlain  pr n px py pd a K = vbody Try.prog (vin Try.prog TI1_20 annTI1 4) TI1_20.looks (annTI1 24) 24 [.agg [.str pr, .row 0 n, .int .i64 px, .int .i64 py, .int .i64 pd]] [⟨.ints .i64 a, 67, .rows 3⟩] (K) := by kernel_rfl
theorem ok_impl_IsPlain : OK Try.prog 24 F_impl_IsPlain.spec := (vbody_ok (vin_ok TI1_20_ok annTI1 4) TI1_20_ok.looks _ _).ofFM fun args m p R h hp => by
  unfold F_impl_IsPlain at h
  split at h
  · injection h with h; injection h with h1 h2; subst h1; subst h2
    exact (congrArg At (eq_impl_IsPlain _ _ _ _ _ _ _)).mp ⟨vc_impl_IsPlain _ _ _ _ _ _ hp⟩
  · cases h
def TI1_21 : Tab := TI1_20.add 24 F_impl_IsPlain
theorem TI1_21_ok : TI1_21.Ok Try.prog := TI1_20_ok.add ok_impl_IsPlain
theorem eq_spec_IsPlain  (pr : List UInt8) (n : Nat) (px : Int) (py : Int) (pd : Int) (a : List Int) (K : V → List Blk → Prop) : VC_spec_IsPlain  pr n px py pd a K = vbody Try.prog (vin Try.prog TI1_21 annTI1 3) TI1_21.looks (annTI1 22) 22 [.agg [.str pr, .row 0 n, .int .i64 px, .int .i64 py, .int .i64 pd]] [⟨.ints .i64 a, 67, .rows 3⟩] (K) := by kernel_rfl
theorem ok_spec_IsPlain : OK Try.prog 22 F_spec_IsPlain.spec := (vbody_ok (vin_ok TI1_21_ok annTI1 3) TI1_21_ok.looks _ _).ofFM fun args m p R h hp => by
  unfold F_spec_IsPlain at h
  split at h
  · injection h with h; injection h with h1 h2; subst h1; subst h2
    exact (congrArg At (eq_spec_IsPlain _ _ _ _ _ _ _)).mp ⟨vc_spec_IsPlain _ _ _ _ _ _ hp⟩
  · cases h
def TI1_22 : Tab := TI1_21.add 22 F_spec_IsPlain
theorem TI1_22_ok : TI1_22.Ok Try.prog := TI1_21_ok.add ok_spec_IsPlain
def TI1 : Tab := TI1_22
theorem TI1_ok : TI1.Ok Try.prog := TI1_22_ok
end Go.Proofs.Ytlechboepjmmhaa
