/- The contracts of this chapter. -/
import Derived.Test.YtllocclgllappabProg
import Derived.Test.YtllocclgllappabJ2Pf
import Derived.KernelRfl
namespace Go.Proofs.Ytllocclgllappab
open Go Go.Vi
set_option linter.unusedVariables false
def annTJ2 : FuncId → Nat → St → Option Ann := fun f => if f = 32 then ann_spec_woRule else if f = 39 then ann_impl_IsRule else if f = 29 then ann_laws_eqSpotS else if f = 30 then ann_laws_markSpotS else if f = 26 then ann_laws_toSpotS else if f = 48 then ann_cmp_Or_int else if f = 24 then ann_spec_enGood else if f = 27 then ann_impl_IsPlain else if f = 25 then ann_spec_enBox else if f = 28 then ann_impl_boxOf else if f = 13 then ann_impl_BoxOfPlain else if f = 14 then ann_laws_eqIntS else if f = 17 then ann_laws_markIntS else if f = 18 then ann_laws_heldIntS else (fun _ _ => none)
def TJ2_0 : Tab := Tab.none
theorem TJ2_0_ok : TJ2_0.Ok Try.prog := Tab.none_ok
theorem eq_spec_l1In (n : Int) (lo : Int) (hi : Int) (K : V → Prop) : VC_spec_l1In n lo hi K = vbody Try.prog (vin Try.prog TJ2_0 annTJ2 3) TJ2_0.looks (annTJ2 31) 31 [.int .i64 n, .int .i64 lo, .int .i64 hi] [] (fun v _ => K v) := by kernel_rfl
theorem ok_spec_l1In : OK Try.prog 31 F_spec_l1In.spec := (vbody_ok (vin_ok TJ2_0_ok annTJ2 3) TJ2_0_ok.looks _ _).ofF fun args m p R h hp => by
  unfold F_spec_l1In at h
  split at h
  · injection h with h; injection h with h1 h2; subst h1; subst h2
    exact ⟨rfl, (congrArg At (eq_spec_l1In _ _ _ _)).mp ⟨vc_spec_l1In _ _ _ hp⟩⟩
  · cases h
def TJ2_1 : Tab := TJ2_0.add 31 F_spec_l1In
theorem TJ2_1_ok : TJ2_1.Ok Try.prog := TJ2_0_ok.add ok_spec_l1In
theorem eq_impl_within (n : Int) (lo : Int) (hi : Int) (K : V → Prop) : VC_impl_within n lo hi K = vbody Try.prog (vin Try.prog TJ2_1 annTJ2 3) TJ2_1.looks (annTJ2 42) 42 [.int .i64 n, .int .i64 lo, .int .i64 hi] [] (fun v _ => K v) := by kernel_rfl
theorem ok_impl_within : OK Try.prog 42 F_impl_within.spec := (vbody_ok (vin_ok TJ2_1_ok annTJ2 3) TJ2_1_ok.looks _ _).ofF fun args m p R h hp => by
  unfold F_impl_within at h
  split at h
  · injection h with h; injection h with h1 h2; subst h1; subst h2
    exact ⟨rfl, (congrArg At (eq_impl_within _ _ _ _)).mp ⟨vc_impl_within _ _ _ hp⟩⟩
  · cases h
def TJ2_2 : Tab := TJ2_1.add 42 F_impl_within
theorem TJ2_2_ok : TJ2_2.Ok Try.prog := TJ2_1_ok.add ok_impl_within
theorem eq_spec_woRule (s : List UInt8) (K : V → Prop) : VC_spec_woRule s K = vbody Try.prog (vin Try.prog TJ2_2 annTJ2 3) TJ2_2.looks (annTJ2 32) 32 [.str s] [] (fun v _ => K v) := by kernel_rfl
theorem ok_spec_woRule : OK Try.prog 32 F_spec_woRule.spec := (vbody_ok (vin_ok TJ2_2_ok annTJ2 3) TJ2_2_ok.looks _ _).ofF fun args m p R h hp => by
  unfold F_spec_woRule at h
  split at h
  · injection h with h; injection h with h1 h2; subst h1; subst h2
    exact ⟨rfl, (congrArg At (eq_spec_woRule _ _)).mp ⟨vc_spec_woRule _ hp⟩⟩
  · cases h
def TJ2_3 : Tab := TJ2_2.add 32 F_spec_woRule
theorem TJ2_3_ok : TJ2_3.Ok Try.prog := TJ2_2_ok.add ok_spec_woRule
theorem eq_impl_IsRule (s : List UInt8) (K : V → Prop) : VC_impl_IsRule s K = vbody Try.prog (vin Try.prog TJ2_3 annTJ2 3) TJ2_3.looks (annTJ2 39) 39 [.str s] [] (fun v _ => K v) := by kernel_rfl
theorem ok_impl_IsRule : OK Try.prog 39 F_impl_IsRule.spec := (vbody_ok (vin_ok TJ2_3_ok annTJ2 3) TJ2_3_ok.looks _ _).ofF fun args m p R h hp => by
  unfold F_impl_IsRule at h
  split at h
  · injection h with h; injection h with h1 h2; subst h1; subst h2
    exact ⟨rfl, (congrArg At (eq_impl_IsRule _ _)).mp ⟨vc_impl_IsRule _ hp⟩⟩
  · cases h
def TJ2_4 : Tab := TJ2_3.add 39 F_impl_IsRule
theorem TJ2_4_ok : TJ2_4.Ok Try.prog := TJ2_3_ok.add ok_impl_IsRule
theorem eq_laws_eqSpot (ax : Int) (ay : Int) (ak : Int) (bx : Int) (by_ : Int) (bk : Int) (K : V → Prop) : VC_laws_eqSpot ax ay ak bx by_ bk K = vbody Try.prog (vin Try.prog TJ2_4 annTJ2 3) TJ2_4.looks (annTJ2 44) 44 [.agg [.int .i64 ax, .int .i64 ay, .int .i64 ak], .agg [.int .i64 bx, .int .i64 by_, .int .i64 bk]] [] (fun v _ => K v) := by kernel_rfl
theorem ok_laws_eqSpot : OK Try.prog 44 F_laws_eqSpot.spec := (vbody_ok (vin_ok TJ2_4_ok annTJ2 3) TJ2_4_ok.looks _ _).ofF fun args m p R h hp => by
  unfold F_laws_eqSpot at h
  split at h
  · injection h with h; injection h with h1 h2; subst h1; subst h2
    exact ⟨rfl, (congrArg At (eq_laws_eqSpot _ _ _ _ _ _ _)).mp ⟨vc_laws_eqSpot _ _ _ _ _ _ hp⟩⟩
  · cases h
def TJ2_5 : Tab := TJ2_4.add 44 F_laws_eqSpot
theorem TJ2_5_ok : TJ2_5.Ok Try.prog := TJ2_4_ok.add ok_laws_eqSpot
theorem eq_laws_eqSpotS  (n : Nat) (m : Nat) (a : List Int) (b : List Int) (K : V → List Blk → Prop) : VC_laws_eqSpotS  n m a b K = vbody Try.prog (vin Try.prog TJ2_5 annTJ2 3) TJ2_5.looks (annTJ2 29) 29 [.row 0 n, .row 1 m] [⟨.ints .i64 a, 52, .rows 3⟩, ⟨.ints .i64 b, 52, .rows 3⟩] (K) := by kernel_rfl
theorem ok_laws_eqSpotS : OK Try.prog 29 F_laws_eqSpotS.spec := (vbody_ok (vin_ok TJ2_5_ok annTJ2 3) TJ2_5_ok.looks _ _).ofFM fun args m p R h hp => by
  unfold F_laws_eqSpotS at h
  split at h
  · injection h with h; injection h with h1 h2; subst h1; subst h2
    exact (congrArg At (eq_laws_eqSpotS _ _ _ _ _)).mp ⟨vc_laws_eqSpotS _ _ _ _ hp⟩
  · cases h
def TJ2_6 : Tab := TJ2_5.add 29 F_laws_eqSpotS
theorem TJ2_6_ok : TJ2_6.Ok Try.prog := TJ2_5_ok.add ok_laws_eqSpotS
theorem eq_laws_eqPlain  (ar : List UInt8) (an : Nat) (ax : Int) (ay : Int) (ad : Int) (cr : List UInt8) (cn : Nat) (cx : Int) (cy : Int) (cd : Int) (a : List Int) (b : List Int) (K : V → List Blk → Prop) : VC_laws_eqPlain  ar an ax ay ad cr cn cx cy cd a b K = vbody Try.prog (vin Try.prog TJ2_6 annTJ2 3) TJ2_6.looks (annTJ2 15) 15 [.agg [.str ar, .row 0 an, .int .i64 ax, .int .i64 ay, .int .i64 ad], .agg [.str cr, .row 1 cn, .int .i64 cx, .int .i64 cy, .int .i64 cd]] [⟨.ints .i64 a, 52, .rows 3⟩, ⟨.ints .i64 b, 52, .rows 3⟩] (K) := by kernel_rfl
theorem ok_laws_eqPlain : OK Try.prog 15 F_laws_eqPlain.spec := (vbody_ok (vin_ok TJ2_6_ok annTJ2 3) TJ2_6_ok.looks _ _).ofFM fun args m p R h hp => by
  unfold F_laws_eqPlain at h
  split at h
  · injection h with h; injection h with h1 h2; subst h1; subst h2
    exact (congrArg At (eq_laws_eqPlain _ _ _ _ _ _ _ _ _ _ _ _ _)).mp ⟨vc_laws_eqPlain _ _ _ _ _ _ _ _ _ _ _ _ hp⟩
  · cases h
def TJ2_7 : Tab := TJ2_6.add 15 F_laws_eqPlain
theorem TJ2_7_ok : TJ2_7.Ok Try.prog := TJ2_6_ok.add ok_laws_eqPlain
theorem eq_laws_markSpotS (k : Int) (n : Nat) (a : List Int) (K : V → List Blk → Prop) : VC_laws_markSpotS k n a K = vbody Try.prog (vin Try.prog TJ2_7 annTJ2 3) TJ2_7.looks (annTJ2 30) 30 [.row 0 n, .int .i64 k] [⟨.ints .i64 a, 52, .rows 3⟩] (K) := by kernel_rfl
theorem ok_laws_markSpotS : OK Try.prog 30 F_laws_markSpotS.spec := (vbody_ok (vin_ok TJ2_7_ok annTJ2 3) TJ2_7_ok.looks _ _).ofG fun args m p R M h hp => by
  unfold F_laws_markSpotS at h
  split at h
  · injection h with h; injection h with h1 h2; injection h2 with h2 h3; subst h1; subst h2; subst h3
    exact (congrArg At (eq_laws_markSpotS _ _ _ _)).mp ⟨vc_laws_markSpotS _ _ _ hp⟩
  · cases h
def TJ2_8 : Tab := TJ2_7.addG 30 F_laws_markSpotS
theorem TJ2_8_ok : TJ2_8.Ok Try.prog := TJ2_7_ok.addG ok_laws_markSpotS
theorem eq_laws_szSpotS (left : Int) (n : Nat) (a : List Int) (K : V → List Blk → Prop) : VC_laws_szSpotS left n a K = vbody Try.prog (vin Try.prog TJ2_8 annTJ2 3) TJ2_8.looks (annTJ2 23) 23 [.row 0 n, .int .i64 left] [⟨.ints .i64 a, 65, .arg 3⟩] (K) := by kernel_rfl
theorem ok_laws_szSpotS : OK Try.prog 23 F_laws_szSpotS.spec := (vbody_ok (vin_ok TJ2_8_ok annTJ2 3) TJ2_8_ok.looks _ _).ofFM fun args m p R h hp => by
  unfold F_laws_szSpotS at h
  split at h
  · injection h with h; injection h with h1 h2; subst h1; subst h2
    exact (congrArg At (eq_laws_szSpotS _ _ _ _)).mp ⟨vc_laws_szSpotS _ _ _ hp⟩
  · cases h
def TJ2_9 : Tab := TJ2_8.add 23 F_laws_szSpotS
theorem TJ2_9_ok : TJ2_9.Ok Try.prog := TJ2_8_ok.add ok_laws_szSpotS
theorem eq_laws_szPlain (left : Int) (pr : List UInt8) (n : Nat) (px : Int) (py : Int) (pd : Int) (a : List Int) (K : V → List Blk → Prop) : VC_laws_szPlain left pr n px py pd a K = vbody Try.prog (vin Try.prog TJ2_9 annTJ2 3) TJ2_9.looks (annTJ2 10) 10 [.agg [.str pr, .row 0 n, .int .i64 px, .int .i64 py, .int .i64 pd], .int .i64 left] [⟨.ints .i64 a, 65, .arg 3⟩] (K) := by kernel_rfl
theorem ok_laws_szPlain : OK Try.prog 10 F_laws_szPlain.spec := (vbody_ok (vin_ok TJ2_9_ok annTJ2 3) TJ2_9_ok.looks _ _).ofFM fun args m p R h hp => by
  unfold F_laws_szPlain at h
  split at h
  · injection h with h; injection h with h1 h2; subst h1; subst h2
    exact (congrArg At (eq_laws_szPlain _ _ _ _ _ _ _ _)).mp ⟨vc_laws_szPlain _ _ _ _ _ _ _ hp⟩
  · cases h
def TJ2_10 : Tab := TJ2_9.add 10 F_laws_szPlain
theorem TJ2_10_ok : TJ2_10.Ok Try.prog := TJ2_9_ok.add ok_laws_szPlain
theorem eq_laws_toSpot (ax : Int) (ay : Int) (ak : Int) (K : V → Prop) : VC_laws_toSpot ax ay ak K = vbody Try.prog (vin Try.prog TJ2_10 annTJ2 3) TJ2_10.looks (annTJ2 38) 38 [.agg [.int .i64 ax, .int .i64 ay, .int .i64 ak]] [] (fun v _ => K v) := by kernel_rfl
theorem ok_laws_toSpot : OK Try.prog 38 F_laws_toSpot.spec := (vbody_ok (vin_ok TJ2_10_ok annTJ2 3) TJ2_10_ok.looks _ _).ofF fun args m p R h hp => by
  unfold F_laws_toSpot at h
  split at h
  · injection h with h; injection h with h1 h2; subst h1; subst h2
    exact ⟨rfl, (congrArg At (eq_laws_toSpot _ _ _ _)).mp ⟨vc_laws_toSpot _ _ _ hp⟩⟩
  · cases h
def TJ2_11 : Tab := TJ2_10.add 38 F_laws_toSpot
theorem TJ2_11_ok : TJ2_11.Ok Try.prog := TJ2_10_ok.add ok_laws_toSpot
theorem eq_laws_toSpotS  (n : Nat) (a : List Int) (K : V → List Blk → Prop) : VC_laws_toSpotS  n a K = vbody Try.prog (vin Try.prog TJ2_11 annTJ2 3) TJ2_11.looks (annTJ2 26) 26 [.row 0 n] [⟨.ints .i64 a, 65, .arg 3⟩] (K) := by kernel_rfl
theorem ok_laws_toSpotS : OK Try.prog 26 F_laws_toSpotS.spec := (vbody_ok (vin_ok TJ2_11_ok annTJ2 3) TJ2_11_ok.looks _ _).ofG fun args m p R M h hp => by
  unfold F_laws_toSpotS at h
  split at h
  · injection h with h; injection h with h1 h2; injection h2 with h2 h3; subst h1; subst h2; subst h3
    exact (congrArg At (eq_laws_toSpotS _ _ _)).mp ⟨vc_laws_toSpotS _ _ hp⟩
  · cases h
def TJ2_12 : Tab := TJ2_11.addG 26 F_laws_toSpotS
theorem TJ2_12_ok : TJ2_12.Ok Try.prog := TJ2_11_ok.addG ok_laws_toSpotS
theorem eq_laws_toPlain  (pr : List UInt8) (n : Nat) (px : Int) (py : Int) (pd : Int) (a : List Int) (K : V → List Blk → Prop) : VC_laws_toPlain  pr n px py pd a K = vbody Try.prog (vin Try.prog TJ2_12 annTJ2 3) TJ2_12.looks (annTJ2 12) 12 [.agg [.str pr, .row 0 n, .int .i64 px, .int .i64 py, .int .i64 pd]] [⟨.ints .i64 a, 65, .arg 3⟩] (K) := by kernel_rfl
theorem ok_laws_toPlain : OK Try.prog 12 F_laws_toPlain.spec := (vbody_ok (vin_ok TJ2_12_ok annTJ2 3) TJ2_12_ok.looks _ _).ofG fun args m p R M h hp => by
  unfold F_laws_toPlain at h
  split at h
  · injection h with h; injection h with h1 h2; injection h2 with h2 h3; subst h1; subst h2; subst h3
    exact (congrArg At (eq_laws_toPlain _ _ _ _ _ _ _)).mp ⟨vc_laws_toPlain _ _ _ _ _ _ hp⟩
  · cases h
def TJ2_13 : Tab := TJ2_12.addG 12 F_laws_toPlain
theorem TJ2_13_ok : TJ2_13.Ok Try.prog := TJ2_12_ok.addG ok_laws_toPlain
theorem eq_spec_enFar (n : Int) (K : V → Prop) : VC_spec_enFar n K = vbody Try.prog (vin Try.prog TJ2_13 annTJ2 3) TJ2_13.looks (annTJ2 34) 34 [.int .i64 n] [] (fun v _ => K v) := by kernel_rfl
theorem ok_spec_enFar : OK Try.prog 34 F_spec_enFar.spec := (vbody_ok (vin_ok TJ2_13_ok annTJ2 3) TJ2_13_ok.looks _ _).ofF fun args m p R h hp => by
  unfold F_spec_enFar at h
  split at h
  · injection h with h; injection h with h1 h2; subst h1; subst h2
    exact ⟨rfl, (congrArg At (eq_spec_enFar _ _)).mp ⟨vc_spec_enFar _ hp⟩⟩
  · cases h
def TJ2_14 : Tab := TJ2_13.add 34 F_spec_enFar
theorem TJ2_14_ok : TJ2_14.Ok Try.prog := TJ2_13_ok.add ok_spec_enFar
theorem eq_spec_enLess (ax : Int) (ay : Int) (ak : Int) (bx : Int) (by_ : Int) (bk : Int) (K : V → Prop) : VC_spec_enLess ax ay ak bx by_ bk K = vbody Try.prog (vin Try.prog TJ2_14 annTJ2 3) TJ2_14.looks (annTJ2 35) 35 [.agg [.int .i64 ax, .int .i64 ay, .int .i64 ak], .agg [.int .i64 bx, .int .i64 by_, .int .i64 bk]] [] (fun v _ => K v) := by kernel_rfl
theorem ok_spec_enLess : OK Try.prog 35 F_spec_enLess.spec := (vbody_ok (vin_ok TJ2_14_ok annTJ2 3) TJ2_14_ok.looks _ _).ofF fun args m p R h hp => by
  unfold F_spec_enLess at h
  split at h
  · injection h with h; injection h with h1 h2; subst h1; subst h2
    exact ⟨rfl, (congrArg At (eq_spec_enLess _ _ _ _ _ _ _)).mp ⟨vc_spec_enLess _ _ _ _ _ _ hp⟩⟩
  · cases h
def TJ2_15 : Tab := TJ2_14.add 35 F_spec_enLess
theorem TJ2_15_ok : TJ2_15.Ok Try.prog := TJ2_14_ok.add ok_spec_enLess
theorem eq_cmp_Compare_int (a : Int) (b : Int) (K : V → Prop) : VC_cmp_Compare_int a b K = vbody Try.prog (vin Try.prog TJ2_15 annTJ2 3) TJ2_15.looks (annTJ2 49) 49 [.int .i64 a, .int .i64 b] [] (fun v _ => K v) := by kernel_rfl
theorem ok_cmp_Compare_int : OK Try.prog 49 F_cmp_Compare_int.spec := (vbody_ok (vin_ok TJ2_15_ok annTJ2 3) TJ2_15_ok.looks _ _).ofF fun args m p R h hp => by
  unfold F_cmp_Compare_int at h
  split at h
  · injection h with h; injection h with h1 h2; subst h1; subst h2
    exact ⟨rfl, (congrArg At (eq_cmp_Compare_int _ _ _)).mp ⟨vc_cmp_Compare_int _ _ hp⟩⟩
  · cases h
def TJ2_16 : Tab := TJ2_15.add 49 F_cmp_Compare_int
theorem TJ2_16_ok : TJ2_16.Ok Try.prog := TJ2_15_ok.add ok_cmp_Compare_int
theorem eq_cmp_Or_int  (n : Nat) (a : List Int) (K : V → List Blk → Prop) : VC_cmp_Or_int  n a K = vbody Try.prog (vin Try.prog TJ2_16 annTJ2 3) TJ2_16.looks (annTJ2 48) 48 [.row 0 n] [⟨.ints .i64 a, 3, .row⟩] (K) := by kernel_rfl
theorem ok_cmp_Or_int : OK Try.prog 48 F_cmp_Or_int.spec := (vbody_ok (vin_ok TJ2_16_ok annTJ2 3) TJ2_16_ok.looks _ _).ofFM fun args m p R h hp => by
  unfold F_cmp_Or_int at h
  split at h
  · injection h with h; injection h with h1 h2; subst h1; subst h2
    exact (congrArg At (eq_cmp_Or_int _ _ _)).mp ⟨vc_cmp_Or_int _ _ hp⟩
  · cases h
def TJ2_17 : Tab := TJ2_16.add 48 F_cmp_Or_int
theorem TJ2_17_ok : TJ2_17.Ok Try.prog := TJ2_16_ok.add ok_cmp_Or_int
theorem eq_impl_compareSpots (ax : Int) (ay : Int) (ak : Int) (bx : Int) (by_ : Int) (bk : Int) (K : V → Prop) : VC_impl_compareSpots ax ay ak bx by_ bk K = vbody Try.prog (vin Try.prog TJ2_17 annTJ2 3) TJ2_17.looks (annTJ2 43) 43 [.agg [.int .i64 ax, .int .i64 ay, .int .i64 ak], .agg [.int .i64 bx, .int .i64 by_, .int .i64 bk]] [] (fun v _ => K v) := by kernel_rfl
theorem ok_impl_compareSpots : OK Try.prog 43 F_impl_compareSpots.spec := (vbody_ok (vin_ok TJ2_17_ok annTJ2 3) TJ2_17_ok.looks _ _).ofF fun args m p R h hp => by
  unfold F_impl_compareSpots at h
  split at h
  · injection h with h; injection h with h1 h2; subst h1; subst h2
    exact ⟨rfl, (congrArg At (eq_impl_compareSpots _ _ _ _ _ _ _)).mp ⟨vc_impl_compareSpots _ _ _ _ _ _ hp⟩⟩
  · cases h
def TJ2_18 : Tab := TJ2_17.add 43 F_impl_compareSpots
theorem TJ2_18_ok : TJ2_18.Ok Try.prog := TJ2_17_ok.add ok_impl_compareSpots
theorem eq_spec_enGood  (pr : List UInt8) (n : Nat) (px : Int) (py : Int) (pd : Int) (a : List Int) (K : V → List Blk → Prop) : VC_spec_enGood  pr n px py pd a K = vbody Try.prog (vin Try.prog TJ2_18 annTJ2 3) TJ2_18.looks (annTJ2 24) 24 [.agg [.str pr, .row 0 n, .int .i64 px, .int .i64 py, .int .i64 pd]] [⟨.ints .i64 a, 52, .rows 3⟩] (K) := by kernel_rfl
theorem ok_spec_enGood : OK Try.prog 24 F_spec_enGood.spec := (vbody_ok (vin_ok TJ2_18_ok annTJ2 3) TJ2_18_ok.looks _ _).ofFM fun args m p R h hp => by
  unfold F_spec_enGood at h
  split at h
  · injection h with h; injection h with h1 h2; subst h1; subst h2
    exact (congrArg At (eq_spec_enGood _ _ _ _ _ _ _)).mp ⟨vc_spec_enGood _ _ _ _ _ _ hp⟩
  · cases h
def TJ2_19 : Tab := TJ2_18.add 24 F_spec_enGood
theorem TJ2_19_ok : TJ2_19.Ok Try.prog := TJ2_18_ok.add ok_spec_enGood
theorem eq_impl_IsPlain  (pr : List UInt8) (n : Nat) (px : Int) (py : Int) (pd : Int) (a : List Int) (K : V → List Blk → Prop) : VC_impl_IsPlain  pr n px py pd a K = vbody Try.prog (vin Try.prog TJ2_19 annTJ2 4) TJ2_19.looks (annTJ2 27) 27 [.agg [.str pr, .row 0 n, .int .i64 px, .int .i64 py, .int .i64 pd]] [⟨.ints .i64 a, 52, .rows 3⟩] (K) := by kernel_rfl
theorem ok_impl_IsPlain : OK Try.prog 27 F_impl_IsPlain.spec := (vbody_ok (vin_ok TJ2_19_ok annTJ2 4) TJ2_19_ok.looks _ _).ofFM fun args m p R h hp => by
  unfold F_impl_IsPlain at h
  split at h
  · injection h with h; injection h with h1 h2; subst h1; subst h2
    exact (congrArg At (eq_impl_IsPlain _ _ _ _ _ _ _)).mp ⟨vc_impl_IsPlain _ _ _ _ _ _ hp⟩
  · cases h
def TJ2_20 : Tab := TJ2_19.add 27 F_impl_IsPlain
theorem TJ2_20_ok : TJ2_20.Ok Try.prog := TJ2_19_ok.add ok_impl_IsPlain
theorem eq_spec_l1Least (a : Int) (b : Int) (K : V → Prop) : VC_spec_l1Least a b K = vbody Try.prog (vin Try.prog TJ2_20 annTJ2 3) TJ2_20.looks (annTJ2 36) 36 [.int .i64 a, .int .i64 b] [] (fun v _ => K v) := by kernel_rfl
theorem ok_spec_l1Least : OK Try.prog 36 F_spec_l1Least.spec := (vbody_ok (vin_ok TJ2_20_ok annTJ2 3) TJ2_20_ok.looks _ _).ofF fun args m p R h hp => by
  unfold F_spec_l1Least at h
  split at h
  · injection h with h; injection h with h1 h2; subst h1; subst h2
    exact ⟨rfl, (congrArg At (eq_spec_l1Least _ _ _)).mp ⟨vc_spec_l1Least _ _ hp⟩⟩
  · cases h
def TJ2_21 : Tab := TJ2_20.add 36 F_spec_l1Least
theorem TJ2_21_ok : TJ2_21.Ok Try.prog := TJ2_20_ok.add ok_spec_l1Least
theorem eq_spec_l1Most (a : Int) (b : Int) (K : V → Prop) : VC_spec_l1Most a b K = vbody Try.prog (vin Try.prog TJ2_21 annTJ2 3) TJ2_21.looks (annTJ2 37) 37 [.int .i64 a, .int .i64 b] [] (fun v _ => K v) := by kernel_rfl
theorem ok_spec_l1Most : OK Try.prog 37 F_spec_l1Most.spec := (vbody_ok (vin_ok TJ2_21_ok annTJ2 3) TJ2_21_ok.looks _ _).ofF fun args m p R h hp => by
  unfold F_spec_l1Most at h
  split at h
  · injection h with h; injection h with h1 h2; subst h1; subst h2
    exact ⟨rfl, (congrArg At (eq_spec_l1Most _ _ _)).mp ⟨vc_spec_l1Most _ _ hp⟩⟩
  · cases h
def TJ2_22 : Tab := TJ2_21.add 37 F_spec_l1Most
theorem TJ2_22_ok : TJ2_22.Ok Try.prog := TJ2_21_ok.add ok_spec_l1Most
theorem eq_spec_enBox  (pr : List UInt8) (n : Nat) (px : Int) (py : Int) (pd : Int) (a : List Int) (K : V → List Blk → Prop) : VC_spec_enBox  pr n px py pd a K = vbody Try.prog (vin Try.prog TJ2_22 annTJ2 3) TJ2_22.looks (annTJ2 25) 25 [.agg [.str pr, .row 0 n, .int .i64 px, .int .i64 py, .int .i64 pd]] [⟨.ints .i64 a, 52, .rows 3⟩] (K) := by kernel_rfl
theorem ok_spec_enBox : OK Try.prog 25 F_spec_enBox.spec := (vbody_ok (vin_ok TJ2_22_ok annTJ2 3) TJ2_22_ok.looks _ _).ofG fun args m p R M h hp => by
  unfold F_spec_enBox at h
  split at h
  · injection h with h; injection h with h1 h2; injection h2 with h2 h3; subst h1; subst h2; subst h3
    exact (congrArg At (eq_spec_enBox _ _ _ _ _ _ _)).mp ⟨vc_spec_enBox _ _ _ _ _ _ hp⟩
  · cases h
def TJ2_23 : Tab := TJ2_22.addG 25 F_spec_enBox
theorem TJ2_23_ok : TJ2_23.Ok Try.prog := TJ2_22_ok.addG ok_spec_enBox
theorem eq_spec_BoxOfPlain  (pr : List UInt8) (n : Nat) (px : Int) (py : Int) (pd : Int) (a : List Int) (K : V → List Blk → Prop) : VC_spec_BoxOfPlain  pr n px py pd a K = vbody Try.prog (vin Try.prog TJ2_23 annTJ2 3) TJ2_23.looks (annTJ2 11) 11 [.agg [.str pr, .row 0 n, .int .i64 px, .int .i64 py, .int .i64 pd]] [⟨.ints .i64 a, 52, .rows 3⟩] (K) := by kernel_rfl
theorem ok_spec_BoxOfPlain : OK Try.prog 11 F_spec_BoxOfPlain.spec := (vbody_ok (vin_ok TJ2_23_ok annTJ2 3) TJ2_23_ok.looks _ _).ofG fun args m p R M h hp => by
  unfold F_spec_BoxOfPlain at h
  split at h
  · injection h with h; injection h with h1 h2; injection h2 with h2 h3; subst h1; subst h2; subst h3
    exact (congrArg At (eq_spec_BoxOfPlain _ _ _ _ _ _ _)).mp ⟨vc_spec_BoxOfPlain _ _ _ _ _ _ hp⟩
  · cases h
def TJ2_24 : Tab := TJ2_23.addG 11 F_spec_BoxOfPlain
theorem TJ2_24_ok : TJ2_24.Ok Try.prog := TJ2_23_ok.addG ok_spec_BoxOfPlain
theorem eq_impl_boxOf  (n : Nat) (f : List Int) (K : V → List Blk → Prop) : VC_impl_boxOf  n f K = vbody Try.prog (vin Try.prog TJ2_24 annTJ2 3) TJ2_24.looks (annTJ2 28) 28 [.row 0 n] [⟨.ints .i64 (f), 49, .rows 2⟩] (K) := by kernel_rfl
theorem ok_impl_boxOf : OK Try.prog 28 F_impl_boxOf.spec := (vbody_ok (vin_ok TJ2_24_ok annTJ2 3) TJ2_24_ok.looks _ _).ofG fun args m p R M h hp => by
  unfold F_impl_boxOf at h
  split at h
  · injection h with h; injection h with h1 h2; injection h2 with h2 h3; subst h1; subst h2; subst h3
    exact (congrArg At (eq_impl_boxOf _ _ _)).mp ⟨vc_impl_boxOf _ _ hp⟩
  · cases h
def TJ2_25 : Tab := TJ2_24.addG 28 F_impl_boxOf
theorem TJ2_25_ok : TJ2_25.Ok Try.prog := TJ2_24_ok.addG ok_impl_boxOf
theorem eq_impl_BoxOfPlain  (pr : List UInt8) (n : Nat) (px : Int) (py : Int) (pd : Int) (a : List Int) (K : V → List Blk → Prop) : VC_impl_BoxOfPlain  pr n px py pd a K = vbody Try.prog (vin Try.prog TJ2_25 annTJ2 3) TJ2_25.looks (annTJ2 13) 13 [.agg [.str pr, .row 0 n, .int .i64 px, .int .i64 py, .int .i64 pd]] [⟨.ints .i64 a, 52, .rows 3⟩] (K) := by kernel_rfl
theorem ok_impl_BoxOfPlain : OK Try.prog 13 F_impl_BoxOfPlain.spec := (vbody_ok (vin_ok TJ2_25_ok annTJ2 3) TJ2_25_ok.looks _ _).ofG fun args m p R M h hp => by
  unfold F_impl_BoxOfPlain at h
  split at h
  · injection h with h; injection h with h1 h2; injection h2 with h2 h3; subst h1; subst h2; subst h3
    exact (congrArg At (eq_impl_BoxOfPlain _ _ _ _ _ _ _)).mp ⟨vc_impl_BoxOfPlain _ _ _ _ _ _ hp⟩
  · cases h
def TJ2_26 : Tab := TJ2_25.addG 13 F_impl_BoxOfPlain
theorem TJ2_26_ok : TJ2_26.Ok Try.prog := TJ2_25_ok.addG ok_impl_BoxOfPlain
theorem eq_laws_eqIntS  (n : Nat) (m : Nat) (a : List Int) (b : List Int) (K : V → List Blk → Prop) : VC_laws_eqIntS  n m a b K = vbody Try.prog (vin Try.prog TJ2_26 annTJ2 3) TJ2_26.looks (annTJ2 14) 14 [.row 0 n, .row 1 m] [⟨.ints .i64 a, 3, .row⟩, ⟨.ints .i64 b, 3, .row⟩] (K) := by kernel_rfl
theorem ok_laws_eqIntS : OK Try.prog 14 F_laws_eqIntS.spec := (vbody_ok (vin_ok TJ2_26_ok annTJ2 3) TJ2_26_ok.looks _ _).ofFM fun args m p R h hp => by
  unfold F_laws_eqIntS at h
  split at h
  · injection h with h; injection h with h1 h2; subst h1; subst h2
    exact (congrArg At (eq_laws_eqIntS _ _ _ _ _)).mp ⟨vc_laws_eqIntS _ _ _ _ hp⟩
  · cases h
def TJ2_27 : Tab := TJ2_26.add 14 F_laws_eqIntS
theorem TJ2_27_ok : TJ2_27.Ok Try.prog := TJ2_26_ok.add ok_laws_eqIntS
theorem eq_laws_markIntS (k : Int) (n : Nat) (a : List Int) (K : V → List Blk → Prop) : VC_laws_markIntS k n a K = vbody Try.prog (vin Try.prog TJ2_27 annTJ2 3) TJ2_27.looks (annTJ2 17) 17 [.row 0 n, .int .i64 k] [⟨.ints .i64 a, 3, .row⟩] (K) := by kernel_rfl
theorem ok_laws_markIntS : OK Try.prog 17 F_laws_markIntS.spec := (vbody_ok (vin_ok TJ2_27_ok annTJ2 3) TJ2_27_ok.looks _ _).ofG fun args m p R M h hp => by
  unfold F_laws_markIntS at h
  split at h
  · injection h with h; injection h with h1 h2; injection h2 with h2 h3; subst h1; subst h2; subst h3
    exact (congrArg At (eq_laws_markIntS _ _ _ _)).mp ⟨vc_laws_markIntS _ _ _ hp⟩
  · cases h
def TJ2_28 : Tab := TJ2_27.addG 17 F_laws_markIntS
theorem TJ2_28_ok : TJ2_28.Ok Try.prog := TJ2_27_ok.addG ok_laws_markIntS
theorem eq_laws_heldIntS (k : Int) (n : Nat) (a : List Int) (K : V → List Blk → Prop) : VC_laws_heldIntS k n a K = vbody Try.prog (vin Try.prog TJ2_28 annTJ2 3) TJ2_28.looks (annTJ2 18) 18 [.row 0 n, .int .i64 k] [⟨.ints .i64 a, 3, .row⟩] (K) := by kernel_rfl
theorem ok_laws_heldIntS : OK Try.prog 18 F_laws_heldIntS.spec := (vbody_ok (vin_ok TJ2_28_ok annTJ2 3) TJ2_28_ok.looks _ _).ofFM fun args m p R h hp => by
  unfold F_laws_heldIntS at h
  split at h
  · injection h with h; injection h with h1 h2; subst h1; subst h2
    exact (congrArg At (eq_laws_heldIntS _ _ _ _)).mp ⟨vc_laws_heldIntS _ _ _ hp⟩
  · cases h
def TJ2_29 : Tab := TJ2_28.add 18 F_laws_heldIntS
theorem TJ2_29_ok : TJ2_29.Ok Try.prog := TJ2_28_ok.add ok_laws_heldIntS
def TJ2 : Tab := TJ2_29
theorem TJ2_ok : TJ2.Ok Try.prog := TJ2_29_ok
end Go.Proofs.Ytllocclgllappab
