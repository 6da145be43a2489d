/- The contracts of this chapter. -/
import Derived.Test.YtlechboepjmmhaaProg
import Derived.Test.YtlechboepjmmhaaJ1Pf
import Derived.KernelRfl
namespace Go.Proofs.Ytlechboepjmmhaa
open Go Go.Vi
set_option linter.unusedVariables false
def annTJ1 : FuncId → Nat → St → Option Ann := fun f => if f = 90 then ann_spec_woRule else if f = 54 then ann_impl_IsRule else if f = 63 then ann_laws_eqSpotS else if f = 65 then ann_laws_markSpotS else if f = 74 then ann_laws_heldSpotS else if f = 58 then ann_laws_toSpotS else if f = 98 then ann_cmp_Or_int else if f = 57 then ann_spec_enGood else if f = 24 then ann_impl_IsPlain else if f = 64 then ann_spec_enBox else if f = 27 then ann_impl_BoxOfPlain else if f = 28 then ann_laws_eqIntS else if f = 30 then ann_laws_markIntS else if f = 31 then ann_laws_heldIntS else (fun _ _ => none)
def TJ1_0 : Tab := Tab.none
theorem TJ1_0_ok : TJ1_0.Ok Try.prog := Tab.none_ok
theorem eq_spec_l1In (n : Int) (lo : Int) (hi : Int) (K : V → Prop) : VC_spec_l1In n lo hi K = vbody Try.prog (vin Try.prog TJ1_0 annTJ1 3) TJ1_0.looks (annTJ1 69) 69 [.int .i64 n, .int .i64 lo, .int .i64 hi] [] (fun v _ => K v) := by kernel_rfl
theorem ok_spec_l1In : OK Try.prog 69 F_spec_l1In.spec := (vbody_ok (vin_ok TJ1_0_ok annTJ1 3) TJ1_0_ok.looks _ _).ofF fun args m p R h hp => by
  unfold F_spec_l1In at h
  split at h
  · injection h with h; injection h with h1 h2; subst h1; subst h2
    exact ⟨rfl, (congrArg At (eq_spec_l1In _ _ _ _)).mp ⟨vc_spec_l1In _ _ _ hp⟩⟩
  · cases h
def TJ1_1 : Tab := TJ1_0.add 69 F_spec_l1In
theorem TJ1_1_ok : TJ1_1.Ok Try.prog := TJ1_0_ok.add ok_spec_l1In
theorem eq_impl_within (n : Int) (lo : Int) (hi : Int) (K : V → Prop) : VC_impl_within n lo hi K = vbody Try.prog (vin Try.prog TJ1_1 annTJ1 3) TJ1_1.looks (annTJ1 61) 61 [.int .i64 n, .int .i64 lo, .int .i64 hi] [] (fun v _ => K v) := by kernel_rfl
theorem ok_impl_within : OK Try.prog 61 F_impl_within.spec := (vbody_ok (vin_ok TJ1_1_ok annTJ1 3) TJ1_1_ok.looks _ _).ofF fun args m p R h hp => by
  unfold F_impl_within at h
  split at h
  · injection h with h; injection h with h1 h2; subst h1; subst h2
    exact ⟨rfl, (congrArg At (eq_impl_within _ _ _ _)).mp ⟨vc_impl_within _ _ _ hp⟩⟩
  · cases h
def TJ1_2 : Tab := TJ1_1.add 61 F_impl_within
theorem TJ1_2_ok : TJ1_2.Ok Try.prog := TJ1_1_ok.add ok_impl_within
theorem eq_spec_woRule (s : List UInt8) (K : V → Prop) : VC_spec_woRule s K = vbody Try.prog (vin Try.prog TJ1_2 annTJ1 3) TJ1_2.looks (annTJ1 90) 90 [.str s] [] (fun v _ => K v) := by kernel_rfl
theorem ok_spec_woRule : OK Try.prog 90 F_spec_woRule.spec := (vbody_ok (vin_ok TJ1_2_ok annTJ1 3) TJ1_2_ok.looks _ _).ofF fun args m p R h hp => by
  unfold F_spec_woRule at h
  split at h
  · injection h with h; injection h with h1 h2; subst h1; subst h2
    exact ⟨rfl, (congrArg At (eq_spec_woRule _ _)).mp ⟨vc_spec_woRule _ hp⟩⟩
  · cases h
def TJ1_3 : Tab := TJ1_2.add 90 F_spec_woRule
theorem TJ1_3_ok : TJ1_3.Ok Try.prog := TJ1_2_ok.add ok_spec_woRule
theorem eq_impl_IsRule (s : List UInt8) (K : V → Prop) : VC_impl_IsRule s K = vbody Try.prog (vin Try.prog TJ1_3 annTJ1 3) TJ1_3.looks (annTJ1 54) 54 [.str s] [] (fun v _ => K v) := by kernel_rfl
theorem ok_impl_IsRule : OK Try.prog 54 F_impl_IsRule.spec := (vbody_ok (vin_ok TJ1_3_ok annTJ1 3) TJ1_3_ok.looks _ _).ofF fun args m p R h hp => by
  unfold F_impl_IsRule at h
  split at h
  · injection h with h; injection h with h1 h2; subst h1; subst h2
    exact ⟨rfl, (congrArg At (eq_impl_IsRule _ _)).mp ⟨vc_impl_IsRule _ hp⟩⟩
  · cases h
def TJ1_4 : Tab := TJ1_3.add 54 F_impl_IsRule
theorem TJ1_4_ok : TJ1_4.Ok Try.prog := TJ1_3_ok.add ok_impl_IsRule
theorem eq_laws_eqSpot (ax : Int) (ay : Int) (ak : Int) (bx : Int) (by_ : Int) (bk : Int) (K : V → Prop) : VC_laws_eqSpot ax ay ak bx by_ bk K = vbody Try.prog (vin Try.prog TJ1_4 annTJ1 3) TJ1_4.looks (annTJ1 100) 100 [.agg [.int .i64 ax, .int .i64 ay, .int .i64 ak], .agg [.int .i64 bx, .int .i64 by_, .int .i64 bk]] [] (fun v _ => K v) := by kernel_rfl
theorem ok_laws_eqSpot : OK Try.prog 100 F_laws_eqSpot.spec := (vbody_ok (vin_ok TJ1_4_ok annTJ1 3) TJ1_4_ok.looks _ _).ofF fun args m p R h hp => by
  unfold F_laws_eqSpot at h
  split at h
  · injection h with h; injection h with h1 h2; subst h1; subst h2
    exact ⟨rfl, (congrArg At (eq_laws_eqSpot _ _ _ _ _ _ _)).mp ⟨vc_laws_eqSpot _ _ _ _ _ _ hp⟩⟩
  · cases h
def TJ1_5 : Tab := TJ1_4.add 100 F_laws_eqSpot
theorem TJ1_5_ok : TJ1_5.Ok Try.prog := TJ1_4_ok.add ok_laws_eqSpot
theorem eq_laws_eqSpotS  (n : Nat) (m : Nat) (a : List Int) (b : List Int) (K : V → List Blk → Prop) : VC_laws_eqSpotS  n m a b K = vbody Try.prog (vin Try.prog TJ1_5 annTJ1 3) TJ1_5.looks (annTJ1 63) 63 [.row 0 n, .row 1 m] [⟨.ints .i64 a, 67, .rows 3⟩, ⟨.ints .i64 b, 67, .rows 3⟩] (K) := by kernel_rfl
theorem ok_laws_eqSpotS : OK Try.prog 63 F_laws_eqSpotS.spec := (vbody_ok (vin_ok TJ1_5_ok annTJ1 3) TJ1_5_ok.looks _ _).ofFM fun args m p R h hp => by
  unfold F_laws_eqSpotS at h
  split at h
  · injection h with h; injection h with h1 h2; subst h1; subst h2
    exact (congrArg At (eq_laws_eqSpotS _ _ _ _ _)).mp ⟨vc_laws_eqSpotS _ _ _ _ hp⟩
  · cases h
def TJ1_6 : Tab := TJ1_5.add 63 F_laws_eqSpotS
theorem TJ1_6_ok : TJ1_6.Ok Try.prog := TJ1_5_ok.add ok_laws_eqSpotS
theorem eq_laws_eqPlain  (ar : List UInt8) (an : Nat) (ax : Int) (ay : Int) (ad : Int) (cr : List UInt8) (cn : Nat) (cx : Int) (cy : Int) (cd : Int) (a : List Int) (b : List Int) (K : V → List Blk → Prop) : VC_laws_eqPlain  ar an ax ay ad cr cn cx cy cd a b K = vbody Try.prog (vin Try.prog TJ1_6 annTJ1 3) TJ1_6.looks (annTJ1 25) 25 [.agg [.str ar, .row 0 an, .int .i64 ax, .int .i64 ay, .int .i64 ad], .agg [.str cr, .row 1 cn, .int .i64 cx, .int .i64 cy, .int .i64 cd]] [⟨.ints .i64 a, 67, .rows 3⟩, ⟨.ints .i64 b, 67, .rows 3⟩] (K) := by kernel_rfl
theorem ok_laws_eqPlain : OK Try.prog 25 F_laws_eqPlain.spec := (vbody_ok (vin_ok TJ1_6_ok annTJ1 3) TJ1_6_ok.looks _ _).ofFM fun args m p R h hp => by
  unfold F_laws_eqPlain at h
  split at h
  · injection h with h; injection h with h1 h2; subst h1; subst h2
    exact (congrArg At (eq_laws_eqPlain _ _ _ _ _ _ _ _ _ _ _ _ _)).mp ⟨vc_laws_eqPlain _ _ _ _ _ _ _ _ _ _ _ _ hp⟩
  · cases h
def TJ1_7 : Tab := TJ1_6.add 25 F_laws_eqPlain
theorem TJ1_7_ok : TJ1_7.Ok Try.prog := TJ1_6_ok.add ok_laws_eqPlain
theorem eq_laws_markSpotS (k : Int) (n : Nat) (a : List Int) (K : V → List Blk → Prop) : VC_laws_markSpotS k n a K = vbody Try.prog (vin Try.prog TJ1_7 annTJ1 3) TJ1_7.looks (annTJ1 65) 65 [.row 0 n, .int .i64 k] [⟨.ints .i64 a, 67, .rows 3⟩] (K) := by kernel_rfl
theorem ok_laws_markSpotS : OK Try.prog 65 F_laws_markSpotS.spec := (vbody_ok (vin_ok TJ1_7_ok annTJ1 3) TJ1_7_ok.looks _ _).ofG fun args m p R M h hp => by
  unfold F_laws_markSpotS at h
  split at h
  · injection h with h; injection h with h1 h2; injection h2 with h2 h3; subst h1; subst h2; subst h3
    exact (congrArg At (eq_laws_markSpotS _ _ _ _)).mp ⟨vc_laws_markSpotS _ _ _ hp⟩
  · cases h
def TJ1_8 : Tab := TJ1_7.addG 65 F_laws_markSpotS
theorem TJ1_8_ok : TJ1_8.Ok Try.prog := TJ1_7_ok.addG ok_laws_markSpotS
theorem eq_laws_heldSpotS (k : Int) (n : Nat) (a : List Int) (K : V → List Blk → Prop) : VC_laws_heldSpotS k n a K = vbody Try.prog (vin Try.prog TJ1_8 annTJ1 3) TJ1_8.looks (annTJ1 74) 74 [.row 0 n, .int .i64 k] [⟨.ints .i64 a, 67, .rows 3⟩] (K) := by kernel_rfl
theorem ok_laws_heldSpotS : OK Try.prog 74 F_laws_heldSpotS.spec := (vbody_ok (vin_ok TJ1_8_ok annTJ1 3) TJ1_8_ok.looks _ _).ofFM fun args m p R h hp => by
  unfold F_laws_heldSpotS at h
  split at h
  · injection h with h; injection h with h1 h2; subst h1; subst h2
    exact (congrArg At (eq_laws_heldSpotS _ _ _ _)).mp ⟨vc_laws_heldSpotS _ _ _ hp⟩
  · cases h
def TJ1_9 : Tab := TJ1_8.add 74 F_laws_heldSpotS
theorem TJ1_9_ok : TJ1_9.Ok Try.prog := TJ1_8_ok.add ok_laws_heldSpotS
theorem eq_laws_szSpotS (left : Int) (n : Nat) (a : List Int) (K : V → List Blk → Prop) : VC_laws_szSpotS left n a K = vbody Try.prog (vin Try.prog TJ1_9 annTJ1 3) TJ1_9.looks (annTJ1 56) 56 [.row 0 n, .int .i64 left] [⟨.ints .i64 a, 104, .arg 3⟩] (K) := by kernel_rfl
theorem ok_laws_szSpotS : OK Try.prog 56 F_laws_szSpotS.spec := (vbody_ok (vin_ok TJ1_9_ok annTJ1 3) TJ1_9_ok.looks _ _).ofFM fun args m p R h hp => by
  unfold F_laws_szSpotS at h
  split at h
  · injection h with h; injection h with h1 h2; subst h1; subst h2
    exact (congrArg At (eq_laws_szSpotS _ _ _ _)).mp ⟨vc_laws_szSpotS _ _ _ hp⟩
  · cases h
def TJ1_10 : Tab := TJ1_9.add 56 F_laws_szSpotS
theorem TJ1_10_ok : TJ1_10.Ok Try.prog := TJ1_9_ok.add ok_laws_szSpotS
theorem eq_laws_szPlain (left : Int) (pr : List UInt8) (n : Nat) (px : Int) (py : Int) (pd : Int) (a : List Int) (K : V → List Blk → Prop) : VC_laws_szPlain left pr n px py pd a K = vbody Try.prog (vin Try.prog TJ1_10 annTJ1 3) TJ1_10.looks (annTJ1 21) 21 [.agg [.str pr, .row 0 n, .int .i64 px, .int .i64 py, .int .i64 pd], .int .i64 left] [⟨.ints .i64 a, 104, .arg 3⟩] (K) := by kernel_rfl
theorem ok_laws_szPlain : OK Try.prog 21 F_laws_szPlain.spec := (vbody_ok (vin_ok TJ1_10_ok annTJ1 3) TJ1_10_ok.looks _ _).ofFM fun args m p R h hp => by
  unfold F_laws_szPlain at h
  split at h
  · injection h with h; injection h with h1 h2; subst h1; subst h2
    exact (congrArg At (eq_laws_szPlain _ _ _ _ _ _ _ _)).mp ⟨vc_laws_szPlain _ _ _ _ _ _ _ hp⟩
  · cases h
def TJ1_11 : Tab := TJ1_10.add 21 F_laws_szPlain
theorem TJ1_11_ok : TJ1_11.Ok Try.prog := TJ1_10_ok.add ok_laws_szPlain
theorem eq_laws_toSpot (ax : Int) (ay : Int) (ak : Int) (K : V → Prop) : VC_laws_toSpot ax ay ak K = vbody Try.prog (vin Try.prog TJ1_11 annTJ1 3) TJ1_11.looks (annTJ1 96) 96 [.agg [.int .i64 ax, .int .i64 ay, .int .i64 ak]] [] (fun v _ => K v) := by kernel_rfl
theorem ok_laws_toSpot : OK Try.prog 96 F_laws_toSpot.spec := (vbody_ok (vin_ok TJ1_11_ok annTJ1 3) TJ1_11_ok.looks _ _).ofF fun args m p R h hp => by
  unfold F_laws_toSpot at h
  split at h
  · injection h with h; injection h with h1 h2; subst h1; subst h2
    exact ⟨rfl, (congrArg At (eq_laws_toSpot _ _ _ _)).mp ⟨vc_laws_toSpot _ _ _ hp⟩⟩
  · cases h
def TJ1_12 : Tab := TJ1_11.add 96 F_laws_toSpot
theorem TJ1_12_ok : TJ1_12.Ok Try.prog := TJ1_11_ok.add ok_laws_toSpot
theorem eq_laws_toSpotS  (n : Nat) (a : List Int) (K : V → List Blk → Prop) : VC_laws_toSpotS  n a K = vbody Try.prog (vin Try.prog TJ1_12 annTJ1 3) TJ1_12.looks (annTJ1 58) 58 [.row 0 n] [⟨.ints .i64 a, 104, .arg 3⟩] (K) := by kernel_rfl
theorem ok_laws_toSpotS : OK Try.prog 58 F_laws_toSpotS.spec := (vbody_ok (vin_ok TJ1_12_ok annTJ1 3) TJ1_12_ok.looks _ _).ofG fun args m p R M h hp => by
  unfold F_laws_toSpotS at h
  split at h
  · injection h with h; injection h with h1 h2; injection h2 with h2 h3; subst h1; subst h2; subst h3
    exact (congrArg At (eq_laws_toSpotS _ _ _)).mp ⟨vc_laws_toSpotS _ _ hp⟩
  · cases h
def TJ1_13 : Tab := TJ1_12.addG 58 F_laws_toSpotS
theorem TJ1_13_ok : TJ1_13.Ok Try.prog := TJ1_12_ok.addG ok_laws_toSpotS
theorem eq_laws_toPlain  (pr : List UInt8) (n : Nat) (px : Int) (py : Int) (pd : Int) (a : List Int) (K : V → List Blk → Prop) : VC_laws_toPlain  pr n px py pd a K = vbody Try.prog (vin Try.prog TJ1_13 annTJ1 3) TJ1_13.looks (annTJ1 23) 23 [.agg [.str pr, .row 0 n, .int .i64 px, .int .i64 py, .int .i64 pd]] [⟨.ints .i64 a, 104, .arg 3⟩] (K) := by kernel_rfl
theorem ok_laws_toPlain : OK Try.prog 23 F_laws_toPlain.spec := (vbody_ok (vin_ok TJ1_13_ok annTJ1 3) TJ1_13_ok.looks _ _).ofG fun args m p R M h hp => by
  unfold F_laws_toPlain at h
  split at h
  · injection h with h; injection h with h1 h2; injection h2 with h2 h3; subst h1; subst h2; subst h3
    exact (congrArg At (eq_laws_toPlain _ _ _ _ _ _ _)).mp ⟨vc_laws_toPlain _ _ _ _ _ _ hp⟩
  · cases h
def TJ1_14 : Tab := TJ1_13.addG 23 F_laws_toPlain
theorem TJ1_14_ok : TJ1_14.Ok Try.prog := TJ1_13_ok.addG ok_laws_toPlain
theorem eq_spec_enFar (n : Int) (K : V → Prop) : VC_spec_enFar n K = vbody Try.prog (vin Try.prog TJ1_14 annTJ1 3) TJ1_14.looks (annTJ1 94) 94 [.int .i64 n] [] (fun v _ => K v) := by kernel_rfl
theorem ok_spec_enFar : OK Try.prog 94 F_spec_enFar.spec := (vbody_ok (vin_ok TJ1_14_ok annTJ1 3) TJ1_14_ok.looks _ _).ofF fun args m p R h hp => by
  unfold F_spec_enFar at h
  split at h
  · injection h with h; injection h with h1 h2; subst h1; subst h2
    exact ⟨rfl, (congrArg At (eq_spec_enFar _ _)).mp ⟨vc_spec_enFar _ hp⟩⟩
  · cases h
def TJ1_15 : Tab := TJ1_14.add 94 F_spec_enFar
theorem TJ1_15_ok : TJ1_15.Ok Try.prog := TJ1_14_ok.add ok_spec_enFar
theorem eq_spec_enLess (ax : Int) (ay : Int) (ak : Int) (bx : Int) (by_ : Int) (bk : Int) (K : V → Prop) : VC_spec_enLess ax ay ak bx by_ bk K = vbody Try.prog (vin Try.prog TJ1_15 annTJ1 3) TJ1_15.looks (annTJ1 95) 95 [.agg [.int .i64 ax, .int .i64 ay, .int .i64 ak], .agg [.int .i64 bx, .int .i64 by_, .int .i64 bk]] [] (fun v _ => K v) := by kernel_rfl
theorem ok_spec_enLess : OK Try.prog 95 F_spec_enLess.spec := (vbody_ok (vin_ok TJ1_15_ok annTJ1 3) TJ1_15_ok.looks _ _).ofF fun args m p R h hp => by
  unfold F_spec_enLess at h
  split at h
  · injection h with h; injection h with h1 h2; subst h1; subst h2
    exact ⟨rfl, (congrArg At (eq_spec_enLess _ _ _ _ _ _ _)).mp ⟨vc_spec_enLess _ _ _ _ _ _ hp⟩⟩
  · cases h
def TJ1_16 : Tab := TJ1_15.add 95 F_spec_enLess
theorem TJ1_16_ok : TJ1_16.Ok Try.prog := TJ1_15_ok.add ok_spec_enLess
theorem eq_cmp_Compare_int (a : Int) (b : Int) (K : V → Prop) : VC_cmp_Compare_int a b K = vbody Try.prog (vin Try.prog TJ1_16 annTJ1 3) TJ1_16.looks (annTJ1 99) 99 [.int .i64 a, .int .i64 b] [] (fun v _ => K v) := by kernel_rfl
theorem ok_cmp_Compare_int : OK Try.prog 99 F_cmp_Compare_int.spec := (vbody_ok (vin_ok TJ1_16_ok annTJ1 3) TJ1_16_ok.looks _ _).ofF fun args m p R h hp => by
  unfold F_cmp_Compare_int at h
  split at h
  · injection h with h; injection h with h1 h2; subst h1; subst h2
    exact ⟨rfl, (congrArg At (eq_cmp_Compare_int _ _ _)).mp ⟨vc_cmp_Compare_int _ _ hp⟩⟩
  · cases h
def TJ1_17 : Tab := TJ1_16.add 99 F_cmp_Compare_int
theorem TJ1_17_ok : TJ1_17.Ok Try.prog := TJ1_16_ok.add ok_cmp_Compare_int
theorem eq_cmp_Or_int  (n : Nat) (a : List Int) (K : V → List Blk → Prop) : VC_cmp_Or_int  n a K = vbody Try.prog (vin Try.prog TJ1_17 annTJ1 3) TJ1_17.looks (annTJ1 98) 98 [.row 0 n] [⟨.ints .i64 a, 3, .row⟩] (K) := by kernel_rfl
theorem ok_cmp_Or_int : OK Try.prog 98 F_cmp_Or_int.spec := (vbody_ok (vin_ok TJ1_17_ok annTJ1 3) TJ1_17_ok.looks _ _).ofFM fun args m p R h hp => by
  unfold F_cmp_Or_int at h
  split at h
  · injection h with h; injection h with h1 h2; subst h1; subst h2
    exact (congrArg At (eq_cmp_Or_int _ _ _)).mp ⟨vc_cmp_Or_int _ _ hp⟩
  · cases h
def TJ1_18 : Tab := TJ1_17.add 98 F_cmp_Or_int
theorem TJ1_18_ok : TJ1_18.Ok Try.prog := TJ1_17_ok.add ok_cmp_Or_int
theorem eq_impl_compareSpots (ax : Int) (ay : Int) (ak : Int) (bx : Int) (by_ : Int) (bk : Int) (K : V → Prop) : VC_impl_compareSpots ax ay ak bx by_ bk K = vbody Try.prog (vin Try.prog TJ1_18 annTJ1 3) TJ1_18.looks (annTJ1 62) 62 [.agg [.int .i64 ax, .int .i64 ay, .int .i64 ak], .agg [.int .i64 bx, .int .i64 by_, .int .i64 bk]] [] (fun v _ => K v) := by kernel_rfl
theorem ok_impl_compareSpots : OK Try.prog 62 F_impl_compareSpots.spec := (vbody_ok (vin_ok TJ1_18_ok annTJ1 3) TJ1_18_ok.looks _ _).ofF fun args m p R h hp => by
  unfold F_impl_compareSpots at h
  split at h
  · injection h with h; injection h with h1 h2; subst h1; subst h2
    exact ⟨rfl, (congrArg At (eq_impl_compareSpots _ _ _ _ _ _ _)).mp ⟨vc_impl_compareSpots _ _ _ _ _ _ hp⟩⟩
  · cases h
def TJ1_19 : Tab := TJ1_18.add 62 F_impl_compareSpots
theorem TJ1_19_ok : TJ1_19.Ok Try.prog := TJ1_18_ok.add ok_impl_compareSpots
theorem eq_spec_enGood  (pr : List UInt8) (n : Nat) (px : Int) (py : Int) (pd : Int) (a : List Int) (K : V → List Blk → Prop) : VC_spec_enGood  pr n px py pd a K = vbody Try.prog (vin Try.prog TJ1_19 annTJ1 3) TJ1_19.looks (annTJ1 57) 57 [.agg [.str pr, .row 0 n, .int .i64 px, .int .i64 py, .int .i64 pd]] [⟨.ints .i64 a, 67, .rows 3⟩] (K) := by kernel_rfl
theorem ok_spec_enGood : OK Try.prog 57 F_spec_enGood.spec := (vbody_ok (vin_ok TJ1_19_ok annTJ1 3) TJ1_19_ok.looks _ _).ofFM fun args m p R h hp => by
  unfold F_spec_enGood at h
  split at h
  · injection h with h; injection h with h1 h2; subst h1; subst h2
    exact (congrArg At (eq_spec_enGood _ _ _ _ _ _ _)).mp ⟨vc_spec_enGood _ _ _ _ _ _ hp⟩
  · cases h
def TJ1_20 : Tab := TJ1_19.add 57 F_spec_enGood
theorem TJ1_20_ok : TJ1_20.Ok Try.prog := TJ1_19_ok.add ok_spec_enGood
theorem eq_impl_IsPlain  (pr : List UInt8) (n : Nat) (px : Int) (py : Int) (pd : Int) (a : List Int) (K : V → List Blk → Prop) : VC_impl_IsPlain  pr n px py pd a K = vbody Try.prog (vin Try.prog TJ1_20 annTJ1 4) TJ1_20.looks (annTJ1 24) 24 [.agg [.str pr, .row 0 n, .int .i64 px, .int .i64 py, .int .i64 pd]] [⟨.ints .i64 a, 67, .rows 3⟩] (K) := by kernel_rfl
theorem ok_impl_IsPlain : OK Try.prog 24 F_impl_IsPlain.spec := (vbody_ok (vin_ok TJ1_20_ok annTJ1 4) TJ1_20_ok.looks _ _).ofFM fun args m p R h hp => by
  unfold F_impl_IsPlain at h
  split at h
  · injection h with h; injection h with h1 h2; subst h1; subst h2
    exact (congrArg At (eq_impl_IsPlain _ _ _ _ _ _ _)).mp ⟨vc_impl_IsPlain _ _ _ _ _ _ hp⟩
  · cases h
def TJ1_21 : Tab := TJ1_20.add 24 F_impl_IsPlain
theorem TJ1_21_ok : TJ1_21.Ok Try.prog := TJ1_20_ok.add ok_impl_IsPlain
theorem eq_spec_IsPlain  (pr : List UInt8) (n : Nat) (px : Int) (py : Int) (pd : Int) (a : List Int) (K : V → List Blk → Prop) : VC_spec_IsPlain  pr n px py pd a K = vbody Try.prog (vin Try.prog TJ1_21 annTJ1 3) TJ1_21.looks (annTJ1 22) 22 [.agg [.str pr, .row 0 n, .int .i64 px, .int .i64 py, .int .i64 pd]] [⟨.ints .i64 a, 67, .rows 3⟩] (K) := by kernel_rfl
theorem ok_spec_IsPlain : OK Try.prog 22 F_spec_IsPlain.spec := (vbody_ok (vin_ok TJ1_21_ok annTJ1 3) TJ1_21_ok.looks _ _).ofFM fun args m p R h hp => by
  unfold F_spec_IsPlain at h
  split at h
  · injection h with h; injection h with h1 h2; subst h1; subst h2
    exact (congrArg At (eq_spec_IsPlain _ _ _ _ _ _ _)).mp ⟨vc_spec_IsPlain _ _ _ _ _ _ hp⟩
  · cases h
def TJ1_22 : Tab := TJ1_21.add 22 F_spec_IsPlain
theorem TJ1_22_ok : TJ1_22.Ok Try.prog := TJ1_21_ok.add ok_spec_IsPlain
theorem eq_spec_l1Least (a : Int) (b : Int) (K : V → Prop) : VC_spec_l1Least a b K = vbody Try.prog (vin Try.prog TJ1_22 annTJ1 3) TJ1_22.looks (annTJ1 101) 101 [.int .i64 a, .int .i64 b] [] (fun v _ => K v) := by kernel_rfl
theorem ok_spec_l1Least : OK Try.prog 101 F_spec_l1Least.spec := (vbody_ok (vin_ok TJ1_22_ok annTJ1 3) TJ1_22_ok.looks _ _).ofF fun args m p R h hp => by
  unfold F_spec_l1Least at h
  split at h
  · injection h with h; injection h with h1 h2; subst h1; subst h2
    exact ⟨rfl, (congrArg At (eq_spec_l1Least _ _ _)).mp ⟨vc_spec_l1Least _ _ hp⟩⟩
  · cases h
def TJ1_23 : Tab := TJ1_22.add 101 F_spec_l1Least
theorem TJ1_23_ok : TJ1_23.Ok Try.prog := TJ1_22_ok.add ok_spec_l1Least
theorem eq_spec_l1Most (a : Int) (b : Int) (K : V → Prop) : VC_spec_l1Most a b K = vbody Try.prog (vin Try.prog TJ1_23 annTJ1 3) TJ1_23.looks (annTJ1 102) 102 [.int .i64 a, .int .i64 b] [] (fun v _ => K v) := by kernel_rfl
theorem ok_spec_l1Most : OK Try.prog 102 F_spec_l1Most.spec := (vbody_ok (vin_ok TJ1_23_ok annTJ1 3) TJ1_23_ok.looks _ _).ofF fun args m p R h hp => by
  unfold F_spec_l1Most at h
  split at h
  · injection h with h; injection h with h1 h2; subst h1; subst h2
    exact ⟨rfl, (congrArg At (eq_spec_l1Most _ _ _)).mp ⟨vc_spec_l1Most _ _ hp⟩⟩
  · cases h
def TJ1_24 : Tab := TJ1_23.add 102 F_spec_l1Most
theorem TJ1_24_ok : TJ1_24.Ok Try.prog := TJ1_23_ok.add ok_spec_l1Most
theorem eq_spec_enBox  (pr : List UInt8) (n : Nat) (px : Int) (py : Int) (pd : Int) (a : List Int) (K : V → List Blk → Prop) : VC_spec_enBox  pr n px py pd a K = vbody Try.prog (vin Try.prog TJ1_24 annTJ1 3) TJ1_24.looks (annTJ1 64) 64 [.agg [.str pr, .row 0 n, .int .i64 px, .int .i64 py, .int .i64 pd]] [⟨.ints .i64 a, 67, .rows 3⟩] (K) := by kernel_rfl
theorem ok_spec_enBox : OK Try.prog 64 F_spec_enBox.spec := (vbody_ok (vin_ok TJ1_24_ok annTJ1 3) TJ1_24_ok.looks _ _).ofG fun args m p R M h hp => by
  unfold F_spec_enBox at h
  split at h
  · injection h with h; injection h with h1 h2; injection h2 with h2 h3; subst h1; subst h2; subst h3
    exact (congrArg At (eq_spec_enBox _ _ _ _ _ _ _)).mp ⟨vc_spec_enBox _ _ _ _ _ _ hp⟩
  · cases h
def TJ1_25 : Tab := TJ1_24.addG 64 F_spec_enBox
theorem TJ1_25_ok : TJ1_25.Ok Try.prog := TJ1_24_ok.addG ok_spec_enBox
theorem eq_spec_BoxOfPlain  (pr : List UInt8) (n : Nat) (px : Int) (py : Int) (pd : Int) (a : List Int) (K : V → List Blk → Prop) : VC_spec_BoxOfPlain  pr n px py pd a K = vbody Try.prog (vin Try.prog TJ1_25 annTJ1 3) TJ1_25.looks (annTJ1 26) 26 [.agg [.str pr, .row 0 n, .int .i64 px, .int .i64 py, .int .i64 pd]] [⟨.ints .i64 a, 67, .rows 3⟩] (K) := by kernel_rfl
theorem ok_spec_BoxOfPlain : OK Try.prog 26 F_spec_BoxOfPlain.spec := (vbody_ok (vin_ok TJ1_25_ok annTJ1 3) TJ1_25_ok.looks _ _).ofG fun args m p R M h hp => by
  unfold F_spec_BoxOfPlain at h
  split at h
  · injection h with h; injection h with h1 h2; injection h2 with h2 h3; subst h1; subst h2; subst h3
    exact (congrArg At (eq_spec_BoxOfPlain _ _ _ _ _ _ _)).mp ⟨vc_spec_BoxOfPlain _ _ _ _ _ _ hp⟩
  · cases h
def TJ1_26 : Tab := TJ1_25.addG 26 F_spec_BoxOfPlain
theorem TJ1_26_ok : TJ1_26.Ok Try.prog := TJ1_25_ok.addG ok_spec_BoxOfPlain
theorem eq_impl_BoxOfPlain  (pr : List UInt8) (n : Nat) (px : Int) (py : Int) (pd : Int) (a : List Int) (K : V → List Blk → Prop) : VC_impl_BoxOfPlain  pr n px py pd a K = vbody Try.prog (vin Try.prog TJ1_26 annTJ1 3) TJ1_26.looks (annTJ1 27) 27 [.agg [.str pr, .row 0 n, .int .i64 px, .int .i64 py, .int .i64 pd]] [⟨.ints .i64 a, 67, .rows 3⟩] (K) := by kernel_rfl
theorem ok_impl_BoxOfPlain : OK Try.prog 27 F_impl_BoxOfPlain.spec := (vbody_ok (vin_ok TJ1_26_ok annTJ1 3) TJ1_26_ok.looks _ _).ofG fun args m p R M h hp => by
  unfold F_impl_BoxOfPlain at h
  split at h
  · injection h with h; injection h with h1 h2; injection h2 with h2 h3; subst h1; subst h2; subst h3
    exact (congrArg At (eq_impl_BoxOfPlain _ _ _ _ _ _ _)).mp ⟨vc_impl_BoxOfPlain _ _ _ _ _ _ hp⟩
  · cases h
def TJ1_27 : Tab := TJ1_26.addG 27 F_impl_BoxOfPlain
theorem TJ1_27_ok : TJ1_27.Ok Try.prog := TJ1_26_ok.addG ok_impl_BoxOfPlain
theorem eq_laws_eqIntS  (n : Nat) (m : Nat) (a : List Int) (b : List Int) (K : V → List Blk → Prop) : VC_laws_eqIntS  n m a b K = vbody Try.prog (vin Try.prog TJ1_27 annTJ1 3) TJ1_27.looks (annTJ1 28) 28 [.row 0 n, .row 1 m] [⟨.ints .i64 a, 3, .row⟩, ⟨.ints .i64 b, 3, .row⟩] (K) := by kernel_rfl
theorem ok_laws_eqIntS : OK Try.prog 28 F_laws_eqIntS.spec := (vbody_ok (vin_ok TJ1_27_ok annTJ1 3) TJ1_27_ok.looks _ _).ofFM fun args m p R h hp => by
  unfold F_laws_eqIntS at h
  split at h
  · injection h with h; injection h with h1 h2; subst h1; subst h2
    exact (congrArg At (eq_laws_eqIntS _ _ _ _ _)).mp ⟨vc_laws_eqIntS _ _ _ _ hp⟩
  · cases h
def TJ1_28 : Tab := TJ1_27.add 28 F_laws_eqIntS
theorem TJ1_28_ok : TJ1_28.Ok Try.prog := TJ1_27_ok.add ok_laws_eqIntS
theorem eq_laws_markIntS (k : Int) (n : Nat) (a : List Int) (K : V → List Blk → Prop) : VC_laws_markIntS k n a K = vbody Try.prog (vin Try.prog TJ1_28 annTJ1 3) TJ1_28.looks (annTJ1 30) 30 [.row 0 n, .int .i64 k] [⟨.ints .i64 a, 3, .row⟩] (K) := by kernel_rfl
theorem ok_laws_markIntS : OK Try.prog 30 F_laws_markIntS.spec := (vbody_ok (vin_ok TJ1_28_ok annTJ1 3) TJ1_28_ok.looks _ _).ofG fun args m p R M h hp => by
  unfold F_laws_markIntS at h
  split at h
  · injection h with h; injection h with h1 h2; injection h2 with h2 h3; subst h1; subst h2; subst h3
    exact (congrArg At (eq_laws_markIntS _ _ _ _)).mp ⟨vc_laws_markIntS _ _ _ hp⟩
  · cases h
def TJ1_29 : Tab := TJ1_28.addG 30 F_laws_markIntS
theorem TJ1_29_ok : TJ1_29.Ok Try.prog := TJ1_28_ok.addG ok_laws_markIntS
theorem eq_laws_heldIntS (k : Int) (n : Nat) (a : List Int) (K : V → List Blk → Prop) : VC_laws_heldIntS k n a K = vbody Try.prog (vin Try.prog TJ1_29 annTJ1 3) TJ1_29.looks (annTJ1 31) 31 [.row 0 n, .int .i64 k] [⟨.ints .i64 a, 3, .row⟩] (K) := by kernel_rfl
theorem ok_laws_heldIntS : OK Try.prog 31 F_laws_heldIntS.spec := (vbody_ok (vin_ok TJ1_29_ok annTJ1 3) TJ1_29_ok.looks _ _).ofFM fun args m p R h hp => by
  unfold F_laws_heldIntS at h
  split at h
  · injection h with h; injection h with h1 h2; subst h1; subst h2
    exact (congrArg At (eq_laws_heldIntS _ _ _ _)).mp ⟨vc_laws_heldIntS _ _ _ hp⟩
  · cases h
def TJ1_30 : Tab := TJ1_29.add 31 F_laws_heldIntS
theorem TJ1_30_ok : TJ1_30.Ok Try.prog := TJ1_29_ok.add ok_laws_heldIntS
def TJ1 : Tab := TJ1_30
theorem TJ1_ok : TJ1.Ok Try.prog := TJ1_30_ok
end Go.Proofs.Ytlechboepjmmhaa
