/- The contracts of this chapter. -/
import Derived.Test.YtpkokghbkamelaaProg
import Derived.Test.YtpkokghbkamelaaK1Pf
import Derived.KernelRfl
namespace Go.Proofs.Ytpkokghbkamelaa
open Go Go.Vi
set_option linter.unusedVariables false
def annTK1 : FuncId -> Nat -> St -> Option Ann := fun f => if f = 39 then ann_spec_woRule else if f = 34 then ann_impl_IsRule else if f = 21 then ann_laws_eqSpotS else if f = 29 then ann_laws_markSpotS else if f = 30 then ann_laws_heldSpotS else if f = 17 then ann_laws_toSpotS else if f = 43 then ann_cmp_Or_int else if f = 24 then ann_spec_enGood else if f = 18 then ann_impl_IsPlain else if f = 20 then ann_impl_endlessOf else if f = 32 then ann_spec_enAt else (fun _ _ => none)
def TK1_0 : Tab := Tab.none
theorem TK1_0_ok : TK1_0.Ok Try.prog := Tab.none_ok
theorem eq_spec_l1In (n : Int) (lo : Int) (hi : Int) (K : V -> Prop) : VC_spec_l1In n lo hi K = vbody Try.prog (vin Try.prog TK1_0 annTK1 3) TK1_0.looks (annTK1 22) 22 [.int .i64 n, .int .i64 lo, .int .i64 hi] [] (fun v _ => K v) := by kernel_rfl
theorem ok_spec_l1In : OK Try.prog 22 F_spec_l1In.spec := (vbody_ok (vin_ok TK1_0_ok annTK1 3) TK1_0_ok.looks _ _).ofF fun args m p R h hp => by
 unfold F_spec_l1In at h
 split at h
 ·injection h with h; injection h with h1 h2; subst h1; subst h2
  exact ⟨rfl, (congrArg At (eq_spec_l1In _ _ _ _)).mp ⟨vc_spec_l1In _ _ _ hp⟩⟩
 ·cases h
def TK1_1 : Tab := TK1_0.add 22 F_spec_l1In
theorem TK1_1_ok : TK1_1.Ok Try.prog := TK1_0_ok.add ok_spec_l1In
theorem eq_impl_within (n : Int) (lo : Int) (hi : Int) (K : V -> Prop) : VC_impl_within n lo hi K = vbody Try.prog (vin Try.prog TK1_1 annTK1 3) TK1_1.looks (annTK1 25) 25 [.int .i64 n, .int .i64 lo, .int .i64 hi] [] (fun v _ => K v) := by kernel_rfl
theorem ok_impl_within : OK Try.prog 25 F_impl_within.spec := (vbody_ok (vin_ok TK1_1_ok annTK1 3) TK1_1_ok.looks _ _).ofF fun args m p R h hp => by
 unfold F_impl_within at h
 split at h
 ·injection h with h; injection h with h1 h2; subst h1; subst h2
  exact ⟨rfl, (congrArg At (eq_impl_within _ _ _ _)).mp ⟨vc_impl_within _ _ _ hp⟩⟩
 ·cases h
def TK1_2 : Tab := TK1_1.add 25 F_impl_within
theorem TK1_2_ok : TK1_2.Ok Try.prog := TK1_1_ok.add ok_impl_within
theorem eq_spec_woRule (s : List UInt8) (K : V -> Prop) : VC_spec_woRule s K = vbody Try.prog (vin Try.prog TK1_2 annTK1 3) TK1_2.looks (annTK1 39) 39 [.str s] [] (fun v _ => K v) := by kernel_rfl
theorem ok_spec_woRule : OK Try.prog 39 F_spec_woRule.spec := (vbody_ok (vin_ok TK1_2_ok annTK1 3) TK1_2_ok.looks _ _).ofF fun args m p R h hp => by
 unfold F_spec_woRule at h
 split at h
 ·injection h with h; injection h with h1 h2; subst h1; subst h2
  exact ⟨rfl, (congrArg At (eq_spec_woRule _ _)).mp ⟨vc_spec_woRule _ hp⟩⟩
 ·cases h
def TK1_3 : Tab := TK1_2.add 39 F_spec_woRule
theorem TK1_3_ok : TK1_3.Ok Try.prog := TK1_2_ok.add ok_spec_woRule
theorem eq_impl_IsRule (s : List UInt8) (K : V -> Prop) : VC_impl_IsRule s K = vbody Try.prog (vin Try.prog TK1_3 annTK1 3) TK1_3.looks (annTK1 34) 34 [.str s] [] (fun v _ => K v) := by kernel_rfl
theorem ok_impl_IsRule : OK Try.prog 34 F_impl_IsRule.spec := (vbody_ok (vin_ok TK1_3_ok annTK1 3) TK1_3_ok.looks _ _).ofF fun args m p R h hp => by
 unfold F_impl_IsRule at h
 split at h
 ·injection h with h; injection h with h1 h2; subst h1; subst h2
  exact ⟨rfl, (congrArg At (eq_impl_IsRule _ _)).mp ⟨vc_impl_IsRule _ hp⟩⟩
 ·cases h
def TK1_4 : Tab := TK1_3.add 34 F_impl_IsRule
theorem TK1_4_ok : TK1_4.Ok Try.prog := TK1_3_ok.add ok_impl_IsRule
theorem eq_laws_eqSpot (ax : Int) (ay : Int) (ak : Int) (bx : Int) (by_ : Int) (bk : Int) (K : V -> Prop) : VC_laws_eqSpot ax ay ak bx by_ bk K = vbody Try.prog (vin Try.prog TK1_4 annTK1 3) TK1_4.looks (annTK1 38) 38 [.agg [.int .i64 ax, .int .i64 ay, .int .i64 ak], .agg [.int .i64 bx, .int .i64 by_, .int .i64 bk]] [] (fun v _ => K v) := by kernel_rfl
theorem ok_laws_eqSpot : OK Try.prog 38 F_laws_eqSpot.spec := (vbody_ok (vin_ok TK1_4_ok annTK1 3) TK1_4_ok.looks _ _).ofF fun args m p R h hp => by
 unfold F_laws_eqSpot at h
 split at h
 ·injection h with h; injection h with h1 h2; subst h1; subst h2
  exact ⟨rfl, (congrArg At (eq_laws_eqSpot _ _ _ _ _ _ _)).mp ⟨vc_laws_eqSpot _ _ _ _ _ _ hp⟩⟩
 ·cases h
def TK1_5 : Tab := TK1_4.add 38 F_laws_eqSpot
theorem TK1_5_ok : TK1_5.Ok Try.prog := TK1_4_ok.add ok_laws_eqSpot
theorem eq_laws_eqSpotS  (n : Nat) (m : Nat) (a : List Int) (b : List Int) (K : V -> List Blk -> Prop) : VC_laws_eqSpotS  n m a b K = vbody Try.prog (vin Try.prog TK1_5 annTK1 3) TK1_5.looks (annTK1 21) 21 [.row 0 n, .row 1 m] [⟨.ints .i64 a, 63, .rows 3⟩, ⟨.ints .i64 b, 63, .rows 3⟩] (K) := by kernel_rfl
theorem ok_laws_eqSpotS : OK Try.prog 21 F_laws_eqSpotS.spec := (vbody_ok (vin_ok TK1_5_ok annTK1 3) TK1_5_ok.looks _ _).ofFM fun args m p R h hp => by
 unfold F_laws_eqSpotS at h
 split at h
 ·injection h with h; injection h with h1 h2; subst h1; subst h2
  exact (congrArg At (eq_laws_eqSpotS _ _ _ _ _)).mp ⟨vc_laws_eqSpotS _ _ _ _ hp⟩
 ·cases h
def TK1_6 : Tab := TK1_5.add 21 F_laws_eqSpotS
theorem TK1_6_ok : TK1_6.Ok Try.prog := TK1_5_ok.add ok_laws_eqSpotS
theorem eq_laws_eqPlain  (ar : List UInt8) (an : Nat) (ax : Int) (ay : Int) (ad : Int) (cr : List UInt8) (cn : Nat) (cx : Int) (cy : Int) (cd : Int) (a : List Int) (b : List Int) (K : V -> List Blk -> Prop) : VC_laws_eqPlain  ar an ax ay ad cr cn cx cy cd a b K = vbody Try.prog (vin Try.prog TK1_6 annTK1 3) TK1_6.looks (annTK1 9) 9 [.agg [.str ar, .row 0 an, .int .i64 ax, .int .i64 ay, .int .i64 ad], .agg [.str cr, .row 1 cn, .int .i64 cx, .int .i64 cy, .int .i64 cd]] [⟨.ints .i64 a, 63, .rows 3⟩, ⟨.ints .i64 b, 63, .rows 3⟩] (K) := by kernel_rfl
theorem ok_laws_eqPlain : OK Try.prog 9 F_laws_eqPlain.spec := (vbody_ok (vin_ok TK1_6_ok annTK1 3) TK1_6_ok.looks _ _).ofFM fun args m p R h hp => by
 unfold F_laws_eqPlain at h
 split at h
 ·injection h with h; injection h with h1 h2; subst h1; subst h2
  exact (congrArg At (eq_laws_eqPlain _ _ _ _ _ _ _ _ _ _ _ _ _)).mp ⟨vc_laws_eqPlain _ _ _ _ _ _ _ _ _ _ _ _ hp⟩
 ·cases h
def TK1_7 : Tab := TK1_6.add 9 F_laws_eqPlain
theorem TK1_7_ok : TK1_7.Ok Try.prog := TK1_6_ok.add ok_laws_eqPlain
theorem eq_laws_markSpotS (k : Int) (n : Nat) (a : List Int) (K : V -> List Blk -> Prop) : VC_laws_markSpotS k n a K = vbody Try.prog (vin Try.prog TK1_7 annTK1 3) TK1_7.looks (annTK1 29) 29 [.row 0 n, .int .i64 k] [⟨.ints .i64 a, 63, .rows 3⟩] (K) := by kernel_rfl
theorem ok_laws_markSpotS : OK Try.prog 29 F_laws_markSpotS.spec := (vbody_ok (vin_ok TK1_7_ok annTK1 3) TK1_7_ok.looks _ _).ofG fun args m p R M h hp => by
 unfold F_laws_markSpotS at h
 split at h
 ·injection h with h; injection h with h1 h2; injection h2 with h2 h3; subst h1; subst h2; subst h3
  exact (congrArg At (eq_laws_markSpotS _ _ _ _)).mp ⟨vc_laws_markSpotS _ _ _ hp⟩
 ·cases h
def TK1_8 : Tab := TK1_7.addG 29 F_laws_markSpotS
theorem TK1_8_ok : TK1_8.Ok Try.prog := TK1_7_ok.addG ok_laws_markSpotS
theorem eq_laws_heldSpotS (k : Int) (n : Nat) (a : List Int) (K : V -> List Blk -> Prop) : VC_laws_heldSpotS k n a K = vbody Try.prog (vin Try.prog TK1_8 annTK1 3) TK1_8.looks (annTK1 30) 30 [.row 0 n, .int .i64 k] [⟨.ints .i64 a, 63, .rows 3⟩] (K) := by kernel_rfl
theorem ok_laws_heldSpotS : OK Try.prog 30 F_laws_heldSpotS.spec := (vbody_ok (vin_ok TK1_8_ok annTK1 3) TK1_8_ok.looks _ _).ofFM fun args m p R h hp => by
 unfold F_laws_heldSpotS at h
 split at h
 ·injection h with h; injection h with h1 h2; subst h1; subst h2
  exact (congrArg At (eq_laws_heldSpotS _ _ _ _)).mp ⟨vc_laws_heldSpotS _ _ _ hp⟩
 ·cases h
def TK1_9 : Tab := TK1_8.add 30 F_laws_heldSpotS
theorem TK1_9_ok : TK1_9.Ok Try.prog := TK1_8_ok.add ok_laws_heldSpotS
theorem eq_laws_szSpotS (left : Int) (n : Nat) (a : List Int) (K : V -> List Blk -> Prop) : VC_laws_szSpotS left n a K = vbody Try.prog (vin Try.prog TK1_9 annTK1 3) TK1_9.looks (annTK1 14) 14 [.row 0 n, .int .i64 left] [⟨.ints .i64 a, 65, .arg 3⟩] (K) := by kernel_rfl
theorem ok_laws_szSpotS : OK Try.prog 14 F_laws_szSpotS.spec := (vbody_ok (vin_ok TK1_9_ok annTK1 3) TK1_9_ok.looks _ _).ofFM fun args m p R h hp => by
 unfold F_laws_szSpotS at h
 split at h
 ·injection h with h; injection h with h1 h2; subst h1; subst h2
  exact (congrArg At (eq_laws_szSpotS _ _ _ _)).mp ⟨vc_laws_szSpotS _ _ _ hp⟩
 ·cases h
def TK1_10 : Tab := TK1_9.add 14 F_laws_szSpotS
theorem TK1_10_ok : TK1_10.Ok Try.prog := TK1_9_ok.add ok_laws_szSpotS
theorem eq_laws_szPlain (left : Int) (pr : List UInt8) (n : Nat) (px : Int) (py : Int) (pd : Int) (a : List Int) (K : V -> List Blk -> Prop) : VC_laws_szPlain left pr n px py pd a K = vbody Try.prog (vin Try.prog TK1_10 annTK1 3) TK1_10.looks (annTK1 5) 5 [.agg [.str pr, .row 0 n, .int .i64 px, .int .i64 py, .int .i64 pd], .int .i64 left] [⟨.ints .i64 a, 65, .arg 3⟩] (K) := by kernel_rfl
theorem ok_laws_szPlain : OK Try.prog 5 F_laws_szPlain.spec := (vbody_ok (vin_ok TK1_10_ok annTK1 3) TK1_10_ok.looks _ _).ofFM fun args m p R h hp => by
 unfold F_laws_szPlain at h
 split at h
 ·injection h with h; injection h with h1 h2; subst h1; subst h2
  exact (congrArg At (eq_laws_szPlain _ _ _ _ _ _ _ _)).mp ⟨vc_laws_szPlain _ _ _ _ _ _ _ hp⟩
 ·cases h
def TK1_11 : Tab := TK1_10.add 5 F_laws_szPlain
theorem TK1_11_ok : TK1_11.Ok Try.prog := TK1_10_ok.add ok_laws_szPlain
theorem eq_laws_toSpot (ax : Int) (ay : Int) (ak : Int) (K : V -> Prop) : VC_laws_toSpot ax ay ak K = vbody Try.prog (vin Try.prog TK1_11 annTK1 3) TK1_11.looks (annTK1 33) 33 [.agg [.int .i64 ax, .int .i64 ay, .int .i64 ak]] [] (fun v _ => K v) := by kernel_rfl
theorem ok_laws_toSpot : OK Try.prog 33 F_laws_toSpot.spec := (vbody_ok (vin_ok TK1_11_ok annTK1 3) TK1_11_ok.looks _ _).ofF fun args m p R h hp => by
 unfold F_laws_toSpot at h
 split at h
 ·injection h with h; injection h with h1 h2; subst h1; subst h2
  exact ⟨rfl, (congrArg At (eq_laws_toSpot _ _ _ _)).mp ⟨vc_laws_toSpot _ _ _ hp⟩⟩
 ·cases h
def TK1_12 : Tab := TK1_11.add 33 F_laws_toSpot
theorem TK1_12_ok : TK1_12.Ok Try.prog := TK1_11_ok.add ok_laws_toSpot
theorem eq_laws_toSpotS  (n : Nat) (a : List Int) (K : V -> List Blk -> Prop) : VC_laws_toSpotS  n a K = vbody Try.prog (vin Try.prog TK1_12 annTK1 3) TK1_12.looks (annTK1 17) 17 [.row 0 n] [⟨.ints .i64 a, 65, .arg 3⟩] (K) := by kernel_rfl
theorem ok_laws_toSpotS : OK Try.prog 17 F_laws_toSpotS.spec := (vbody_ok (vin_ok TK1_12_ok annTK1 3) TK1_12_ok.looks _ _).ofG fun args m p R M h hp => by
 unfold F_laws_toSpotS at h
 split at h
 ·injection h with h; injection h with h1 h2; injection h2 with h2 h3; subst h1; subst h2; subst h3
  exact (congrArg At (eq_laws_toSpotS _ _ _)).mp ⟨vc_laws_toSpotS _ _ hp⟩
 ·cases h
def TK1_13 : Tab := TK1_12.addG 17 F_laws_toSpotS
theorem TK1_13_ok : TK1_13.Ok Try.prog := TK1_12_ok.addG ok_laws_toSpotS
theorem eq_laws_toPlain  (pr : List UInt8) (n : Nat) (px : Int) (py : Int) (pd : Int) (a : List Int) (K : V -> List Blk -> Prop) : VC_laws_toPlain  pr n px py pd a K = vbody Try.prog (vin Try.prog TK1_13 annTK1 3) TK1_13.looks (annTK1 7) 7 [.agg [.str pr, .row 0 n, .int .i64 px, .int .i64 py, .int .i64 pd]] [⟨.ints .i64 a, 65, .arg 3⟩] (K) := by kernel_rfl
theorem ok_laws_toPlain : OK Try.prog 7 F_laws_toPlain.spec := (vbody_ok (vin_ok TK1_13_ok annTK1 3) TK1_13_ok.looks _ _).ofG fun args m p R M h hp => by
 unfold F_laws_toPlain at h
 split at h
 ·injection h with h; injection h with h1 h2; injection h2 with h2 h3; subst h1; subst h2; subst h3
  exact (congrArg At (eq_laws_toPlain _ _ _ _ _ _ _)).mp ⟨vc_laws_toPlain _ _ _ _ _ _ hp⟩
 ·cases h
def TK1_14 : Tab := TK1_13.addG 7 F_laws_toPlain
theorem TK1_14_ok : TK1_14.Ok Try.prog := TK1_13_ok.addG ok_laws_toPlain
theorem eq_spec_enFar (n : Int) (K : V -> Prop) : VC_spec_enFar n K = vbody Try.prog (vin Try.prog TK1_14 annTK1 3) TK1_14.looks (annTK1 31) 31 [.int .i64 n] [] (fun v _ => K v) := by kernel_rfl
theorem ok_spec_enFar : OK Try.prog 31 F_spec_enFar.spec := (vbody_ok (vin_ok TK1_14_ok annTK1 3) TK1_14_ok.looks _ _).ofF fun args m p R h hp => by
 unfold F_spec_enFar at h
 split at h
 ·injection h with h; injection h with h1 h2; subst h1; subst h2
  exact ⟨rfl, (congrArg At (eq_spec_enFar _ _)).mp ⟨vc_spec_enFar _ hp⟩⟩
 ·cases h
def TK1_15 : Tab := TK1_14.add 31 F_spec_enFar
theorem TK1_15_ok : TK1_15.Ok Try.prog := TK1_14_ok.add ok_spec_enFar
theorem eq_spec_enLess (ax : Int) (ay : Int) (ak : Int) (bx : Int) (by_ : Int) (bk : Int) (K : V -> Prop) : VC_spec_enLess ax ay ak bx by_ bk K = vbody Try.prog (vin Try.prog TK1_15 annTK1 3) TK1_15.looks (annTK1 40) 40 [.agg [.int .i64 ax, .int .i64 ay, .int .i64 ak], .agg [.int .i64 bx, .int .i64 by_, .int .i64 bk]] [] (fun v _ => K v) := by kernel_rfl
theorem ok_spec_enLess : OK Try.prog 40 F_spec_enLess.spec := (vbody_ok (vin_ok TK1_15_ok annTK1 3) TK1_15_ok.looks _ _).ofF fun args m p R h hp => by
 unfold F_spec_enLess at h
 split at h
 ·injection h with h; injection h with h1 h2; subst h1; subst h2
  exact ⟨rfl, (congrArg At (eq_spec_enLess _ _ _ _ _ _ _)).mp ⟨vc_spec_enLess _ _ _ _ _ _ hp⟩⟩
 ·cases h
def TK1_16 : Tab := TK1_15.add 40 F_spec_enLess
theorem TK1_16_ok : TK1_16.Ok Try.prog := TK1_15_ok.add ok_spec_enLess
theorem eq_cmp_Compare_int (a : Int) (b : Int) (K : V -> Prop) : VC_cmp_Compare_int a b K = vbody Try.prog (vin Try.prog TK1_16 annTK1 3) TK1_16.looks (annTK1 44) 44 [.int .i64 a, .int .i64 b] [] (fun v _ => K v) := by kernel_rfl
theorem ok_cmp_Compare_int : OK Try.prog 44 F_cmp_Compare_int.spec := (vbody_ok (vin_ok TK1_16_ok annTK1 3) TK1_16_ok.looks _ _).ofF fun args m p R h hp => by
 unfold F_cmp_Compare_int at h
 split at h
 ·injection h with h; injection h with h1 h2; subst h1; subst h2
  exact ⟨rfl, (congrArg At (eq_cmp_Compare_int _ _ _)).mp ⟨vc_cmp_Compare_int _ _ hp⟩⟩
 ·cases h
def TK1_17 : Tab := TK1_16.add 44 F_cmp_Compare_int
theorem TK1_17_ok : TK1_17.Ok Try.prog := TK1_16_ok.add ok_cmp_Compare_int
theorem eq_cmp_Or_int  (n : Nat) (a : List Int) (K : V -> List Blk -> Prop) : VC_cmp_Or_int  n a K = vbody Try.prog (vin Try.prog TK1_17 annTK1 3) TK1_17.looks (annTK1 43) 43 [.row 0 n] [⟨.ints .i64 a, 3, .row⟩] (K) := by kernel_rfl
theorem ok_cmp_Or_int : OK Try.prog 43 F_cmp_Or_int.spec := (vbody_ok (vin_ok TK1_17_ok annTK1 3) TK1_17_ok.looks _ _).ofFM fun args m p R h hp => by
 unfold F_cmp_Or_int at h
 split at h
 ·injection h with h; injection h with h1 h2; subst h1; subst h2
  exact (congrArg At (eq_cmp_Or_int _ _ _)).mp ⟨vc_cmp_Or_int _ _ hp⟩
 ·cases h
def TK1_18 : Tab := TK1_17.add 43 F_cmp_Or_int
theorem TK1_18_ok : TK1_18.Ok Try.prog := TK1_17_ok.add ok_cmp_Or_int
theorem eq_impl_compareSpots (ax : Int) (ay : Int) (ak : Int) (bx : Int) (by_ : Int) (bk : Int) (K : V -> Prop) : VC_impl_compareSpots ax ay ak bx by_ bk K = vbody Try.prog (vin Try.prog TK1_18 annTK1 3) TK1_18.looks (annTK1 36) 36 [.agg [.int .i64 ax, .int .i64 ay, .int .i64 ak], .agg [.int .i64 bx, .int .i64 by_, .int .i64 bk]] [] (fun v _ => K v) := by kernel_rfl
theorem ok_impl_compareSpots : OK Try.prog 36 F_impl_compareSpots.spec := (vbody_ok (vin_ok TK1_18_ok annTK1 3) TK1_18_ok.looks _ _).ofF fun args m p R h hp => by
 unfold F_impl_compareSpots at h
 split at h
 ·injection h with h; injection h with h1 h2; subst h1; subst h2
  exact ⟨rfl, (congrArg At (eq_impl_compareSpots _ _ _ _ _ _ _)).mp ⟨vc_impl_compareSpots _ _ _ _ _ _ hp⟩⟩
 ·cases h
def TK1_19 : Tab := TK1_18.add 36 F_impl_compareSpots
theorem TK1_19_ok : TK1_19.Ok Try.prog := TK1_18_ok.add ok_impl_compareSpots
theorem eq_spec_enGood  (pr : List UInt8) (n : Nat) (px : Int) (py : Int) (pd : Int) (a : List Int) (K : V -> List Blk -> Prop) : VC_spec_enGood  pr n px py pd a K = vbody Try.prog (vin Try.prog TK1_19 annTK1 3) TK1_19.looks (annTK1 24) 24 [.agg [.str pr, .row 0 n, .int .i64 px, .int .i64 py, .int .i64 pd]] [⟨.ints .i64 a, 63, .rows 3⟩] (K) := by kernel_rfl
theorem ok_spec_enGood : OK Try.prog 24 F_spec_enGood.spec := (vbody_ok (vin_ok TK1_19_ok annTK1 3) TK1_19_ok.looks _ _).ofFM fun args m p R h hp => by
 unfold F_spec_enGood at h
 split at h
 ·injection h with h; injection h with h1 h2; subst h1; subst h2
  exact (congrArg At (eq_spec_enGood _ _ _ _ _ _ _)).mp ⟨vc_spec_enGood _ _ _ _ _ _ hp⟩
 ·cases h
def TK1_20 : Tab := TK1_19.add 24 F_spec_enGood
theorem TK1_20_ok : TK1_20.Ok Try.prog := TK1_19_ok.add ok_spec_enGood
theorem eq_impl_IsPlain  (pr : List UInt8) (n : Nat) (px : Int) (py : Int) (pd : Int) (a : List Int) (K : V -> List Blk -> Prop) : VC_impl_IsPlain  pr n px py pd a K = vbody Try.prog (vin Try.prog TK1_20 annTK1 4) TK1_20.looks (annTK1 18) 18 [.agg [.str pr, .row 0 n, .int .i64 px, .int .i64 py, .int .i64 pd]] [⟨.ints .i64 a, 63, .rows 3⟩] (K) := by kernel_rfl
theorem ok_impl_IsPlain : OK Try.prog 18 F_impl_IsPlain.spec := (vbody_ok (vin_ok TK1_20_ok annTK1 4) TK1_20_ok.looks _ _).ofFM fun args m p R h hp => by
 unfold F_impl_IsPlain at h
 split at h
 ·injection h with h; injection h with h1 h2; subst h1; subst h2
  exact (congrArg At (eq_impl_IsPlain _ _ _ _ _ _ _)).mp ⟨vc_impl_IsPlain _ _ _ _ _ _ hp⟩
 ·cases h
def TK1_21 : Tab := TK1_20.add 18 F_impl_IsPlain
theorem TK1_21_ok : TK1_21.Ok Try.prog := TK1_20_ok.add ok_impl_IsPlain
theorem eq_impl_isNearPlace (x : Int) (y : Int) (K : V -> Prop) : VC_impl_isNearPlace x y K = vbody Try.prog (vin Try.prog TK1_21 annTK1 3) TK1_21.looks (annTK1 19) 19 [.int .i64 x, .int .i64 y] [] (fun v _ => K v) := by kernel_rfl
theorem ok_impl_isNearPlace : OK Try.prog 19 F_impl_isNearPlace.spec := (vbody_ok (vin_ok TK1_21_ok annTK1 3) TK1_21_ok.looks _ _).ofF fun args m p R h hp => by
 unfold F_impl_isNearPlace at h
 split at h
 ·injection h with h; injection h with h1 h2; subst h1; subst h2
  exact ⟨rfl, (congrArg At (eq_impl_isNearPlace _ _ _)).mp ⟨vc_impl_isNearPlace _ _ hp⟩⟩
 ·cases h
def TK1_22 : Tab := TK1_21.add 19 F_impl_isNearPlace
theorem TK1_22_ok : TK1_22.Ok Try.prog := TK1_21_ok.add ok_impl_isNearPlace
theorem eq_impl_endlessOf  (pr : List UInt8) (n : Nat) (px : Int) (py : Int) (pd : Int) (a : List Int) (K : V -> List Blk -> Prop) : VC_impl_endlessOf  pr n px py pd a K = vbody Try.prog (vin Try.prog TK1_22 annTK1 3) TK1_22.looks (annTK1 20) 20 [.agg [.str pr, .row 0 n, .int .i64 px, .int .i64 py, .int .i64 pd]] [⟨.ints .i64 a, 63, .rows 3⟩] (K) := by kernel_rfl
theorem ok_impl_endlessOf : OK Try.prog 20 F_impl_endlessOf.spec := (vbody_ok (vin_ok TK1_22_ok annTK1 3) TK1_22_ok.looks _ _).ofG fun args m p R M h hp => by
 unfold F_impl_endlessOf at h
 split at h
 ·injection h with h; injection h with h1 h2; injection h2 with h2 h3; subst h1; subst h2; subst h3
  exact (congrArg At (eq_impl_endlessOf _ _ _ _ _ _ _)).mp ⟨vc_impl_endlessOf _ _ _ _ _ _ hp⟩
 ·cases h
def TK1_23 : Tab := TK1_22.addG 20 F_impl_endlessOf
theorem TK1_23_ok : TK1_23.Ok Try.prog := TK1_22_ok.addG ok_impl_endlessOf
theorem eq_spec_enAt (x : Int) (y : Int) (n : Nat) (a : List Int) (K : V -> List Blk -> Prop) : VC_spec_enAt x y n a K = vbody Try.prog (vin Try.prog TK1_23 annTK1 3) TK1_23.looks (annTK1 32) 32 [.row 0 n, .int .i64 x, .int .i64 y] [⟨.ints .i64 a, 63, .rows 3⟩] (K) := by kernel_rfl
theorem ok_spec_enAt : OK Try.prog 32 F_spec_enAt.spec := (vbody_ok (vin_ok TK1_23_ok annTK1 3) TK1_23_ok.looks _ _).ofFM fun args m p R h hp => by
 unfold F_spec_enAt at h
 split at h
 ·injection h with h; injection h with h1 h2; subst h1; subst h2
  exact (congrArg At (eq_spec_enAt _ _ _ _ _)).mp ⟨vc_spec_enAt _ _ _ _ hp⟩
 ·cases h
def TK1_24 : Tab := TK1_23.add 32 F_spec_enAt
theorem TK1_24_ok : TK1_24.Ok Try.prog := TK1_23_ok.add ok_spec_enAt
theorem eq_spec_enColour (x : Int) (y : Int) (pr : List UInt8) (n : Nat) (px : Int) (py : Int) (pd : Int) (a : List Int) (K : V -> List Blk -> Prop) : VC_spec_enColour x y pr n px py pd a K = vbody Try.prog (vin Try.prog TK1_24 annTK1 3) TK1_24.looks (annTK1 16) 16 [.agg [.str pr, .row 0 n, .int .i64 px, .int .i64 py, .int .i64 pd], .int .i64 x, .int .i64 y] [⟨.ints .i64 a, 63, .rows 3⟩] (K) := by kernel_rfl
theorem ok_spec_enColour : OK Try.prog 16 F_spec_enColour.spec := (vbody_ok (vin_ok TK1_24_ok annTK1 3) TK1_24_ok.looks _ _).ofFM fun args m p R h hp => by
 unfold F_spec_enColour at h
 split at h
 ·injection h with h; injection h with h1 h2; subst h1; subst h2
  exact (congrArg At (eq_spec_enColour _ _ _ _ _ _ _ _ _)).mp ⟨vc_spec_enColour _ _ _ _ _ _ _ _ hp⟩
 ·cases h
def TK1_25 : Tab := TK1_24.add 16 F_spec_enColour
theorem TK1_25_ok : TK1_25.Ok Try.prog := TK1_24_ok.add ok_spec_enColour
theorem eq_spec_enCell (x : Int) (y : Int) (pr : List UInt8) (n : Nat) (px : Int) (py : Int) (pd : Int) (a : List Int) (K : V -> List Blk -> Prop) : VC_spec_enCell x y pr n px py pd a K = vbody Try.prog (vin Try.prog TK1_25 annTK1 3) TK1_25.looks (annTK1 15) 15 [.agg [.str pr, .row 0 n, .int .i64 px, .int .i64 py, .int .i64 pd], .int .i64 x, .int .i64 y] [⟨.ints .i64 a, 63, .rows 3⟩] (K) := by kernel_rfl
theorem ok_spec_enCell : OK Try.prog 15 F_spec_enCell.spec := (vbody_ok (vin_ok TK1_25_ok annTK1 3) TK1_25_ok.looks _ _).ofFM fun args m p R h hp => by
 unfold F_spec_enCell at h
 split at h
 ·injection h with h; injection h with h1 h2; subst h1; subst h2
  exact (congrArg At (eq_spec_enCell _ _ _ _ _ _ _ _ _)).mp ⟨vc_spec_enCell _ _ _ _ _ _ _ _ hp⟩
 ·cases h
def TK1_26 : Tab := TK1_25.add 15 F_spec_enCell
theorem TK1_26_ok : TK1_26.Ok Try.prog := TK1_25_ok.add ok_spec_enCell
theorem eq_spec_ColourOfSpot (x : Int) (y : Int) (pr : List UInt8) (n : Nat) (px : Int) (py : Int) (pd : Int) (a : List Int) (K : V -> List Blk -> Prop) : VC_spec_ColourOfSpot x y pr n px py pd a K = vbody Try.prog (vin Try.prog TK1_26 annTK1 3) TK1_26.looks (annTK1 6) 6 [.agg [.str pr, .row 0 n, .int .i64 px, .int .i64 py, .int .i64 pd], .int .i64 x, .int .i64 y] [⟨.ints .i64 a, 63, .rows 3⟩] (K) := by kernel_rfl
theorem ok_spec_ColourOfSpot : OK Try.prog 6 F_spec_ColourOfSpot.spec := (vbody_ok (vin_ok TK1_26_ok annTK1 3) TK1_26_ok.looks _ _).ofFM fun args m p R h hp => by
 unfold F_spec_ColourOfSpot at h
 split at h
 ·injection h with h; injection h with h1 h2; subst h1; subst h2
  exact (congrArg At (eq_spec_ColourOfSpot _ _ _ _ _ _ _ _ _)).mp ⟨vc_spec_ColourOfSpot _ _ _ _ _ _ _ _ hp⟩
 ·cases h
def TK1_27 : Tab := TK1_26.add 6 F_spec_ColourOfSpot
theorem TK1_27_ok : TK1_27.Ok Try.prog := TK1_26_ok.add ok_spec_ColourOfSpot
theorem eq_impl_ColourOfSpot (x : Int) (y : Int) (pr : List UInt8) (n : Nat) (px : Int) (py : Int) (pd : Int) (a : List Int) (K : V -> List Blk -> Prop) : VC_impl_ColourOfSpot x y pr n px py pd a K = vbody Try.prog (vin Try.prog TK1_27 annTK1 4) TK1_27.looks (annTK1 8) 8 [.agg [.str pr, .row 0 n, .int .i64 px, .int .i64 py, .int .i64 pd], .int .i64 x, .int .i64 y] [⟨.ints .i64 a, 63, .rows 3⟩] (K) := by kernel_rfl
theorem ok_impl_ColourOfSpot : OK Try.prog 8 F_impl_ColourOfSpot.spec := (vbody_ok (vin_ok TK1_27_ok annTK1 4) TK1_27_ok.looks _ _).ofFM fun args m p R h hp => by
 unfold F_impl_ColourOfSpot at h
 split at h
 ·injection h with h; injection h with h1 h2; subst h1; subst h2
  exact (congrArg At (eq_impl_ColourOfSpot _ _ _ _ _ _ _ _ _)).mp ⟨vc_impl_ColourOfSpot _ _ _ _ _ _ _ _ hp⟩
 ·cases h
def TK1_28 : Tab := TK1_27.add 8 F_impl_ColourOfSpot
theorem TK1_28_ok : TK1_28.Ok Try.prog := TK1_27_ok.add ok_impl_ColourOfSpot
def TK1 : Tab := TK1_28
theorem TK1_ok : TK1.Ok Try.prog := TK1_28_ok
end Go.Proofs.Ytpkokghbkamelaa
