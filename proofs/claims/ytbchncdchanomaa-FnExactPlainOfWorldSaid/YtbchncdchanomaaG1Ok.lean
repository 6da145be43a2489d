/- The contracts of this chapter. -/
import Derived.Test.YtbchncdchanomaaProg
import Derived.Test.YtbchncdchanomaaG1Pf
import Derived.KernelRfl
namespace Go.Proofs.Ytbchncdchanomaa
open Go Go.Vi
set_option linter.unusedVariables false
def annTG1 : FuncId → Nat → St → Option Ann := fun f => if f = 49 then ann_spec_woRule else if f = 43 then ann_impl_IsRule else if f = 53 then ann_spec_woGood else if f = 83 then ann_impl_areColours else if f = 48 then ann_laws_eqSpotS else if f = 50 then ann_laws_markSpotS else if f = 51 then ann_laws_heldSpotS else if f = 27 then ann_spec_PlainOfWorld else if f = 29 then ann_impl_PlainOfWorld else (fun _ _ => none)
def TG1_0 : Tab := Tab.none
theorem TG1_0_ok : TG1_0.Ok Try.prog := Tab.none_ok
theorem eq_spec_l1In (n : Int) (lo : Int) (hi : Int) (K : V → Prop) : VC_spec_l1In n lo hi K = vbody Try.prog (vin Try.prog TG1_0 annTG1 3) TG1_0.looks (annTG1 60) 60 [.int .i64 n, .int .i64 lo, .int .i64 hi] [] (fun v _ => K v) := by kernel_rfl
theorem ok_spec_l1In : OK Try.prog 60 F_spec_l1In.spec := (vbody_ok (vin_ok TG1_0_ok annTG1 3) TG1_0_ok.looks _ _).ofF fun args m p R h hp => by
  unfold F_spec_l1In at h
  split at h
  · injection h with h; injection h with h1 h2; subst h1; subst h2
    exact ⟨rfl, (congrArg At (eq_spec_l1In _ _ _ _)).mp ⟨vc_spec_l1In _ _ _ hp⟩⟩
  · cases h
def TG1_1 : Tab := TG1_0.add 60 F_spec_l1In
theorem TG1_1_ok : TG1_1.Ok Try.prog := TG1_0_ok.add ok_spec_l1In
theorem eq_impl_within (n : Int) (lo : Int) (hi : Int) (K : V → Prop) : VC_impl_within n lo hi K = vbody Try.prog (vin Try.prog TG1_1 annTG1 3) TG1_1.looks (annTG1 46) 46 [.int .i64 n, .int .i64 lo, .int .i64 hi] [] (fun v _ => K v) := by kernel_rfl
theorem ok_impl_within : OK Try.prog 46 F_impl_within.spec := (vbody_ok (vin_ok TG1_1_ok annTG1 3) TG1_1_ok.looks _ _).ofF fun args m p R h hp => by
  unfold F_impl_within at h
  split at h
  · injection h with h; injection h with h1 h2; subst h1; subst h2
    exact ⟨rfl, (congrArg At (eq_impl_within _ _ _ _)).mp ⟨vc_impl_within _ _ _ hp⟩⟩
  · cases h
def TG1_2 : Tab := TG1_1.add 46 F_impl_within
theorem TG1_2_ok : TG1_2.Ok Try.prog := TG1_1_ok.add ok_impl_within
theorem eq_impl_digit (b : Int) (K : V → Prop) : VC_impl_digit b K = vbody Try.prog (vin Try.prog TG1_2 annTG1 3) TG1_2.looks (annTG1 56) 56 [.int .u8 b] [] (fun v _ => K v) := by kernel_rfl
theorem ok_impl_digit : OK Try.prog 56 F_impl_digit.spec := (vbody_ok (vin_ok TG1_2_ok annTG1 3) TG1_2_ok.looks _ _).ofF fun args m p R h hp => by
  unfold F_impl_digit at h
  split at h
  · injection h with h; injection h with h1 h2; subst h1; subst h2
    exact ⟨rfl, (congrArg At (eq_impl_digit _ _)).mp ⟨vc_impl_digit _ hp⟩⟩
  · cases h
def TG1_3 : Tab := TG1_2.add 56 F_impl_digit
theorem TG1_3_ok : TG1_3.Ok Try.prog := TG1_2_ok.add ok_impl_digit
theorem eq_spec_woRule (s : List UInt8) (K : V → Prop) : VC_spec_woRule s K = vbody Try.prog (vin Try.prog TG1_3 annTG1 3) TG1_3.looks (annTG1 49) 49 [.str s] [] (fun v _ => K v) := by kernel_rfl
theorem ok_spec_woRule : OK Try.prog 49 F_spec_woRule.spec := (vbody_ok (vin_ok TG1_3_ok annTG1 3) TG1_3_ok.looks _ _).ofF fun args m p R h hp => by
  unfold F_spec_woRule at h
  split at h
  · injection h with h; injection h with h1 h2; subst h1; subst h2
    exact ⟨rfl, (congrArg At (eq_spec_woRule _ _)).mp ⟨vc_spec_woRule _ hp⟩⟩
  · cases h
def TG1_4 : Tab := TG1_3.add 49 F_spec_woRule
theorem TG1_4_ok : TG1_4.Ok Try.prog := TG1_3_ok.add ok_spec_woRule
theorem eq_impl_IsRule (s : List UInt8) (K : V → Prop) : VC_impl_IsRule s K = vbody Try.prog (vin Try.prog TG1_4 annTG1 3) TG1_4.looks (annTG1 43) 43 [.str s] [] (fun v _ => K v) := by kernel_rfl
theorem ok_impl_IsRule : OK Try.prog 43 F_impl_IsRule.spec := (vbody_ok (vin_ok TG1_4_ok annTG1 3) TG1_4_ok.looks _ _).ofF fun args m p R h hp => by
  unfold F_impl_IsRule at h
  split at h
  · injection h with h; injection h with h1 h2; subst h1; subst h2
    exact ⟨rfl, (congrArg At (eq_impl_IsRule _ _)).mp ⟨vc_impl_IsRule _ hp⟩⟩
  · cases h
def TG1_5 : Tab := TG1_4.add 43 F_impl_IsRule
theorem TG1_5_ok : TG1_5.Ok Try.prog := TG1_4_ok.add ok_impl_IsRule
theorem eq_spec_woGood (wr : List UInt8) (ww : Int) (wh : Int) (wc : List UInt8) (wx : Int) (wy : Int) (wd : Int) (K : V → Prop) : VC_spec_woGood wr ww wh wc wx wy wd K = vbody Try.prog (vin Try.prog TG1_5 annTG1 3) TG1_5.looks (annTG1 53) 53 [.agg [.str wr, .int .i64 ww, .int .i64 wh, .str wc, .int .i64 wx, .int .i64 wy, .int .i64 wd]] [] (fun v _ => K v) := by kernel_rfl
theorem ok_spec_woGood : OK Try.prog 53 F_spec_woGood.spec := (vbody_ok (vin_ok TG1_5_ok annTG1 3) TG1_5_ok.looks _ _).ofF fun args m p R h hp => by
  unfold F_spec_woGood at h
  split at h
  · injection h with h; injection h with h1 h2; subst h1; subst h2
    exact ⟨rfl, (congrArg At (eq_spec_woGood _ _ _ _ _ _ _ _)).mp ⟨vc_spec_woGood _ _ _ _ _ _ _ hp⟩⟩
  · cases h
def TG1_6 : Tab := TG1_5.add 53 F_spec_woGood
theorem TG1_6_ok : TG1_6.Ok Try.prog := TG1_5_ok.add ok_spec_woGood
theorem eq_impl_areColours (s : List UInt8) (n : Int) (K : V → Prop) : VC_impl_areColours s n K = vbody Try.prog (vin Try.prog TG1_6 annTG1 3) TG1_6.looks (annTG1 83) 83 [.str s, .int .i64 n] [] (fun v _ => K v) := by kernel_rfl
theorem ok_impl_areColours : OK Try.prog 83 F_impl_areColours.spec := (vbody_ok (vin_ok TG1_6_ok annTG1 3) TG1_6_ok.looks _ _).ofF fun args m p R h hp => by
  unfold F_impl_areColours at h
  split at h
  · injection h with h; injection h with h1 h2; subst h1; subst h2
    exact ⟨rfl, (congrArg At (eq_impl_areColours _ _ _)).mp ⟨vc_impl_areColours _ _ hp⟩⟩
  · cases h
def TG1_7 : Tab := TG1_6.add 83 F_impl_areColours
theorem TG1_7_ok : TG1_7.Ok Try.prog := TG1_6_ok.add ok_impl_areColours
theorem eq_impl_IsWorld (wr : List UInt8) (ww : Int) (wh : Int) (wc : List UInt8) (wx : Int) (wy : Int) (wd : Int) (K : V → Prop) : VC_impl_IsWorld wr ww wh wc wx wy wd K = vbody Try.prog (vin Try.prog TG1_7 annTG1 4) TG1_7.looks (annTG1 55) 55 [.agg [.str wr, .int .i64 ww, .int .i64 wh, .str wc, .int .i64 wx, .int .i64 wy, .int .i64 wd]] [] (fun v _ => K v) := by kernel_rfl
theorem ok_impl_IsWorld : OK Try.prog 55 F_impl_IsWorld.spec := (vbody_ok (vin_ok TG1_7_ok annTG1 4) TG1_7_ok.looks _ _).ofF fun args m p R h hp => by
  unfold F_impl_IsWorld at h
  split at h
  · injection h with h; injection h with h1 h2; subst h1; subst h2
    exact ⟨rfl, (congrArg At (eq_impl_IsWorld _ _ _ _ _ _ _ _)).mp ⟨vc_impl_IsWorld _ _ _ _ _ _ _ hp⟩⟩
  · cases h
def TG1_8 : Tab := TG1_7.add 55 F_impl_IsWorld
theorem TG1_8_ok : TG1_8.Ok Try.prog := TG1_7_ok.add ok_impl_IsWorld
theorem eq_spec_woColour (wr : List UInt8) (ww : Int) (wh : Int) (wc : List UInt8) (wx : Int) (wy : Int) (wd : Int) (x : Int) (y : Int) (K : V → Prop) : VC_spec_woColour wr ww wh wc wx wy wd x y K = vbody Try.prog (vin Try.prog TG1_8 annTG1 3) TG1_8.looks (annTG1 54) 54 [.agg [.str wr, .int .i64 ww, .int .i64 wh, .str wc, .int .i64 wx, .int .i64 wy, .int .i64 wd], .int .i64 x, .int .i64 y] [] (fun v _ => K v) := by kernel_rfl
theorem ok_spec_woColour : OK Try.prog 54 F_spec_woColour.spec := (vbody_ok (vin_ok TG1_8_ok annTG1 3) TG1_8_ok.looks _ _).ofF fun args m p R h hp => by
  unfold F_spec_woColour at h
  split at h
  · injection h with h; injection h with h1 h2; subst h1; subst h2
    exact ⟨rfl, (congrArg At (eq_spec_woColour _ _ _ _ _ _ _ _ _ _)).mp ⟨vc_spec_woColour _ _ _ _ _ _ _ _ _ hp⟩⟩
  · cases h
def TG1_9 : Tab := TG1_8.add 54 F_spec_woColour
theorem TG1_9_ok : TG1_9.Ok Try.prog := TG1_8_ok.add ok_spec_woColour
theorem eq_laws_szWorld (wr : List UInt8) (ww : Int) (wh : Int) (wc : List UInt8) (wx : Int) (wy : Int) (wd : Int) (left : Int) (K : V → Prop) : VC_laws_szWorld wr ww wh wc wx wy wd left K = vbody Try.prog (vin Try.prog TG1_9 annTG1 3) TG1_9.looks (annTG1 26) 26 [.agg [.str wr, .int .i64 ww, .int .i64 wh, .str wc, .int .i64 wx, .int .i64 wy, .int .i64 wd], .int .i64 left] [] (fun v _ => K v) := by kernel_rfl
theorem ok_laws_szWorld : OK Try.prog 26 F_laws_szWorld.spec := (vbody_ok (vin_ok TG1_9_ok annTG1 3) TG1_9_ok.looks _ _).ofF fun args m p R h hp => by
  unfold F_laws_szWorld at h
  split at h
  · injection h with h; injection h with h1 h2; subst h1; subst h2
    exact ⟨rfl, (congrArg At (eq_laws_szWorld _ _ _ _ _ _ _ _ _)).mp ⟨vc_laws_szWorld _ _ _ _ _ _ _ _ hp⟩⟩
  · cases h
def TG1_10 : Tab := TG1_9.add 26 F_laws_szWorld
theorem TG1_10_ok : TG1_10.Ok Try.prog := TG1_9_ok.add ok_laws_szWorld
theorem eq_laws_eqSpot (ax : Int) (ay : Int) (ak : Int) (bx : Int) (by_ : Int) (bk : Int) (K : V → Prop) : VC_laws_eqSpot ax ay ak bx by_ bk K = vbody Try.prog (vin Try.prog TG1_10 annTG1 3) TG1_10.looks (annTG1 79) 79 [.agg [.int .i64 ax, .int .i64 ay, .int .i64 ak], .agg [.int .i64 bx, .int .i64 by_, .int .i64 bk]] [] (fun v _ => K v) := by kernel_rfl
theorem ok_laws_eqSpot : OK Try.prog 79 F_laws_eqSpot.spec := (vbody_ok (vin_ok TG1_10_ok annTG1 3) TG1_10_ok.looks _ _).ofF fun args m p R h hp => by
  unfold F_laws_eqSpot at h
  split at h
  · injection h with h; injection h with h1 h2; subst h1; subst h2
    exact ⟨rfl, (congrArg At (eq_laws_eqSpot _ _ _ _ _ _ _)).mp ⟨vc_laws_eqSpot _ _ _ _ _ _ hp⟩⟩
  · cases h
def TG1_11 : Tab := TG1_10.add 79 F_laws_eqSpot
theorem TG1_11_ok : TG1_11.Ok Try.prog := TG1_10_ok.add ok_laws_eqSpot
theorem eq_laws_eqSpotS  (n : Nat) (m : Nat) (a : List Int) (b : List Int) (K : V → List Blk → Prop) : VC_laws_eqSpotS  n m a b K = vbody Try.prog (vin Try.prog TG1_11 annTG1 3) TG1_11.looks (annTG1 48) 48 [.row 0 n, .row 1 m] [⟨.ints .i64 a, 61, .rows 3⟩, ⟨.ints .i64 b, 61, .rows 3⟩] (K) := by kernel_rfl
theorem ok_laws_eqSpotS : OK Try.prog 48 F_laws_eqSpotS.spec := (vbody_ok (vin_ok TG1_11_ok annTG1 3) TG1_11_ok.looks _ _).ofFM fun args m p R h hp => by
  unfold F_laws_eqSpotS at h
  split at h
  · injection h with h; injection h with h1 h2; subst h1; subst h2
    exact (congrArg At (eq_laws_eqSpotS _ _ _ _ _)).mp ⟨vc_laws_eqSpotS _ _ _ _ hp⟩
  · cases h
def TG1_12 : Tab := TG1_11.add 48 F_laws_eqSpotS
theorem TG1_12_ok : TG1_12.Ok Try.prog := TG1_11_ok.add ok_laws_eqSpotS
theorem eq_laws_eqPlain  (ar : List UInt8) (an : Nat) (ax : Int) (ay : Int) (ad : Int) (cr : List UInt8) (cn : Nat) (cx : Int) (cy : Int) (cd : Int) (a : List Int) (b : List Int) (K : V → List Blk → Prop) : VC_laws_eqPlain  ar an ax ay ad cr cn cx cy cd a b K = vbody Try.prog (vin Try.prog TG1_12 annTG1 3) TG1_12.looks (annTG1 16) 16 [.agg [.str ar, .row 0 an, .int .i64 ax, .int .i64 ay, .int .i64 ad], .agg [.str cr, .row 1 cn, .int .i64 cx, .int .i64 cy, .int .i64 cd]] [⟨.ints .i64 a, 61, .rows 3⟩, ⟨.ints .i64 b, 61, .rows 3⟩] (K) := by kernel_rfl
theorem ok_laws_eqPlain : OK Try.prog 16 F_laws_eqPlain.spec := (vbody_ok (vin_ok TG1_12_ok annTG1 3) TG1_12_ok.looks _ _).ofFM fun args m p R h hp => by
  unfold F_laws_eqPlain at h
  split at h
  · injection h with h; injection h with h1 h2; subst h1; subst h2
    exact (congrArg At (eq_laws_eqPlain _ _ _ _ _ _ _ _ _ _ _ _ _)).mp ⟨vc_laws_eqPlain _ _ _ _ _ _ _ _ _ _ _ _ hp⟩
  · cases h
def TG1_13 : Tab := TG1_12.add 16 F_laws_eqPlain
theorem TG1_13_ok : TG1_13.Ok Try.prog := TG1_12_ok.add ok_laws_eqPlain
theorem eq_laws_markSpotS (k : Int) (n : Nat) (a : List Int) (K : V → List Blk → Prop) : VC_laws_markSpotS k n a K = vbody Try.prog (vin Try.prog TG1_13 annTG1 3) TG1_13.looks (annTG1 50) 50 [.row 0 n, .int .i64 k] [⟨.ints .i64 a, 61, .rows 3⟩] (K) := by kernel_rfl
theorem ok_laws_markSpotS : OK Try.prog 50 F_laws_markSpotS.spec := (vbody_ok (vin_ok TG1_13_ok annTG1 3) TG1_13_ok.looks _ _).ofG fun args m p R M h hp => by
  unfold F_laws_markSpotS at h
  split at h
  · injection h with h; injection h with h1 h2; injection h2 with h2 h3; subst h1; subst h2; subst h3
    exact (congrArg At (eq_laws_markSpotS _ _ _ _)).mp ⟨vc_laws_markSpotS _ _ _ hp⟩
  · cases h
def TG1_14 : Tab := TG1_13.addG 50 F_laws_markSpotS
theorem TG1_14_ok : TG1_14.Ok Try.prog := TG1_13_ok.addG ok_laws_markSpotS
theorem eq_laws_heldSpotS (k : Int) (n : Nat) (a : List Int) (K : V → List Blk → Prop) : VC_laws_heldSpotS k n a K = vbody Try.prog (vin Try.prog TG1_14 annTG1 3) TG1_14.looks (annTG1 51) 51 [.row 0 n, .int .i64 k] [⟨.ints .i64 a, 61, .rows 3⟩] (K) := by kernel_rfl
theorem ok_laws_heldSpotS : OK Try.prog 51 F_laws_heldSpotS.spec := (vbody_ok (vin_ok TG1_14_ok annTG1 3) TG1_14_ok.looks _ _).ofFM fun args m p R h hp => by
  unfold F_laws_heldSpotS at h
  split at h
  · injection h with h; injection h with h1 h2; subst h1; subst h2
    exact (congrArg At (eq_laws_heldSpotS _ _ _ _)).mp ⟨vc_laws_heldSpotS _ _ _ hp⟩
  · cases h
def TG1_15 : Tab := TG1_14.add 51 F_laws_heldSpotS
theorem TG1_15_ok : TG1_15.Ok Try.prog := TG1_14_ok.add ok_laws_heldSpotS
theorem eq_spec_PlainOfWorld (wr : List UInt8) (ww : Int) (wh : Int) (wc : List UInt8) (wx : Int) (wy : Int) (wd : Int) (K : V → List Blk → Prop) : VC_spec_PlainOfWorld wr ww wh wc wx wy wd K = vbody Try.prog (vin Try.prog TG1_15 annTG1 3) TG1_15.looks (annTG1 27) 27 [.agg [.str wr, .int .i64 ww, .int .i64 wh, .str wc, .int .i64 wx, .int .i64 wy, .int .i64 wd]] [] (K) := by kernel_rfl
theorem ok_spec_PlainOfWorld : OK Try.prog 27 F_spec_PlainOfWorld.spec := (vbody_ok (vin_ok TG1_15_ok annTG1 3) TG1_15_ok.looks _ _).ofG fun args m p R M h hp => by
  unfold F_spec_PlainOfWorld at h
  split at h
  · injection h with h; injection h with h1 h2; injection h2 with h2 h3; subst h1; subst h2; subst h3
    exact (congrArg At (eq_spec_PlainOfWorld _ _ _ _ _ _ _ _)).mp ⟨vc_spec_PlainOfWorld _ _ _ _ _ _ _ hp⟩
  · cases h
def TG1_16 : Tab := TG1_15.addG 27 F_spec_PlainOfWorld
theorem TG1_16_ok : TG1_16.Ok Try.prog := TG1_15_ok.addG ok_spec_PlainOfWorld
theorem eq_impl_PlainOfWorld (wr : List UInt8) (ww : Int) (wh : Int) (wc : List UInt8) (wx : Int) (wy : Int) (wd : Int) (K : V → List Blk → Prop) : VC_impl_PlainOfWorld wr ww wh wc wx wy wd K = vbody Try.prog (vin Try.prog TG1_16 annTG1 3) TG1_16.looks (annTG1 29) 29 [.agg [.str wr, .int .i64 ww, .int .i64 wh, .str wc, .int .i64 wx, .int .i64 wy, .int .i64 wd]] [] (K) := by kernel_rfl
theorem ok_impl_PlainOfWorld : OK Try.prog 29 F_impl_PlainOfWorld.spec := (vbody_ok (vin_ok TG1_16_ok annTG1 3) TG1_16_ok.looks _ _).ofG fun args m p R M h hp => by
  unfold F_impl_PlainOfWorld at h
  split at h
  · injection h with h; injection h with h1 h2; injection h2 with h2 h3; subst h1; subst h2; subst h3
    exact (congrArg At (eq_impl_PlainOfWorld _ _ _ _ _ _ _ _)).mp ⟨vc_impl_PlainOfWorld _ _ _ _ _ _ _ hp⟩
  · cases h
def TG1_17 : Tab := TG1_16.addG 29 F_impl_PlainOfWorld
theorem TG1_17_ok : TG1_17.Ok Try.prog := TG1_16_ok.addG ok_impl_PlainOfWorld
def TG1 : Tab := TG1_17
theorem TG1_ok : TG1.Ok Try.prog := TG1_17_ok
end Go.Proofs.Ytbchncdchanomaa
