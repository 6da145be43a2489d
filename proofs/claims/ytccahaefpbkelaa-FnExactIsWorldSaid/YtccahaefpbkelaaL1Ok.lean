/- The contracts of this chapter. -/
import Derived.Test.YtccahaefpbkelaaProg
import Derived.Test.YtccahaefpbkelaaL1Pf
import Derived.KernelRfl
namespace Go.Proofs.Ytccahaefpbkelaa
open Go Go.Vi
set_option linter.unusedVariables false
def annTL1 : FuncId → Nat → St → Option Ann := fun f => if f = 30 then ann_spec_woRule else if f = 11 then ann_impl_IsRule else if f = 33 then ann_spec_woGood else if f = 35 then ann_impl_areColours else (fun _ _ => none)
def TL1_0 : Tab := Tab.none
theorem TL1_0_ok : TL1_0.Ok Try.prog := Tab.none_ok
theorem eq_spec_l1In (n : Int) (lo : Int) (hi : Int) (K : V → Prop) : VC_spec_l1In n lo hi K = vbody Try.prog (vin Try.prog TL1_0 annTL1 3) TL1_0.looks (annTL1 38) 38 [.int .i64 n, .int .i64 lo, .int .i64 hi] [] fun v _ => K v := by kernel_rfl
theorem ok_spec_l1In : OK Try.prog 38 F_spec_l1In.spec := (vbody_ok (vin_ok TL1_0_ok annTL1 3) TL1_0_ok.looks _ _).ofF fun args m p R h hp => by
  unfold F_spec_l1In at h
  split at h
  · injection h with h; injection h with h1 h2; subst h1; subst h2
    exact ⟨rfl, (congrArg At (eq_spec_l1In _ _ _ _)).mp ⟨vc_spec_l1In _ _ _ hp⟩⟩
  · cases h
def TL1_1 : Tab := TL1_0.add 38 F_spec_l1In
theorem TL1_1_ok : TL1_1.Ok Try.prog := TL1_0_ok.add ok_spec_l1In
theorem eq_impl_within (n : Int) (lo : Int) (hi : Int) (K : V → Prop) : VC_impl_within n lo hi K = vbody Try.prog (vin Try.prog TL1_1 annTL1 3) TL1_1.looks (annTL1 31) 31 [.int .i64 n, .int .i64 lo, .int .i64 hi] [] fun v _ => K v := by kernel_rfl
theorem ok_impl_within : OK Try.prog 31 F_impl_within.spec := (vbody_ok (vin_ok TL1_1_ok annTL1 3) TL1_1_ok.looks _ _).ofF fun args m p R h hp => by
  unfold F_impl_within at h
  split at h
  · injection h with h; injection h with h1 h2; subst h1; subst h2
    exact ⟨rfl, (congrArg At (eq_impl_within _ _ _ _)).mp ⟨vc_impl_within _ _ _ hp⟩⟩
  · cases h
def TL1_2 : Tab := TL1_1.add 31 F_impl_within
theorem TL1_2_ok : TL1_2.Ok Try.prog := TL1_1_ok.add ok_impl_within
theorem eq_impl_digit (b : Int) (K : V → Prop) : VC_impl_digit b K = vbody Try.prog (vin Try.prog TL1_2 annTL1 3) TL1_2.looks (annTL1 44) 44 [.int .u8 b] [] fun v _ => K v := by kernel_rfl
theorem ok_impl_digit : OK Try.prog 44 F_impl_digit.spec := (vbody_ok (vin_ok TL1_2_ok annTL1 3) TL1_2_ok.looks _ _).ofF fun args m p R h hp => by
  unfold F_impl_digit at h
  split at h
  · injection h with h; injection h with h1 h2; subst h1; subst h2
    exact ⟨rfl, (congrArg At (eq_impl_digit _ _)).mp ⟨vc_impl_digit _ hp⟩⟩
  · cases h
def TL1_3 : Tab := TL1_2.add 44 F_impl_digit
theorem TL1_3_ok : TL1_3.Ok Try.prog := TL1_2_ok.add ok_impl_digit
theorem eq_spec_woRule (s : List UInt8) (K : V → Prop) : VC_spec_woRule s K = vbody Try.prog (vin Try.prog TL1_3 annTL1 3) TL1_3.looks (annTL1 30) 30 [.str s] [] fun v _ => K v := by kernel_rfl
theorem ok_spec_woRule : OK Try.prog 30 F_spec_woRule.spec := (vbody_ok (vin_ok TL1_3_ok annTL1 3) TL1_3_ok.looks _ _).ofF fun args m p R h hp => by
  unfold F_spec_woRule at h
  split at h
  · injection h with h; injection h with h1 h2; subst h1; subst h2
    exact ⟨rfl, (congrArg At (eq_spec_woRule _ _)).mp ⟨vc_spec_woRule _ hp⟩⟩
  · cases h
def TL1_4 : Tab := TL1_3.add 30 F_spec_woRule
theorem TL1_4_ok : TL1_4.Ok Try.prog := TL1_3_ok.add ok_spec_woRule
theorem eq_impl_IsRule (s : List UInt8) (K : V → Prop) : VC_impl_IsRule s K = vbody Try.prog (vin Try.prog TL1_4 annTL1 3) TL1_4.looks (annTL1 11) 11 [.str s] [] fun v _ => K v := by kernel_rfl
theorem ok_impl_IsRule : OK Try.prog 11 F_impl_IsRule.spec := (vbody_ok (vin_ok TL1_4_ok annTL1 3) TL1_4_ok.looks _ _).ofF fun args m p R h hp => by
  unfold F_impl_IsRule at h
  split at h
  · injection h with h; injection h with h1 h2; subst h1; subst h2
    exact ⟨rfl, (congrArg At (eq_impl_IsRule _ _)).mp ⟨vc_impl_IsRule _ hp⟩⟩
  · cases h
def TL1_5 : Tab := TL1_4.add 11 F_impl_IsRule
theorem TL1_5_ok : TL1_5.Ok Try.prog := TL1_4_ok.add ok_impl_IsRule
theorem eq_spec_woGood (wr : List UInt8) (ww : Int) (wh : Int) (wc : List UInt8) (wx : Int) (wy : Int) (wd : Int) (K : V → Prop) : VC_spec_woGood wr ww wh wc wx wy wd K = vbody Try.prog (vin Try.prog TL1_5 annTL1 3) TL1_5.looks (annTL1 33) 33 [.agg [.str wr, .int .i64 ww, .int .i64 wh, .str wc, .int .i64 wx, .int .i64 wy, .int .i64 wd]] [] fun v _ => K v := by kernel_rfl
theorem ok_spec_woGood : OK Try.prog 33 F_spec_woGood.spec := (vbody_ok (vin_ok TL1_5_ok annTL1 3) TL1_5_ok.looks _ _).ofF fun args m p R h hp => by
  unfold F_spec_woGood at h
  split at h
  · injection h with h; injection h with h1 h2; subst h1; subst h2
    exact ⟨rfl, (congrArg At (eq_spec_woGood _ _ _ _ _ _ _ _)).mp ⟨vc_spec_woGood _ _ _ _ _ _ _ hp⟩⟩
  · cases h
def TL1_6 : Tab := TL1_5.add 33 F_spec_woGood
theorem TL1_6_ok : TL1_6.Ok Try.prog := TL1_5_ok.add ok_spec_woGood
theorem eq_impl_areColours (s : List UInt8) (n : Int) (K : V → Prop) : VC_impl_areColours s n K = vbody Try.prog (vin Try.prog TL1_6 annTL1 3) TL1_6.looks (annTL1 35) 35 [.str s, .int .i64 n] [] fun v _ => K v := by kernel_rfl
theorem ok_impl_areColours : OK Try.prog 35 F_impl_areColours.spec := (vbody_ok (vin_ok TL1_6_ok annTL1 3) TL1_6_ok.looks _ _).ofF fun args m p R h hp => by
  unfold F_impl_areColours at h
  split at h
  · injection h with h; injection h with h1 h2; subst h1; subst h2
    exact ⟨rfl, (congrArg At (eq_impl_areColours _ _ _)).mp ⟨vc_impl_areColours _ _ hp⟩⟩
  · cases h
def TL1_7 : Tab := TL1_6.add 35 F_impl_areColours
theorem TL1_7_ok : TL1_7.Ok Try.prog := TL1_6_ok.add ok_impl_areColours
theorem eq_impl_IsWorld (wr : List UInt8) (ww : Int) (wh : Int) (wc : List UInt8) (wx : Int) (wy : Int) (wd : Int) (K : V → Prop) : VC_impl_IsWorld wr ww wh wc wx wy wd K = vbody Try.prog (vin Try.prog TL1_7 annTL1 4) TL1_7.looks (annTL1 15) 15 [.agg [.str wr, .int .i64 ww, .int .i64 wh, .str wc, .int .i64 wx, .int .i64 wy, .int .i64 wd]] [] fun v _ => K v := by kernel_rfl
theorem ok_impl_IsWorld : OK Try.prog 15 F_impl_IsWorld.spec := (vbody_ok (vin_ok TL1_7_ok annTL1 4) TL1_7_ok.looks _ _).ofF fun args m p R h hp => by
  unfold F_impl_IsWorld at h
  split at h
  · injection h with h; injection h with h1 h2; subst h1; subst h2
    exact ⟨rfl, (congrArg At (eq_impl_IsWorld _ _ _ _ _ _ _ _)).mp ⟨vc_impl_IsWorld _ _ _ _ _ _ _ hp⟩⟩
  · cases h
def TL1_8 : Tab := TL1_7.add 15 F_impl_IsWorld
theorem TL1_8_ok : TL1_8.Ok Try.prog := TL1_7_ok.add ok_impl_IsWorld
theorem eq_spec_woColour (wr : List UInt8) (ww : Int) (wh : Int) (wc : List UInt8) (wx : Int) (wy : Int) (wd : Int) (x : Int) (y : Int) (K : V → Prop) : VC_spec_woColour wr ww wh wc wx wy wd x y K = vbody Try.prog (vin Try.prog TL1_8 annTL1 3) TL1_8.looks (annTL1 42) 42 [.agg [.str wr, .int .i64 ww, .int .i64 wh, .str wc, .int .i64 wx, .int .i64 wy, .int .i64 wd], .int .i64 x, .int .i64 y] [] fun v _ => K v := by kernel_rfl
theorem ok_spec_woColour : OK Try.prog 42 F_spec_woColour.spec := (vbody_ok (vin_ok TL1_8_ok annTL1 3) TL1_8_ok.looks _ _).ofF fun args m p R h hp => by
  unfold F_spec_woColour at h
  split at h
  · injection h with h; injection h with h1 h2; subst h1; subst h2
    exact ⟨rfl, (congrArg At (eq_spec_woColour _ _ _ _ _ _ _ _ _ _)).mp ⟨vc_spec_woColour _ _ _ _ _ _ _ _ _ hp⟩⟩
  · cases h
def TL1_9 : Tab := TL1_8.add 42 F_spec_woColour
theorem TL1_9_ok : TL1_9.Ok Try.prog := TL1_8_ok.add ok_spec_woColour
theorem eq_impl_board_colour (wr : List UInt8) (ww : Int) (wh : Int) (wc : List UInt8) (wx : Int) (wy : Int) (wd : Int) (x : Int) (y : Int) (K : V → Prop) : VC_impl_board_colour wr ww wh wc wx wy wd x y K = vbody Try.prog (vin Try.prog TL1_9 annTL1 3) TL1_9.looks (annTL1 43) 43 [.agg [.str wr, .int .i64 ww, .int .i64 wh, .str wc, .int .i64 wx, .int .i64 wy, .int .i64 wd], .int .i64 x, .int .i64 y] [] fun v _ => K v := by kernel_rfl
theorem ok_impl_board_colour : OK Try.prog 43 F_impl_board_colour.spec := (vbody_ok (vin_ok TL1_9_ok annTL1 3) TL1_9_ok.looks _ _).ofF fun args m p R h hp => by
  unfold F_impl_board_colour at h
  split at h
  · injection h with h; injection h with h1 h2; subst h1; subst h2
    exact ⟨rfl, (congrArg At (eq_impl_board_colour _ _ _ _ _ _ _ _ _ _)).mp ⟨vc_impl_board_colour _ _ _ _ _ _ _ _ _ hp⟩⟩
  · cases h
def TL1_10 : Tab := TL1_9.add 43 F_impl_board_colour
theorem TL1_10_ok : TL1_10.Ok Try.prog := TL1_9_ok.add ok_impl_board_colour
theorem eq_laws_szWorld (wr : List UInt8) (ww : Int) (wh : Int) (wc : List UInt8) (wx : Int) (wy : Int) (wd : Int) (left : Int) (K : V → Prop) : VC_laws_szWorld wr ww wh wc wx wy wd left K = vbody Try.prog (vin Try.prog TL1_10 annTL1 3) TL1_10.looks (annTL1 12) 12 [.agg [.str wr, .int .i64 ww, .int .i64 wh, .str wc, .int .i64 wx, .int .i64 wy, .int .i64 wd], .int .i64 left] [] fun v _ => K v := by kernel_rfl
theorem ok_laws_szWorld : OK Try.prog 12 F_laws_szWorld.spec := (vbody_ok (vin_ok TL1_10_ok annTL1 3) TL1_10_ok.looks _ _).ofF fun args m p R h hp => by
  unfold F_laws_szWorld at h
  split at h
  · injection h with h; injection h with h1 h2; subst h1; subst h2
    exact ⟨rfl, (congrArg At (eq_laws_szWorld _ _ _ _ _ _ _ _ _)).mp ⟨vc_laws_szWorld _ _ _ _ _ _ _ _ hp⟩⟩
  · cases h
def TL1_11 : Tab := TL1_10.add 12 F_laws_szWorld
theorem TL1_11_ok : TL1_11.Ok Try.prog := TL1_10_ok.add ok_laws_szWorld
theorem eq_laws_eqWorld (ar : List UInt8) (aw : Int) (ah : Int) (ac : List UInt8) (ax : Int) (ay : Int) (ad : Int) (br : List UInt8) (bw : Int) (bh : Int) (bc : List UInt8) (bx : Int) (by_ : Int) (bd : Int) (K : V → Prop) : VC_laws_eqWorld ar aw ah ac ax ay ad br bw bh bc bx by_ bd K = vbody Try.prog (vin Try.prog TL1_11 annTL1 3) TL1_11.looks (annTL1 18) 18 [.agg [.str ar, .int .i64 aw, .int .i64 ah, .str ac, .int .i64 ax, .int .i64 ay, .int .i64 ad], .agg [.str br, .int .i64 bw, .int .i64 bh, .str bc, .int .i64 bx, .int .i64 by_, .int .i64 bd]] [] fun v _ => K v := by kernel_rfl
theorem ok_laws_eqWorld : OK Try.prog 18 F_laws_eqWorld.spec := (vbody_ok (vin_ok TL1_11_ok annTL1 3) TL1_11_ok.looks _ _).ofF fun args m p R h hp => by
  unfold F_laws_eqWorld at h
  split at h
  · injection h with h; injection h with h1 h2; subst h1; subst h2
    exact ⟨rfl, (congrArg At (eq_laws_eqWorld _ _ _ _ _ _ _ _ _ _ _ _ _ _ _)).mp ⟨vc_laws_eqWorld _ _ _ _ _ _ _ _ _ _ _ _ _ _ hp⟩⟩
  · cases h
def TL1_12 : Tab := TL1_11.add 18 F_laws_eqWorld
theorem TL1_12_ok : TL1_12.Ok Try.prog := TL1_11_ok.add ok_laws_eqWorld
theorem eq_spec_ColourAt (wr : List UInt8) (ww : Int) (wh : Int) (wc : List UInt8) (wx : Int) (wy : Int) (wd : Int) (x : Int) (y : Int) (K : V → Prop) : VC_spec_ColourAt wr ww wh wc wx wy wd x y K = vbody Try.prog (vin Try.prog TL1_12 annTL1 3) TL1_12.looks (annTL1 19) 19 [.agg [.str wr, .int .i64 ww, .int .i64 wh, .str wc, .int .i64 wx, .int .i64 wy, .int .i64 wd], .int .i64 x, .int .i64 y] [] fun v _ => K v := by kernel_rfl
theorem ok_spec_ColourAt : OK Try.prog 19 F_spec_ColourAt.spec := (vbody_ok (vin_ok TL1_12_ok annTL1 3) TL1_12_ok.looks _ _).ofF fun args m p R h hp => by
  unfold F_spec_ColourAt at h
  split at h
  · injection h with h; injection h with h1 h2; subst h1; subst h2
    exact ⟨rfl, (congrArg At (eq_spec_ColourAt _ _ _ _ _ _ _ _ _ _)).mp ⟨vc_spec_ColourAt _ _ _ _ _ _ _ _ _ hp⟩⟩
  · cases h
def TL1_13 : Tab := TL1_12.add 19 F_spec_ColourAt
theorem TL1_13_ok : TL1_13.Ok Try.prog := TL1_12_ok.add ok_spec_ColourAt
theorem eq_impl_ColourAt (wr : List UInt8) (ww : Int) (wh : Int) (wc : List UInt8) (wx : Int) (wy : Int) (wd : Int) (x : Int) (y : Int) (K : V → Prop) : VC_impl_ColourAt wr ww wh wc wx wy wd x y K = vbody Try.prog (vin Try.prog TL1_13 annTL1 4) TL1_13.looks (annTL1 20) 20 [.agg [.str wr, .int .i64 ww, .int .i64 wh, .str wc, .int .i64 wx, .int .i64 wy, .int .i64 wd], .int .i64 x, .int .i64 y] [] fun v _ => K v := by kernel_rfl
theorem ok_impl_ColourAt : OK Try.prog 20 F_impl_ColourAt.spec := (vbody_ok (vin_ok TL1_13_ok annTL1 4) TL1_13_ok.looks _ _).ofF fun args m p R h hp => by
  unfold F_impl_ColourAt at h
  split at h
  · injection h with h; injection h with h1 h2; subst h1; subst h2
    exact ⟨rfl, (congrArg At (eq_impl_ColourAt _ _ _ _ _ _ _ _ _ _)).mp ⟨vc_impl_ColourAt _ _ _ _ _ _ _ _ _ hp⟩⟩
  · cases h
def TL1_14 : Tab := TL1_13.add 20 F_impl_ColourAt
theorem TL1_14_ok : TL1_14.Ok Try.prog := TL1_13_ok.add ok_impl_ColourAt
theorem eq_spec_PlaceAnt (wr : List UInt8) (ww : Int) (wh : Int) (wc : List UInt8) (wx : Int) (wy : Int) (wd : Int) (x : Int) (y : Int) (d : Int) (K : V → Prop) : VC_spec_PlaceAnt wr ww wh wc wx wy wd x y d K = vbody Try.prog (vin Try.prog TL1_14 annTL1 3) TL1_14.looks (annTL1 21) 21 [.agg [.str wr, .int .i64 ww, .int .i64 wh, .str wc, .int .i64 wx, .int .i64 wy, .int .i64 wd], .int .i64 x, .int .i64 y, .int .i64 d] [] fun v _ => K v := by kernel_rfl
theorem ok_spec_PlaceAnt : OK Try.prog 21 F_spec_PlaceAnt.spec := (vbody_ok (vin_ok TL1_14_ok annTL1 3) TL1_14_ok.looks _ _).ofF fun args m p R h hp => by
  unfold F_spec_PlaceAnt at h
  split at h
  · injection h with h; injection h with h1 h2; subst h1; subst h2
    exact ⟨rfl, (congrArg At (eq_spec_PlaceAnt _ _ _ _ _ _ _ _ _ _ _)).mp ⟨vc_spec_PlaceAnt _ _ _ _ _ _ _ _ _ _ hp⟩⟩
  · cases h
def TL1_15 : Tab := TL1_14.add 21 F_spec_PlaceAnt
theorem TL1_15_ok : TL1_15.Ok Try.prog := TL1_14_ok.add ok_spec_PlaceAnt
theorem eq_impl_PlaceAnt (wr : List UInt8) (ww : Int) (wh : Int) (wc : List UInt8) (wx : Int) (wy : Int) (wd : Int) (x : Int) (y : Int) (d : Int) (K : V → Prop) : VC_impl_PlaceAnt wr ww wh wc wx wy wd x y d K = vbody Try.prog (vin Try.prog TL1_15 annTL1 4) TL1_15.looks (annTL1 22) 22 [.agg [.str wr, .int .i64 ww, .int .i64 wh, .str wc, .int .i64 wx, .int .i64 wy, .int .i64 wd], .int .i64 x, .int .i64 y, .int .i64 d] [] fun v _ => K v := by kernel_rfl
theorem ok_impl_PlaceAnt : OK Try.prog 22 F_impl_PlaceAnt.spec := (vbody_ok (vin_ok TL1_15_ok annTL1 4) TL1_15_ok.looks _ _).ofF fun args m p R h hp => by
  unfold F_impl_PlaceAnt at h
  split at h
  · injection h with h; injection h with h1 h2; subst h1; subst h2
    exact ⟨rfl, (congrArg At (eq_impl_PlaceAnt _ _ _ _ _ _ _ _ _ _ _)).mp ⟨vc_impl_PlaceAnt _ _ _ _ _ _ _ _ _ _ hp⟩⟩
  · cases h
def TL1_16 : Tab := TL1_15.add 22 F_impl_PlaceAnt
theorem TL1_16_ok : TL1_16.Ok Try.prog := TL1_15_ok.add ok_impl_PlaceAnt
def TL1 : Tab := TL1_16
theorem TL1_ok : TL1.Ok Try.prog := TL1_16_ok
end Go.Proofs.Ytccahaefpbkelaa
