/- The contracts of this chapter. -/
import Derived.Test.YtccahaefpbkelaaE1Lib
import Derived.Test.YtccahaefpbkelaaProg
import Derived.Test.YtccahaefpbkelaaE1Pf
import Derived.KernelRfl
namespace Go.Proofs.Ytccahaefpbkelaa
open Go Go.Vi
set_option linter.unusedVariables false
def annTE1 : FuncId → Nat → St → Option Ann := fun f => if f = 30 then ann_spec_woRule else if f = 11 then ann_impl_IsRule else if f = 33 then ann_spec_woGood else if f = 35 then ann_impl_areColours else if f = 39 then ann_spec_woZeros else (fun _ _ => none)
def TE1_0 : Tab := Tab.none
theorem TE1_0_ok : TE1_0.Ok Try.prog := Tab.none_ok
theorem eq_spec_l1In (n : Int) (lo : Int) (hi : Int) (K : V → Prop) : VC_spec_l1In n lo hi K = vbody Try.prog (vin Try.prog TE1_0 annTE1 3) TE1_0.looks (annTE1 38) 38 [.int .i64 n, .int .i64 lo, .int .i64 hi] [] fun v _ => K v := by kernel_rfl
theorem ok_spec_l1In : OK Try.prog 38 F_spec_l1In.spec := (vbody_ok (vin_ok TE1_0_ok annTE1 3) TE1_0_ok.looks _ _).ofF fun args m p R h hp => by
  unfold F_spec_l1In at h
  split at h
  · injection h with h; injection h with h1 h2; subst h1; subst h2
    exact ⟨rfl, (congrArg At (eq_spec_l1In _ _ _ _)).mp ⟨vc_spec_l1In _ _ _ hp⟩⟩
  · cases h
def TE1_1 : Tab := TE1_0.add 38 F_spec_l1In
theorem TE1_1_ok : TE1_1.Ok Try.prog := TE1_0_ok.add ok_spec_l1In
theorem eq_impl_within (n : Int) (lo : Int) (hi : Int) (K : V → Prop) : VC_impl_within n lo hi K = vbody Try.prog (vin Try.prog TE1_1 annTE1 3) TE1_1.looks (annTE1 31) 31 [.int .i64 n, .int .i64 lo, .int .i64 hi] [] fun v _ => K v := by kernel_rfl
theorem ok_impl_within : OK Try.prog 31 F_impl_within.spec := (vbody_ok (vin_ok TE1_1_ok annTE1 3) TE1_1_ok.looks _ _).ofF fun args m p R h hp => by
  unfold F_impl_within at h
  split at h
  · injection h with h; injection h with h1 h2; subst h1; subst h2
    exact ⟨rfl, (congrArg At (eq_impl_within _ _ _ _)).mp ⟨vc_impl_within _ _ _ hp⟩⟩
  · cases h
def TE1_2 : Tab := TE1_1.add 31 F_impl_within
theorem TE1_2_ok : TE1_2.Ok Try.prog := TE1_1_ok.add ok_impl_within
theorem eq_impl_digit (b : Int) (K : V → Prop) : VC_impl_digit b K = vbody Try.prog (vin Try.prog TE1_2 annTE1 3) TE1_2.looks (annTE1 44) 44 [.int .u8 b] [] fun v _ => K v := by kernel_rfl
theorem ok_impl_digit : OK Try.prog 44 F_impl_digit.spec := (vbody_ok (vin_ok TE1_2_ok annTE1 3) TE1_2_ok.looks _ _).ofF fun args m p R h hp => by
  unfold F_impl_digit at h
  split at h
  · injection h with h; injection h with h1 h2; subst h1; subst h2
    exact ⟨rfl, (congrArg At (eq_impl_digit _ _)).mp ⟨vc_impl_digit _ hp⟩⟩
  · cases h
def TE1_3 : Tab := TE1_2.add 44 F_impl_digit
theorem TE1_3_ok : TE1_3.Ok Try.prog := TE1_2_ok.add ok_impl_digit
theorem eq_spec_woRule (s : List UInt8) (K : V → Prop) : VC_spec_woRule s K = vbody Try.prog (vin Try.prog TE1_3 annTE1 3) TE1_3.looks (annTE1 30) 30 [.str s] [] fun v _ => K v := by kernel_rfl
theorem ok_spec_woRule : OK Try.prog 30 F_spec_woRule.spec := (vbody_ok (vin_ok TE1_3_ok annTE1 3) TE1_3_ok.looks _ _).ofF fun args m p R h hp => by
  unfold F_spec_woRule at h
  split at h
  · injection h with h; injection h with h1 h2; subst h1; subst h2
    exact ⟨rfl, (congrArg At (eq_spec_woRule _ _)).mp ⟨vc_spec_woRule _ hp⟩⟩
  · cases h
def TE1_4 : Tab := TE1_3.add 30 F_spec_woRule
theorem TE1_4_ok : TE1_4.Ok Try.prog := TE1_3_ok.add ok_spec_woRule
theorem eq_impl_IsRule (s : List UInt8) (K : V → Prop) : VC_impl_IsRule s K = vbody Try.prog (vin Try.prog TE1_4 annTE1 3) TE1_4.looks (annTE1 11) 11 [.str s] [] fun v _ => K v := by kernel_rfl
theorem ok_impl_IsRule : OK Try.prog 11 F_impl_IsRule.spec := (vbody_ok (vin_ok TE1_4_ok annTE1 3) TE1_4_ok.looks _ _).ofF fun args m p R h hp => by
  unfold F_impl_IsRule at h
  split at h
  · injection h with h; injection h with h1 h2; subst h1; subst h2
    exact ⟨rfl, (congrArg At (eq_impl_IsRule _ _)).mp ⟨vc_impl_IsRule _ hp⟩⟩
  · cases h
def TE1_5 : Tab := TE1_4.add 11 F_impl_IsRule
theorem TE1_5_ok : TE1_5.Ok Try.prog := TE1_4_ok.add ok_impl_IsRule
theorem eq_spec_woGood (wr : List UInt8) (ww : Int) (wh : Int) (wc : List UInt8) (wx : Int) (wy : Int) (wd : Int) (K : V → Prop) : VC_spec_woGood wr ww wh wc wx wy wd K = vbody Try.prog (vin Try.prog TE1_5 annTE1 3) TE1_5.looks (annTE1 33) 33 [.agg [.str wr, .int .i64 ww, .int .i64 wh, .str wc, .int .i64 wx, .int .i64 wy, .int .i64 wd]] [] fun v _ => K v := by kernel_rfl
theorem ok_spec_woGood : OK Try.prog 33 F_spec_woGood.spec := (vbody_ok (vin_ok TE1_5_ok annTE1 3) TE1_5_ok.looks _ _).ofF fun args m p R h hp => by
  unfold F_spec_woGood at h
  split at h
  · injection h with h; injection h with h1 h2; subst h1; subst h2
    exact ⟨rfl, (congrArg At (eq_spec_woGood _ _ _ _ _ _ _ _)).mp ⟨vc_spec_woGood _ _ _ _ _ _ _ hp⟩⟩
  · cases h
def TE1_6 : Tab := TE1_5.add 33 F_spec_woGood
theorem TE1_6_ok : TE1_6.Ok Try.prog := TE1_5_ok.add ok_spec_woGood
theorem eq_impl_areColours (s : List UInt8) (n : Int) (K : V → Prop) : VC_impl_areColours s n K = vbody Try.prog (vin Try.prog TE1_6 annTE1 3) TE1_6.looks (annTE1 35) 35 [.str s, .int .i64 n] [] fun v _ => K v := by kernel_rfl
theorem ok_impl_areColours : OK Try.prog 35 F_impl_areColours.spec := (vbody_ok (vin_ok TE1_6_ok annTE1 3) TE1_6_ok.looks _ _).ofF fun args m p R h hp => by
  unfold F_impl_areColours at h
  split at h
  · injection h with h; injection h with h1 h2; subst h1; subst h2
    exact ⟨rfl, (congrArg At (eq_impl_areColours _ _ _)).mp ⟨vc_impl_areColours _ _ hp⟩⟩
  · cases h
def TE1_7 : Tab := TE1_6.add 35 F_impl_areColours
theorem TE1_7_ok : TE1_7.Ok Try.prog := TE1_6_ok.add ok_impl_areColours
theorem eq_impl_IsWorld (wr : List UInt8) (ww : Int) (wh : Int) (wc : List UInt8) (wx : Int) (wy : Int) (wd : Int) (K : V → Prop) : VC_impl_IsWorld wr ww wh wc wx wy wd K = vbody Try.prog (vin Try.prog TE1_7 annTE1 4) TE1_7.looks (annTE1 15) 15 [.agg [.str wr, .int .i64 ww, .int .i64 wh, .str wc, .int .i64 wx, .int .i64 wy, .int .i64 wd]] [] fun v _ => K v := by kernel_rfl
theorem ok_impl_IsWorld : OK Try.prog 15 F_impl_IsWorld.spec := (vbody_ok (vin_ok TE1_7_ok annTE1 4) TE1_7_ok.looks _ _).ofF fun args m p R h hp => by
  unfold F_impl_IsWorld at h
  split at h
  · injection h with h; injection h with h1 h2; subst h1; subst h2
    exact ⟨rfl, (congrArg At (eq_impl_IsWorld _ _ _ _ _ _ _ _)).mp ⟨vc_impl_IsWorld _ _ _ _ _ _ _ hp⟩⟩
  · cases h
def TE1_8 : Tab := TE1_7.add 15 F_impl_IsWorld
theorem TE1_8_ok : TE1_8.Ok Try.prog := TE1_7_ok.add ok_impl_IsWorld
theorem eq_spec_woColour (wr : List UInt8) (ww : Int) (wh : Int) (wc : List UInt8) (wx : Int) (wy : Int) (wd : Int) (x : Int) (y : Int) (K : V → Prop) : VC_spec_woColour wr ww wh wc wx wy wd x y K = vbody Try.prog (vin Try.prog TE1_8 annTE1 3) TE1_8.looks (annTE1 42) 42 [.agg [.str wr, .int .i64 ww, .int .i64 wh, .str wc, .int .i64 wx, .int .i64 wy, .int .i64 wd], .int .i64 x, .int .i64 y] [] fun v _ => K v := by kernel_rfl
theorem ok_spec_woColour : OK Try.prog 42 F_spec_woColour.spec := (vbody_ok (vin_ok TE1_8_ok annTE1 3) TE1_8_ok.looks _ _).ofF fun args m p R h hp => by
  unfold F_spec_woColour at h
  split at h
  · injection h with h; injection h with h1 h2; subst h1; subst h2
    exact ⟨rfl, (congrArg At (eq_spec_woColour _ _ _ _ _ _ _ _ _ _)).mp ⟨vc_spec_woColour _ _ _ _ _ _ _ _ _ hp⟩⟩
  · cases h
def TE1_9 : Tab := TE1_8.add 42 F_spec_woColour
theorem TE1_9_ok : TE1_9.Ok Try.prog := TE1_8_ok.add ok_spec_woColour
theorem eq_impl_board_colour (wr : List UInt8) (ww : Int) (wh : Int) (wc : List UInt8) (wx : Int) (wy : Int) (wd : Int) (x : Int) (y : Int) (K : V → Prop) : VC_impl_board_colour wr ww wh wc wx wy wd x y K = vbody Try.prog (vin Try.prog TE1_9 annTE1 3) TE1_9.looks (annTE1 43) 43 [.agg [.str wr, .int .i64 ww, .int .i64 wh, .str wc, .int .i64 wx, .int .i64 wy, .int .i64 wd], .int .i64 x, .int .i64 y] [] fun v _ => K v := by kernel_rfl
theorem ok_impl_board_colour : OK Try.prog 43 F_impl_board_colour.spec := (vbody_ok (vin_ok TE1_9_ok annTE1 3) TE1_9_ok.looks _ _).ofF fun args m p R h hp => by
  unfold F_impl_board_colour at h
  split at h
  · injection h with h; injection h with h1 h2; subst h1; subst h2
    exact ⟨rfl, (congrArg At (eq_impl_board_colour _ _ _ _ _ _ _ _ _ _)).mp ⟨vc_impl_board_colour _ _ _ _ _ _ _ _ _ hp⟩⟩
  · cases h
def TE1_10 : Tab := TE1_9.add 43 F_impl_board_colour
theorem TE1_10_ok : TE1_10.Ok Try.prog := TE1_9_ok.add ok_impl_board_colour
theorem eq_laws_szWorld (wr : List UInt8) (ww : Int) (wh : Int) (wc : List UInt8) (wx : Int) (wy : Int) (wd : Int) (left : Int) (K : V → Prop) : VC_laws_szWorld wr ww wh wc wx wy wd left K = vbody Try.prog (vin Try.prog TE1_10 annTE1 3) TE1_10.looks (annTE1 12) 12 [.agg [.str wr, .int .i64 ww, .int .i64 wh, .str wc, .int .i64 wx, .int .i64 wy, .int .i64 wd], .int .i64 left] [] fun v _ => K v := by kernel_rfl
theorem ok_laws_szWorld : OK Try.prog 12 F_laws_szWorld.spec := (vbody_ok (vin_ok TE1_10_ok annTE1 3) TE1_10_ok.looks _ _).ofF fun args m p R h hp => by
  unfold F_laws_szWorld at h
  split at h
  · injection h with h; injection h with h1 h2; subst h1; subst h2
    exact ⟨rfl, (congrArg At (eq_laws_szWorld _ _ _ _ _ _ _ _ _)).mp ⟨vc_laws_szWorld _ _ _ _ _ _ _ _ hp⟩⟩
  · cases h
def TE1_11 : Tab := TE1_10.add 12 F_laws_szWorld
theorem TE1_11_ok : TE1_11.Ok Try.prog := TE1_10_ok.add ok_laws_szWorld
theorem eq_laws_eqWorld (ar : List UInt8) (aw : Int) (ah : Int) (ac : List UInt8) (ax : Int) (ay : Int) (ad : Int) (br : List UInt8) (bw : Int) (bh : Int) (bc : List UInt8) (bx : Int) (by_ : Int) (bd : Int) (K : V → Prop) : VC_laws_eqWorld ar aw ah ac ax ay ad br bw bh bc bx by_ bd K = vbody Try.prog (vin Try.prog TE1_11 annTE1 3) TE1_11.looks (annTE1 18) 18 [.agg [.str ar, .int .i64 aw, .int .i64 ah, .str ac, .int .i64 ax, .int .i64 ay, .int .i64 ad], .agg [.str br, .int .i64 bw, .int .i64 bh, .str bc, .int .i64 bx, .int .i64 by_, .int .i64 bd]] [] fun v _ => K v := by kernel_rfl
theorem ok_laws_eqWorld : OK Try.prog 18 F_laws_eqWorld.spec := (vbody_ok (vin_ok TE1_11_ok annTE1 3) TE1_11_ok.looks _ _).ofF fun args m p R h hp => by
  unfold F_laws_eqWorld at h
  split at h
  · injection h with h; injection h with h1 h2; subst h1; subst h2
    exact ⟨rfl, (congrArg At (eq_laws_eqWorld _ _ _ _ _ _ _ _ _ _ _ _ _ _ _)).mp ⟨vc_laws_eqWorld _ _ _ _ _ _ _ _ _ _ _ _ _ _ hp⟩⟩
  · cases h
def TE1_12 : Tab := TE1_11.add 18 F_laws_eqWorld
theorem TE1_12_ok : TE1_12.Ok Try.prog := TE1_11_ok.add ok_laws_eqWorld
theorem eq_spec_ColourAt (wr : List UInt8) (ww : Int) (wh : Int) (wc : List UInt8) (wx : Int) (wy : Int) (wd : Int) (x : Int) (y : Int) (K : V → Prop) : VC_spec_ColourAt wr ww wh wc wx wy wd x y K = vbody Try.prog (vin Try.prog TE1_12 annTE1 3) TE1_12.looks (annTE1 19) 19 [.agg [.str wr, .int .i64 ww, .int .i64 wh, .str wc, .int .i64 wx, .int .i64 wy, .int .i64 wd], .int .i64 x, .int .i64 y] [] fun v _ => K v := by kernel_rfl
theorem ok_spec_ColourAt : OK Try.prog 19 F_spec_ColourAt.spec := (vbody_ok (vin_ok TE1_12_ok annTE1 3) TE1_12_ok.looks _ _).ofF fun args m p R h hp => by
  unfold F_spec_ColourAt at h
  split at h
  · injection h with h; injection h with h1 h2; subst h1; subst h2
    exact ⟨rfl, (congrArg At (eq_spec_ColourAt _ _ _ _ _ _ _ _ _ _)).mp ⟨vc_spec_ColourAt _ _ _ _ _ _ _ _ _ hp⟩⟩
  · cases h
def TE1_13 : Tab := TE1_12.add 19 F_spec_ColourAt
theorem TE1_13_ok : TE1_13.Ok Try.prog := TE1_12_ok.add ok_spec_ColourAt
theorem eq_impl_ColourAt (wr : List UInt8) (ww : Int) (wh : Int) (wc : List UInt8) (wx : Int) (wy : Int) (wd : Int) (x : Int) (y : Int) (K : V → Prop) : VC_impl_ColourAt wr ww wh wc wx wy wd x y K = vbody Try.prog (vin Try.prog TE1_13 annTE1 4) TE1_13.looks (annTE1 20) 20 [.agg [.str wr, .int .i64 ww, .int .i64 wh, .str wc, .int .i64 wx, .int .i64 wy, .int .i64 wd], .int .i64 x, .int .i64 y] [] fun v _ => K v := by kernel_rfl
theorem ok_impl_ColourAt : OK Try.prog 20 F_impl_ColourAt.spec := (vbody_ok (vin_ok TE1_13_ok annTE1 4) TE1_13_ok.looks _ _).ofF fun args m p R h hp => by
  unfold F_impl_ColourAt at h
  split at h
  · injection h with h; injection h with h1 h2; subst h1; subst h2
    exact ⟨rfl, (congrArg At (eq_impl_ColourAt _ _ _ _ _ _ _ _ _ _)).mp ⟨vc_impl_ColourAt _ _ _ _ _ _ _ _ _ hp⟩⟩
  · cases h
def TE1_14 : Tab := TE1_13.add 20 F_impl_ColourAt
theorem TE1_14_ok : TE1_14.Ok Try.prog := TE1_13_ok.add ok_impl_ColourAt
theorem eq_spec_PlaceAnt (wr : List UInt8) (ww : Int) (wh : Int) (wc : List UInt8) (wx : Int) (wy : Int) (wd : Int) (x : Int) (y : Int) (d : Int) (K : V → Prop) : VC_spec_PlaceAnt wr ww wh wc wx wy wd x y d K = vbody Try.prog (vin Try.prog TE1_14 annTE1 3) TE1_14.looks (annTE1 21) 21 [.agg [.str wr, .int .i64 ww, .int .i64 wh, .str wc, .int .i64 wx, .int .i64 wy, .int .i64 wd], .int .i64 x, .int .i64 y, .int .i64 d] [] fun v _ => K v := by kernel_rfl
theorem ok_spec_PlaceAnt : OK Try.prog 21 F_spec_PlaceAnt.spec := (vbody_ok (vin_ok TE1_14_ok annTE1 3) TE1_14_ok.looks _ _).ofF fun args m p R h hp => by
  unfold F_spec_PlaceAnt at h
  split at h
  · injection h with h; injection h with h1 h2; subst h1; subst h2
    exact ⟨rfl, (congrArg At (eq_spec_PlaceAnt _ _ _ _ _ _ _ _ _ _ _)).mp ⟨vc_spec_PlaceAnt _ _ _ _ _ _ _ _ _ _ hp⟩⟩
  · cases h
def TE1_15 : Tab := TE1_14.add 21 F_spec_PlaceAnt
theorem TE1_15_ok : TE1_15.Ok Try.prog := TE1_14_ok.add ok_spec_PlaceAnt
theorem eq_impl_PlaceAnt (wr : List UInt8) (ww : Int) (wh : Int) (wc : List UInt8) (wx : Int) (wy : Int) (wd : Int) (x : Int) (y : Int) (d : Int) (K : V → Prop) : VC_impl_PlaceAnt wr ww wh wc wx wy wd x y d K = vbody Try.prog (vin Try.prog TE1_15 annTE1 4) TE1_15.looks (annTE1 22) 22 [.agg [.str wr, .int .i64 ww, .int .i64 wh, .str wc, .int .i64 wx, .int .i64 wy, .int .i64 wd], .int .i64 x, .int .i64 y, .int .i64 d] [] fun v _ => K v := by kernel_rfl
theorem ok_impl_PlaceAnt : OK Try.prog 22 F_impl_PlaceAnt.spec := (vbody_ok (vin_ok TE1_15_ok annTE1 4) TE1_15_ok.looks _ _).ofF fun args m p R h hp => by
  unfold F_impl_PlaceAnt at h
  split at h
  · injection h with h; injection h with h1 h2; subst h1; subst h2
    exact ⟨rfl, (congrArg At (eq_impl_PlaceAnt _ _ _ _ _ _ _ _ _ _ _)).mp ⟨vc_impl_PlaceAnt _ _ _ _ _ _ _ _ _ _ hp⟩⟩
  · cases h
def TE1_16 : Tab := TE1_15.add 22 F_impl_PlaceAnt
theorem TE1_16_ok : TE1_16.Ok Try.prog := TE1_15_ok.add ok_impl_PlaceAnt
theorem ok_strings_Repeat : OK Try.prog 40 F_strings_Repeat.spec := Go.Proofs.Try.libRepeat
def TE1_17 : Tab := TE1_16.add 40 F_strings_Repeat
theorem TE1_17_ok : TE1_17.Ok Try.prog := TE1_16_ok.add ok_strings_Repeat
theorem eq_spec_woZeros (n : Int) (K : V → Prop) : VC_spec_woZeros n K = vbody Try.prog (vin Try.prog TE1_17 annTE1 3) TE1_17.looks (annTE1 39) 39 [.int .i64 n] [] fun v _ => K v := by kernel_rfl
theorem ok_spec_woZeros : OK Try.prog 39 F_spec_woZeros.spec := (vbody_ok (vin_ok TE1_17_ok annTE1 3) TE1_17_ok.looks _ _).ofF fun args m p R h hp => by
  unfold F_spec_woZeros at h
  split at h
  · injection h with h; injection h with h1 h2; subst h1; subst h2
    exact ⟨rfl, (congrArg At (eq_spec_woZeros _ _)).mp ⟨vc_spec_woZeros _ hp⟩⟩
  · cases h
def TE1_18 : Tab := TE1_17.add 39 F_spec_woZeros
theorem TE1_18_ok : TE1_18.Ok Try.prog := TE1_17_ok.add ok_spec_woZeros
theorem eq_spec_EmptyWorld (r : List UInt8) (w : Int) (h : Int) (K : V → Prop) : VC_spec_EmptyWorld r w h K = vbody Try.prog (vin Try.prog TE1_18 annTE1 3) TE1_18.looks (annTE1 16) 16 [.str r, .int .i64 w, .int .i64 h] [] fun v _ => K v := by kernel_rfl
theorem ok_spec_EmptyWorld : OK Try.prog 16 F_spec_EmptyWorld.spec := (vbody_ok (vin_ok TE1_18_ok annTE1 3) TE1_18_ok.looks _ _).ofF fun args m p R h hp => by
  unfold F_spec_EmptyWorld at h
  split at h
  · injection h with h; injection h with h1 h2; subst h1; subst h2
    exact ⟨rfl, (congrArg At (eq_spec_EmptyWorld _ _ _ _)).mp ⟨vc_spec_EmptyWorld _ _ _ hp⟩⟩
  · cases h
def TE1_19 : Tab := TE1_18.add 16 F_spec_EmptyWorld
theorem TE1_19_ok : TE1_19.Ok Try.prog := TE1_18_ok.add ok_spec_EmptyWorld
theorem eq_impl_EmptyWorld (r : List UInt8) (w : Int) (h : Int) (K : V → Prop) : VC_impl_EmptyWorld r w h K = vbody Try.prog (vin Try.prog TE1_19 annTE1 4) TE1_19.looks (annTE1 17) 17 [.str r, .int .i64 w, .int .i64 h] [] fun v _ => K v := by kernel_rfl
theorem ok_impl_EmptyWorld : OK Try.prog 17 F_impl_EmptyWorld.spec := (vbody_ok (vin_ok TE1_19_ok annTE1 4) TE1_19_ok.looks _ _).ofF fun args m p R h hp => by
  unfold F_impl_EmptyWorld at h
  split at h
  · injection h with h; injection h with h1 h2; subst h1; subst h2
    exact ⟨rfl, (congrArg At (eq_impl_EmptyWorld _ _ _ _)).mp ⟨vc_impl_EmptyWorld _ _ _ hp⟩⟩
  · cases h
def TE1_20 : Tab := TE1_19.add 17 F_impl_EmptyWorld
theorem TE1_20_ok : TE1_20.Ok Try.prog := TE1_19_ok.add ok_impl_EmptyWorld
def TE1 : Tab := TE1_20
theorem TE1_ok : TE1.Ok Try.prog := TE1_20_ok
end Go.Proofs.Ytccahaefpbkelaa
