/- The contracts of this chapter. -/
import Derived.Test.YteleacldecambaaProg
import Derived.Test.YteleacldecambaaN2Pf
import Derived.KernelRfl
namespace Go.Proofs.Yteleacldecambaa
open Go Go.Vi
set_option linter.unusedVariables false
def annTN2 : FuncId → Nat → St → Option Ann := fun f => if f = 81 then ann_impl_relaidCells else if f = 72 then ann_spec_woRule else if f = 77 then ann_impl_IsRule else if f = 35 then ann_spec_woGood else if f = 79 then ann_impl_areColours else if f = 41 then ann_spec_woOther else if f = 43 then ann_impl_exchanged else if f = 73 then ann_spec_woZeros else if f = 36 then ann_spec_woMap else (fun _ _ => none)
def TN2_0 : Tab := Tab.none
theorem TN2_0_ok : TN2_0.Ok Try.prog := Tab.none_ok
theorem eq_spec_l1In (n : Int) (lo : Int) (hi : Int) (K : V → Prop) : VC_spec_l1In n lo hi K = vbody Try.prog (vin Try.prog TN2_0 annTN2 3) TN2_0.looks (annTN2 66) 66 [.int .i64 n, .int .i64 lo, .int .i64 hi] [] (fun v _ => K v) := by kernel_rfl
theorem ok_spec_l1In : OK Try.prog 66 F_spec_l1In.spec := (vbody_ok (vin_ok TN2_0_ok annTN2 3) TN2_0_ok.looks _ _).ofF fun args m p R h hp => by
  unfold F_spec_l1In at h
  split at h
  · injection h with h; injection h with h1 h2; subst h1; subst h2
    exact ⟨rfl, (congrArg At (eq_spec_l1In _ _ _ _)).mp ⟨vc_spec_l1In _ _ _ hp⟩⟩
  · cases h
def TN2_1 : Tab := TN2_0.add 66 F_spec_l1In
theorem TN2_1_ok : TN2_1.Ok Try.prog := TN2_0_ok.add ok_spec_l1In
theorem eq_impl_within (n : Int) (lo : Int) (hi : Int) (K : V → Prop) : VC_impl_within n lo hi K = vbody Try.prog (vin Try.prog TN2_1 annTN2 3) TN2_1.looks (annTN2 68) 68 [.int .i64 n, .int .i64 lo, .int .i64 hi] [] (fun v _ => K v) := by kernel_rfl
theorem ok_impl_within : OK Try.prog 68 F_impl_within.spec := (vbody_ok (vin_ok TN2_1_ok annTN2 3) TN2_1_ok.looks _ _).ofF fun args m p R h hp => by
  unfold F_impl_within at h
  split at h
  · injection h with h; injection h with h1 h2; subst h1; subst h2
    exact ⟨rfl, (congrArg At (eq_impl_within _ _ _ _)).mp ⟨vc_impl_within _ _ _ hp⟩⟩
  · cases h
def TN2_2 : Tab := TN2_1.add 68 F_impl_within
theorem TN2_2_ok : TN2_2.Ok Try.prog := TN2_1_ok.add ok_impl_within
theorem eq_impl_digit (b : Int) (K : V → Prop) : VC_impl_digit b K = vbody Try.prog (vin Try.prog TN2_2 annTN2 3) TN2_2.looks (annTN2 100) 100 [.int .u8 b] [] (fun v _ => K v) := by kernel_rfl
theorem ok_impl_digit : OK Try.prog 100 F_impl_digit.spec := (vbody_ok (vin_ok TN2_2_ok annTN2 3) TN2_2_ok.looks _ _).ofF fun args m p R h hp => by
  unfold F_impl_digit at h
  split at h
  · injection h with h; injection h with h1 h2; subst h1; subst h2
    exact ⟨rfl, (congrArg At (eq_impl_digit _ _)).mp ⟨vc_impl_digit _ hp⟩⟩
  · cases h
def TN2_3 : Tab := TN2_2.add 100 F_impl_digit
theorem TN2_3_ok : TN2_3.Ok Try.prog := TN2_2_ok.add ok_impl_digit
theorem eq_spec_woRule (s : List UInt8) (K : V → Prop) : VC_spec_woRule s K = vbody Try.prog (vin Try.prog TN2_3 annTN2 3) TN2_3.looks (annTN2 72) 72 [.str s] [] (fun v _ => K v) := by kernel_rfl
theorem ok_spec_woRule : OK Try.prog 72 F_spec_woRule.spec := (vbody_ok (vin_ok TN2_3_ok annTN2 3) TN2_3_ok.looks _ _).ofF fun args m p R h hp => by
  unfold F_spec_woRule at h
  split at h
  · injection h with h; injection h with h1 h2; subst h1; subst h2
    exact ⟨rfl, (congrArg At (eq_spec_woRule _ _)).mp ⟨vc_spec_woRule _ hp⟩⟩
  · cases h
def TN2_4 : Tab := TN2_3.add 72 F_spec_woRule
theorem TN2_4_ok : TN2_4.Ok Try.prog := TN2_3_ok.add ok_spec_woRule
theorem eq_impl_IsRule (s : List UInt8) (K : V → Prop) : VC_impl_IsRule s K = vbody Try.prog (vin Try.prog TN2_4 annTN2 3) TN2_4.looks (annTN2 77) 77 [.str s] [] (fun v _ => K v) := by kernel_rfl
theorem ok_impl_IsRule : OK Try.prog 77 F_impl_IsRule.spec := (vbody_ok (vin_ok TN2_4_ok annTN2 3) TN2_4_ok.looks _ _).ofF fun args m p R h hp => by
  unfold F_impl_IsRule at h
  split at h
  · injection h with h; injection h with h1 h2; subst h1; subst h2
    exact ⟨rfl, (congrArg At (eq_impl_IsRule _ _)).mp ⟨vc_impl_IsRule _ hp⟩⟩
  · cases h
def TN2_5 : Tab := TN2_4.add 77 F_impl_IsRule
theorem TN2_5_ok : TN2_5.Ok Try.prog := TN2_4_ok.add ok_impl_IsRule
theorem eq_spec_woGood (wr : List UInt8) (ww : Int) (wh : Int) (wc : List UInt8) (wx : Int) (wy : Int) (wd : Int) (K : V → Prop) : VC_spec_woGood wr ww wh wc wx wy wd K = vbody Try.prog (vin Try.prog TN2_5 annTN2 3) TN2_5.looks (annTN2 35) 35 [.agg [.str wr, .int .i64 ww, .int .i64 wh, .str wc, .int .i64 wx, .int .i64 wy, .int .i64 wd]] [] (fun v _ => K v) := by kernel_rfl
theorem ok_spec_woGood : OK Try.prog 35 F_spec_woGood.spec := (vbody_ok (vin_ok TN2_5_ok annTN2 3) TN2_5_ok.looks _ _).ofF fun args m p R h hp => by
  unfold F_spec_woGood at h
  split at h
  · injection h with h; injection h with h1 h2; subst h1; subst h2
    exact ⟨rfl, (congrArg At (eq_spec_woGood _ _ _ _ _ _ _ _)).mp ⟨vc_spec_woGood _ _ _ _ _ _ _ hp⟩⟩
  · cases h
def TN2_6 : Tab := TN2_5.add 35 F_spec_woGood
theorem TN2_6_ok : TN2_6.Ok Try.prog := TN2_5_ok.add ok_spec_woGood
theorem eq_impl_areColours (s : List UInt8) (n : Int) (K : V → Prop) : VC_impl_areColours s n K = vbody Try.prog (vin Try.prog TN2_6 annTN2 3) TN2_6.looks (annTN2 79) 79 [.str s, .int .i64 n] [] (fun v _ => K v) := by kernel_rfl
theorem ok_impl_areColours : OK Try.prog 79 F_impl_areColours.spec := (vbody_ok (vin_ok TN2_6_ok annTN2 3) TN2_6_ok.looks _ _).ofF fun args m p R h hp => by
  unfold F_impl_areColours at h
  split at h
  · injection h with h; injection h with h1 h2; subst h1; subst h2
    exact ⟨rfl, (congrArg At (eq_impl_areColours _ _ _)).mp ⟨vc_impl_areColours _ _ hp⟩⟩
  · cases h
def TN2_7 : Tab := TN2_6.add 79 F_impl_areColours
theorem TN2_7_ok : TN2_7.Ok Try.prog := TN2_6_ok.add ok_impl_areColours
theorem eq_impl_IsWorld (wr : List UInt8) (ww : Int) (wh : Int) (wc : List UInt8) (wx : Int) (wy : Int) (wd : Int) (K : V → Prop) : VC_impl_IsWorld wr ww wh wc wx wy wd K = vbody Try.prog (vin Try.prog TN2_7 annTN2 4) TN2_7.looks (annTN2 37) 37 [.agg [.str wr, .int .i64 ww, .int .i64 wh, .str wc, .int .i64 wx, .int .i64 wy, .int .i64 wd]] [] (fun v _ => K v) := by kernel_rfl
theorem ok_impl_IsWorld : OK Try.prog 37 F_impl_IsWorld.spec := (vbody_ok (vin_ok TN2_7_ok annTN2 4) TN2_7_ok.looks _ _).ofF fun args m p R h hp => by
  unfold F_impl_IsWorld at h
  split at h
  · injection h with h; injection h with h1 h2; subst h1; subst h2
    exact ⟨rfl, (congrArg At (eq_impl_IsWorld _ _ _ _ _ _ _ _)).mp ⟨vc_impl_IsWorld _ _ _ _ _ _ _ hp⟩⟩
  · cases h
def TN2_8 : Tab := TN2_7.add 37 F_impl_IsWorld
theorem TN2_8_ok : TN2_8.Ok Try.prog := TN2_7_ok.add ok_impl_IsWorld
theorem eq_spec_woColour (wr : List UInt8) (ww : Int) (wh : Int) (wc : List UInt8) (wx : Int) (wy : Int) (wd : Int) (x : Int) (y : Int) (K : V → Prop) : VC_spec_woColour wr ww wh wc wx wy wd x y K = vbody Try.prog (vin Try.prog TN2_8 annTN2 3) TN2_8.looks (annTN2 76) 76 [.agg [.str wr, .int .i64 ww, .int .i64 wh, .str wc, .int .i64 wx, .int .i64 wy, .int .i64 wd], .int .i64 x, .int .i64 y] [] (fun v _ => K v) := by kernel_rfl
theorem ok_spec_woColour : OK Try.prog 76 F_spec_woColour.spec := (vbody_ok (vin_ok TN2_8_ok annTN2 3) TN2_8_ok.looks _ _).ofF fun args m p R h hp => by
  unfold F_spec_woColour at h
  split at h
  · injection h with h; injection h with h1 h2; subst h1; subst h2
    exact ⟨rfl, (congrArg At (eq_spec_woColour _ _ _ _ _ _ _ _ _ _)).mp ⟨vc_spec_woColour _ _ _ _ _ _ _ _ _ hp⟩⟩
  · cases h
def TN2_9 : Tab := TN2_8.add 76 F_spec_woColour
theorem TN2_9_ok : TN2_9.Ok Try.prog := TN2_8_ok.add ok_spec_woColour
theorem eq_laws_szWorld (wr : List UInt8) (ww : Int) (wh : Int) (wc : List UInt8) (wx : Int) (wy : Int) (wd : Int) (left : Int) (K : V → Prop) : VC_laws_szWorld wr ww wh wc wx wy wd left K = vbody Try.prog (vin Try.prog TN2_9 annTN2 3) TN2_9.looks (annTN2 11) 11 [.agg [.str wr, .int .i64 ww, .int .i64 wh, .str wc, .int .i64 wx, .int .i64 wy, .int .i64 wd], .int .i64 left] [] (fun v _ => K v) := by kernel_rfl
theorem ok_laws_szWorld : OK Try.prog 11 F_laws_szWorld.spec := (vbody_ok (vin_ok TN2_9_ok annTN2 3) TN2_9_ok.looks _ _).ofF fun args m p R h hp => by
  unfold F_laws_szWorld at h
  split at h
  · injection h with h; injection h with h1 h2; subst h1; subst h2
    exact ⟨rfl, (congrArg At (eq_laws_szWorld _ _ _ _ _ _ _ _ _)).mp ⟨vc_laws_szWorld _ _ _ _ _ _ _ _ hp⟩⟩
  · cases h
def TN2_10 : Tab := TN2_9.add 11 F_laws_szWorld
theorem TN2_10_ok : TN2_10.Ok Try.prog := TN2_9_ok.add ok_laws_szWorld
theorem eq_laws_eqWorld (ar : List UInt8) (aw : Int) (ah : Int) (ac : List UInt8) (ax : Int) (ay : Int) (ad : Int) (br : List UInt8) (bw : Int) (bh : Int) (bc : List UInt8) (bx : Int) (by_ : Int) (bd : Int) (K : V → Prop) : VC_laws_eqWorld ar aw ah ac ax ay ad br bw bh bc bx by_ bd K = vbody Try.prog (vin Try.prog TN2_10 annTN2 3) TN2_10.looks (annTN2 15) 15 [.agg [.str ar, .int .i64 aw, .int .i64 ah, .str ac, .int .i64 ax, .int .i64 ay, .int .i64 ad], .agg [.str br, .int .i64 bw, .int .i64 bh, .str bc, .int .i64 bx, .int .i64 by_, .int .i64 bd]] [] (fun v _ => K v) := by kernel_rfl
theorem ok_laws_eqWorld : OK Try.prog 15 F_laws_eqWorld.spec := (vbody_ok (vin_ok TN2_10_ok annTN2 3) TN2_10_ok.looks _ _).ofF fun args m p R h hp => by
  unfold F_laws_eqWorld at h
  split at h
  · injection h with h; injection h with h1 h2; subst h1; subst h2
    exact ⟨rfl, (congrArg At (eq_laws_eqWorld _ _ _ _ _ _ _ _ _ _ _ _ _ _ _)).mp ⟨vc_laws_eqWorld _ _ _ _ _ _ _ _ _ _ _ _ _ _ hp⟩⟩
  · cases h
def TN2_11 : Tab := TN2_10.add 15 F_laws_eqWorld
theorem TN2_11_ok : TN2_11.Ok Try.prog := TN2_10_ok.add ok_laws_eqWorld
theorem eq_spec_l1Num (n : Int) (K : V → Prop) : VC_spec_l1Num n K = vbody Try.prog (vin Try.prog TN2_11 annTN2 0) TN2_11.looks (annTN2 98) 98 [.int .i64 n] [] (fun v _ => K v) := by kernel_rfl
theorem ok_spec_l1Num : OK Try.prog 98 F_spec_l1Num.spec := (vbody_ok (vin_ok TN2_11_ok annTN2 0) TN2_11_ok.looks _ _).ofF fun args m p R h hp => by
  unfold F_spec_l1Num at h
  split at h
  · injection h with h; injection h with h1 h2; subst h1; subst h2
    exact ⟨rfl, (congrArg At (eq_spec_l1Num _ _)).mp ⟨vc_spec_l1Num _ hp⟩⟩
  · cases h
def TN2_12 : Tab := TN2_11.add 98 F_spec_l1Num
theorem TN2_12_ok : TN2_12.Ok Try.prog := TN2_11_ok.add ok_spec_l1Num
theorem eq_spec_l1Mod (n : Int) (m : Int) (K : V → Prop) : VC_spec_l1Mod n m K = vbody Try.prog (vin Try.prog TN2_12 annTN2 3) TN2_12.looks (annTN2 74) 74 [.int .i64 n, .int .i64 m] [] (fun v _ => K v) := by kernel_rfl
theorem ok_spec_l1Mod : OK Try.prog 74 F_spec_l1Mod.spec := (vbody_ok (vin_ok TN2_12_ok annTN2 3) TN2_12_ok.looks _ _).ofF fun args m p R h hp => by
  unfold F_spec_l1Mod at h
  split at h
  · injection h with h; injection h with h1 h2; subst h1; subst h2
    exact ⟨rfl, (congrArg At (eq_spec_l1Mod _ _ _)).mp ⟨vc_spec_l1Mod _ _ hp⟩⟩
  · cases h
def TN2_13 : Tab := TN2_12.add 74 F_spec_l1Mod
theorem TN2_13_ok : TN2_13.Ok Try.prog := TN2_12_ok.add ok_spec_l1Mod
theorem eq_impl_board_turned (wr : List UInt8) (ww : Int) (wh : Int) (wc : List UInt8) (wx : Int) (wy : Int) (wd : Int) (q : Int) (K : V → Prop) : VC_impl_board_turned wr ww wh wc wx wy wd q K = vbody Try.prog (vin Try.prog TN2_13 annTN2 3) TN2_13.looks (annTN2 40) 40 [.agg [.str wr, .int .i64 ww, .int .i64 wh, .str wc, .int .i64 wx, .int .i64 wy, .int .i64 wd], .int .i64 q] [] (fun v _ => K v) := by kernel_rfl
theorem ok_impl_board_turned : OK Try.prog 40 F_impl_board_turned.spec := (vbody_ok (vin_ok TN2_13_ok annTN2 3) TN2_13_ok.looks _ _).ofF fun args m p R h hp => by
  unfold F_impl_board_turned at h
  split at h
  · injection h with h; injection h with h1 h2; subst h1; subst h2
    exact ⟨rfl, (congrArg At (eq_impl_board_turned _ _ _ _ _ _ _ _ _)).mp ⟨vc_impl_board_turned _ _ _ _ _ _ _ _ hp⟩⟩
  · cases h
def TN2_14 : Tab := TN2_13.add 40 F_impl_board_turned
theorem TN2_14_ok : TN2_14.Ok Try.prog := TN2_13_ok.add ok_impl_board_turned
theorem eq_spec_woPaint (x : Int) (y : Int) (k : Int) (wr : List UInt8) (ww : Int) (wh : Int) (wc : List UInt8) (wx : Int) (wy : Int) (wd : Int) (e : TypeId) (K : V → List Blk → Prop) : VC_spec_woPaint x y k wr ww wh wc wx wy wd e K = vbody Try.prog (vin Try.prog TN2_14 annTN2 3) TN2_14.looks (annTN2 75) 75 [.ptr 0 0, .int .i64 x, .int .i64 y, .int .i64 k] [⟨.vals [.str wr, .int .i64 ww, .int .i64 wh, .str wc, .int .i64 wx, .int .i64 wy, .int .i64 wd], e, .box⟩] (K) := by kernel_rfl
theorem ok_spec_woPaint : OK Try.prog 75 F_spec_woPaint.spec := (vbody_ok (vin_ok TN2_14_ok annTN2 3) TN2_14_ok.looks _ _).ofG fun args m p R M h hp => by
  unfold F_spec_woPaint at h
  split at h
  · injection h with h; injection h with h1 h2; injection h2 with h2 h3; subst h1; subst h2; subst h3
    exact (congrArg At (eq_spec_woPaint _ _ _ _ _ _ _ _ _ _ _ _)).mp ⟨vc_spec_woPaint _ _ _ _ _ _ _ _ _ _ _ hp⟩
  · cases h
def TN2_15 : Tab := TN2_14.addG 75 F_spec_woPaint
theorem TN2_15_ok : TN2_15.Ok Try.prog := TN2_14_ok.addG ok_spec_woPaint
theorem eq_spec_woOther (s : List UInt8) (K : V → Prop) : VC_spec_woOther s K = vbody Try.prog (vin Try.prog TN2_15 annTN2 3) TN2_15.looks (annTN2 41) 41 [.str s] [] (fun v _ => K v) := by kernel_rfl
theorem ok_spec_woOther : OK Try.prog 41 F_spec_woOther.spec := (vbody_ok (vin_ok TN2_15_ok annTN2 3) TN2_15_ok.looks _ _).ofF fun args m p R h hp => by
  unfold F_spec_woOther at h
  split at h
  · injection h with h; injection h with h1 h2; subst h1; subst h2
    exact ⟨rfl, (congrArg At (eq_spec_woOther _ _)).mp ⟨vc_spec_woOther _ hp⟩⟩
  · cases h
def TN2_16 : Tab := TN2_15.add 41 F_spec_woOther
theorem TN2_16_ok : TN2_16.Ok Try.prog := TN2_15_ok.add ok_spec_woOther
theorem eq_impl_exchanged (s : List UInt8) (K : V → Prop) : VC_impl_exchanged s K = vbody Try.prog (vin Try.prog TN2_16 annTN2 3) TN2_16.looks (annTN2 43) 43 [.str s] [] (fun v _ => K v) := by kernel_rfl
theorem ok_impl_exchanged : OK Try.prog 43 F_impl_exchanged.spec := (vbody_ok (vin_ok TN2_16_ok annTN2 3) TN2_16_ok.looks _ _).ofF fun args m p R h hp => by
  unfold F_impl_exchanged at h
  split at h
  · injection h with h; injection h with h1 h2; subst h1; subst h2
    exact ⟨rfl, (congrArg At (eq_impl_exchanged _ _)).mp ⟨vc_impl_exchanged _ hp⟩⟩
  · cases h
def TN2_17 : Tab := TN2_16.add 43 F_impl_exchanged
theorem TN2_17_ok : TN2_17.Ok Try.prog := TN2_16_ok.add ok_impl_exchanged
theorem eq_spec_woZeros (n : Int) (K : V → Prop) : VC_spec_woZeros n K = vbody Try.prog (vin Try.prog TN2_17 annTN2 3) TN2_17.looks (annTN2 73) 73 [.int .i64 n] [] (fun v _ => K v) := by kernel_rfl
theorem ok_spec_woZeros : OK Try.prog 73 F_spec_woZeros.spec := (vbody_ok (vin_ok TN2_17_ok annTN2 3) TN2_17_ok.looks _ _).ofF fun args m p R h hp => by
  unfold F_spec_woZeros at h
  split at h
  · injection h with h; injection h with h1 h2; subst h1; subst h2
    exact ⟨rfl, (congrArg At (eq_spec_woZeros _ _)).mp ⟨vc_spec_woZeros _ hp⟩⟩
  · cases h
def TN2_18 : Tab := TN2_17.add 73 F_spec_woZeros
theorem TN2_18_ok : TN2_18.Ok Try.prog := TN2_17_ok.add ok_spec_woZeros
theorem eq_spec_woMap (wr : List UInt8) (ww : Int) (wh : Int) (wc : List UInt8) (wx : Int) (wy : Int) (wd : Int) (width : Int) (height : Int) (b0 : Int) (b1 : Int) (b2 : Int) (b3 : Int) (b4 : Int) (b5 : Int) (K : V → Prop) : VC_spec_woMap wr ww wh wc wx wy wd width height b0 b1 b2 b3 b4 b5 K = vbody Try.prog (vin Try.prog TN2_18 annTN2 4) TN2_18.looks (annTN2 36) 36 [.agg [.str wr, .int .i64 ww, .int .i64 wh, .str wc, .int .i64 wx, .int .i64 wy, .int .i64 wd], .int .i64 width, .int .i64 height, .agg [.int .i64 b0, .int .i64 b1, .int .i64 b2, .int .i64 b3, .int .i64 b4, .int .i64 b5]] [] (fun v _ => K v) := by kernel_rfl
theorem ok_spec_woMap : OK Try.prog 36 F_spec_woMap.spec := (vbody_ok (vin_ok TN2_18_ok annTN2 4) TN2_18_ok.looks _ _).ofF fun args m p R h hp => by
  unfold F_spec_woMap at h
  split at h
  · injection h with h; injection h with h1 h2; subst h1; subst h2
    exact ⟨rfl, (congrArg At (eq_spec_woMap _ _ _ _ _ _ _ _ _ _ _ _ _ _ _ _)).mp ⟨vc_spec_woMap _ _ _ _ _ _ _ _ _ _ _ _ _ _ _ hp⟩⟩
  · cases h
def TN2_19 : Tab := TN2_18.add 36 F_spec_woMap
theorem TN2_19_ok : TN2_19.Ok Try.prog := TN2_18_ok.add ok_spec_woMap
theorem eq_spec_ShiftWorld (wr : List UInt8) (ww : Int) (wh : Int) (wc : List UInt8) (wx : Int) (wy : Int) (wd : Int) (right : Int) (down : Int) (K : V → Prop) : VC_spec_ShiftWorld wr ww wh wc wx wy wd right down K = vbody Try.prog (vin Try.prog TN2_19 annTN2 3) TN2_19.looks (annTN2 18) 18 [.agg [.str wr, .int .i64 ww, .int .i64 wh, .str wc, .int .i64 wx, .int .i64 wy, .int .i64 wd], .int .i64 right, .int .i64 down] [] (fun v _ => K v) := by kernel_rfl
theorem ok_spec_ShiftWorld : OK Try.prog 18 F_spec_ShiftWorld.spec := (vbody_ok (vin_ok TN2_19_ok annTN2 3) TN2_19_ok.looks _ _).ofF fun args m p R h hp => by
  unfold F_spec_ShiftWorld at h
  split at h
  · injection h with h; injection h with h1 h2; subst h1; subst h2
    exact ⟨rfl, (congrArg At (eq_spec_ShiftWorld _ _ _ _ _ _ _ _ _ _)).mp ⟨vc_spec_ShiftWorld _ _ _ _ _ _ _ _ _ hp⟩⟩
  · cases h
def TN2_20 : Tab := TN2_19.add 18 F_spec_ShiftWorld
theorem TN2_20_ok : TN2_20.Ok Try.prog := TN2_19_ok.add ok_spec_ShiftWorld
theorem eq_impl_ShiftWorld_1 (x : Int) (y : Int) (right : Int) (down : Int) (wr : List UInt8) (ww : Int) (wh : Int) (wc : List UInt8) (wx : Int) (wy : Int) (wd : Int) (K : V → List Blk → Prop) : VC_impl_ShiftWorld_1 x y right down wr ww wh wc wx wy wd K = vbody Try.prog (vin Try.prog TN2_20 annTN2 3) TN2_20.looks (annTN2 46) 46 [.int .i64 x, .int .i64 y, .ptr 0 0, .ptr 1 0, .ptr 2 0] [⟨.vals [.int .i64 right], 3, .box⟩, ⟨.vals [.str wr, .int .i64 ww, .int .i64 wh, .str wc, .int .i64 wx, .int .i64 wy, .int .i64 wd], 25, .box⟩, ⟨.vals [.int .i64 down], 3, .box⟩] (K) := by kernel_rfl
theorem ok_impl_ShiftWorld_1 : OK Try.prog 46 F_impl_ShiftWorld_1.spec := (vbody_ok (vin_ok TN2_20_ok annTN2 3) TN2_20_ok.looks _ _).ofFM fun args m p R h hp => by
  unfold F_impl_ShiftWorld_1 at h
  split at h
  · injection h with h; injection h with h1 h2; subst h1; subst h2
    exact (congrArg At (eq_impl_ShiftWorld_1 _ _ _ _ _ _ _ _ _ _ _ _)).mp ⟨vc_impl_ShiftWorld_1 _ _ _ _ _ _ _ _ _ _ _ hp⟩
  · cases h
def TN2_21 : Tab := TN2_20.add 46 F_impl_ShiftWorld_1
theorem TN2_21_ok : TN2_21.Ok Try.prog := TN2_20_ok.add ok_impl_ShiftWorld_1
theorem eq_impl_ShiftWorld (wr : List UInt8) (ww : Int) (wh : Int) (wc : List UInt8) (wx : Int) (wy : Int) (wd : Int) (right : Int) (down : Int) (K : V → Prop) : VC_impl_ShiftWorld wr ww wh wc wx wy wd right down K = vbody Try.prog (vin Try.prog TN2_21 annTN2 4) TN2_21.looks (annTN2 19) 19 [.agg [.str wr, .int .i64 ww, .int .i64 wh, .str wc, .int .i64 wx, .int .i64 wy, .int .i64 wd], .int .i64 right, .int .i64 down] [] (fun v _ => K v) := by kernel_rfl
theorem ok_impl_ShiftWorld : OK Try.prog 19 F_impl_ShiftWorld.spec := (vbody_ok (vin_ok TN2_21_ok annTN2 4) TN2_21_ok.looks _ _).ofF fun args m p R h hp => by
  unfold F_impl_ShiftWorld at h
  split at h
  · injection h with h; injection h with h1 h2; subst h1; subst h2
    exact ⟨rfl, (congrArg At (eq_impl_ShiftWorld _ _ _ _ _ _ _ _ _ _)).mp ⟨vc_impl_ShiftWorld _ _ _ _ _ _ _ _ _ hp⟩⟩
  · cases h
def TN2_22 : Tab := TN2_21.add 19 F_impl_ShiftWorld
theorem TN2_22_ok : TN2_22.Ok Try.prog := TN2_21_ok.add ok_impl_ShiftWorld
def TN2 : Tab := TN2_22
theorem TN2_ok : TN2.Ok Try.prog := TN2_22_ok
end Go.Proofs.Yteleacldecambaa
