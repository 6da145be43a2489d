/- The contracts of this chapter. -/
import Derived.Test.YteleacldecambaaProg
import Derived.Test.YteleacldecambaaM2Pf
import Derived.KernelRfl
namespace Go.Proofs.Yteleacldecambaa
open Go Go.Vi
set_option linter.unusedVariables false
def annTM2 : FuncId → Nat → St → Option Ann := fun f => if f = 81 then ann_impl_relaidCells else if f = 72 then ann_spec_woRule else if f = 77 then ann_impl_IsRule else if f = 35 then ann_spec_woGood else if f = 79 then ann_impl_areColours else if f = 41 then ann_spec_woOther else if f = 43 then ann_impl_exchanged else if f = 73 then ann_spec_woZeros else if f = 36 then ann_spec_woMap else (fun _ _ => none)
def TM2_0 : Tab := Tab.none
theorem TM2_0_ok : TM2_0.Ok Try.prog := Tab.none_ok
theorem eq_spec_l1In (n : Int) (lo : Int) (hi : Int) (K : V → Prop) : VC_spec_l1In n lo hi K = vbody Try.prog (vin Try.prog TM2_0 annTM2 3) TM2_0.looks (annTM2 66) 66 [.int .i64 n, .int .i64 lo, .int .i64 hi] [] (fun v _ => K v) := by kernel_rfl
theorem ok_spec_l1In : OK Try.prog 66 F_spec_l1In.spec := (vbody_ok (vin_ok TM2_0_ok annTM2 3) TM2_0_ok.looks _ _).ofF fun args m p R h hp => by
  unfold F_spec_l1In at h
  split at h
  · injection h with h; injection h with h1 h2; subst h1; subst h2
    exact ⟨rfl, (congrArg At (eq_spec_l1In _ _ _ _)).mp ⟨vc_spec_l1In _ _ _ hp⟩⟩
  · cases h
def TM2_1 : Tab := TM2_0.add 66 F_spec_l1In
theorem TM2_1_ok : TM2_1.Ok Try.prog := TM2_0_ok.add ok_spec_l1In
theorem eq_impl_within (n : Int) (lo : Int) (hi : Int) (K : V → Prop) : VC_impl_within n lo hi K = vbody Try.prog (vin Try.prog TM2_1 annTM2 3) TM2_1.looks (annTM2 68) 68 [.int .i64 n, .int .i64 lo, .int .i64 hi] [] (fun v _ => K v) := by kernel_rfl
theorem ok_impl_within : OK Try.prog 68 F_impl_within.spec := (vbody_ok (vin_ok TM2_1_ok annTM2 3) TM2_1_ok.looks _ _).ofF fun args m p R h hp => by
  unfold F_impl_within at h
  split at h
  · injection h with h; injection h with h1 h2; subst h1; subst h2
    exact ⟨rfl, (congrArg At (eq_impl_within _ _ _ _)).mp ⟨vc_impl_within _ _ _ hp⟩⟩
  · cases h
def TM2_2 : Tab := TM2_1.add 68 F_impl_within
theorem TM2_2_ok : TM2_2.Ok Try.prog := TM2_1_ok.add ok_impl_within
theorem eq_impl_digit (b : Int) (K : V → Prop) : VC_impl_digit b K = vbody Try.prog (vin Try.prog TM2_2 annTM2 3) TM2_2.looks (annTM2 100) 100 [.int .u8 b] [] (fun v _ => K v) := by kernel_rfl
theorem ok_impl_digit : OK Try.prog 100 F_impl_digit.spec := (vbody_ok (vin_ok TM2_2_ok annTM2 3) TM2_2_ok.looks _ _).ofF fun args m p R h hp => by
  unfold F_impl_digit at h
  split at h
  · injection h with h; injection h with h1 h2; subst h1; subst h2
    exact ⟨rfl, (congrArg At (eq_impl_digit _ _)).mp ⟨vc_impl_digit _ hp⟩⟩
  · cases h
def TM2_3 : Tab := TM2_2.add 100 F_impl_digit
theorem TM2_3_ok : TM2_3.Ok Try.prog := TM2_2_ok.add ok_impl_digit
theorem eq_spec_woRule (s : List UInt8) (K : V → Prop) : VC_spec_woRule s K = vbody Try.prog (vin Try.prog TM2_3 annTM2 3) TM2_3.looks (annTM2 72) 72 [.str s] [] (fun v _ => K v) := by kernel_rfl
theorem ok_spec_woRule : OK Try.prog 72 F_spec_woRule.spec := (vbody_ok (vin_ok TM2_3_ok annTM2 3) TM2_3_ok.looks _ _).ofF fun args m p R h hp => by
  unfold F_spec_woRule at h
  split at h
  · injection h with h; injection h with h1 h2; subst h1; subst h2
    exact ⟨rfl, (congrArg At (eq_spec_woRule _ _)).mp ⟨vc_spec_woRule _ hp⟩⟩
  · cases h
def TM2_4 : Tab := TM2_3.add 72 F_spec_woRule
theorem TM2_4_ok : TM2_4.Ok Try.prog := TM2_3_ok.add ok_spec_woRule
theorem eq_impl_IsRule (s : List UInt8) (K : V → Prop) : VC_impl_IsRule s K = vbody Try.prog (vin Try.prog TM2_4 annTM2 3) TM2_4.looks (annTM2 77) 77 [.str s] [] (fun v _ => K v) := by kernel_rfl
theorem ok_impl_IsRule : OK Try.prog 77 F_impl_IsRule.spec := (vbody_ok (vin_ok TM2_4_ok annTM2 3) TM2_4_ok.looks _ _).ofF fun args m p R h hp => by
  unfold F_impl_IsRule at h
  split at h
  · injection h with h; injection h with h1 h2; subst h1; subst h2
    exact ⟨rfl, (congrArg At (eq_impl_IsRule _ _)).mp ⟨vc_impl_IsRule _ hp⟩⟩
  · cases h
def TM2_5 : Tab := TM2_4.add 77 F_impl_IsRule
theorem TM2_5_ok : TM2_5.Ok Try.prog := TM2_4_ok.add ok_impl_IsRule
theorem eq_spec_woGood (wr : List UInt8) (ww : Int) (wh : Int) (wc : List UInt8) (wx : Int) (wy : Int) (wd : Int) (K : V → Prop) : VC_spec_woGood wr ww wh wc wx wy wd K = vbody Try.prog (vin Try.prog TM2_5 annTM2 3) TM2_5.looks (annTM2 35) 35 [.agg [.str wr, .int .i64 ww, .int .i64 wh, .str wc, .int .i64 wx, .int .i64 wy, .int .i64 wd]] [] (fun v _ => K v) := by kernel_rfl
theorem ok_spec_woGood : OK Try.prog 35 F_spec_woGood.spec := (vbody_ok (vin_ok TM2_5_ok annTM2 3) TM2_5_ok.looks _ _).ofF fun args m p R h hp => by
  unfold F_spec_woGood at h
  split at h
  · injection h with h; injection h with h1 h2; subst h1; subst h2
    exact ⟨rfl, (congrArg At (eq_spec_woGood _ _ _ _ _ _ _ _)).mp ⟨vc_spec_woGood _ _ _ _ _ _ _ hp⟩⟩
  · cases h
def TM2_6 : Tab := TM2_5.add 35 F_spec_woGood
theorem TM2_6_ok : TM2_6.Ok Try.prog := TM2_5_ok.add ok_spec_woGood
theorem eq_impl_areColours (s : List UInt8) (n : Int) (K : V → Prop) : VC_impl_areColours s n K = vbody Try.prog (vin Try.prog TM2_6 annTM2 3) TM2_6.looks (annTM2 79) 79 [.str s, .int .i64 n] [] (fun v _ => K v) := by kernel_rfl
theorem ok_impl_areColours : OK Try.prog 79 F_impl_areColours.spec := (vbody_ok (vin_ok TM2_6_ok annTM2 3) TM2_6_ok.looks _ _).ofF fun args m p R h hp => by
  unfold F_impl_areColours at h
  split at h
  · injection h with h; injection h with h1 h2; subst h1; subst h2
    exact ⟨rfl, (congrArg At (eq_impl_areColours _ _ _)).mp ⟨vc_impl_areColours _ _ hp⟩⟩
  · cases h
def TM2_7 : Tab := TM2_6.add 79 F_impl_areColours
theorem TM2_7_ok : TM2_7.Ok Try.prog := TM2_6_ok.add ok_impl_areColours
theorem eq_impl_IsWorld (wr : List UInt8) (ww : Int) (wh : Int) (wc : List UInt8) (wx : Int) (wy : Int) (wd : Int) (K : V → Prop) : VC_impl_IsWorld wr ww wh wc wx wy wd K = vbody Try.prog (vin Try.prog TM2_7 annTM2 4) TM2_7.looks (annTM2 37) 37 [.agg [.str wr, .int .i64 ww, .int .i64 wh, .str wc, .int .i64 wx, .int .i64 wy, .int .i64 wd]] [] (fun v _ => K v) := by kernel_rfl
theorem ok_impl_IsWorld : OK Try.prog 37 F_impl_IsWorld.spec := (vbody_ok (vin_ok TM2_7_ok annTM2 4) TM2_7_ok.looks _ _).ofF fun args m p R h hp => by
  unfold F_impl_IsWorld at h
  split at h
  · injection h with h; injection h with h1 h2; subst h1; subst h2
    exact ⟨rfl, (congrArg At (eq_impl_IsWorld _ _ _ _ _ _ _ _)).mp ⟨vc_impl_IsWorld _ _ _ _ _ _ _ hp⟩⟩
  · cases h
def TM2_8 : Tab := TM2_7.add 37 F_impl_IsWorld
theorem TM2_8_ok : TM2_8.Ok Try.prog := TM2_7_ok.add ok_impl_IsWorld
theorem eq_spec_woColour (wr : List UInt8) (ww : Int) (wh : Int) (wc : List UInt8) (wx : Int) (wy : Int) (wd : Int) (x : Int) (y : Int) (K : V → Prop) : VC_spec_woColour wr ww wh wc wx wy wd x y K = vbody Try.prog (vin Try.prog TM2_8 annTM2 3) TM2_8.looks (annTM2 76) 76 [.agg [.str wr, .int .i64 ww, .int .i64 wh, .str wc, .int .i64 wx, .int .i64 wy, .int .i64 wd], .int .i64 x, .int .i64 y] [] (fun v _ => K v) := by kernel_rfl
theorem ok_spec_woColour : OK Try.prog 76 F_spec_woColour.spec := (vbody_ok (vin_ok TM2_8_ok annTM2 3) TM2_8_ok.looks _ _).ofF fun args m p R h hp => by
  unfold F_spec_woColour at h
  split at h
  · injection h with h; injection h with h1 h2; subst h1; subst h2
    exact ⟨rfl, (congrArg At (eq_spec_woColour _ _ _ _ _ _ _ _ _ _)).mp ⟨vc_spec_woColour _ _ _ _ _ _ _ _ _ hp⟩⟩
  · cases h
def TM2_9 : Tab := TM2_8.add 76 F_spec_woColour
theorem TM2_9_ok : TM2_9.Ok Try.prog := TM2_8_ok.add ok_spec_woColour
theorem eq_laws_szWorld (wr : List UInt8) (ww : Int) (wh : Int) (wc : List UInt8) (wx : Int) (wy : Int) (wd : Int) (left : Int) (K : V → Prop) : VC_laws_szWorld wr ww wh wc wx wy wd left K = vbody Try.prog (vin Try.prog TM2_9 annTM2 3) TM2_9.looks (annTM2 11) 11 [.agg [.str wr, .int .i64 ww, .int .i64 wh, .str wc, .int .i64 wx, .int .i64 wy, .int .i64 wd], .int .i64 left] [] (fun v _ => K v) := by kernel_rfl
theorem ok_laws_szWorld : OK Try.prog 11 F_laws_szWorld.spec := (vbody_ok (vin_ok TM2_9_ok annTM2 3) TM2_9_ok.looks _ _).ofF fun args m p R h hp => by
  unfold F_laws_szWorld at h
  split at h
  · injection h with h; injection h with h1 h2; subst h1; subst h2
    exact ⟨rfl, (congrArg At (eq_laws_szWorld _ _ _ _ _ _ _ _ _)).mp ⟨vc_laws_szWorld _ _ _ _ _ _ _ _ hp⟩⟩
  · cases h
def TM2_10 : Tab := TM2_9.add 11 F_laws_szWorld
theorem TM2_10_ok : TM2_10.Ok Try.prog := TM2_9_ok.add ok_laws_szWorld
theorem eq_laws_eqWorld (ar : List UInt8) (aw : Int) (ah : Int) (ac : List UInt8) (ax : Int) (ay : Int) (ad : Int) (br : List UInt8) (bw : Int) (bh : Int) (bc : List UInt8) (bx : Int) (by_ : Int) (bd : Int) (K : V → Prop) : VC_laws_eqWorld ar aw ah ac ax ay ad br bw bh bc bx by_ bd K = vbody Try.prog (vin Try.prog TM2_10 annTM2 3) TM2_10.looks (annTM2 15) 15 [.agg [.str ar, .int .i64 aw, .int .i64 ah, .str ac, .int .i64 ax, .int .i64 ay, .int .i64 ad], .agg [.str br, .int .i64 bw, .int .i64 bh, .str bc, .int .i64 bx, .int .i64 by_, .int .i64 bd]] [] (fun v _ => K v) := by kernel_rfl
theorem ok_laws_eqWorld : OK Try.prog 15 F_laws_eqWorld.spec := (vbody_ok (vin_ok TM2_10_ok annTM2 3) TM2_10_ok.looks _ _).ofF fun args m p R h hp => by
  unfold F_laws_eqWorld at h
  split at h
  · injection h with h; injection h with h1 h2; subst h1; subst h2
    exact ⟨rfl, (congrArg At (eq_laws_eqWorld _ _ _ _ _ _ _ _ _ _ _ _ _ _ _)).mp ⟨vc_laws_eqWorld _ _ _ _ _ _ _ _ _ _ _ _ _ _ hp⟩⟩
  · cases h
def TM2_11 : Tab := TM2_10.add 15 F_laws_eqWorld
theorem TM2_11_ok : TM2_11.Ok Try.prog := TM2_10_ok.add ok_laws_eqWorld
theorem eq_spec_l1Num (n : Int) (K : V → Prop) : VC_spec_l1Num n K = vbody Try.prog (vin Try.prog TM2_11 annTM2 0) TM2_11.looks (annTM2 98) 98 [.int .i64 n] [] (fun v _ => K v) := by kernel_rfl
theorem ok_spec_l1Num : OK Try.prog 98 F_spec_l1Num.spec := (vbody_ok (vin_ok TM2_11_ok annTM2 0) TM2_11_ok.looks _ _).ofF fun args m p R h hp => by
  unfold F_spec_l1Num at h
  split at h
  · injection h with h; injection h with h1 h2; subst h1; subst h2
    exact ⟨rfl, (congrArg At (eq_spec_l1Num _ _)).mp ⟨vc_spec_l1Num _ hp⟩⟩
  · cases h
def TM2_12 : Tab := TM2_11.add 98 F_spec_l1Num
theorem TM2_12_ok : TM2_12.Ok Try.prog := TM2_11_ok.add ok_spec_l1Num
theorem eq_spec_l1Mod (n : Int) (m : Int) (K : V → Prop) : VC_spec_l1Mod n m K = vbody Try.prog (vin Try.prog TM2_12 annTM2 3) TM2_12.looks (annTM2 74) 74 [.int .i64 n, .int .i64 m] [] (fun v _ => K v) := by kernel_rfl
theorem ok_spec_l1Mod : OK Try.prog 74 F_spec_l1Mod.spec := (vbody_ok (vin_ok TM2_12_ok annTM2 3) TM2_12_ok.looks _ _).ofF fun args m p R h hp => by
  unfold F_spec_l1Mod at h
  split at h
  · injection h with h; injection h with h1 h2; subst h1; subst h2
    exact ⟨rfl, (congrArg At (eq_spec_l1Mod _ _ _)).mp ⟨vc_spec_l1Mod _ _ hp⟩⟩
  · cases h
def TM2_13 : Tab := TM2_12.add 74 F_spec_l1Mod
theorem TM2_13_ok : TM2_13.Ok Try.prog := TM2_12_ok.add ok_spec_l1Mod
theorem eq_impl_board_turned (wr : List UInt8) (ww : Int) (wh : Int) (wc : List UInt8) (wx : Int) (wy : Int) (wd : Int) (q : Int) (K : V → Prop) : VC_impl_board_turned wr ww wh wc wx wy wd q K = vbody Try.prog (vin Try.prog TM2_13 annTM2 3) TM2_13.looks (annTM2 40) 40 [.agg [.str wr, .int .i64 ww, .int .i64 wh, .str wc, .int .i64 wx, .int .i64 wy, .int .i64 wd], .int .i64 q] [] (fun v _ => K v) := by kernel_rfl
theorem ok_impl_board_turned : OK Try.prog 40 F_impl_board_turned.spec := (vbody_ok (vin_ok TM2_13_ok annTM2 3) TM2_13_ok.looks _ _).ofF fun args m p R h hp => by
  unfold F_impl_board_turned at h
  split at h
  · injection h with h; injection h with h1 h2; subst h1; subst h2
    exact ⟨rfl, (congrArg At (eq_impl_board_turned _ _ _ _ _ _ _ _ _)).mp ⟨vc_impl_board_turned _ _ _ _ _ _ _ _ hp⟩⟩
  · cases h
def TM2_14 : Tab := TM2_13.add 40 F_impl_board_turned
theorem TM2_14_ok : TM2_14.Ok Try.prog := TM2_13_ok.add ok_impl_board_turned
theorem eq_spec_woPaint (x : Int) (y : Int) (k : Int) (wr : List UInt8) (ww : Int) (wh : Int) (wc : List UInt8) (wx : Int) (wy : Int) (wd : Int) (e : TypeId) (K : V → List Blk → Prop) : VC_spec_woPaint x y k wr ww wh wc wx wy wd e K = vbody Try.prog (vin Try.prog TM2_14 annTM2 3) TM2_14.looks (annTM2 75) 75 [.ptr 0 0, .int .i64 x, .int .i64 y, .int .i64 k] [⟨.vals [.str wr, .int .i64 ww, .int .i64 wh, .str wc, .int .i64 wx, .int .i64 wy, .int .i64 wd], e, .box⟩] (K) := by kernel_rfl
theorem ok_spec_woPaint : OK Try.prog 75 F_spec_woPaint.spec := (vbody_ok (vin_ok TM2_14_ok annTM2 3) TM2_14_ok.looks _ _).ofG fun args m p R M h hp => by
  unfold F_spec_woPaint at h
  split at h
  · injection h with h; injection h with h1 h2; injection h2 with h2 h3; subst h1; subst h2; subst h3
    exact (congrArg At (eq_spec_woPaint _ _ _ _ _ _ _ _ _ _ _ _)).mp ⟨vc_spec_woPaint _ _ _ _ _ _ _ _ _ _ _ hp⟩
  · cases h
def TM2_15 : Tab := TM2_14.addG 75 F_spec_woPaint
theorem TM2_15_ok : TM2_15.Ok Try.prog := TM2_14_ok.addG ok_spec_woPaint
theorem eq_spec_woOther (s : List UInt8) (K : V → Prop) : VC_spec_woOther s K = vbody Try.prog (vin Try.prog TM2_15 annTM2 3) TM2_15.looks (annTM2 41) 41 [.str s] [] (fun v _ => K v) := by kernel_rfl
theorem ok_spec_woOther : OK Try.prog 41 F_spec_woOther.spec := (vbody_ok (vin_ok TM2_15_ok annTM2 3) TM2_15_ok.looks _ _).ofF fun args m p R h hp => by
  unfold F_spec_woOther at h
  split at h
  · injection h with h; injection h with h1 h2; subst h1; subst h2
    exact ⟨rfl, (congrArg At (eq_spec_woOther _ _)).mp ⟨vc_spec_woOther _ hp⟩⟩
  · cases h
def TM2_16 : Tab := TM2_15.add 41 F_spec_woOther
theorem TM2_16_ok : TM2_16.Ok Try.prog := TM2_15_ok.add ok_spec_woOther
theorem eq_impl_exchanged (s : List UInt8) (K : V → Prop) : VC_impl_exchanged s K = vbody Try.prog (vin Try.prog TM2_16 annTM2 3) TM2_16.looks (annTM2 43) 43 [.str s] [] (fun v _ => K v) := by kernel_rfl
theorem ok_impl_exchanged : OK Try.prog 43 F_impl_exchanged.spec := (vbody_ok (vin_ok TM2_16_ok annTM2 3) TM2_16_ok.looks _ _).ofF fun args m p R h hp => by
  unfold F_impl_exchanged at h
  split at h
  · injection h with h; injection h with h1 h2; subst h1; subst h2
    exact ⟨rfl, (congrArg At (eq_impl_exchanged _ _)).mp ⟨vc_impl_exchanged _ hp⟩⟩
  · cases h
def TM2_17 : Tab := TM2_16.add 43 F_impl_exchanged
theorem TM2_17_ok : TM2_17.Ok Try.prog := TM2_16_ok.add ok_impl_exchanged
theorem eq_spec_woZeros (n : Int) (K : V → Prop) : VC_spec_woZeros n K = vbody Try.prog (vin Try.prog TM2_17 annTM2 3) TM2_17.looks (annTM2 73) 73 [.int .i64 n] [] (fun v _ => K v) := by kernel_rfl
theorem ok_spec_woZeros : OK Try.prog 73 F_spec_woZeros.spec := (vbody_ok (vin_ok TM2_17_ok annTM2 3) TM2_17_ok.looks _ _).ofF fun args m p R h hp => by
  unfold F_spec_woZeros at h
  split at h
  · injection h with h; injection h with h1 h2; subst h1; subst h2
    exact ⟨rfl, (congrArg At (eq_spec_woZeros _ _)).mp ⟨vc_spec_woZeros _ hp⟩⟩
  · cases h
def TM2_18 : Tab := TM2_17.add 73 F_spec_woZeros
theorem TM2_18_ok : TM2_18.Ok Try.prog := TM2_17_ok.add ok_spec_woZeros
theorem eq_spec_woMap (wr : List UInt8) (ww : Int) (wh : Int) (wc : List UInt8) (wx : Int) (wy : Int) (wd : Int) (width : Int) (height : Int) (b0 : Int) (b1 : Int) (b2 : Int) (b3 : Int) (b4 : Int) (b5 : Int) (K : V → Prop) : VC_spec_woMap wr ww wh wc wx wy wd width height b0 b1 b2 b3 b4 b5 K = vbody Try.prog (vin Try.prog TM2_18 annTM2 4) TM2_18.looks (annTM2 36) 36 [.agg [.str wr, .int .i64 ww, .int .i64 wh, .str wc, .int .i64 wx, .int .i64 wy, .int .i64 wd], .int .i64 width, .int .i64 height, .agg [.int .i64 b0, .int .i64 b1, .int .i64 b2, .int .i64 b3, .int .i64 b4, .int .i64 b5]] [] (fun v _ => K v) := by kernel_rfl
theorem ok_spec_woMap : OK Try.prog 36 F_spec_woMap.spec := (vbody_ok (vin_ok TM2_18_ok annTM2 4) TM2_18_ok.looks _ _).ofF fun args m p R h hp => by
  unfold F_spec_woMap at h
  split at h
  · injection h with h; injection h with h1 h2; subst h1; subst h2
    exact ⟨rfl, (congrArg At (eq_spec_woMap _ _ _ _ _ _ _ _ _ _ _ _ _ _ _ _)).mp ⟨vc_spec_woMap _ _ _ _ _ _ _ _ _ _ _ _ _ _ _ hp⟩⟩
  · cases h
def TM2_19 : Tab := TM2_18.add 36 F_spec_woMap
theorem TM2_19_ok : TM2_19.Ok Try.prog := TM2_18_ok.add ok_spec_woMap
theorem eq_spec_TurnWorld (wr : List UInt8) (ww : Int) (wh : Int) (wc : List UInt8) (wx : Int) (wy : Int) (wd : Int) (K : V → Prop) : VC_spec_TurnWorld wr ww wh wc wx wy wd K = vbody Try.prog (vin Try.prog TM2_19 annTM2 3) TM2_19.looks (annTM2 12) 12 [.agg [.str wr, .int .i64 ww, .int .i64 wh, .str wc, .int .i64 wx, .int .i64 wy, .int .i64 wd]] [] (fun v _ => K v) := by kernel_rfl
theorem ok_spec_TurnWorld : OK Try.prog 12 F_spec_TurnWorld.spec := (vbody_ok (vin_ok TM2_19_ok annTM2 3) TM2_19_ok.looks _ _).ofF fun args m p R h hp => by
  unfold F_spec_TurnWorld at h
  split at h
  · injection h with h; injection h with h1 h2; subst h1; subst h2
    exact ⟨rfl, (congrArg At (eq_spec_TurnWorld _ _ _ _ _ _ _ _)).mp ⟨vc_spec_TurnWorld _ _ _ _ _ _ _ hp⟩⟩
  · cases h
def TM2_20 : Tab := TM2_19.add 12 F_spec_TurnWorld
theorem TM2_20_ok : TM2_20.Ok Try.prog := TM2_19_ok.add ok_spec_TurnWorld
theorem eq_spec_MirrorWorld (wr : List UInt8) (ww : Int) (wh : Int) (wc : List UInt8) (wx : Int) (wy : Int) (wd : Int) (K : V → Prop) : VC_spec_MirrorWorld wr ww wh wc wx wy wd K = vbody Try.prog (vin Try.prog TM2_20 annTM2 3) TM2_20.looks (annTM2 16) 16 [.agg [.str wr, .int .i64 ww, .int .i64 wh, .str wc, .int .i64 wx, .int .i64 wy, .int .i64 wd]] [] (fun v _ => K v) := by kernel_rfl
theorem ok_spec_MirrorWorld : OK Try.prog 16 F_spec_MirrorWorld.spec := (vbody_ok (vin_ok TM2_20_ok annTM2 3) TM2_20_ok.looks _ _).ofF fun args m p R h hp => by
  unfold F_spec_MirrorWorld at h
  split at h
  · injection h with h; injection h with h1 h2; subst h1; subst h2
    exact ⟨rfl, (congrArg At (eq_spec_MirrorWorld _ _ _ _ _ _ _ _)).mp ⟨vc_spec_MirrorWorld _ _ _ _ _ _ _ hp⟩⟩
  · cases h
def TM2_21 : Tab := TM2_20.add 16 F_spec_MirrorWorld
theorem TM2_21_ok : TM2_21.Ok Try.prog := TM2_20_ok.add ok_spec_MirrorWorld
theorem eq_impl_TurnWorld_1 (x : Int) (y : Int) (wr : List UInt8) (ww : Int) (wh : Int) (wc : List UInt8) (wx : Int) (wy : Int) (wd : Int) (K : V → List Blk → Prop) : VC_impl_TurnWorld_1 x y wr ww wh wc wx wy wd K = vbody Try.prog (vin Try.prog TM2_21 annTM2 3) TM2_21.looks (annTM2 39) 39 [.int .i64 x, .int .i64 y, .ptr 0 0] [⟨.vals [.str wr, .int .i64 ww, .int .i64 wh, .str wc, .int .i64 wx, .int .i64 wy, .int .i64 wd], 25, .box⟩] (K) := by kernel_rfl
theorem ok_impl_TurnWorld_1 : OK Try.prog 39 F_impl_TurnWorld_1.spec := (vbody_ok (vin_ok TM2_21_ok annTM2 3) TM2_21_ok.looks _ _).ofFM fun args m p R h hp => by
  unfold F_impl_TurnWorld_1 at h
  split at h
  · injection h with h; injection h with h1 h2; subst h1; subst h2
    exact (congrArg At (eq_impl_TurnWorld_1 _ _ _ _ _ _ _ _ _ _)).mp ⟨vc_impl_TurnWorld_1 _ _ _ _ _ _ _ _ _ hp⟩
  · cases h
def TM2_22 : Tab := TM2_21.add 39 F_impl_TurnWorld_1
theorem TM2_22_ok : TM2_22.Ok Try.prog := TM2_21_ok.add ok_impl_TurnWorld_1
theorem eq_impl_MirrorWorld_1 (x : Int) (y : Int) (wr : List UInt8) (ww : Int) (wh : Int) (wc : List UInt8) (wx : Int) (wy : Int) (wd : Int) (K : V → List Blk → Prop) : VC_impl_MirrorWorld_1 x y wr ww wh wc wx wy wd K = vbody Try.prog (vin Try.prog TM2_22 annTM2 3) TM2_22.looks (annTM2 42) 42 [.int .i64 x, .int .i64 y, .ptr 0 0] [⟨.vals [.str wr, .int .i64 ww, .int .i64 wh, .str wc, .int .i64 wx, .int .i64 wy, .int .i64 wd], 25, .box⟩] (K) := by kernel_rfl
theorem ok_impl_MirrorWorld_1 : OK Try.prog 42 F_impl_MirrorWorld_1.spec := (vbody_ok (vin_ok TM2_22_ok annTM2 3) TM2_22_ok.looks _ _).ofFM fun args m p R h hp => by
  unfold F_impl_MirrorWorld_1 at h
  split at h
  · injection h with h; injection h with h1 h2; subst h1; subst h2
    exact (congrArg At (eq_impl_MirrorWorld_1 _ _ _ _ _ _ _ _ _ _)).mp ⟨vc_impl_MirrorWorld_1 _ _ _ _ _ _ _ _ _ hp⟩
  · cases h
def TM2_23 : Tab := TM2_22.add 42 F_impl_MirrorWorld_1
theorem TM2_23_ok : TM2_23.Ok Try.prog := TM2_22_ok.add ok_impl_MirrorWorld_1
theorem eq_impl_TurnWorld (wr : List UInt8) (ww : Int) (wh : Int) (wc : List UInt8) (wx : Int) (wy : Int) (wd : Int) (K : V → Prop) : VC_impl_TurnWorld wr ww wh wc wx wy wd K = vbody Try.prog (vin Try.prog TM2_23 annTM2 4) TM2_23.looks (annTM2 14) 14 [.agg [.str wr, .int .i64 ww, .int .i64 wh, .str wc, .int .i64 wx, .int .i64 wy, .int .i64 wd]] [] (fun v _ => K v) := by kernel_rfl
theorem ok_impl_TurnWorld : OK Try.prog 14 F_impl_TurnWorld.spec := (vbody_ok (vin_ok TM2_23_ok annTM2 4) TM2_23_ok.looks _ _).ofF fun args m p R h hp => by
  unfold F_impl_TurnWorld at h
  split at h
  · injection h with h; injection h with h1 h2; subst h1; subst h2
    exact ⟨rfl, (congrArg At (eq_impl_TurnWorld _ _ _ _ _ _ _ _)).mp ⟨vc_impl_TurnWorld _ _ _ _ _ _ _ hp⟩⟩
  · cases h
def TM2_24 : Tab := TM2_23.add 14 F_impl_TurnWorld
theorem TM2_24_ok : TM2_24.Ok Try.prog := TM2_23_ok.add ok_impl_TurnWorld
theorem eq_impl_MirrorWorld (wr : List UInt8) (ww : Int) (wh : Int) (wc : List UInt8) (wx : Int) (wy : Int) (wd : Int) (K : V → Prop) : VC_impl_MirrorWorld wr ww wh wc wx wy wd K = vbody Try.prog (vin Try.prog TM2_24 annTM2 4) TM2_24.looks (annTM2 17) 17 [.agg [.str wr, .int .i64 ww, .int .i64 wh, .str wc, .int .i64 wx, .int .i64 wy, .int .i64 wd]] [] (fun v _ => K v) := by kernel_rfl
theorem ok_impl_MirrorWorld : OK Try.prog 17 F_impl_MirrorWorld.spec := (vbody_ok (vin_ok TM2_24_ok annTM2 4) TM2_24_ok.looks _ _).ofF fun args m p R h hp => by
  unfold F_impl_MirrorWorld at h
  split at h
  · injection h with h; injection h with h1 h2; subst h1; subst h2
    exact ⟨rfl, (congrArg At (eq_impl_MirrorWorld _ _ _ _ _ _ _ _)).mp ⟨vc_impl_MirrorWorld _ _ _ _ _ _ _ hp⟩⟩
  · cases h
def TM2_25 : Tab := TM2_24.add 17 F_impl_MirrorWorld
theorem TM2_25_ok : TM2_25.Ok Try.prog := TM2_24_ok.add ok_impl_MirrorWorld
def TM2 : Tab := TM2_25
theorem TM2_ok : TM2.Ok Try.prog := TM2_25_ok
end Go.Proofs.Yteleacldecambaa
