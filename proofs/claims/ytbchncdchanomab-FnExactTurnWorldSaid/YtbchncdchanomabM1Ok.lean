/- The contracts of this chapter. -/
import Derived.Test.YtbchncdchanomabProg
import Derived.Test.YtbchncdchanomabM1Pf
import Derived.KernelRfl
namespace Go.Proofs.Ytbchncdchanomab
open Go Go.Vi
set_option linter.unusedVariables false
def annTM1 : FuncId → Nat → St → Option Ann := fun f => if f = 36 then ann_impl_relaid else if f = 58 then ann_spec_woRule else if f = 60 then ann_impl_IsRule else if f = 30 then ann_spec_woGood else if f = 62 then ann_impl_areColours else if f = 40 then ann_spec_woOther else if f = 42 then ann_impl_exchanged else if f = 64 then ann_spec_woZeros else if f = 34 then ann_spec_woMap else (fun _ _ => none)
def TM1_0 : Tab := Tab.none
theorem TM1_0_ok : TM1_0.Ok Try.prog := Tab.none_ok
theorem eq_spec_l1In (n : Int) (lo : Int) (hi : Int) (K : V → Prop) : VC_spec_l1In n lo hi K = vbody Try.prog (vin Try.prog TM1_0 annTM1 3) TM1_0.looks (annTM1 59) 59 [.int .i64 n, .int .i64 lo, .int .i64 hi] [] (fun v _ => K v) := by kernel_rfl
theorem ok_spec_l1In : OK Try.prog 59 F_spec_l1In.spec := (vbody_ok (vin_ok TM1_0_ok annTM1 3) TM1_0_ok.looks _ _).ofF fun args m p R h hp => by
  unfold F_spec_l1In at h
  split at h
  · injection h with h; injection h with h1 h2; subst h1; subst h2
    exact ⟨rfl, (congrArg At (eq_spec_l1In _ _ _ _)).mp ⟨vc_spec_l1In _ _ _ hp⟩⟩
  · cases h
def TM1_1 : Tab := TM1_0.add 59 F_spec_l1In
theorem TM1_1_ok : TM1_1.Ok Try.prog := TM1_0_ok.add ok_spec_l1In
theorem eq_impl_within (n : Int) (lo : Int) (hi : Int) (K : V → Prop) : VC_impl_within n lo hi K = vbody Try.prog (vin Try.prog TM1_1 annTM1 3) TM1_1.looks (annTM1 67) 67 [.int .i64 n, .int .i64 lo, .int .i64 hi] [] (fun v _ => K v) := by kernel_rfl
theorem ok_impl_within : OK Try.prog 67 F_impl_within.spec := (vbody_ok (vin_ok TM1_1_ok annTM1 3) TM1_1_ok.looks _ _).ofF fun args m p R h hp => by
  unfold F_impl_within at h
  split at h
  · injection h with h; injection h with h1 h2; subst h1; subst h2
    exact ⟨rfl, (congrArg At (eq_impl_within _ _ _ _)).mp ⟨vc_impl_within _ _ _ hp⟩⟩
  · cases h
def TM1_2 : Tab := TM1_1.add 67 F_impl_within
theorem TM1_2_ok : TM1_2.Ok Try.prog := TM1_1_ok.add ok_impl_within
theorem eq_impl_digit (b : Int) (K : V → Prop) : VC_impl_digit b K = vbody Try.prog (vin Try.prog TM1_2 annTM1 3) TM1_2.looks (annTM1 32) 32 [.int .u8 b] [] (fun v _ => K v) := by kernel_rfl
theorem ok_impl_digit : OK Try.prog 32 F_impl_digit.spec := (vbody_ok (vin_ok TM1_2_ok annTM1 3) TM1_2_ok.looks _ _).ofF fun args m p R h hp => by
  unfold F_impl_digit at h
  split at h
  · injection h with h; injection h with h1 h2; subst h1; subst h2
    exact ⟨rfl, (congrArg At (eq_impl_digit _ _)).mp ⟨vc_impl_digit _ hp⟩⟩
  · cases h
def TM1_3 : Tab := TM1_2.add 32 F_impl_digit
theorem TM1_3_ok : TM1_3.Ok Try.prog := TM1_2_ok.add ok_impl_digit
theorem eq_spec_woRule (s : List UInt8) (K : V → Prop) : VC_spec_woRule s K = vbody Try.prog (vin Try.prog TM1_3 annTM1 3) TM1_3.looks (annTM1 58) 58 [.str s] [] (fun v _ => K v) := by kernel_rfl
theorem ok_spec_woRule : OK Try.prog 58 F_spec_woRule.spec := (vbody_ok (vin_ok TM1_3_ok annTM1 3) TM1_3_ok.looks _ _).ofF fun args m p R h hp => by
  unfold F_spec_woRule at h
  split at h
  · injection h with h; injection h with h1 h2; subst h1; subst h2
    exact ⟨rfl, (congrArg At (eq_spec_woRule _ _)).mp ⟨vc_spec_woRule _ hp⟩⟩
  · cases h
def TM1_4 : Tab := TM1_3.add 58 F_spec_woRule
theorem TM1_4_ok : TM1_4.Ok Try.prog := TM1_3_ok.add ok_spec_woRule
theorem eq_impl_IsRule (s : List UInt8) (K : V → Prop) : VC_impl_IsRule s K = vbody Try.prog (vin Try.prog TM1_4 annTM1 3) TM1_4.looks (annTM1 60) 60 [.str s] [] (fun v _ => K v) := by kernel_rfl
theorem ok_impl_IsRule : OK Try.prog 60 F_impl_IsRule.spec := (vbody_ok (vin_ok TM1_4_ok annTM1 3) TM1_4_ok.looks _ _).ofF fun args m p R h hp => by
  unfold F_impl_IsRule at h
  split at h
  · injection h with h; injection h with h1 h2; subst h1; subst h2
    exact ⟨rfl, (congrArg At (eq_impl_IsRule _ _)).mp ⟨vc_impl_IsRule _ hp⟩⟩
  · cases h
def TM1_5 : Tab := TM1_4.add 60 F_impl_IsRule
theorem TM1_5_ok : TM1_5.Ok Try.prog := TM1_4_ok.add ok_impl_IsRule
theorem eq_spec_woGood (wr : List UInt8) (ww : Int) (wh : Int) (wc : List UInt8) (wx : Int) (wy : Int) (wd : Int) (K : V → Prop) : VC_spec_woGood wr ww wh wc wx wy wd K = vbody Try.prog (vin Try.prog TM1_5 annTM1 3) TM1_5.looks (annTM1 30) 30 [.agg [.str wr, .int .i64 ww, .int .i64 wh, .str wc, .int .i64 wx, .int .i64 wy, .int .i64 wd]] [] (fun v _ => K v) := by kernel_rfl
theorem ok_spec_woGood : OK Try.prog 30 F_spec_woGood.spec := (vbody_ok (vin_ok TM1_5_ok annTM1 3) TM1_5_ok.looks _ _).ofF fun args m p R h hp => by
  unfold F_spec_woGood at h
  split at h
  · injection h with h; injection h with h1 h2; subst h1; subst h2
    exact ⟨rfl, (congrArg At (eq_spec_woGood _ _ _ _ _ _ _ _)).mp ⟨vc_spec_woGood _ _ _ _ _ _ _ hp⟩⟩
  · cases h
def TM1_6 : Tab := TM1_5.add 30 F_spec_woGood
theorem TM1_6_ok : TM1_6.Ok Try.prog := TM1_5_ok.add ok_spec_woGood
theorem eq_impl_areColours (s : List UInt8) (n : Int) (K : V → Prop) : VC_impl_areColours s n K = vbody Try.prog (vin Try.prog TM1_6 annTM1 3) TM1_6.looks (annTM1 62) 62 [.str s, .int .i64 n] [] (fun v _ => K v) := by kernel_rfl
theorem ok_impl_areColours : OK Try.prog 62 F_impl_areColours.spec := (vbody_ok (vin_ok TM1_6_ok annTM1 3) TM1_6_ok.looks _ _).ofF fun args m p R h hp => by
  unfold F_impl_areColours at h
  split at h
  · injection h with h; injection h with h1 h2; subst h1; subst h2
    exact ⟨rfl, (congrArg At (eq_impl_areColours _ _ _)).mp ⟨vc_impl_areColours _ _ hp⟩⟩
  · cases h
def TM1_7 : Tab := TM1_6.add 62 F_impl_areColours
theorem TM1_7_ok : TM1_7.Ok Try.prog := TM1_6_ok.add ok_impl_areColours
theorem eq_impl_IsWorld (wr : List UInt8) (ww : Int) (wh : Int) (wc : List UInt8) (wx : Int) (wy : Int) (wd : Int) (K : V → Prop) : VC_impl_IsWorld wr ww wh wc wx wy wd K = vbody Try.prog (vin Try.prog TM1_7 annTM1 4) TM1_7.looks (annTM1 31) 31 [.agg [.str wr, .int .i64 ww, .int .i64 wh, .str wc, .int .i64 wx, .int .i64 wy, .int .i64 wd]] [] (fun v _ => K v) := by kernel_rfl
theorem ok_impl_IsWorld : OK Try.prog 31 F_impl_IsWorld.spec := (vbody_ok (vin_ok TM1_7_ok annTM1 4) TM1_7_ok.looks _ _).ofF fun args m p R h hp => by
  unfold F_impl_IsWorld at h
  split at h
  · injection h with h; injection h with h1 h2; subst h1; subst h2
    exact ⟨rfl, (congrArg At (eq_impl_IsWorld _ _ _ _ _ _ _ _)).mp ⟨vc_impl_IsWorld _ _ _ _ _ _ _ hp⟩⟩
  · cases h
def TM1_8 : Tab := TM1_7.add 31 F_impl_IsWorld
theorem TM1_8_ok : TM1_8.Ok Try.prog := TM1_7_ok.add ok_impl_IsWorld
theorem eq_spec_woColour (wr : List UInt8) (ww : Int) (wh : Int) (wc : List UInt8) (wx : Int) (wy : Int) (wd : Int) (x : Int) (y : Int) (K : V → Prop) : VC_spec_woColour wr ww wh wc wx wy wd x y K = vbody Try.prog (vin Try.prog TM1_8 annTM1 3) TM1_8.looks (annTM1 66) 66 [.agg [.str wr, .int .i64 ww, .int .i64 wh, .str wc, .int .i64 wx, .int .i64 wy, .int .i64 wd], .int .i64 x, .int .i64 y] [] (fun v _ => K v) := by kernel_rfl
theorem ok_spec_woColour : OK Try.prog 66 F_spec_woColour.spec := (vbody_ok (vin_ok TM1_8_ok annTM1 3) TM1_8_ok.looks _ _).ofF fun args m p R h hp => by
  unfold F_spec_woColour at h
  split at h
  · injection h with h; injection h with h1 h2; subst h1; subst h2
    exact ⟨rfl, (congrArg At (eq_spec_woColour _ _ _ _ _ _ _ _ _ _)).mp ⟨vc_spec_woColour _ _ _ _ _ _ _ _ _ hp⟩⟩
  · cases h
def TM1_9 : Tab := TM1_8.add 66 F_spec_woColour
theorem TM1_9_ok : TM1_9.Ok Try.prog := TM1_8_ok.add ok_spec_woColour
theorem eq_laws_szWorld (wr : List UInt8) (ww : Int) (wh : Int) (wc : List UInt8) (wx : Int) (wy : Int) (wd : Int) (left : Int) (K : V → Prop) : VC_laws_szWorld wr ww wh wc wx wy wd left K = vbody Try.prog (vin Try.prog TM1_9 annTM1 3) TM1_9.looks (annTM1 9) 9 [.agg [.str wr, .int .i64 ww, .int .i64 wh, .str wc, .int .i64 wx, .int .i64 wy, .int .i64 wd], .int .i64 left] [] (fun v _ => K v) := by kernel_rfl
theorem ok_laws_szWorld : OK Try.prog 9 F_laws_szWorld.spec := (vbody_ok (vin_ok TM1_9_ok annTM1 3) TM1_9_ok.looks _ _).ofF fun args m p R h hp => by
  unfold F_laws_szWorld at h
  split at h
  · injection h with h; injection h with h1 h2; subst h1; subst h2
    exact ⟨rfl, (congrArg At (eq_laws_szWorld _ _ _ _ _ _ _ _ _)).mp ⟨vc_laws_szWorld _ _ _ _ _ _ _ _ hp⟩⟩
  · cases h
def TM1_10 : Tab := TM1_9.add 9 F_laws_szWorld
theorem TM1_10_ok : TM1_10.Ok Try.prog := TM1_9_ok.add ok_laws_szWorld
theorem eq_laws_eqWorld (ar : List UInt8) (aw : Int) (ah : Int) (ac : List UInt8) (ax : Int) (ay : Int) (ad : Int) (br : List UInt8) (bw : Int) (bh : Int) (bc : List UInt8) (bx : Int) (by_ : Int) (bd : Int) (K : V → Prop) : VC_laws_eqWorld ar aw ah ac ax ay ad br bw bh bc bx by_ bd K = vbody Try.prog (vin Try.prog TM1_10 annTM1 3) TM1_10.looks (annTM1 18) 18 [.agg [.str ar, .int .i64 aw, .int .i64 ah, .str ac, .int .i64 ax, .int .i64 ay, .int .i64 ad], .agg [.str br, .int .i64 bw, .int .i64 bh, .str bc, .int .i64 bx, .int .i64 by_, .int .i64 bd]] [] (fun v _ => K v) := by kernel_rfl
theorem ok_laws_eqWorld : OK Try.prog 18 F_laws_eqWorld.spec := (vbody_ok (vin_ok TM1_10_ok annTM1 3) TM1_10_ok.looks _ _).ofF fun args m p R h hp => by
  unfold F_laws_eqWorld at h
  split at h
  · injection h with h; injection h with h1 h2; subst h1; subst h2
    exact ⟨rfl, (congrArg At (eq_laws_eqWorld _ _ _ _ _ _ _ _ _ _ _ _ _ _ _)).mp ⟨vc_laws_eqWorld _ _ _ _ _ _ _ _ _ _ _ _ _ _ hp⟩⟩
  · cases h
def TM1_11 : Tab := TM1_10.add 18 F_laws_eqWorld
theorem TM1_11_ok : TM1_11.Ok Try.prog := TM1_10_ok.add ok_laws_eqWorld
theorem eq_spec_l1Num (n : Int) (K : V → Prop) : VC_spec_l1Num n K = vbody Try.prog (vin Try.prog TM1_11 annTM1 0) TM1_11.looks (annTM1 45) 45 [.int .i64 n] [] (fun v _ => K v) := by kernel_rfl
theorem ok_spec_l1Num : OK Try.prog 45 F_spec_l1Num.spec := (vbody_ok (vin_ok TM1_11_ok annTM1 0) TM1_11_ok.looks _ _).ofF fun args m p R h hp => by
  unfold F_spec_l1Num at h
  split at h
  · injection h with h; injection h with h1 h2; subst h1; subst h2
    exact ⟨rfl, (congrArg At (eq_spec_l1Num _ _)).mp ⟨vc_spec_l1Num _ hp⟩⟩
  · cases h
def TM1_12 : Tab := TM1_11.add 45 F_spec_l1Num
theorem TM1_12_ok : TM1_12.Ok Try.prog := TM1_11_ok.add ok_spec_l1Num
theorem eq_spec_l1Mod (n : Int) (m : Int) (K : V → Prop) : VC_spec_l1Mod n m K = vbody Try.prog (vin Try.prog TM1_12 annTM1 3) TM1_12.looks (annTM1 44) 44 [.int .i64 n, .int .i64 m] [] (fun v _ => K v) := by kernel_rfl
theorem ok_spec_l1Mod : OK Try.prog 44 F_spec_l1Mod.spec := (vbody_ok (vin_ok TM1_12_ok annTM1 3) TM1_12_ok.looks _ _).ofF fun args m p R h hp => by
  unfold F_spec_l1Mod at h
  split at h
  · injection h with h; injection h with h1 h2; subst h1; subst h2
    exact ⟨rfl, (congrArg At (eq_spec_l1Mod _ _ _)).mp ⟨vc_spec_l1Mod _ _ hp⟩⟩
  · cases h
def TM1_13 : Tab := TM1_12.add 44 F_spec_l1Mod
theorem TM1_13_ok : TM1_13.Ok Try.prog := TM1_12_ok.add ok_spec_l1Mod
theorem eq_impl_board_turned (wr : List UInt8) (ww : Int) (wh : Int) (wc : List UInt8) (wx : Int) (wy : Int) (wd : Int) (q : Int) (K : V → Prop) : VC_impl_board_turned wr ww wh wc wx wy wd q K = vbody Try.prog (vin Try.prog TM1_13 annTM1 3) TM1_13.looks (annTM1 39) 39 [.agg [.str wr, .int .i64 ww, .int .i64 wh, .str wc, .int .i64 wx, .int .i64 wy, .int .i64 wd], .int .i64 q] [] (fun v _ => K v) := by kernel_rfl
theorem ok_impl_board_turned : OK Try.prog 39 F_impl_board_turned.spec := (vbody_ok (vin_ok TM1_13_ok annTM1 3) TM1_13_ok.looks _ _).ofF fun args m p R h hp => by
  unfold F_impl_board_turned at h
  split at h
  · injection h with h; injection h with h1 h2; subst h1; subst h2
    exact ⟨rfl, (congrArg At (eq_impl_board_turned _ _ _ _ _ _ _ _ _)).mp ⟨vc_impl_board_turned _ _ _ _ _ _ _ _ hp⟩⟩
  · cases h
def TM1_14 : Tab := TM1_13.add 39 F_impl_board_turned
theorem TM1_14_ok : TM1_14.Ok Try.prog := TM1_13_ok.add ok_impl_board_turned
theorem eq_spec_woPaint (x : Int) (y : Int) (k : Int) (wr : List UInt8) (ww : Int) (wh : Int) (wc : List UInt8) (wx : Int) (wy : Int) (wd : Int) (e : TypeId) (K : V → List Blk → Prop) : VC_spec_woPaint x y k wr ww wh wc wx wy wd e K = vbody Try.prog (vin Try.prog TM1_14 annTM1 3) TM1_14.looks (annTM1 65) 65 [.ptr 0 0, .int .i64 x, .int .i64 y, .int .i64 k] [⟨.vals [.str wr, .int .i64 ww, .int .i64 wh, .str wc, .int .i64 wx, .int .i64 wy, .int .i64 wd], e, .box⟩] (K) := by kernel_rfl
theorem ok_spec_woPaint : OK Try.prog 65 F_spec_woPaint.spec := (vbody_ok (vin_ok TM1_14_ok annTM1 3) TM1_14_ok.looks _ _).ofG fun args m p R M h hp => by
  unfold F_spec_woPaint at h
  split at h
  · injection h with h; injection h with h1 h2; injection h2 with h2 h3; subst h1; subst h2; subst h3
    exact (congrArg At (eq_spec_woPaint _ _ _ _ _ _ _ _ _ _ _ _)).mp ⟨vc_spec_woPaint _ _ _ _ _ _ _ _ _ _ _ hp⟩
  · cases h
def TM1_15 : Tab := TM1_14.addG 65 F_spec_woPaint
theorem TM1_15_ok : TM1_15.Ok Try.prog := TM1_14_ok.addG ok_spec_woPaint
theorem eq_spec_woOther (s : List UInt8) (K : V → Prop) : VC_spec_woOther s K = vbody Try.prog (vin Try.prog TM1_15 annTM1 3) TM1_15.looks (annTM1 40) 40 [.str s] [] (fun v _ => K v) := by kernel_rfl
theorem ok_spec_woOther : OK Try.prog 40 F_spec_woOther.spec := (vbody_ok (vin_ok TM1_15_ok annTM1 3) TM1_15_ok.looks _ _).ofF fun args m p R h hp => by
  unfold F_spec_woOther at h
  split at h
  · injection h with h; injection h with h1 h2; subst h1; subst h2
    exact ⟨rfl, (congrArg At (eq_spec_woOther _ _)).mp ⟨vc_spec_woOther _ hp⟩⟩
  · cases h
def TM1_16 : Tab := TM1_15.add 40 F_spec_woOther
theorem TM1_16_ok : TM1_16.Ok Try.prog := TM1_15_ok.add ok_spec_woOther
theorem eq_impl_exchanged (s : List UInt8) (K : V → Prop) : VC_impl_exchanged s K = vbody Try.prog (vin Try.prog TM1_16 annTM1 3) TM1_16.looks (annTM1 42) 42 [.str s] [] (fun v _ => K v) := by kernel_rfl
theorem ok_impl_exchanged : OK Try.prog 42 F_impl_exchanged.spec := (vbody_ok (vin_ok TM1_16_ok annTM1 3) TM1_16_ok.looks _ _).ofF fun args m p R h hp => by
  unfold F_impl_exchanged at h
  split at h
  · injection h with h; injection h with h1 h2; subst h1; subst h2
    exact ⟨rfl, (congrArg At (eq_impl_exchanged _ _)).mp ⟨vc_impl_exchanged _ hp⟩⟩
  · cases h
def TM1_17 : Tab := TM1_16.add 42 F_impl_exchanged
theorem TM1_17_ok : TM1_17.Ok Try.prog := TM1_16_ok.add ok_impl_exchanged
theorem eq_spec_woZeros (n : Int) (K : V → Prop) : VC_spec_woZeros n K = vbody Try.prog (vin Try.prog TM1_17 annTM1 3) TM1_17.looks (annTM1 64) 64 [.int .i64 n] [] (fun v _ => K v) := by kernel_rfl
theorem ok_spec_woZeros : OK Try.prog 64 F_spec_woZeros.spec := (vbody_ok (vin_ok TM1_17_ok annTM1 3) TM1_17_ok.looks _ _).ofF fun args m p R h hp => by
  unfold F_spec_woZeros at h
  split at h
  · injection h with h; injection h with h1 h2; subst h1; subst h2
    exact ⟨rfl, (congrArg At (eq_spec_woZeros _ _)).mp ⟨vc_spec_woZeros _ hp⟩⟩
  · cases h
def TM1_18 : Tab := TM1_17.add 64 F_spec_woZeros
theorem TM1_18_ok : TM1_18.Ok Try.prog := TM1_17_ok.add ok_spec_woZeros
theorem eq_spec_woMap (wr : List UInt8) (ww : Int) (wh : Int) (wc : List UInt8) (wx : Int) (wy : Int) (wd : Int) (width : Int) (height : Int) (b0 : Int) (b1 : Int) (b2 : Int) (b3 : Int) (b4 : Int) (b5 : Int) (K : V → Prop) : VC_spec_woMap wr ww wh wc wx wy wd width height b0 b1 b2 b3 b4 b5 K = vbody Try.prog (vin Try.prog TM1_18 annTM1 4) TM1_18.looks (annTM1 34) 34 [.agg [.str wr, .int .i64 ww, .int .i64 wh, .str wc, .int .i64 wx, .int .i64 wy, .int .i64 wd], .int .i64 width, .int .i64 height, .agg [.int .i64 b0, .int .i64 b1, .int .i64 b2, .int .i64 b3, .int .i64 b4, .int .i64 b5]] [] (fun v _ => K v) := by kernel_rfl
theorem ok_spec_woMap : OK Try.prog 34 F_spec_woMap.spec := (vbody_ok (vin_ok TM1_18_ok annTM1 4) TM1_18_ok.looks _ _).ofF fun args m p R h hp => by
  unfold F_spec_woMap at h
  split at h
  · injection h with h; injection h with h1 h2; subst h1; subst h2
    exact ⟨rfl, (congrArg At (eq_spec_woMap _ _ _ _ _ _ _ _ _ _ _ _ _ _ _ _)).mp ⟨vc_spec_woMap _ _ _ _ _ _ _ _ _ _ _ _ _ _ _ hp⟩⟩
  · cases h
def TM1_19 : Tab := TM1_18.add 34 F_spec_woMap
theorem TM1_19_ok : TM1_19.Ok Try.prog := TM1_18_ok.add ok_spec_woMap
theorem eq_spec_ShiftWorld (wr : List UInt8) (ww : Int) (wh : Int) (wc : List UInt8) (wx : Int) (wy : Int) (wd : Int) (right : Int) (down : Int) (K : V → Prop) : VC_spec_ShiftWorld wr ww wh wc wx wy wd right down K = vbody Try.prog (vin Try.prog TM1_19 annTM1 3) TM1_19.looks (annTM1 16) 16 [.agg [.str wr, .int .i64 ww, .int .i64 wh, .str wc, .int .i64 wx, .int .i64 wy, .int .i64 wd], .int .i64 right, .int .i64 down] [] (fun v _ => K v) := by kernel_rfl
theorem ok_spec_ShiftWorld : OK Try.prog 16 F_spec_ShiftWorld.spec := (vbody_ok (vin_ok TM1_19_ok annTM1 3) TM1_19_ok.looks _ _).ofF fun args m p R h hp => by
  unfold F_spec_ShiftWorld at h
  split at h
  · injection h with h; injection h with h1 h2; subst h1; subst h2
    exact ⟨rfl, (congrArg At (eq_spec_ShiftWorld _ _ _ _ _ _ _ _ _ _)).mp ⟨vc_spec_ShiftWorld _ _ _ _ _ _ _ _ _ hp⟩⟩
  · cases h
def TM1_20 : Tab := TM1_19.add 16 F_spec_ShiftWorld
theorem TM1_20_ok : TM1_20.Ok Try.prog := TM1_19_ok.add ok_spec_ShiftWorld
theorem eq_spec_TurnWorld (wr : List UInt8) (ww : Int) (wh : Int) (wc : List UInt8) (wx : Int) (wy : Int) (wd : Int) (K : V → Prop) : VC_spec_TurnWorld wr ww wh wc wx wy wd K = vbody Try.prog (vin Try.prog TM1_20 annTM1 3) TM1_20.looks (annTM1 19) 19 [.agg [.str wr, .int .i64 ww, .int .i64 wh, .str wc, .int .i64 wx, .int .i64 wy, .int .i64 wd]] [] (fun v _ => K v) := by kernel_rfl
theorem ok_spec_TurnWorld : OK Try.prog 19 F_spec_TurnWorld.spec := (vbody_ok (vin_ok TM1_20_ok annTM1 3) TM1_20_ok.looks _ _).ofF fun args m p R h hp => by
  unfold F_spec_TurnWorld at h
  split at h
  · injection h with h; injection h with h1 h2; subst h1; subst h2
    exact ⟨rfl, (congrArg At (eq_spec_TurnWorld _ _ _ _ _ _ _ _)).mp ⟨vc_spec_TurnWorld _ _ _ _ _ _ _ hp⟩⟩
  · cases h
def TM1_21 : Tab := TM1_20.add 19 F_spec_TurnWorld
theorem TM1_21_ok : TM1_21.Ok Try.prog := TM1_20_ok.add ok_spec_TurnWorld
theorem eq_spec_MirrorWorld (wr : List UInt8) (ww : Int) (wh : Int) (wc : List UInt8) (wx : Int) (wy : Int) (wd : Int) (K : V → Prop) : VC_spec_MirrorWorld wr ww wh wc wx wy wd K = vbody Try.prog (vin Try.prog TM1_21 annTM1 3) TM1_21.looks (annTM1 21) 21 [.agg [.str wr, .int .i64 ww, .int .i64 wh, .str wc, .int .i64 wx, .int .i64 wy, .int .i64 wd]] [] (fun v _ => K v) := by kernel_rfl
theorem ok_spec_MirrorWorld : OK Try.prog 21 F_spec_MirrorWorld.spec := (vbody_ok (vin_ok TM1_21_ok annTM1 3) TM1_21_ok.looks _ _).ofF fun args m p R h hp => by
  unfold F_spec_MirrorWorld at h
  split at h
  · injection h with h; injection h with h1 h2; subst h1; subst h2
    exact ⟨rfl, (congrArg At (eq_spec_MirrorWorld _ _ _ _ _ _ _ _)).mp ⟨vc_spec_MirrorWorld _ _ _ _ _ _ _ hp⟩⟩
  · cases h
def TM1_22 : Tab := TM1_21.add 21 F_spec_MirrorWorld
theorem TM1_22_ok : TM1_22.Ok Try.prog := TM1_21_ok.add ok_spec_MirrorWorld
theorem eq_impl_ShiftWorld_1 (x : Int) (y : Int) (right : Int) (down : Int) (wr : List UInt8) (ww : Int) (wh : Int) (wc : List UInt8) (wx : Int) (wy : Int) (wd : Int) (K : V → List Blk → Prop) : VC_impl_ShiftWorld_1 x y right down wr ww wh wc wx wy wd K = vbody Try.prog (vin Try.prog TM1_22 annTM1 3) TM1_22.looks (annTM1 37) 37 [.int .i64 x, .int .i64 y, .ptr 0 0, .ptr 1 0, .ptr 2 0] [⟨.vals [.int .i64 right], 3, .box⟩, ⟨.vals [.str wr, .int .i64 ww, .int .i64 wh, .str wc, .int .i64 wx, .int .i64 wy, .int .i64 wd], 28, .box⟩, ⟨.vals [.int .i64 down], 3, .box⟩] (K) := by kernel_rfl
theorem ok_impl_ShiftWorld_1 : OK Try.prog 37 F_impl_ShiftWorld_1.spec := (vbody_ok (vin_ok TM1_22_ok annTM1 3) TM1_22_ok.looks _ _).ofFM fun args m p R h hp => by
  unfold F_impl_ShiftWorld_1 at h
  split at h
  · injection h with h; injection h with h1 h2; subst h1; subst h2
    exact (congrArg At (eq_impl_ShiftWorld_1 _ _ _ _ _ _ _ _ _ _ _ _)).mp ⟨vc_impl_ShiftWorld_1 _ _ _ _ _ _ _ _ _ _ _ hp⟩
  · cases h
def TM1_23 : Tab := TM1_22.add 37 F_impl_ShiftWorld_1
theorem TM1_23_ok : TM1_23.Ok Try.prog := TM1_22_ok.add ok_impl_ShiftWorld_1
theorem eq_impl_TurnWorld_1 (x : Int) (y : Int) (wr : List UInt8) (ww : Int) (wh : Int) (wc : List UInt8) (wx : Int) (wy : Int) (wd : Int) (K : V → List Blk → Prop) : VC_impl_TurnWorld_1 x y wr ww wh wc wx wy wd K = vbody Try.prog (vin Try.prog TM1_23 annTM1 3) TM1_23.looks (annTM1 38) 38 [.int .i64 x, .int .i64 y, .ptr 0 0] [⟨.vals [.str wr, .int .i64 ww, .int .i64 wh, .str wc, .int .i64 wx, .int .i64 wy, .int .i64 wd], 28, .box⟩] (K) := by kernel_rfl
theorem ok_impl_TurnWorld_1 : OK Try.prog 38 F_impl_TurnWorld_1.spec := (vbody_ok (vin_ok TM1_23_ok annTM1 3) TM1_23_ok.looks _ _).ofFM fun args m p R h hp => by
  unfold F_impl_TurnWorld_1 at h
  split at h
  · injection h with h; injection h with h1 h2; subst h1; subst h2
    exact (congrArg At (eq_impl_TurnWorld_1 _ _ _ _ _ _ _ _ _ _)).mp ⟨vc_impl_TurnWorld_1 _ _ _ _ _ _ _ _ _ hp⟩
  · cases h
def TM1_24 : Tab := TM1_23.add 38 F_impl_TurnWorld_1
theorem TM1_24_ok : TM1_24.Ok Try.prog := TM1_23_ok.add ok_impl_TurnWorld_1
theorem eq_impl_MirrorWorld_1 (x : Int) (y : Int) (wr : List UInt8) (ww : Int) (wh : Int) (wc : List UInt8) (wx : Int) (wy : Int) (wd : Int) (K : V → List Blk → Prop) : VC_impl_MirrorWorld_1 x y wr ww wh wc wx wy wd K = vbody Try.prog (vin Try.prog TM1_24 annTM1 3) TM1_24.looks (annTM1 41) 41 [.int .i64 x, .int .i64 y, .ptr 0 0] [⟨.vals [.str wr, .int .i64 ww, .int .i64 wh, .str wc, .int .i64 wx, .int .i64 wy, .int .i64 wd], 28, .box⟩] (K) := by kernel_rfl
theorem ok_impl_MirrorWorld_1 : OK Try.prog 41 F_impl_MirrorWorld_1.spec := (vbody_ok (vin_ok TM1_24_ok annTM1 3) TM1_24_ok.looks _ _).ofFM fun args m p R h hp => by
  unfold F_impl_MirrorWorld_1 at h
  split at h
  · injection h with h; injection h with h1 h2; subst h1; subst h2
    exact (congrArg At (eq_impl_MirrorWorld_1 _ _ _ _ _ _ _ _ _ _)).mp ⟨vc_impl_MirrorWorld_1 _ _ _ _ _ _ _ _ _ hp⟩
  · cases h
def TM1_25 : Tab := TM1_24.add 41 F_impl_MirrorWorld_1
theorem TM1_25_ok : TM1_25.Ok Try.prog := TM1_24_ok.add ok_impl_MirrorWorld_1
theorem eq_impl_ShiftWorld (wr : List UInt8) (ww : Int) (wh : Int) (wc : List UInt8) (wx : Int) (wy : Int) (wd : Int) (right : Int) (down : Int) (K : V → Prop) : VC_impl_ShiftWorld wr ww wh wc wx wy wd right down K = vbody Try.prog (vin Try.prog TM1_25 annTM1 4) TM1_25.looks (annTM1 17) 17 [.agg [.str wr, .int .i64 ww, .int .i64 wh, .str wc, .int .i64 wx, .int .i64 wy, .int .i64 wd], .int .i64 right, .int .i64 down] [] (fun v _ => K v) := by kernel_rfl
theorem ok_impl_ShiftWorld : OK Try.prog 17 F_impl_ShiftWorld.spec := (vbody_ok (vin_ok TM1_25_ok annTM1 4) TM1_25_ok.looks _ _).ofF fun args m p R h hp => by
  unfold F_impl_ShiftWorld at h
  split at h
  · injection h with h; injection h with h1 h2; subst h1; subst h2
    exact ⟨rfl, (congrArg At (eq_impl_ShiftWorld _ _ _ _ _ _ _ _ _ _)).mp ⟨vc_impl_ShiftWorld _ _ _ _ _ _ _ _ _ hp⟩⟩
  · cases h
def TM1_26 : Tab := TM1_25.add 17 F_impl_ShiftWorld
theorem TM1_26_ok : TM1_26.Ok Try.prog := TM1_25_ok.add ok_impl_ShiftWorld
theorem eq_impl_TurnWorld (wr : List UInt8) (ww : Int) (wh : Int) (wc : List UInt8) (wx : Int) (wy : Int) (wd : Int) (K : V → Prop) : VC_impl_TurnWorld wr ww wh wc wx wy wd K = vbody Try.prog (vin Try.prog TM1_26 annTM1 4) TM1_26.looks (annTM1 20) 20 [.agg [.str wr, .int .i64 ww, .int .i64 wh, .str wc, .int .i64 wx, .int .i64 wy, .int .i64 wd]] [] (fun v _ => K v) := by kernel_rfl
theorem ok_impl_TurnWorld : OK Try.prog 20 F_impl_TurnWorld.spec := (vbody_ok (vin_ok TM1_26_ok annTM1 4) TM1_26_ok.looks _ _).ofF fun args m p R h hp => by
  unfold F_impl_TurnWorld at h
  split at h
  · injection h with h; injection h with h1 h2; subst h1; subst h2
    exact ⟨rfl, (congrArg At (eq_impl_TurnWorld _ _ _ _ _ _ _ _)).mp ⟨vc_impl_TurnWorld _ _ _ _ _ _ _ hp⟩⟩
  · cases h
def TM1_27 : Tab := TM1_26.add 20 F_impl_TurnWorld
theorem TM1_27_ok : TM1_27.Ok Try.prog := TM1_26_ok.add ok_impl_TurnWorld
theorem eq_impl_MirrorWorld (wr : List UInt8) (ww : Int) (wh : Int) (wc : List UInt8) (wx : Int) (wy : Int) (wd : Int) (K : V → Prop) : VC_impl_MirrorWorld wr ww wh wc wx wy wd K = vbody Try.prog (vin Try.prog TM1_27 annTM1 4) TM1_27.looks (annTM1 22) 22 [.agg [.str wr, .int .i64 ww, .int .i64 wh, .str wc, .int .i64 wx, .int .i64 wy, .int .i64 wd]] [] (fun v _ => K v) := by kernel_rfl
theorem ok_impl_MirrorWorld : OK Try.prog 22 F_impl_MirrorWorld.spec := (vbody_ok (vin_ok TM1_27_ok annTM1 4) TM1_27_ok.looks _ _).ofF fun args m p R h hp => by
  unfold F_impl_MirrorWorld at h
  split at h
  · injection h with h; injection h with h1 h2; subst h1; subst h2
    exact ⟨rfl, (congrArg At (eq_impl_MirrorWorld _ _ _ _ _ _ _ _)).mp ⟨vc_impl_MirrorWorld _ _ _ _ _ _ _ hp⟩⟩
  · cases h
def TM1_28 : Tab := TM1_27.add 22 F_impl_MirrorWorld
theorem TM1_28_ok : TM1_28.Ok Try.prog := TM1_27_ok.add ok_impl_MirrorWorld
def TM1 : Tab := TM1_28
theorem TM1_ok : TM1.Ok Try.prog := TM1_28_ok
end Go.Proofs.Ytbchncdchanomab
