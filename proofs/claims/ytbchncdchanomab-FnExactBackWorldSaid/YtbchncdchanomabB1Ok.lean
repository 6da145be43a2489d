/- The contracts of this chapter. -/
import Derived.Test.YtbchncdchanomabProg
import Derived.Test.YtbchncdchanomabB1Pf
import Derived.KernelRfl
namespace Go.Proofs.Ytbchncdchanomab
open Go Go.Vi
set_option linter.unusedVariables false
def annTB1 : FuncId → Nat → St → Option Ann := fun f => if f = 58 then ann_spec_woRule else if f = 60 then ann_impl_IsRule else if f = 30 then ann_spec_woGood else if f = 62 then ann_impl_areColours else if f = 40 then ann_spec_woOther else if f = 42 then ann_impl_exchanged else if f = 43 then ann_spec_woReverse else if f = 48 then ann_impl_backwards else if f = 23 then ann_spec_BackWorld else if f = 24 then ann_impl_BackWorld else if f = 10 then ann_spec_CountColours else if f = 12 then ann_impl_CountColours else if f = 13 then ann_laws_eqIntS else if f = 14 then ann_laws_markIntS else if f = 15 then ann_laws_heldIntS else (fun _ _ => none)
def TB1_0 : Tab := Tab.none
theorem TB1_0_ok : TB1_0.Ok Try.prog := Tab.none_ok
theorem eq_spec_l1In (n : Int) (lo : Int) (hi : Int) (K : V → Prop) : VC_spec_l1In n lo hi K = vbody Try.prog (vin Try.prog TB1_0 annTB1 3) TB1_0.looks (annTB1 59) 59 [.int .i64 n, .int .i64 lo, .int .i64 hi] [] (fun v _ => K v) := by kernel_rfl
theorem ok_spec_l1In : OK Try.prog 59 F_spec_l1In.spec := (vbody_ok (vin_ok TB1_0_ok annTB1 3) TB1_0_ok.looks _ _).ofF fun args m p R h hp => by
  unfold F_spec_l1In at h
  split at h
  · injection h with h; injection h with h1 h2; subst h1; subst h2
    exact ⟨rfl, (congrArg At (eq_spec_l1In _ _ _ _)).mp ⟨vc_spec_l1In _ _ _ hp⟩⟩
  · cases h
def TB1_1 : Tab := TB1_0.add 59 F_spec_l1In
theorem TB1_1_ok : TB1_1.Ok Try.prog := TB1_0_ok.add ok_spec_l1In
theorem eq_impl_within (n : Int) (lo : Int) (hi : Int) (K : V → Prop) : VC_impl_within n lo hi K = vbody Try.prog (vin Try.prog TB1_1 annTB1 3) TB1_1.looks (annTB1 67) 67 [.int .i64 n, .int .i64 lo, .int .i64 hi] [] (fun v _ => K v) := by kernel_rfl
theorem ok_impl_within : OK Try.prog 67 F_impl_within.spec := (vbody_ok (vin_ok TB1_1_ok annTB1 3) TB1_1_ok.looks _ _).ofF fun args m p R h hp => by
  unfold F_impl_within at h
  split at h
  · injection h with h; injection h with h1 h2; subst h1; subst h2
    exact ⟨rfl, (congrArg At (eq_impl_within _ _ _ _)).mp ⟨vc_impl_within _ _ _ hp⟩⟩
  · cases h
def TB1_2 : Tab := TB1_1.add 67 F_impl_within
theorem TB1_2_ok : TB1_2.Ok Try.prog := TB1_1_ok.add ok_impl_within
theorem eq_impl_digit (b : Int) (K : V → Prop) : VC_impl_digit b K = vbody Try.prog (vin Try.prog TB1_2 annTB1 3) TB1_2.looks (annTB1 32) 32 [.int .u8 b] [] (fun v _ => K v) := by kernel_rfl
theorem ok_impl_digit : OK Try.prog 32 F_impl_digit.spec := (vbody_ok (vin_ok TB1_2_ok annTB1 3) TB1_2_ok.looks _ _).ofF fun args m p R h hp => by
  unfold F_impl_digit at h
  split at h
  · injection h with h; injection h with h1 h2; subst h1; subst h2
    exact ⟨rfl, (congrArg At (eq_impl_digit _ _)).mp ⟨vc_impl_digit _ hp⟩⟩
  · cases h
def TB1_3 : Tab := TB1_2.add 32 F_impl_digit
theorem TB1_3_ok : TB1_3.Ok Try.prog := TB1_2_ok.add ok_impl_digit
theorem eq_spec_woRule (s : List UInt8) (K : V → Prop) : VC_spec_woRule s K = vbody Try.prog (vin Try.prog TB1_3 annTB1 3) TB1_3.looks (annTB1 58) 58 [.str s] [] (fun v _ => K v) := by kernel_rfl
theorem ok_spec_woRule : OK Try.prog 58 F_spec_woRule.spec := (vbody_ok (vin_ok TB1_3_ok annTB1 3) TB1_3_ok.looks _ _).ofF fun args m p R h hp => by
  unfold F_spec_woRule at h
  split at h
  · injection h with h; injection h with h1 h2; subst h1; subst h2
    exact ⟨rfl, (congrArg At (eq_spec_woRule _ _)).mp ⟨vc_spec_woRule _ hp⟩⟩
  · cases h
def TB1_4 : Tab := TB1_3.add 58 F_spec_woRule
theorem TB1_4_ok : TB1_4.Ok Try.prog := TB1_3_ok.add ok_spec_woRule
theorem eq_impl_IsRule (s : List UInt8) (K : V → Prop) : VC_impl_IsRule s K = vbody Try.prog (vin Try.prog TB1_4 annTB1 3) TB1_4.looks (annTB1 60) 60 [.str s] [] (fun v _ => K v) := by kernel_rfl
theorem ok_impl_IsRule : OK Try.prog 60 F_impl_IsRule.spec := (vbody_ok (vin_ok TB1_4_ok annTB1 3) TB1_4_ok.looks _ _).ofF fun args m p R h hp => by
  unfold F_impl_IsRule at h
  split at h
  · injection h with h; injection h with h1 h2; subst h1; subst h2
    exact ⟨rfl, (congrArg At (eq_impl_IsRule _ _)).mp ⟨vc_impl_IsRule _ hp⟩⟩
  · cases h
def TB1_5 : Tab := TB1_4.add 60 F_impl_IsRule
theorem TB1_5_ok : TB1_5.Ok Try.prog := TB1_4_ok.add ok_impl_IsRule
theorem eq_spec_woGood (wr : List UInt8) (ww : Int) (wh : Int) (wc : List UInt8) (wx : Int) (wy : Int) (wd : Int) (K : V → Prop) : VC_spec_woGood wr ww wh wc wx wy wd K = vbody Try.prog (vin Try.prog TB1_5 annTB1 3) TB1_5.looks (annTB1 30) 30 [.agg [.str wr, .int .i64 ww, .int .i64 wh, .str wc, .int .i64 wx, .int .i64 wy, .int .i64 wd]] [] (fun v _ => K v) := by kernel_rfl
theorem ok_spec_woGood : OK Try.prog 30 F_spec_woGood.spec := (vbody_ok (vin_ok TB1_5_ok annTB1 3) TB1_5_ok.looks _ _).ofF fun args m p R h hp => by
  unfold F_spec_woGood at h
  split at h
  · injection h with h; injection h with h1 h2; subst h1; subst h2
    exact ⟨rfl, (congrArg At (eq_spec_woGood _ _ _ _ _ _ _ _)).mp ⟨vc_spec_woGood _ _ _ _ _ _ _ hp⟩⟩
  · cases h
def TB1_6 : Tab := TB1_5.add 30 F_spec_woGood
theorem TB1_6_ok : TB1_6.Ok Try.prog := TB1_5_ok.add ok_spec_woGood
theorem eq_impl_areColours (s : List UInt8) (n : Int) (K : V → Prop) : VC_impl_areColours s n K = vbody Try.prog (vin Try.prog TB1_6 annTB1 3) TB1_6.looks (annTB1 62) 62 [.str s, .int .i64 n] [] (fun v _ => K v) := by kernel_rfl
theorem ok_impl_areColours : OK Try.prog 62 F_impl_areColours.spec := (vbody_ok (vin_ok TB1_6_ok annTB1 3) TB1_6_ok.looks _ _).ofF fun args m p R h hp => by
  unfold F_impl_areColours at h
  split at h
  · injection h with h; injection h with h1 h2; subst h1; subst h2
    exact ⟨rfl, (congrArg At (eq_impl_areColours _ _ _)).mp ⟨vc_impl_areColours _ _ hp⟩⟩
  · cases h
def TB1_7 : Tab := TB1_6.add 62 F_impl_areColours
theorem TB1_7_ok : TB1_7.Ok Try.prog := TB1_6_ok.add ok_impl_areColours
theorem eq_impl_IsWorld (wr : List UInt8) (ww : Int) (wh : Int) (wc : List UInt8) (wx : Int) (wy : Int) (wd : Int) (K : V → Prop) : VC_impl_IsWorld wr ww wh wc wx wy wd K = vbody Try.prog (vin Try.prog TB1_7 annTB1 4) TB1_7.looks (annTB1 31) 31 [.agg [.str wr, .int .i64 ww, .int .i64 wh, .str wc, .int .i64 wx, .int .i64 wy, .int .i64 wd]] [] (fun v _ => K v) := by kernel_rfl
theorem ok_impl_IsWorld : OK Try.prog 31 F_impl_IsWorld.spec := (vbody_ok (vin_ok TB1_7_ok annTB1 4) TB1_7_ok.looks _ _).ofF fun args m p R h hp => by
  unfold F_impl_IsWorld at h
  split at h
  · injection h with h; injection h with h1 h2; subst h1; subst h2
    exact ⟨rfl, (congrArg At (eq_impl_IsWorld _ _ _ _ _ _ _ _)).mp ⟨vc_impl_IsWorld _ _ _ _ _ _ _ hp⟩⟩
  · cases h
def TB1_8 : Tab := TB1_7.add 31 F_impl_IsWorld
theorem TB1_8_ok : TB1_8.Ok Try.prog := TB1_7_ok.add ok_impl_IsWorld
theorem eq_laws_szWorld (wr : List UInt8) (ww : Int) (wh : Int) (wc : List UInt8) (wx : Int) (wy : Int) (wd : Int) (left : Int) (K : V → Prop) : VC_laws_szWorld wr ww wh wc wx wy wd left K = vbody Try.prog (vin Try.prog TB1_8 annTB1 3) TB1_8.looks (annTB1 9) 9 [.agg [.str wr, .int .i64 ww, .int .i64 wh, .str wc, .int .i64 wx, .int .i64 wy, .int .i64 wd], .int .i64 left] [] (fun v _ => K v) := by kernel_rfl
theorem ok_laws_szWorld : OK Try.prog 9 F_laws_szWorld.spec := (vbody_ok (vin_ok TB1_8_ok annTB1 3) TB1_8_ok.looks _ _).ofF fun args m p R h hp => by
  unfold F_laws_szWorld at h
  split at h
  · injection h with h; injection h with h1 h2; subst h1; subst h2
    exact ⟨rfl, (congrArg At (eq_laws_szWorld _ _ _ _ _ _ _ _ _)).mp ⟨vc_laws_szWorld _ _ _ _ _ _ _ _ hp⟩⟩
  · cases h
def TB1_9 : Tab := TB1_8.add 9 F_laws_szWorld
theorem TB1_9_ok : TB1_9.Ok Try.prog := TB1_8_ok.add ok_laws_szWorld
theorem eq_laws_eqWorld (ar : List UInt8) (aw : Int) (ah : Int) (ac : List UInt8) (ax : Int) (ay : Int) (ad : Int) (br : List UInt8) (bw : Int) (bh : Int) (bc : List UInt8) (bx : Int) (by_ : Int) (bd : Int) (K : V → Prop) : VC_laws_eqWorld ar aw ah ac ax ay ad br bw bh bc bx by_ bd K = vbody Try.prog (vin Try.prog TB1_9 annTB1 3) TB1_9.looks (annTB1 18) 18 [.agg [.str ar, .int .i64 aw, .int .i64 ah, .str ac, .int .i64 ax, .int .i64 ay, .int .i64 ad], .agg [.str br, .int .i64 bw, .int .i64 bh, .str bc, .int .i64 bx, .int .i64 by_, .int .i64 bd]] [] (fun v _ => K v) := by kernel_rfl
theorem ok_laws_eqWorld : OK Try.prog 18 F_laws_eqWorld.spec := (vbody_ok (vin_ok TB1_9_ok annTB1 3) TB1_9_ok.looks _ _).ofF fun args m p R h hp => by
  unfold F_laws_eqWorld at h
  split at h
  · injection h with h; injection h with h1 h2; subst h1; subst h2
    exact ⟨rfl, (congrArg At (eq_laws_eqWorld _ _ _ _ _ _ _ _ _ _ _ _ _ _ _)).mp ⟨vc_laws_eqWorld _ _ _ _ _ _ _ _ _ _ _ _ _ _ hp⟩⟩
  · cases h
def TB1_10 : Tab := TB1_9.add 18 F_laws_eqWorld
theorem TB1_10_ok : TB1_10.Ok Try.prog := TB1_9_ok.add ok_laws_eqWorld
theorem eq_spec_l1Num (n : Int) (K : V → Prop) : VC_spec_l1Num n K = vbody Try.prog (vin Try.prog TB1_10 annTB1 3) TB1_10.looks (annTB1 45) 45 [.int .i64 n] [] (fun v _ => K v) := by kernel_rfl
theorem ok_spec_l1Num : OK Try.prog 45 F_spec_l1Num.spec := (vbody_ok (vin_ok TB1_10_ok annTB1 3) TB1_10_ok.looks _ _).ofF fun args m p R h hp => by
  unfold F_spec_l1Num at h
  split at h
  · injection h with h; injection h with h1 h2; subst h1; subst h2
    exact ⟨rfl, (congrArg At (eq_spec_l1Num _ _)).mp ⟨vc_spec_l1Num _ hp⟩⟩
  · cases h
def TB1_11 : Tab := TB1_10.add 45 F_spec_l1Num
theorem TB1_11_ok : TB1_11.Ok Try.prog := TB1_10_ok.add ok_spec_l1Num
theorem eq_spec_l1Mod (n : Int) (m : Int) (K : V → Prop) : VC_spec_l1Mod n m K = vbody Try.prog (vin Try.prog TB1_11 annTB1 3) TB1_11.looks (annTB1 44) 44 [.int .i64 n, .int .i64 m] [] (fun v _ => K v) := by kernel_rfl
theorem ok_spec_l1Mod : OK Try.prog 44 F_spec_l1Mod.spec := (vbody_ok (vin_ok TB1_11_ok annTB1 3) TB1_11_ok.looks _ _).ofF fun args m p R h hp => by
  unfold F_spec_l1Mod at h
  split at h
  · injection h with h; injection h with h1 h2; subst h1; subst h2
    exact ⟨rfl, (congrArg At (eq_spec_l1Mod _ _ _)).mp ⟨vc_spec_l1Mod _ _ hp⟩⟩
  · cases h
def TB1_12 : Tab := TB1_11.add 44 F_spec_l1Mod
theorem TB1_12_ok : TB1_12.Ok Try.prog := TB1_11_ok.add ok_spec_l1Mod
theorem eq_impl_direction (d : Int) (K : V → Prop) : VC_impl_direction d K = vbody Try.prog (vin Try.prog TB1_12 annTB1 3) TB1_12.looks (annTB1 68) 68 [.int .i64 d] [] (fun v _ => K v) := by kernel_rfl
theorem ok_impl_direction : OK Try.prog 68 F_impl_direction.spec := (vbody_ok (vin_ok TB1_12_ok annTB1 3) TB1_12_ok.looks _ _).ofF fun args m p R h hp => by
  unfold F_impl_direction at h
  split at h
  · injection h with h; injection h with h1 h2; subst h1; subst h2
    exact ⟨rfl, (congrArg At (eq_impl_direction _ _)).mp ⟨vc_impl_direction _ hp⟩⟩
  · cases h
def TB1_13 : Tab := TB1_12.add 68 F_impl_direction
theorem TB1_13_ok : TB1_13.Ok Try.prog := TB1_12_ok.add ok_impl_direction
theorem eq_impl_board_turned (wr : List UInt8) (ww : Int) (wh : Int) (wc : List UInt8) (wx : Int) (wy : Int) (wd : Int) (q : Int) (K : V → Prop) : VC_impl_board_turned wr ww wh wc wx wy wd q K = vbody Try.prog (vin Try.prog TB1_13 annTB1 3) TB1_13.looks (annTB1 39) 39 [.agg [.str wr, .int .i64 ww, .int .i64 wh, .str wc, .int .i64 wx, .int .i64 wy, .int .i64 wd], .int .i64 q] [] (fun v _ => K v) := by kernel_rfl
theorem ok_impl_board_turned : OK Try.prog 39 F_impl_board_turned.spec := (vbody_ok (vin_ok TB1_13_ok annTB1 3) TB1_13_ok.looks _ _).ofF fun args m p R h hp => by
  unfold F_impl_board_turned at h
  split at h
  · injection h with h; injection h with h1 h2; subst h1; subst h2
    exact ⟨rfl, (congrArg At (eq_impl_board_turned _ _ _ _ _ _ _ _ _)).mp ⟨vc_impl_board_turned _ _ _ _ _ _ _ _ hp⟩⟩
  · cases h
def TB1_14 : Tab := TB1_13.add 39 F_impl_board_turned
theorem TB1_14_ok : TB1_14.Ok Try.prog := TB1_13_ok.add ok_impl_board_turned
theorem eq_impl_board_moved (wr : List UInt8) (ww : Int) (wh : Int) (wc : List UInt8) (wx : Int) (wy : Int) (wd : Int) (k : Int) (K : V → Prop) : VC_impl_board_moved wr ww wh wc wx wy wd k K = vbody Try.prog (vin Try.prog TB1_14 annTB1 3) TB1_14.looks (annTB1 47) 47 [.agg [.str wr, .int .i64 ww, .int .i64 wh, .str wc, .int .i64 wx, .int .i64 wy, .int .i64 wd], .int .i64 k] [] (fun v _ => K v) := by kernel_rfl
theorem ok_impl_board_moved : OK Try.prog 47 F_impl_board_moved.spec := (vbody_ok (vin_ok TB1_14_ok annTB1 3) TB1_14_ok.looks _ _).ofF fun args m p R h hp => by
  unfold F_impl_board_moved at h
  split at h
  · injection h with h; injection h with h1 h2; subst h1; subst h2
    exact ⟨rfl, (congrArg At (eq_impl_board_moved _ _ _ _ _ _ _ _ _)).mp ⟨vc_impl_board_moved _ _ _ _ _ _ _ _ hp⟩⟩
  · cases h
def TB1_15 : Tab := TB1_14.add 47 F_impl_board_moved
theorem TB1_15_ok : TB1_15.Ok Try.prog := TB1_14_ok.add ok_impl_board_moved
theorem eq_spec_woGo (k : Int) (wr : List UInt8) (ww : Int) (wh : Int) (wc : List UInt8) (wx : Int) (wy : Int) (wd : Int) (e : TypeId) (K : V → List Blk → Prop) : VC_spec_woGo k wr ww wh wc wx wy wd e K = vbody Try.prog (vin Try.prog TB1_15 annTB1 3) TB1_15.looks (annTB1 46) 46 [.ptr 0 0, .int .i64 k] [⟨.vals [.str wr, .int .i64 ww, .int .i64 wh, .str wc, .int .i64 wx, .int .i64 wy, .int .i64 wd], e, .box⟩] (K) := by kernel_rfl
theorem ok_spec_woGo : OK Try.prog 46 F_spec_woGo.spec := (vbody_ok (vin_ok TB1_15_ok annTB1 3) TB1_15_ok.looks _ _).ofG fun args m p R M h hp => by
  unfold F_spec_woGo at h
  split at h
  · injection h with h; injection h with h1 h2; injection h2 with h2 h3; subst h1; subst h2; subst h3
    exact (congrArg At (eq_spec_woGo _ _ _ _ _ _ _ _ _ _)).mp ⟨vc_spec_woGo _ _ _ _ _ _ _ _ _ hp⟩
  · cases h
def TB1_16 : Tab := TB1_15.addG 46 F_spec_woGo
theorem TB1_16_ok : TB1_16.Ok Try.prog := TB1_15_ok.addG ok_spec_woGo
theorem eq_spec_woOther (s : List UInt8) (K : V → Prop) : VC_spec_woOther s K = vbody Try.prog (vin Try.prog TB1_16 annTB1 3) TB1_16.looks (annTB1 40) 40 [.str s] [] (fun v _ => K v) := by kernel_rfl
theorem ok_spec_woOther : OK Try.prog 40 F_spec_woOther.spec := (vbody_ok (vin_ok TB1_16_ok annTB1 3) TB1_16_ok.looks _ _).ofF fun args m p R h hp => by
  unfold F_spec_woOther at h
  split at h
  · injection h with h; injection h with h1 h2; subst h1; subst h2
    exact ⟨rfl, (congrArg At (eq_spec_woOther _ _)).mp ⟨vc_spec_woOther _ hp⟩⟩
  · cases h
def TB1_17 : Tab := TB1_16.add 40 F_spec_woOther
theorem TB1_17_ok : TB1_17.Ok Try.prog := TB1_16_ok.add ok_spec_woOther
theorem eq_impl_exchanged (s : List UInt8) (K : V → Prop) : VC_impl_exchanged s K = vbody Try.prog (vin Try.prog TB1_17 annTB1 3) TB1_17.looks (annTB1 42) 42 [.str s] [] (fun v _ => K v) := by kernel_rfl
theorem ok_impl_exchanged : OK Try.prog 42 F_impl_exchanged.spec := (vbody_ok (vin_ok TB1_17_ok annTB1 3) TB1_17_ok.looks _ _).ofF fun args m p R h hp => by
  unfold F_impl_exchanged at h
  split at h
  · injection h with h; injection h with h1 h2; subst h1; subst h2
    exact ⟨rfl, (congrArg At (eq_impl_exchanged _ _)).mp ⟨vc_impl_exchanged _ hp⟩⟩
  · cases h
def TB1_18 : Tab := TB1_17.add 42 F_impl_exchanged
theorem TB1_18_ok : TB1_18.Ok Try.prog := TB1_17_ok.add ok_impl_exchanged
theorem eq_spec_woReverse (s : List UInt8) (K : V → Prop) : VC_spec_woReverse s K = vbody Try.prog (vin Try.prog TB1_18 annTB1 3) TB1_18.looks (annTB1 43) 43 [.str s] [] (fun v _ => K v) := by kernel_rfl
theorem ok_spec_woReverse : OK Try.prog 43 F_spec_woReverse.spec := (vbody_ok (vin_ok TB1_18_ok annTB1 3) TB1_18_ok.looks _ _).ofF fun args m p R h hp => by
  unfold F_spec_woReverse at h
  split at h
  · injection h with h; injection h with h1 h2; subst h1; subst h2
    exact ⟨rfl, (congrArg At (eq_spec_woReverse _ _)).mp ⟨vc_spec_woReverse _ hp⟩⟩
  · cases h
def TB1_19 : Tab := TB1_18.add 43 F_spec_woReverse
theorem TB1_19_ok : TB1_19.Ok Try.prog := TB1_18_ok.add ok_spec_woReverse
theorem eq_impl_backwards (s : List UInt8) (K : V → Prop) : VC_impl_backwards s K = vbody Try.prog (vin Try.prog TB1_19 annTB1 3) TB1_19.looks (annTB1 48) 48 [.str s] [] (fun v _ => K v) := by kernel_rfl
theorem ok_impl_backwards : OK Try.prog 48 F_impl_backwards.spec := (vbody_ok (vin_ok TB1_19_ok annTB1 3) TB1_19_ok.looks _ _).ofF fun args m p R h hp => by
  unfold F_impl_backwards at h
  split at h
  · injection h with h; injection h with h1 h2; subst h1; subst h2
    exact ⟨rfl, (congrArg At (eq_impl_backwards _ _)).mp ⟨vc_impl_backwards _ hp⟩⟩
  · cases h
def TB1_20 : Tab := TB1_19.add 48 F_impl_backwards
theorem TB1_20_ok : TB1_20.Ok Try.prog := TB1_19_ok.add ok_impl_backwards
theorem eq_spec_BackWorld (wr : List UInt8) (ww : Int) (wh : Int) (wc : List UInt8) (wx : Int) (wy : Int) (wd : Int) (K : V → Prop) : VC_spec_BackWorld wr ww wh wc wx wy wd K = vbody Try.prog (vin Try.prog TB1_20 annTB1 4) TB1_20.looks (annTB1 23) 23 [.agg [.str wr, .int .i64 ww, .int .i64 wh, .str wc, .int .i64 wx, .int .i64 wy, .int .i64 wd]] [] (fun v _ => K v) := by kernel_rfl
theorem ok_spec_BackWorld : OK Try.prog 23 F_spec_BackWorld.spec := (vbody_ok (vin_ok TB1_20_ok annTB1 4) TB1_20_ok.looks _ _).ofF fun args m p R h hp => by
  unfold F_spec_BackWorld at h
  split at h
  · injection h with h; injection h with h1 h2; subst h1; subst h2
    exact ⟨rfl, (congrArg At (eq_spec_BackWorld _ _ _ _ _ _ _ _)).mp ⟨vc_spec_BackWorld _ _ _ _ _ _ _ hp⟩⟩
  · cases h
def TB1_21 : Tab := TB1_20.add 23 F_spec_BackWorld
theorem TB1_21_ok : TB1_21.Ok Try.prog := TB1_20_ok.add ok_spec_BackWorld
theorem eq_impl_BackWorld (wr : List UInt8) (ww : Int) (wh : Int) (wc : List UInt8) (wx : Int) (wy : Int) (wd : Int) (K : V → Prop) : VC_impl_BackWorld wr ww wh wc wx wy wd K = vbody Try.prog (vin Try.prog TB1_21 annTB1 4) TB1_21.looks (annTB1 24) 24 [.agg [.str wr, .int .i64 ww, .int .i64 wh, .str wc, .int .i64 wx, .int .i64 wy, .int .i64 wd]] [] (fun v _ => K v) := by kernel_rfl
theorem ok_impl_BackWorld : OK Try.prog 24 F_impl_BackWorld.spec := (vbody_ok (vin_ok TB1_21_ok annTB1 4) TB1_21_ok.looks _ _).ofF fun args m p R h hp => by
  unfold F_impl_BackWorld at h
  split at h
  · injection h with h; injection h with h1 h2; subst h1; subst h2
    exact ⟨rfl, (congrArg At (eq_impl_BackWorld _ _ _ _ _ _ _ _)).mp ⟨vc_impl_BackWorld _ _ _ _ _ _ _ hp⟩⟩
  · cases h
def TB1_22 : Tab := TB1_21.add 24 F_impl_BackWorld
theorem TB1_22_ok : TB1_22.Ok Try.prog := TB1_21_ok.add ok_impl_BackWorld
theorem eq_spec_CountColours (wr : List UInt8) (ww : Int) (wh : Int) (wc : List UInt8) (wx : Int) (wy : Int) (wd : Int) (K : V → List Blk → Prop) : VC_spec_CountColours wr ww wh wc wx wy wd K = vbody Try.prog (vin Try.prog TB1_22 annTB1 3) TB1_22.looks (annTB1 10) 10 [.agg [.str wr, .int .i64 ww, .int .i64 wh, .str wc, .int .i64 wx, .int .i64 wy, .int .i64 wd]] [] (K) := by kernel_rfl
theorem ok_spec_CountColours : OK Try.prog 10 F_spec_CountColours.spec := (vbody_ok (vin_ok TB1_22_ok annTB1 3) TB1_22_ok.looks _ _).ofG fun args m p R M h hp => by
  unfold F_spec_CountColours at h
  split at h
  · injection h with h; injection h with h1 h2; injection h2 with h2 h3; subst h1; subst h2; subst h3
    exact (congrArg At (eq_spec_CountColours _ _ _ _ _ _ _ _)).mp ⟨vc_spec_CountColours _ _ _ _ _ _ _ hp⟩
  · cases h
def TB1_23 : Tab := TB1_22.addG 10 F_spec_CountColours
theorem TB1_23_ok : TB1_23.Ok Try.prog := TB1_22_ok.addG ok_spec_CountColours
theorem eq_impl_CountColours (wr : List UInt8) (ww : Int) (wh : Int) (wc : List UInt8) (wx : Int) (wy : Int) (wd : Int) (K : V → List Blk → Prop) : VC_impl_CountColours wr ww wh wc wx wy wd K = vbody Try.prog (vin Try.prog TB1_23 annTB1 3) TB1_23.looks (annTB1 12) 12 [.agg [.str wr, .int .i64 ww, .int .i64 wh, .str wc, .int .i64 wx, .int .i64 wy, .int .i64 wd]] [] (K) := by kernel_rfl
theorem ok_impl_CountColours : OK Try.prog 12 F_impl_CountColours.spec := (vbody_ok (vin_ok TB1_23_ok annTB1 3) TB1_23_ok.looks _ _).ofG fun args m p R M h hp => by
  unfold F_impl_CountColours at h
  split at h
  · injection h with h; injection h with h1 h2; injection h2 with h2 h3; subst h1; subst h2; subst h3
    exact (congrArg At (eq_impl_CountColours _ _ _ _ _ _ _ _)).mp ⟨vc_impl_CountColours _ _ _ _ _ _ _ hp⟩
  · cases h
def TB1_24 : Tab := TB1_23.addG 12 F_impl_CountColours
theorem TB1_24_ok : TB1_24.Ok Try.prog := TB1_23_ok.addG ok_impl_CountColours
theorem eq_laws_eqIntS  (n : Nat) (m : Nat) (a : List Int) (b : List Int) (K : V → List Blk → Prop) : VC_laws_eqIntS  n m a b K = vbody Try.prog (vin Try.prog TB1_24 annTB1 3) TB1_24.looks (annTB1 13) 13 [.row 0 n, .row 1 m] [⟨.ints .i64 a, 3, .row⟩, ⟨.ints .i64 b, 3, .row⟩] (K) := by kernel_rfl
theorem ok_laws_eqIntS : OK Try.prog 13 F_laws_eqIntS.spec := (vbody_ok (vin_ok TB1_24_ok annTB1 3) TB1_24_ok.looks _ _).ofFM fun args m p R h hp => by
  unfold F_laws_eqIntS at h
  split at h
  · injection h with h; injection h with h1 h2; subst h1; subst h2
    exact (congrArg At (eq_laws_eqIntS _ _ _ _ _)).mp ⟨vc_laws_eqIntS _ _ _ _ hp⟩
  · cases h
def TB1_25 : Tab := TB1_24.add 13 F_laws_eqIntS
theorem TB1_25_ok : TB1_25.Ok Try.prog := TB1_24_ok.add ok_laws_eqIntS
theorem eq_laws_markIntS (k : Int) (n : Nat) (a : List Int) (K : V → List Blk → Prop) : VC_laws_markIntS k n a K = vbody Try.prog (vin Try.prog TB1_25 annTB1 3) TB1_25.looks (annTB1 14) 14 [.row 0 n, .int .i64 k] [⟨.ints .i64 a, 3, .row⟩] (K) := by kernel_rfl
theorem ok_laws_markIntS : OK Try.prog 14 F_laws_markIntS.spec := (vbody_ok (vin_ok TB1_25_ok annTB1 3) TB1_25_ok.looks _ _).ofG fun args m p R M h hp => by
  unfold F_laws_markIntS at h
  split at h
  · injection h with h; injection h with h1 h2; injection h2 with h2 h3; subst h1; subst h2; subst h3
    exact (congrArg At (eq_laws_markIntS _ _ _ _)).mp ⟨vc_laws_markIntS _ _ _ hp⟩
  · cases h
def TB1_26 : Tab := TB1_25.addG 14 F_laws_markIntS
theorem TB1_26_ok : TB1_26.Ok Try.prog := TB1_25_ok.addG ok_laws_markIntS
theorem eq_laws_heldIntS (k : Int) (n : Nat) (a : List Int) (K : V → List Blk → Prop) : VC_laws_heldIntS k n a K = vbody Try.prog (vin Try.prog TB1_26 annTB1 3) TB1_26.looks (annTB1 15) 15 [.row 0 n, .int .i64 k] [⟨.ints .i64 a, 3, .row⟩] (K) := by kernel_rfl
theorem ok_laws_heldIntS : OK Try.prog 15 F_laws_heldIntS.spec := (vbody_ok (vin_ok TB1_26_ok annTB1 3) TB1_26_ok.looks _ _).ofFM fun args m p R h hp => by
  unfold F_laws_heldIntS at h
  split at h
  · injection h with h; injection h with h1 h2; subst h1; subst h2
    exact (congrArg At (eq_laws_heldIntS _ _ _ _)).mp ⟨vc_laws_heldIntS _ _ _ hp⟩
  · cases h
def TB1_27 : Tab := TB1_26.add 15 F_laws_heldIntS
theorem TB1_27_ok : TB1_27.Ok Try.prog := TB1_26_ok.add ok_laws_heldIntS
def TB1 : Tab := TB1_27
theorem TB1_ok : TB1.Ok Try.prog := TB1_27_ok
end Go.Proofs.Ytbchncdchanomab
