/- The contracts of this chapter. -/
import Derived.Test.YtickpjdnncpnmaaProg
import Derived.Test.YtickpjdnncpnmaaDKPf
import Derived.KernelRfl
namespace Go.Proofs.Ytickpjdnncpnmaa
open Go Go.Vi
set_option linter.unusedVariables false
def annTDK : FuncId -> Nat -> St -> Option Ann := fun f => if f = 51 then ann_spec_woRule else if f = 41 then ann_impl_IsRule else if f = 44 then ann_spec_woGood else if f = 47 then ann_impl_areColours else if f = 45 then ann_spec_tuGood else if f = 50 then ann_impl_partsOf else (fun _ _ => none)
def TDK_0 : Tab := Tab.none
theorem TDK_0_ok : TDK_0.Ok Try.prog := Tab.none_ok
theorem eq_spec_l1In (n : Int) (lo : Int) (hi : Int) (K : V -> Prop) : VC_spec_l1In n lo hi K = vbody Try.prog (vin Try.prog TDK_0 annTDK 3) TDK_0.looks (annTDK 38) 38 [.int .i64 n, .int .i64 lo, .int .i64 hi] [] (fun v _ => K v) := by kernel_rfl
theorem ok_spec_l1In : OK Try.prog 38 F_spec_l1In.spec := (vbody_ok (vin_ok TDK_0_ok annTDK 3) TDK_0_ok.looks _ _).ofF fun args m p R h hp => by
 unfold F_spec_l1In at h
 split at h
 ·injection h with h; injection h with h1 h2; subst h1; subst h2
  exact ⟨rfl, (congrArg At (eq_spec_l1In _ _ _ _)).mp ⟨vc_spec_l1In _ _ _ hp⟩⟩
 ·cases h
def TDK_1 : Tab := TDK_0.add 38 F_spec_l1In
theorem TDK_1_ok : TDK_1.Ok Try.prog := TDK_0_ok.add ok_spec_l1In
theorem eq_impl_within (n : Int) (lo : Int) (hi : Int) (K : V -> Prop) : VC_impl_within n lo hi K = vbody Try.prog (vin Try.prog TDK_1 annTDK 3) TDK_1.looks (annTDK 42) 42 [.int .i64 n, .int .i64 lo, .int .i64 hi] [] (fun v _ => K v) := by kernel_rfl
theorem ok_impl_within : OK Try.prog 42 F_impl_within.spec := (vbody_ok (vin_ok TDK_1_ok annTDK 3) TDK_1_ok.looks _ _).ofF fun args m p R h hp => by
 unfold F_impl_within at h
 split at h
 ·injection h with h; injection h with h1 h2; subst h1; subst h2
  exact ⟨rfl, (congrArg At (eq_impl_within _ _ _ _)).mp ⟨vc_impl_within _ _ _ hp⟩⟩
 ·cases h
def TDK_2 : Tab := TDK_1.add 42 F_impl_within
theorem TDK_2_ok : TDK_2.Ok Try.prog := TDK_1_ok.add ok_impl_within
theorem eq_impl_digit (b : Int) (K : V -> Prop) : VC_impl_digit b K = vbody Try.prog (vin Try.prog TDK_2 annTDK 3) TDK_2.looks (annTDK 56) 56 [.int .u8 b] [] (fun v _ => K v) := by kernel_rfl
theorem ok_impl_digit : OK Try.prog 56 F_impl_digit.spec := (vbody_ok (vin_ok TDK_2_ok annTDK 3) TDK_2_ok.looks _ _).ofF fun args m p R h hp => by
 unfold F_impl_digit at h
 split at h
 ·injection h with h; injection h with h1 h2; subst h1; subst h2
  exact ⟨rfl, (congrArg At (eq_impl_digit _ _)).mp ⟨vc_impl_digit _ hp⟩⟩
 ·cases h
def TDK_3 : Tab := TDK_2.add 56 F_impl_digit
theorem TDK_3_ok : TDK_3.Ok Try.prog := TDK_2_ok.add ok_impl_digit
theorem eq_spec_woRule (s : List UInt8) (K : V -> Prop) : VC_spec_woRule s K = vbody Try.prog (vin Try.prog TDK_3 annTDK 3) TDK_3.looks (annTDK 51) 51 [.str s] [] (fun v _ => K v) := by kernel_rfl
theorem ok_spec_woRule : OK Try.prog 51 F_spec_woRule.spec := (vbody_ok (vin_ok TDK_3_ok annTDK 3) TDK_3_ok.looks _ _).ofF fun args m p R h hp => by
 unfold F_spec_woRule at h
 split at h
 ·injection h with h; injection h with h1 h2; subst h1; subst h2
  exact ⟨rfl, (congrArg At (eq_spec_woRule _ _)).mp ⟨vc_spec_woRule _ hp⟩⟩
 ·cases h
def TDK_4 : Tab := TDK_3.add 51 F_spec_woRule
theorem TDK_4_ok : TDK_4.Ok Try.prog := TDK_3_ok.add ok_spec_woRule
theorem eq_impl_IsRule (s : List UInt8) (K : V -> Prop) : VC_impl_IsRule s K = vbody Try.prog (vin Try.prog TDK_4 annTDK 3) TDK_4.looks (annTDK 41) 41 [.str s] [] (fun v _ => K v) := by kernel_rfl
theorem ok_impl_IsRule : OK Try.prog 41 F_impl_IsRule.spec := (vbody_ok (vin_ok TDK_4_ok annTDK 3) TDK_4_ok.looks _ _).ofF fun args m p R h hp => by
 unfold F_impl_IsRule at h
 split at h
 ·injection h with h; injection h with h1 h2; subst h1; subst h2
  exact ⟨rfl, (congrArg At (eq_impl_IsRule _ _)).mp ⟨vc_impl_IsRule _ hp⟩⟩
 ·cases h
def TDK_5 : Tab := TDK_4.add 41 F_impl_IsRule
theorem TDK_5_ok : TDK_5.Ok Try.prog := TDK_4_ok.add ok_impl_IsRule
theorem eq_spec_woGood (wr : List UInt8) (ww : Int) (wh : Int) (wc : List UInt8) (wx : Int) (wy : Int) (wd : Int) (K : V -> Prop) : VC_spec_woGood wr ww wh wc wx wy wd K = vbody Try.prog (vin Try.prog TDK_5 annTDK 3) TDK_5.looks (annTDK 44) 44 [.agg [.str wr, .int .i64 ww, .int .i64 wh, .str wc, .int .i64 wx, .int .i64 wy, .int .i64 wd]] [] (fun v _ => K v) := by kernel_rfl
theorem ok_spec_woGood : OK Try.prog 44 F_spec_woGood.spec := (vbody_ok (vin_ok TDK_5_ok annTDK 3) TDK_5_ok.looks _ _).ofF fun args m p R h hp => by
 unfold F_spec_woGood at h
 split at h
 ·injection h with h; injection h with h1 h2; subst h1; subst h2
  exact ⟨rfl, (congrArg At (eq_spec_woGood _ _ _ _ _ _ _ _)).mp ⟨vc_spec_woGood _ _ _ _ _ _ _ hp⟩⟩
 ·cases h
def TDK_6 : Tab := TDK_5.add 44 F_spec_woGood
theorem TDK_6_ok : TDK_6.Ok Try.prog := TDK_5_ok.add ok_spec_woGood
theorem eq_impl_areColours (s : List UInt8) (n : Int) (K : V -> Prop) : VC_impl_areColours s n K = vbody Try.prog (vin Try.prog TDK_6 annTDK 3) TDK_6.looks (annTDK 47) 47 [.str s, .int .i64 n] [] (fun v _ => K v) := by kernel_rfl
theorem ok_impl_areColours : OK Try.prog 47 F_impl_areColours.spec := (vbody_ok (vin_ok TDK_6_ok annTDK 3) TDK_6_ok.looks _ _).ofF fun args m p R h hp => by
 unfold F_impl_areColours at h
 split at h
 ·injection h with h; injection h with h1 h2; subst h1; subst h2
  exact ⟨rfl, (congrArg At (eq_impl_areColours _ _ _)).mp ⟨vc_impl_areColours _ _ hp⟩⟩
 ·cases h
def TDK_7 : Tab := TDK_6.add 47 F_impl_areColours
theorem TDK_7_ok : TDK_7.Ok Try.prog := TDK_6_ok.add ok_impl_areColours
theorem eq_impl_IsWorld (wr : List UInt8) (ww : Int) (wh : Int) (wc : List UInt8) (wx : Int) (wy : Int) (wd : Int) (K : V -> Prop) : VC_impl_IsWorld wr ww wh wc wx wy wd K = vbody Try.prog (vin Try.prog TDK_7 annTDK 4) TDK_7.looks (annTDK 35) 35 [.agg [.str wr, .int .i64 ww, .int .i64 wh, .str wc, .int .i64 wx, .int .i64 wy, .int .i64 wd]] [] (fun v _ => K v) := by kernel_rfl
theorem ok_impl_IsWorld : OK Try.prog 35 F_impl_IsWorld.spec := (vbody_ok (vin_ok TDK_7_ok annTDK 4) TDK_7_ok.looks _ _).ofF fun args m p R h hp => by
 unfold F_impl_IsWorld at h
 split at h
 ·injection h with h; injection h with h1 h2; subst h1; subst h2
  exact ⟨rfl, (congrArg At (eq_impl_IsWorld _ _ _ _ _ _ _ _)).mp ⟨vc_impl_IsWorld _ _ _ _ _ _ _ hp⟩⟩
 ·cases h
def TDK_8 : Tab := TDK_7.add 35 F_impl_IsWorld
theorem TDK_8_ok : TDK_8.Ok Try.prog := TDK_7_ok.add ok_impl_IsWorld
theorem eq_laws_szWorld (wr : List UInt8) (ww : Int) (wh : Int) (wc : List UInt8) (wx : Int) (wy : Int) (wd : Int) (left : Int) (K : V -> Prop) : VC_laws_szWorld wr ww wh wc wx wy wd left K = vbody Try.prog (vin Try.prog TDK_8 annTDK 3) TDK_8.looks (annTDK 32) 32 [.agg [.str wr, .int .i64 ww, .int .i64 wh, .str wc, .int .i64 wx, .int .i64 wy, .int .i64 wd], .int .i64 left] [] (fun v _ => K v) := by kernel_rfl
theorem ok_laws_szWorld : OK Try.prog 32 F_laws_szWorld.spec := (vbody_ok (vin_ok TDK_8_ok annTDK 3) TDK_8_ok.looks _ _).ofF fun args m p R h hp => by
 unfold F_laws_szWorld at h
 split at h
 ·injection h with h; injection h with h1 h2; subst h1; subst h2
  exact ⟨rfl, (congrArg At (eq_laws_szWorld _ _ _ _ _ _ _ _ _)).mp ⟨vc_laws_szWorld _ _ _ _ _ _ _ _ hp⟩⟩
 ·cases h
def TDK_9 : Tab := TDK_8.add 32 F_laws_szWorld
theorem TDK_9_ok : TDK_9.Ok Try.prog := TDK_8_ok.add ok_laws_szWorld
theorem eq_laws_eqWorld (ar : List UInt8) (aw : Int) (ah : Int) (ac : List UInt8) (ax : Int) (ay : Int) (ad : Int) (br : List UInt8) (bw : Int) (bh : Int) (bc : List UInt8) (bx : Int) (by_ : Int) (bd : Int) (K : V -> Prop) : VC_laws_eqWorld ar aw ah ac ax ay ad br bw bh bc bx by_ bd K = vbody Try.prog (vin Try.prog TDK_9 annTDK 3) TDK_9.looks (annTDK 31) 31 [.agg [.str ar, .int .i64 aw, .int .i64 ah, .str ac, .int .i64 ax, .int .i64 ay, .int .i64 ad], .agg [.str br, .int .i64 bw, .int .i64 bh, .str bc, .int .i64 bx, .int .i64 by_, .int .i64 bd]] [] (fun v _ => K v) := by kernel_rfl
theorem ok_laws_eqWorld : OK Try.prog 31 F_laws_eqWorld.spec := (vbody_ok (vin_ok TDK_9_ok annTDK 3) TDK_9_ok.looks _ _).ofF fun args m p R h hp => by
 unfold F_laws_eqWorld at h
 split at h
 ·injection h with h; injection h with h1 h2; subst h1; subst h2
  exact ⟨rfl, (congrArg At (eq_laws_eqWorld _ _ _ _ _ _ _ _ _ _ _ _ _ _ _)).mp ⟨vc_laws_eqWorld _ _ _ _ _ _ _ _ _ _ _ _ _ _ hp⟩⟩
 ·cases h
def TDK_10 : Tab := TDK_9.add 31 F_laws_eqWorld
theorem TDK_10_ok : TDK_10.Ok Try.prog := TDK_9_ok.add ok_laws_eqWorld
theorem eq_impl_isSign (b : Int) (K : V -> Prop) : VC_impl_isSign b K = vbody Try.prog (vin Try.prog TDK_10 annTDK 3) TDK_10.looks (annTDK 55) 55 [.int .u8 b] [] (fun v _ => K v) := by kernel_rfl
theorem ok_impl_isSign : OK Try.prog 55 F_impl_isSign.spec := (vbody_ok (vin_ok TDK_10_ok annTDK 3) TDK_10_ok.looks _ _).ofF fun args m p R h hp => by
 unfold F_impl_isSign at h
 split at h
 ·injection h with h; injection h with h1 h2; subst h1; subst h2
  exact ⟨rfl, (congrArg At (eq_impl_isSign _ _)).mp ⟨vc_impl_isSign _ hp⟩⟩
 ·cases h
def TDK_11 : Tab := TDK_10.add 55 F_impl_isSign
theorem TDK_11_ok : TDK_11.Ok Try.prog := TDK_10_ok.add ok_impl_isSign
theorem eq_spec_tuGood (s : List UInt8) (K : V -> Prop) : VC_spec_tuGood s K = vbody Try.prog (vin Try.prog TDK_11 annTDK 3) TDK_11.looks (annTDK 45) 45 [.str s] [] (fun v _ => K v) := by kernel_rfl
theorem ok_spec_tuGood : OK Try.prog 45 F_spec_tuGood.spec := (vbody_ok (vin_ok TDK_11_ok annTDK 3) TDK_11_ok.looks _ _).ofF fun args m p R h hp => by
 unfold F_spec_tuGood at h
 split at h
 ·injection h with h; injection h with h1 h2; subst h1; subst h2
  exact ⟨rfl, (congrArg At (eq_spec_tuGood _ _)).mp ⟨vc_spec_tuGood _ hp⟩⟩
 ·cases h
def TDK_12 : Tab := TDK_11.add 45 F_spec_tuGood
theorem TDK_12_ok : TDK_12.Ok Try.prog := TDK_11_ok.add ok_spec_tuGood
theorem eq_impl_partsOf (s : List UInt8) (K : V -> List Blk -> Prop) : VC_impl_partsOf s K = vbody Try.prog (vin Try.prog TDK_12 annTDK 3) TDK_12.looks (annTDK 50) 50 [.str s] [] (K) := by kernel_rfl
theorem ok_impl_partsOf : OK Try.prog 50 F_impl_partsOf.spec := (vbody_ok (vin_ok TDK_12_ok annTDK 3) TDK_12_ok.looks _ _).ofG fun args m p R M h hp => by
 unfold F_impl_partsOf at h
 split at h
 ·injection h with h; injection h with h1 h2; injection h2 with h2 h3; subst h1; subst h2; subst h3
  exact (congrArg At (eq_impl_partsOf _ _)).mp ⟨vc_impl_partsOf _ hp⟩
 ·cases h
def TDK_13 : Tab := TDK_12.addG 50 F_impl_partsOf
theorem TDK_13_ok : TDK_13.Ok Try.prog := TDK_12_ok.addG ok_impl_partsOf
theorem eq_impl_IsProgram (s : List UInt8) (K : V -> Prop) : VC_impl_IsProgram s K = vbody Try.prog (vin Try.prog TDK_13 annTDK 3) TDK_13.looks (annTDK 36) 36 [.str s] [] (fun v _ => K v) := by kernel_rfl
theorem ok_impl_IsProgram : OK Try.prog 36 F_impl_IsProgram.spec := (vbody_ok (vin_ok TDK_13_ok annTDK 3) TDK_13_ok.looks _ _).ofF fun args m p R h hp => by
 unfold F_impl_IsProgram at h
 split at h
 ·injection h with h; injection h with h1 h2; subst h1; subst h2
  exact ⟨rfl, (congrArg At (eq_impl_IsProgram _ _)).mp ⟨vc_impl_IsProgram _ hp⟩⟩
 ·cases h
def TDK_14 : Tab := TDK_13.add 36 F_impl_IsProgram
theorem TDK_14_ok : TDK_14.Ok Try.prog := TDK_13_ok.add ok_impl_IsProgram
theorem eq_spec_IsDesk (dwRule : List UInt8) (dwWidth : Int) (dwHeight : Int) (dwCells : List UInt8) (dwX : Int) (dwY : Int) (dwWay : Int) (dkRule : List UInt8) (dkWidth : Int) (dkHeight : Int) (dkCells : List UInt8) (dkX : Int) (dkY : Int) (dkWay : Int) (dProgram : List UInt8) (K : V -> Prop) : VC_spec_IsDesk dwRule dwWidth dwHeight dwCells dwX dwY dwWay dkRule dkWidth dkHeight dkCells dkX dkY dkWay dProgram K = vbody Try.prog (vin Try.prog TDK_14 annTDK 3) TDK_14.looks (annTDK 18) 18 [.agg [.str dwRule, .int .i64 dwWidth, .int .i64 dwHeight, .str dwCells, .int .i64 dwX, .int .i64 dwY, .int .i64 dwWay, .str dkRule, .int .i64 dkWidth, .int .i64 dkHeight, .str dkCells, .int .i64 dkX, .int .i64 dkY, .int .i64 dkWay, .str dProgram]] [] (fun v _ => K v) := by kernel_rfl
theorem ok_spec_IsDesk : OK Try.prog 18 F_spec_IsDesk.spec := (vbody_ok (vin_ok TDK_14_ok annTDK 3) TDK_14_ok.looks _ _).ofF fun args m p R h hp => by
 unfold F_spec_IsDesk at h
 split at h
 ·injection h with h; injection h with h1 h2; subst h1; subst h2
  exact ⟨rfl, (congrArg At (eq_spec_IsDesk _ _ _ _ _ _ _ _ _ _ _ _ _ _ _ _)).mp ⟨vc_spec_IsDesk _ _ _ _ _ _ _ _ _ _ _ _ _ _ _ hp⟩⟩
 ·cases h
def TDK_15 : Tab := TDK_14.add 18 F_spec_IsDesk
theorem TDK_15_ok : TDK_15.Ok Try.prog := TDK_14_ok.add ok_spec_IsDesk
theorem eq_impl_IsDesk (dwRule : List UInt8) (dwWidth : Int) (dwHeight : Int) (dwCells : List UInt8) (dwX : Int) (dwY : Int) (dwWay : Int) (dkRule : List UInt8) (dkWidth : Int) (dkHeight : Int) (dkCells : List UInt8) (dkX : Int) (dkY : Int) (dkWay : Int) (dProgram : List UInt8) (K : V -> Prop) : VC_impl_IsDesk dwRule dwWidth dwHeight dwCells dwX dwY dwWay dkRule dkWidth dkHeight dkCells dkX dkY dkWay dProgram K = vbody Try.prog (vin Try.prog TDK_15 annTDK 3) TDK_15.looks (annTDK 20) 20 [.agg [.str dwRule, .int .i64 dwWidth, .int .i64 dwHeight, .str dwCells, .int .i64 dwX, .int .i64 dwY, .int .i64 dwWay, .str dkRule, .int .i64 dkWidth, .int .i64 dkHeight, .str dkCells, .int .i64 dkX, .int .i64 dkY, .int .i64 dkWay, .str dProgram]] [] (fun v _ => K v) := by kernel_rfl
theorem ok_impl_IsDesk : OK Try.prog 20 F_impl_IsDesk.spec := (vbody_ok (vin_ok TDK_15_ok annTDK 3) TDK_15_ok.looks _ _).ofF fun args m p R h hp => by
 unfold F_impl_IsDesk at h
 split at h
 ·injection h with h; injection h with h1 h2; subst h1; subst h2
  exact ⟨rfl, (congrArg At (eq_impl_IsDesk _ _ _ _ _ _ _ _ _ _ _ _ _ _ _ _)).mp ⟨vc_impl_IsDesk _ _ _ _ _ _ _ _ _ _ _ _ _ _ _ hp⟩⟩
 ·cases h
def TDK_16 : Tab := TDK_15.add 20 F_impl_IsDesk
theorem TDK_16_ok : TDK_16.Ok Try.prog := TDK_15_ok.add ok_impl_IsDesk
def TDK : Tab := TDK_16
theorem TDK_ok : TDK.Ok Try.prog := TDK_16_ok
end Go.Proofs.Ytickpjdnncpnmaa
