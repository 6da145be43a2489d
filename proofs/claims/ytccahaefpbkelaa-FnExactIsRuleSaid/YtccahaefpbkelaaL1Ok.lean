/- The contracts of this chapter. -/
import Derived.Test.YtccahaefpbkelaaProg
import Derived.Test.YtccahaefpbkelaaL1Pf
import Derived.KernelRfl
namespace Go.Proofs.Ytccahaefpbkelaa
open Go Go.Vi
set_option linter.unusedVariables false
def annTL1 : FuncId → Nat → St → Option Ann := fun f => if f = 30 then ann_spec_woRule else if f = 11 then ann_impl_IsRule else if f = 33 then ann_spec_woGood else if f = 35 then ann_impl_areColours else (fun _ _ => none)
def TL1_0 : Tab := Tab.none
theorem TL1_0_ok : TL1_0.Ok Try.prog := Tab.none_ok
theorem eq_spec_l1In (n : Int) (lo : Int) (hi : Int) (K : V → Prop) : VC_spec_l1In n lo hi K = vbody Try.prog (vin Try.prog TL1_0 annTL1 3) TL1_0.looks (annTL1 38) 38 [.int .i64 n, .int .i64 lo, .int .i64 hi] [] fun v _ => K v := by kernel_rfl
theorem ok_spec_l1In : OK Try.prog 38 F_spec_l1In.spec := (vbody_ok (vin_ok TL1_0_ok annTL1 3) TL1_0_ok.looks _ _).ofF fun args m p R h hp => by
  unfold F_spec_l1In at h
  split at h
  · injection h with h; injection h with h1 h2; subst h1; subst h2
    exact ⟨rfl, (congrArg At (eq_spec_l1In _ _ _ _)).mp ⟨vc_spec_l1In _ _ _ hp⟩⟩
  · cases h
def TL1_1 : Tab := TL1_0.add 38 F_spec_l1In
theorem TL1_1_ok : TL1_1.Ok Try.prog := TL1_0_ok.add ok_spec_l1In
theorem eq_impl_within (n : Int) (lo : Int) (hi : Int) (K : V → Prop) : VC_impl_within n lo hi K = vbody Try.prog (vin Try.prog TL1_1 annTL1 3) TL1_1.looks (annTL1 31) 31 [.int .i64 n, .int .i64 lo, .int .i64 hi] [] fun v _ => K v := by kernel_rfl
theorem ok_impl_within : OK Try.prog 31 F_impl_within.spec := (vbody_ok (vin_ok TL1_1_ok annTL1 3) TL1_1_ok.looks _ _).ofF fun args m p R h hp => by
  unfold F_impl_within at h
  split at h
  · injection h with h; injection h with h1 h2; subst h1; subst h2
    exact ⟨rfl, (congrArg At (eq_impl_within _ _ _ _)).mp ⟨vc_impl_within _ _ _ hp⟩⟩
  · cases h
def TL1_2 : Tab := TL1_1.add 31 F_impl_within
theorem TL1_2_ok : TL1_2.Ok Try.prog := TL1_1_ok.add ok_impl_within
theorem eq_impl_digit (b : Int) (K : V → Prop) : VC_impl_digit b K = vbody Try.prog (vin Try.prog TL1_2 annTL1 3) TL1_2.looks (annTL1 44) 44 [.int .u8 b] [] fun v _ => K v := by kernel_rfl
theorem ok_impl_digit : OK Try.prog 44 F_impl_digit.spec := (vbody_ok (vin_ok TL1_2_ok annTL1 3) TL1_2_ok.looks _ _).ofF fun args m p R h hp => by
  unfold F_impl_digit at h
  split at h
  · injection h with h; injection h with h1 h2; subst h1; subst h2
    exact ⟨rfl, (congrArg At (eq_impl_digit _ _)).mp ⟨vc_impl_digit _ hp⟩⟩
  · cases h
def TL1_3 : Tab := TL1_2.add 44 F_impl_digit
theorem TL1_3_ok : TL1_3.Ok Try.prog := TL1_2_ok.add ok_impl_digit
theorem eq_spec_woRule (s : List UInt8) (K : V → Prop) : VC_spec_woRule s K = vbody Try.prog (vin Try.prog TL1_3 annTL1 3) TL1_3.looks (annTL1 30) 30 [.str s] [] fun v _ => K v := by kernel_rfl
theorem ok_spec_woRule : OK Try.prog 30 F_spec_woRule.spec := (vbody_ok (vin_ok TL1_3_ok annTL1 3) TL1_3_ok.looks _ _).ofF fun args m p R h hp => by
  unfold F_spec_woRule at h
  split at h
  · injection h with h; injection h with h1 h2; subst h1; subst h2
    exact ⟨rfl, (congrArg At (eq_spec_woRule _ _)).mp ⟨vc_spec_woRule _ hp⟩⟩
  · cases h
def TL1_4 : Tab := TL1_3.add 30 F_spec_woRule
theorem TL1_4_ok : TL1_4.Ok Try.prog := TL1_3_ok.add ok_spec_woRule
theorem eq_impl_IsRule (s : List UInt8) (K : V → Prop) : VC_impl_IsRule s K = vbody Try.prog (vin Try.prog TL1_4 annTL1 3) TL1_4.looks (annTL1 11) 11 [.str s] [] fun v _ => K v := by kernel_rfl
theorem ok_impl_IsRule : OK Try.prog 11 F_impl_IsRule.spec := (vbody_ok (vin_ok TL1_4_ok annTL1 3) TL1_4_ok.looks _ _).ofF fun args m p R h hp => by
  unfold F_impl_IsRule at h
  split at h
  · injection h with h; injection h with h1 h2; subst h1; subst h2
    exact ⟨rfl, (congrArg At (eq_impl_IsRule _ _)).mp ⟨vc_impl_IsRule _ hp⟩⟩
  · cases h
def TL1_5 : Tab := TL1_4.add 11 F_impl_IsRule
theorem TL1_5_ok : TL1_5.Ok Try.prog := TL1_4_ok.add ok_impl_IsRule
theorem eq_spec_woGood (wr : List UInt8) (ww : Int) (wh : Int) (wc : List UInt8) (wx : Int) (wy : Int) (wd : Int) (K : V → Prop) : VC_spec_woGood wr ww wh wc wx wy wd K = vbody Try.prog (vin Try.prog TL1_5 annTL1 3) TL1_5.looks (annTL1 33) 33 [.agg [.str wr, .int .i64 ww, .int .i64 wh, .str wc, .int .i64 wx, .int .i64 wy, .int .i64 wd]] [] fun v _ => K v := by kernel_rfl
theorem ok_spec_woGood : OK Try.prog 33 F_spec_woGood.spec := (vbody_ok (vin_ok TL1_5_ok annTL1 3) TL1_5_ok.looks _ _).ofF fun args m p R h hp => by
  unfold F_spec_woGood at h
  split at h
  · injection h with h; injection h with h1 h2; subst h1; subst h2
    exact ⟨rfl, (congrArg At (eq_spec_woGood _ _ _ _ _ _ _ _)).mp ⟨vc_spec_woGood _ _ _ _ _ _ _ hp⟩⟩
  · cases h
def TL1_6 : Tab := TL1_5.add 33 F_spec_woGood
theorem TL1_6_ok : TL1_6.Ok Try.prog := TL1_5_ok.add ok_spec_woGood
theorem eq_impl_areColours (s : List UInt8) (n : Int) (K : V → Prop) : VC_impl_areColours s n K = vbody Try.prog (vin Try.prog TL1_6 annTL1 3) TL1_6.looks (annTL1 35) 35 [.str s, .int .i64 n] [] fun v _ => K v := by kernel_rfl
theorem ok_impl_areColours : OK Try.prog 35 F_impl_areColours.spec := (vbody_ok (vin_ok TL1_6_ok annTL1 3) TL1_6_ok.looks _ _).ofF fun args m p R h hp => by
  unfold F_impl_areColours at h
  split at h
  · injection h with h; injection h with h1 h2; subst h1; subst h2
    exact ⟨rfl, (congrArg At (eq_impl_areColours _ _ _)).mp ⟨vc_impl_areColours _ _ hp⟩⟩
  · cases h
def TL1_7 : Tab := TL1_6.add 35 F_impl_areColours
theorem TL1_7_ok : TL1_7.Ok Try.prog := TL1_6_ok.add ok_impl_areColours
theorem eq_impl_IsWorld (wr : List UInt8) (ww : Int) (wh : Int) (wc : List UInt8) (wx : Int) (wy : Int) (wd : Int) (K : V → Prop) : VC_impl_IsWorld wr ww wh wc wx wy wd K = vbody Try.prog (vin Try.prog TL1_7 annTL1 4) TL1_7.looks (annTL1 15) 15 [.agg [.str wr, .int .i64 ww, .int .i64 wh, .str wc, .int .i64 wx, .int .i64 wy, .int .i64 wd]] [] fun v _ => K v := by kernel_rfl
theorem ok_impl_IsWorld : OK Try.prog 15 F_impl_IsWorld.spec := (vbody_ok (vin_ok TL1_7_ok annTL1 4) TL1_7_ok.looks _ _).ofF fun args m p R h hp => by
  unfold F_impl_IsWorld at h
  split at h
  · injection h with h; injection h with h1 h2; subst h1; subst h2
    exact ⟨rfl, (congrArg At (eq_impl_IsWorld _ _ _ _ _ _ _ _)).mp ⟨vc_impl_IsWorld _ _ _ _ _ _ _ hp⟩⟩
  · cases h
def TL1_8 : Tab := TL1_7.add 15 F_impl_IsWorld
theorem TL1_8_ok : TL1_8.Ok Try.prog := TL1_7_ok.add ok_impl_IsWorld
def TL1 : Tab := TL1_8
theorem TL1_ok : TL1.Ok Try.prog := TL1_8_ok
end Go.Proofs.Ytccahaefpbkelaa
