/- The contracts of this chapter. -/
import Derived.Test.YtbdhilflnfllaabProg
import Derived.Test.YtbdhilflnfllaabCSPf
import Derived.KernelRfl
namespace Go.Proofs.Ytbdhilflnfllaab
open Go Go.Vi
set_option linter.unusedVariables false
def annTCS : FuncId → Nat → St → Option Ann := fun f => if f = 37 then ann_spec_woRule else if f = 22 then ann_impl_IsRule else if f = 34 then ann_spec_woGood else if f = 43 then ann_impl_areColours else if f = 36 then ann_impl_sumOf else if f = 17 then ann_spec_ColourSum else (fun _ _ => none)
def TCS_0 : Tab := Tab.none
theorem TCS_0_ok : TCS_0.Ok Try.prog := Tab.none_ok
theorem eq_spec_l1In (n : Int) (lo : Int) (hi : Int) (K : V → Prop) : VC_spec_l1In n lo hi K = vbody Try.prog (vin Try.prog TCS_0 annTCS 3) TCS_0.looks (annTCS 38) 38 [.int .i64 n, .int .i64 lo, .int .i64 hi] [] (fun v _ => K v) := by kernel_rfl
theorem ok_spec_l1In : OK Try.prog 38 F_spec_l1In.spec := (vbody_ok (vin_ok TCS_0_ok annTCS 3) TCS_0_ok.looks _ _).ofF fun args m p R h hp => by
  unfold F_spec_l1In at h
  split at h
  · injection h with h; injection h with h1 h2; subst h1; subst h2
    exact ⟨rfl, (congrArg At (eq_spec_l1In _ _ _ _)).mp ⟨vc_spec_l1In _ _ _ hp⟩⟩
  · cases h
def TCS_1 : Tab := TCS_0.add 38 F_spec_l1In
theorem TCS_1_ok : TCS_1.Ok Try.prog := TCS_0_ok.add ok_spec_l1In
theorem eq_impl_within (n : Int) (lo : Int) (hi : Int) (K : V → Prop) : VC_impl_within n lo hi K = vbody Try.prog (vin Try.prog TCS_1 annTCS 3) TCS_1.looks (annTCS 39) 39 [.int .i64 n, .int .i64 lo, .int .i64 hi] [] (fun v _ => K v) := by kernel_rfl
theorem ok_impl_within : OK Try.prog 39 F_impl_within.spec := (vbody_ok (vin_ok TCS_1_ok annTCS 3) TCS_1_ok.looks _ _).ofF fun args m p R h hp => by
  unfold F_impl_within at h
  split at h
  · injection h with h; injection h with h1 h2; subst h1; subst h2
    exact ⟨rfl, (congrArg At (eq_impl_within _ _ _ _)).mp ⟨vc_impl_within _ _ _ hp⟩⟩
  · cases h
def TCS_2 : Tab := TCS_1.add 39 F_impl_within
theorem TCS_2_ok : TCS_2.Ok Try.prog := TCS_1_ok.add ok_impl_within
theorem eq_impl_digit (b : Int) (K : V → Prop) : VC_impl_digit b K = vbody Try.prog (vin Try.prog TCS_2 annTCS 3) TCS_2.looks (annTCS 46) 46 [.int .u8 b] [] (fun v _ => K v) := by kernel_rfl
theorem ok_impl_digit : OK Try.prog 46 F_impl_digit.spec := (vbody_ok (vin_ok TCS_2_ok annTCS 3) TCS_2_ok.looks _ _).ofF fun args m p R h hp => by
  unfold F_impl_digit at h
  split at h
  · injection h with h; injection h with h1 h2; subst h1; subst h2
    exact ⟨rfl, (congrArg At (eq_impl_digit _ _)).mp ⟨vc_impl_digit _ hp⟩⟩
  · cases h
def TCS_3 : Tab := TCS_2.add 46 F_impl_digit
theorem TCS_3_ok : TCS_3.Ok Try.prog := TCS_2_ok.add ok_impl_digit
theorem eq_spec_woRule (s : List UInt8) (K : V → Prop) : VC_spec_woRule s K = vbody Try.prog (vin Try.prog TCS_3 annTCS 3) TCS_3.looks (annTCS 37) 37 [.str s] [] (fun v _ => K v) := by kernel_rfl
theorem ok_spec_woRule : OK Try.prog 37 F_spec_woRule.spec := (vbody_ok (vin_ok TCS_3_ok annTCS 3) TCS_3_ok.looks _ _).ofF fun args m p R h hp => by
  unfold F_spec_woRule at h
  split at h
  · injection h with h; injection h with h1 h2; subst h1; subst h2
    exact ⟨rfl, (congrArg At (eq_spec_woRule _ _)).mp ⟨vc_spec_woRule _ hp⟩⟩
  · cases h
def TCS_4 : Tab := TCS_3.add 37 F_spec_woRule
theorem TCS_4_ok : TCS_4.Ok Try.prog := TCS_3_ok.add ok_spec_woRule
theorem eq_impl_IsRule (s : List UInt8) (K : V → Prop) : VC_impl_IsRule s K = vbody Try.prog (vin Try.prog TCS_4 annTCS 3) TCS_4.looks (annTCS 22) 22 [.str s] [] (fun v _ => K v) := by kernel_rfl
theorem ok_impl_IsRule : OK Try.prog 22 F_impl_IsRule.spec := (vbody_ok (vin_ok TCS_4_ok annTCS 3) TCS_4_ok.looks _ _).ofF fun args m p R h hp => by
  unfold F_impl_IsRule at h
  split at h
  · injection h with h; injection h with h1 h2; subst h1; subst h2
    exact ⟨rfl, (congrArg At (eq_impl_IsRule _ _)).mp ⟨vc_impl_IsRule _ hp⟩⟩
  · cases h
def TCS_5 : Tab := TCS_4.add 22 F_impl_IsRule
theorem TCS_5_ok : TCS_5.Ok Try.prog := TCS_4_ok.add ok_impl_IsRule
theorem eq_spec_woGood (wr : List UInt8) (ww : Int) (wh : Int) (wc : List UInt8) (wx : Int) (wy : Int) (wd : Int) (K : V → Prop) : VC_spec_woGood wr ww wh wc wx wy wd K = vbody Try.prog (vin Try.prog TCS_5 annTCS 3) TCS_5.looks (annTCS 34) 34 [.agg [.str wr, .int .i64 ww, .int .i64 wh, .str wc, .int .i64 wx, .int .i64 wy, .int .i64 wd]] [] (fun v _ => K v) := by kernel_rfl
theorem ok_spec_woGood : OK Try.prog 34 F_spec_woGood.spec := (vbody_ok (vin_ok TCS_5_ok annTCS 3) TCS_5_ok.looks _ _).ofF fun args m p R h hp => by
  unfold F_spec_woGood at h
  split at h
  · injection h with h; injection h with h1 h2; subst h1; subst h2
    exact ⟨rfl, (congrArg At (eq_spec_woGood _ _ _ _ _ _ _ _)).mp ⟨vc_spec_woGood _ _ _ _ _ _ _ hp⟩⟩
  · cases h
def TCS_6 : Tab := TCS_5.add 34 F_spec_woGood
theorem TCS_6_ok : TCS_6.Ok Try.prog := TCS_5_ok.add ok_spec_woGood
theorem eq_impl_areColours (s : List UInt8) (n : Int) (K : V → Prop) : VC_impl_areColours s n K = vbody Try.prog (vin Try.prog TCS_6 annTCS 3) TCS_6.looks (annTCS 43) 43 [.str s, .int .i64 n] [] (fun v _ => K v) := by kernel_rfl
theorem ok_impl_areColours : OK Try.prog 43 F_impl_areColours.spec := (vbody_ok (vin_ok TCS_6_ok annTCS 3) TCS_6_ok.looks _ _).ofF fun args m p R h hp => by
  unfold F_impl_areColours at h
  split at h
  · injection h with h; injection h with h1 h2; subst h1; subst h2
    exact ⟨rfl, (congrArg At (eq_impl_areColours _ _ _)).mp ⟨vc_impl_areColours _ _ hp⟩⟩
  · cases h
def TCS_7 : Tab := TCS_6.add 43 F_impl_areColours
theorem TCS_7_ok : TCS_7.Ok Try.prog := TCS_6_ok.add ok_impl_areColours
theorem eq_impl_IsWorld (wr : List UInt8) (ww : Int) (wh : Int) (wc : List UInt8) (wx : Int) (wy : Int) (wd : Int) (K : V → Prop) : VC_impl_IsWorld wr ww wh wc wx wy wd K = vbody Try.prog (vin Try.prog TCS_7 annTCS 4) TCS_7.looks (annTCS 35) 35 [.agg [.str wr, .int .i64 ww, .int .i64 wh, .str wc, .int .i64 wx, .int .i64 wy, .int .i64 wd]] [] (fun v _ => K v) := by kernel_rfl
theorem ok_impl_IsWorld : OK Try.prog 35 F_impl_IsWorld.spec := (vbody_ok (vin_ok TCS_7_ok annTCS 4) TCS_7_ok.looks _ _).ofF fun args m p R h hp => by
  unfold F_impl_IsWorld at h
  split at h
  · injection h with h; injection h with h1 h2; subst h1; subst h2
    exact ⟨rfl, (congrArg At (eq_impl_IsWorld _ _ _ _ _ _ _ _)).mp ⟨vc_impl_IsWorld _ _ _ _ _ _ _ hp⟩⟩
  · cases h
def TCS_8 : Tab := TCS_7.add 35 F_impl_IsWorld
theorem TCS_8_ok : TCS_8.Ok Try.prog := TCS_7_ok.add ok_impl_IsWorld
theorem eq_laws_szWorld (wr : List UInt8) (ww : Int) (wh : Int) (wc : List UInt8) (wx : Int) (wy : Int) (wd : Int) (left : Int) (K : V → Prop) : VC_laws_szWorld wr ww wh wc wx wy wd left K = vbody Try.prog (vin Try.prog TCS_8 annTCS 3) TCS_8.looks (annTCS 16) 16 [.agg [.str wr, .int .i64 ww, .int .i64 wh, .str wc, .int .i64 wx, .int .i64 wy, .int .i64 wd], .int .i64 left] [] (fun v _ => K v) := by kernel_rfl
theorem ok_laws_szWorld : OK Try.prog 16 F_laws_szWorld.spec := (vbody_ok (vin_ok TCS_8_ok annTCS 3) TCS_8_ok.looks _ _).ofF fun args m p R h hp => by
  unfold F_laws_szWorld at h
  split at h
  · injection h with h; injection h with h1 h2; subst h1; subst h2
    exact ⟨rfl, (congrArg At (eq_laws_szWorld _ _ _ _ _ _ _ _ _)).mp ⟨vc_laws_szWorld _ _ _ _ _ _ _ _ hp⟩⟩
  · cases h
def TCS_9 : Tab := TCS_8.add 16 F_laws_szWorld
theorem TCS_9_ok : TCS_9.Ok Try.prog := TCS_8_ok.add ok_laws_szWorld
theorem eq_impl_sumOf (s : List UInt8) (K : V → Prop) : VC_impl_sumOf s K = vbody Try.prog (vin Try.prog TCS_9 annTCS 3) TCS_9.looks (annTCS 36) 36 [.str s] [] (fun v _ => K v) := by kernel_rfl
theorem ok_impl_sumOf : OK Try.prog 36 F_impl_sumOf.spec := (vbody_ok (vin_ok TCS_9_ok annTCS 3) TCS_9_ok.looks _ _).ofF fun args m p R h hp => by
  unfold F_impl_sumOf at h
  split at h
  · injection h with h; injection h with h1 h2; subst h1; subst h2
    exact ⟨rfl, (congrArg At (eq_impl_sumOf _ _)).mp ⟨vc_impl_sumOf _ hp⟩⟩
  · cases h
def TCS_10 : Tab := TCS_9.add 36 F_impl_sumOf
theorem TCS_10_ok : TCS_10.Ok Try.prog := TCS_9_ok.add ok_impl_sumOf
theorem eq_spec_ColourSum (wr : List UInt8) (ww : Int) (wh : Int) (wc : List UInt8) (wx : Int) (wy : Int) (wd : Int) (K : V → Prop) : VC_spec_ColourSum wr ww wh wc wx wy wd K = vbody Try.prog (vin Try.prog TCS_10 annTCS 3) TCS_10.looks (annTCS 17) 17 [.agg [.str wr, .int .i64 ww, .int .i64 wh, .str wc, .int .i64 wx, .int .i64 wy, .int .i64 wd]] [] (fun v _ => K v) := by kernel_rfl
theorem ok_spec_ColourSum : OK Try.prog 17 F_spec_ColourSum.spec := (vbody_ok (vin_ok TCS_10_ok annTCS 3) TCS_10_ok.looks _ _).ofF fun args m p R h hp => by
  unfold F_spec_ColourSum at h
  split at h
  · injection h with h; injection h with h1 h2; subst h1; subst h2
    exact ⟨rfl, (congrArg At (eq_spec_ColourSum _ _ _ _ _ _ _ _)).mp ⟨vc_spec_ColourSum _ _ _ _ _ _ _ hp⟩⟩
  · cases h
def TCS_11 : Tab := TCS_10.add 17 F_spec_ColourSum
theorem TCS_11_ok : TCS_11.Ok Try.prog := TCS_10_ok.add ok_spec_ColourSum
theorem eq_impl_ColourSum (wr : List UInt8) (ww : Int) (wh : Int) (wc : List UInt8) (wx : Int) (wy : Int) (wd : Int) (K : V → Prop) : VC_impl_ColourSum wr ww wh wc wx wy wd K = vbody Try.prog (vin Try.prog TCS_11 annTCS 3) TCS_11.looks (annTCS 19) 19 [.agg [.str wr, .int .i64 ww, .int .i64 wh, .str wc, .int .i64 wx, .int .i64 wy, .int .i64 wd]] [] (fun v _ => K v) := by kernel_rfl
theorem ok_impl_ColourSum : OK Try.prog 19 F_impl_ColourSum.spec := (vbody_ok (vin_ok TCS_11_ok annTCS 3) TCS_11_ok.looks _ _).ofF fun args m p R h hp => by
  unfold F_impl_ColourSum at h
  split at h
  · injection h with h; injection h with h1 h2; subst h1; subst h2
    exact ⟨rfl, (congrArg At (eq_impl_ColourSum _ _ _ _ _ _ _ _)).mp ⟨vc_impl_ColourSum _ _ _ _ _ _ _ hp⟩⟩
  · cases h
def TCS_12 : Tab := TCS_11.add 19 F_impl_ColourSum
theorem TCS_12_ok : TCS_12.Ok Try.prog := TCS_11_ok.add ok_impl_ColourSum
def TCS : Tab := TCS_12
theorem TCS_ok : TCS.Ok Try.prog := TCS_12_ok
end Go.Proofs.Ytbdhilflnfllaab
