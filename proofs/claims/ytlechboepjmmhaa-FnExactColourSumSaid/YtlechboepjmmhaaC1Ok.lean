/- The contracts of this chapter. -/
import Derived.Test.YtlechboepjmmhaaProg
import Derived.Test.YtlechboepjmmhaaC1Pf
import Derived.KernelRfl
namespace Go.Proofs.Ytlechboepjmmhaa
open Go Go.Vi
set_option linter.unusedVariables false
def annTC1 : FuncId → Nat → St → Option Ann := fun f => if f = 90 then ann_spec_woRule else if f = 54 then ann_impl_IsRule else if f = 49 then ann_spec_woGood else if f = 91 then ann_impl_areColours else if f = 16 then ann_spec_ColourSum else if f = 18 then ann_impl_ColourSum else if f = 53 then ann_spec_loMany else if f = 20 then ann_impl_CountWorlds else (fun _ _ => none)
def TC1_0 : Tab := Tab.none
theorem TC1_0_ok : TC1_0.Ok Try.prog := Tab.none_ok
theorem eq_spec_l1In (n : Int) (lo : Int) (hi : Int) (K : V → Prop) : VC_spec_l1In n lo hi K = vbody Try.prog (vin Try.prog TC1_0 annTC1 3) TC1_0.looks (annTC1 69) 69 [.int .i64 n, .int .i64 lo, .int .i64 hi] [] (fun v _ => K v) := by kernel_rfl
theorem ok_spec_l1In : OK Try.prog 69 F_spec_l1In.spec := (vbody_ok (vin_ok TC1_0_ok annTC1 3) TC1_0_ok.looks _ _).ofF fun args m p R h hp => by
  unfold F_spec_l1In at h
  split at h
  · injection h with h; injection h with h1 h2; subst h1; subst h2
    exact ⟨rfl, (congrArg At (eq_spec_l1In _ _ _ _)).mp ⟨vc_spec_l1In _ _ _ hp⟩⟩
  · cases h
def TC1_1 : Tab := TC1_0.add 69 F_spec_l1In
theorem TC1_1_ok : TC1_1.Ok Try.prog := TC1_0_ok.add ok_spec_l1In
theorem eq_impl_within (n : Int) (lo : Int) (hi : Int) (K : V → Prop) : VC_impl_within n lo hi K = vbody Try.prog (vin Try.prog TC1_1 annTC1 3) TC1_1.looks (annTC1 61) 61 [.int .i64 n, .int .i64 lo, .int .i64 hi] [] (fun v _ => K v) := by kernel_rfl
theorem ok_impl_within : OK Try.prog 61 F_impl_within.spec := (vbody_ok (vin_ok TC1_1_ok annTC1 3) TC1_1_ok.looks _ _).ofF fun args m p R h hp => by
  unfold F_impl_within at h
  split at h
  · injection h with h; injection h with h1 h2; subst h1; subst h2
    exact ⟨rfl, (congrArg At (eq_impl_within _ _ _ _)).mp ⟨vc_impl_within _ _ _ hp⟩⟩
  · cases h
def TC1_2 : Tab := TC1_1.add 61 F_impl_within
theorem TC1_2_ok : TC1_2.Ok Try.prog := TC1_1_ok.add ok_impl_within
theorem eq_impl_digit (b : Int) (K : V → Prop) : VC_impl_digit b K = vbody Try.prog (vin Try.prog TC1_2 annTC1 3) TC1_2.looks (annTC1 51) 51 [.int .u8 b] [] (fun v _ => K v) := by kernel_rfl
theorem ok_impl_digit : OK Try.prog 51 F_impl_digit.spec := (vbody_ok (vin_ok TC1_2_ok annTC1 3) TC1_2_ok.looks _ _).ofF fun args m p R h hp => by
  unfold F_impl_digit at h
  split at h
  · injection h with h; injection h with h1 h2; subst h1; subst h2
    exact ⟨rfl, (congrArg At (eq_impl_digit _ _)).mp ⟨vc_impl_digit _ hp⟩⟩
  · cases h
def TC1_3 : Tab := TC1_2.add 51 F_impl_digit
theorem TC1_3_ok : TC1_3.Ok Try.prog := TC1_2_ok.add ok_impl_digit
theorem eq_spec_woRule (s : List UInt8) (K : V → Prop) : VC_spec_woRule s K = vbody Try.prog (vin Try.prog TC1_3 annTC1 3) TC1_3.looks (annTC1 90) 90 [.str s] [] (fun v _ => K v) := by kernel_rfl
theorem ok_spec_woRule : OK Try.prog 90 F_spec_woRule.spec := (vbody_ok (vin_ok TC1_3_ok annTC1 3) TC1_3_ok.looks _ _).ofF fun args m p R h hp => by
  unfold F_spec_woRule at h
  split at h
  · injection h with h; injection h with h1 h2; subst h1; subst h2
    exact ⟨rfl, (congrArg At (eq_spec_woRule _ _)).mp ⟨vc_spec_woRule _ hp⟩⟩
  · cases h
def TC1_4 : Tab := TC1_3.add 90 F_spec_woRule
theorem TC1_4_ok : TC1_4.Ok Try.prog := TC1_3_ok.add ok_spec_woRule
theorem eq_impl_IsRule (s : List UInt8) (K : V → Prop) : VC_impl_IsRule s K = vbody Try.prog (vin Try.prog TC1_4 annTC1 3) TC1_4.looks (annTC1 54) 54 [.str s] [] (fun v _ => K v) := by kernel_rfl
theorem ok_impl_IsRule : OK Try.prog 54 F_impl_IsRule.spec := (vbody_ok (vin_ok TC1_4_ok annTC1 3) TC1_4_ok.looks _ _).ofF fun args m p R h hp => by
  unfold F_impl_IsRule at h
  split at h
  · injection h with h; injection h with h1 h2; subst h1; subst h2
    exact ⟨rfl, (congrArg At (eq_impl_IsRule _ _)).mp ⟨vc_impl_IsRule _ hp⟩⟩
  · cases h
def TC1_5 : Tab := TC1_4.add 54 F_impl_IsRule
theorem TC1_5_ok : TC1_5.Ok Try.prog := TC1_4_ok.add ok_impl_IsRule
theorem eq_spec_woGood (wr : List UInt8) (ww : Int) (wh : Int) (wc : List UInt8) (wx : Int) (wy : Int) (wd : Int) (K : V → Prop) : VC_spec_woGood wr ww wh wc wx wy wd K = vbody Try.prog (vin Try.prog TC1_5 annTC1 3) TC1_5.looks (annTC1 49) 49 [.agg [.str wr, .int .i64 ww, .int .i64 wh, .str wc, .int .i64 wx, .int .i64 wy, .int .i64 wd]] [] (fun v _ => K v) := by kernel_rfl
theorem ok_spec_woGood : OK Try.prog 49 F_spec_woGood.spec := (vbody_ok (vin_ok TC1_5_ok annTC1 3) TC1_5_ok.looks _ _).ofF fun args m p R h hp => by
  unfold F_spec_woGood at h
  split at h
  · injection h with h; injection h with h1 h2; subst h1; subst h2
    exact ⟨rfl, (congrArg At (eq_spec_woGood _ _ _ _ _ _ _ _)).mp ⟨vc_spec_woGood _ _ _ _ _ _ _ hp⟩⟩
  · cases h
def TC1_6 : Tab := TC1_5.add 49 F_spec_woGood
theorem TC1_6_ok : TC1_6.Ok Try.prog := TC1_5_ok.add ok_spec_woGood
theorem eq_impl_areColours (s : List UInt8) (n : Int) (K : V → Prop) : VC_impl_areColours s n K = vbody Try.prog (vin Try.prog TC1_6 annTC1 3) TC1_6.looks (annTC1 91) 91 [.str s, .int .i64 n] [] (fun v _ => K v) := by kernel_rfl
theorem ok_impl_areColours : OK Try.prog 91 F_impl_areColours.spec := (vbody_ok (vin_ok TC1_6_ok annTC1 3) TC1_6_ok.looks _ _).ofF fun args m p R h hp => by
  unfold F_impl_areColours at h
  split at h
  · injection h with h; injection h with h1 h2; subst h1; subst h2
    exact ⟨rfl, (congrArg At (eq_impl_areColours _ _ _)).mp ⟨vc_impl_areColours _ _ hp⟩⟩
  · cases h
def TC1_7 : Tab := TC1_6.add 91 F_impl_areColours
theorem TC1_7_ok : TC1_7.Ok Try.prog := TC1_6_ok.add ok_impl_areColours
theorem eq_impl_IsWorld (wr : List UInt8) (ww : Int) (wh : Int) (wc : List UInt8) (wx : Int) (wy : Int) (wd : Int) (K : V → Prop) : VC_impl_IsWorld wr ww wh wc wx wy wd K = vbody Try.prog (vin Try.prog TC1_7 annTC1 4) TC1_7.looks (annTC1 50) 50 [.agg [.str wr, .int .i64 ww, .int .i64 wh, .str wc, .int .i64 wx, .int .i64 wy, .int .i64 wd]] [] (fun v _ => K v) := by kernel_rfl
theorem ok_impl_IsWorld : OK Try.prog 50 F_impl_IsWorld.spec := (vbody_ok (vin_ok TC1_7_ok annTC1 4) TC1_7_ok.looks _ _).ofF fun args m p R h hp => by
  unfold F_impl_IsWorld at h
  split at h
  · injection h with h; injection h with h1 h2; subst h1; subst h2
    exact ⟨rfl, (congrArg At (eq_impl_IsWorld _ _ _ _ _ _ _ _)).mp ⟨vc_impl_IsWorld _ _ _ _ _ _ _ hp⟩⟩
  · cases h
def TC1_8 : Tab := TC1_7.add 50 F_impl_IsWorld
theorem TC1_8_ok : TC1_8.Ok Try.prog := TC1_7_ok.add ok_impl_IsWorld
theorem eq_laws_szWorld (wr : List UInt8) (ww : Int) (wh : Int) (wc : List UInt8) (wx : Int) (wy : Int) (wd : Int) (left : Int) (K : V → Prop) : VC_laws_szWorld wr ww wh wc wx wy wd left K = vbody Try.prog (vin Try.prog TC1_8 annTC1 3) TC1_8.looks (annTC1 15) 15 [.agg [.str wr, .int .i64 ww, .int .i64 wh, .str wc, .int .i64 wx, .int .i64 wy, .int .i64 wd], .int .i64 left] [] (fun v _ => K v) := by kernel_rfl
theorem ok_laws_szWorld : OK Try.prog 15 F_laws_szWorld.spec := (vbody_ok (vin_ok TC1_8_ok annTC1 3) TC1_8_ok.looks _ _).ofF fun args m p R h hp => by
  unfold F_laws_szWorld at h
  split at h
  · injection h with h; injection h with h1 h2; subst h1; subst h2
    exact ⟨rfl, (congrArg At (eq_laws_szWorld _ _ _ _ _ _ _ _ _)).mp ⟨vc_laws_szWorld _ _ _ _ _ _ _ _ hp⟩⟩
  · cases h
def TC1_9 : Tab := TC1_8.add 15 F_laws_szWorld
theorem TC1_9_ok : TC1_9.Ok Try.prog := TC1_8_ok.add ok_laws_szWorld
theorem eq_spec_ColourSum (wr : List UInt8) (ww : Int) (wh : Int) (wc : List UInt8) (wx : Int) (wy : Int) (wd : Int) (K : V → Prop) : VC_spec_ColourSum wr ww wh wc wx wy wd K = vbody Try.prog (vin Try.prog TC1_9 annTC1 3) TC1_9.looks (annTC1 16) 16 [.agg [.str wr, .int .i64 ww, .int .i64 wh, .str wc, .int .i64 wx, .int .i64 wy, .int .i64 wd]] [] (fun v _ => K v) := by kernel_rfl
theorem ok_spec_ColourSum : OK Try.prog 16 F_spec_ColourSum.spec := (vbody_ok (vin_ok TC1_9_ok annTC1 3) TC1_9_ok.looks _ _).ofF fun args m p R h hp => by
  unfold F_spec_ColourSum at h
  split at h
  · injection h with h; injection h with h1 h2; subst h1; subst h2
    exact ⟨rfl, (congrArg At (eq_spec_ColourSum _ _ _ _ _ _ _ _)).mp ⟨vc_spec_ColourSum _ _ _ _ _ _ _ hp⟩⟩
  · cases h
def TC1_10 : Tab := TC1_9.add 16 F_spec_ColourSum
theorem TC1_10_ok : TC1_10.Ok Try.prog := TC1_9_ok.add ok_spec_ColourSum
theorem eq_impl_ColourSum (wr : List UInt8) (ww : Int) (wh : Int) (wc : List UInt8) (wx : Int) (wy : Int) (wd : Int) (K : V → Prop) : VC_impl_ColourSum wr ww wh wc wx wy wd K = vbody Try.prog (vin Try.prog TC1_10 annTC1 3) TC1_10.looks (annTC1 18) 18 [.agg [.str wr, .int .i64 ww, .int .i64 wh, .str wc, .int .i64 wx, .int .i64 wy, .int .i64 wd]] [] (fun v _ => K v) := by kernel_rfl
theorem ok_impl_ColourSum : OK Try.prog 18 F_impl_ColourSum.spec := (vbody_ok (vin_ok TC1_10_ok annTC1 3) TC1_10_ok.looks _ _).ofF fun args m p R h hp => by
  unfold F_impl_ColourSum at h
  split at h
  · injection h with h; injection h with h1 h2; subst h1; subst h2
    exact ⟨rfl, (congrArg At (eq_impl_ColourSum _ _ _ _ _ _ _ _)).mp ⟨vc_impl_ColourSum _ _ _ _ _ _ _ hp⟩⟩
  · cases h
def TC1_11 : Tab := TC1_10.add 18 F_impl_ColourSum
theorem TC1_11_ok : TC1_11.Ok Try.prog := TC1_10_ok.add ok_impl_ColourSum
theorem eq_spec_loMany (s : List UInt8) (w : Int) (h : Int) (K : V → Prop) : VC_spec_loMany s w h K = vbody Try.prog (vin Try.prog TC1_11 annTC1 3) TC1_11.looks (annTC1 53) 53 [.str s, .int .i64 w, .int .i64 h] [] (fun v _ => K v) := by kernel_rfl
theorem ok_spec_loMany : OK Try.prog 53 F_spec_loMany.spec := (vbody_ok (vin_ok TC1_11_ok annTC1 3) TC1_11_ok.looks _ _).ofF fun args m p R h hp => by
  unfold F_spec_loMany at h
  split at h
  · injection h with h; injection h with h1 h2; subst h1; subst h2
    exact ⟨rfl, (congrArg At (eq_spec_loMany _ _ _ _)).mp ⟨vc_spec_loMany _ _ _ hp⟩⟩
  · cases h
def TC1_12 : Tab := TC1_11.add 53 F_spec_loMany
theorem TC1_12_ok : TC1_12.Ok Try.prog := TC1_11_ok.add ok_spec_loMany
theorem eq_spec_loAsked (s : List UInt8) (w : Int) (h : Int) (K : V → Prop) : VC_spec_loAsked s w h K = vbody Try.prog (vin Try.prog TC1_12 annTC1 3) TC1_12.looks (annTC1 52) 52 [.str s, .int .i64 w, .int .i64 h] [] (fun v _ => K v) := by kernel_rfl
theorem ok_spec_loAsked : OK Try.prog 52 F_spec_loAsked.spec := (vbody_ok (vin_ok TC1_12_ok annTC1 3) TC1_12_ok.looks _ _).ofF fun args m p R h hp => by
  unfold F_spec_loAsked at h
  split at h
  · injection h with h; injection h with h1 h2; subst h1; subst h2
    exact ⟨rfl, (congrArg At (eq_spec_loAsked _ _ _ _)).mp ⟨vc_spec_loAsked _ _ _ hp⟩⟩
  · cases h
def TC1_13 : Tab := TC1_12.add 52 F_spec_loAsked
theorem TC1_13_ok : TC1_13.Ok Try.prog := TC1_12_ok.add ok_spec_loAsked
theorem eq_spec_CountWorlds (s : List UInt8) (w : Int) (h : Int) (K : V → Prop) : VC_spec_CountWorlds s w h K = vbody Try.prog (vin Try.prog TC1_13 annTC1 3) TC1_13.looks (annTC1 19) 19 [.str s, .int .i64 w, .int .i64 h] [] (fun v _ => K v) := by kernel_rfl
theorem ok_spec_CountWorlds : OK Try.prog 19 F_spec_CountWorlds.spec := (vbody_ok (vin_ok TC1_13_ok annTC1 3) TC1_13_ok.looks _ _).ofF fun args m p R h hp => by
  unfold F_spec_CountWorlds at h
  split at h
  · injection h with h; injection h with h1 h2; subst h1; subst h2
    exact ⟨rfl, (congrArg At (eq_spec_CountWorlds _ _ _ _)).mp ⟨vc_spec_CountWorlds _ _ _ hp⟩⟩
  · cases h
def TC1_14 : Tab := TC1_13.add 19 F_spec_CountWorlds
theorem TC1_14_ok : TC1_14.Ok Try.prog := TC1_13_ok.add ok_spec_CountWorlds
theorem eq_impl_CountWorlds (s : List UInt8) (w : Int) (h : Int) (K : V → Prop) : VC_impl_CountWorlds s w h K = vbody Try.prog (vin Try.prog TC1_14 annTC1 4) TC1_14.looks (annTC1 20) 20 [.str s, .int .i64 w, .int .i64 h] [] (fun v _ => K v) := by kernel_rfl
theorem ok_impl_CountWorlds : OK Try.prog 20 F_impl_CountWorlds.spec := (vbody_ok (vin_ok TC1_14_ok annTC1 4) TC1_14_ok.looks _ _).ofF fun args m p R h hp => by
  unfold F_impl_CountWorlds at h
  split at h
  · injection h with h; injection h with h1 h2; subst h1; subst h2
    exact ⟨rfl, (congrArg At (eq_impl_CountWorlds _ _ _ _)).mp ⟨vc_impl_CountWorlds _ _ _ hp⟩⟩
  · cases h
def TC1_15 : Tab := TC1_14.add 20 F_impl_CountWorlds
theorem TC1_15_ok : TC1_15.Ok Try.prog := TC1_14_ok.add ok_impl_CountWorlds
def TC1 : Tab := TC1_15
theorem TC1_ok : TC1.Ok Try.prog := TC1_15_ok
end Go.Proofs.Ytlechboepjmmhaa
