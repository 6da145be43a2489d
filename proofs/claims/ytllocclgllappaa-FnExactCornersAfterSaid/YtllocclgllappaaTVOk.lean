/- The contracts of this chapter. -/
import Derived.Test.YtllocclgllappaaTVLib
import Derived.Test.YtllocclgllappaaProg
import Derived.Test.YtllocclgllappaaTVPf
import Derived.KernelRfl
namespace Go.Proofs.Ytllocclgllappaa
open Go Go.Vi
set_option linter.unusedVariables false
def annTTV : FuncId → Nat → St → Option Ann := fun f => if f = 72 then ann_spec_woRule else if f = 45 then ann_spec_tuGood else if f = 46 then ann_impl_partsOf else if f = 54 then ann_spec_tuQuarters else if f = 22 then ann_impl_QuartersOf else if f = 56 then ann_spec_tuLength else if f = 57 then ann_impl_stepsOf else if f = 53 then ann_impl_part else if f = 48 then ann_spec_tuAfter else if f = 78 then ann_impl_newTurtle_1 else if f = 51 then ann_spec_tuCloses else if f = 52 then ann_impl_haltsOf else if f = 20 then ann_impl_ClosesAfter else if f = 32 then ann_laws_eqIntS else if f = 27 then ann_laws_eqIntSS else if f = 33 then ann_laws_markIntS else if f = 28 then ann_laws_markIntSS else if f = 34 then ann_laws_heldIntS else if f = 29 then ann_laws_heldIntSS else if f = 59 then ann_spec_tuCorners else if f = 60 then ann_impl_cornersOf else if f = 26 then ann_impl_CornersAfter else if f = 61 then ann_spec_tuBox else if f = 62 then ann_impl_boxOf else if f = 35 then ann_spec_TwiceArea else if f = 36 then ann_impl_TwiceArea else if f = 37 then ann_spec_WindingOf else (fun _ _ => none)
def TTV_0 : Tab := Tab.none
theorem TTV_0_ok : TTV_0.Ok Try.prog := Tab.none_ok
theorem eq_spec_l1In (n : Int) (lo : Int) (hi : Int) (K : V → Prop) : VC_spec_l1In n lo hi K = vbody Try.prog (vin Try.prog TTV_0 annTTV 3) TTV_0.looks (annTTV 71) 71 [.int .i64 n, .int .i64 lo, .int .i64 hi] [] (fun v _ => K v) := by kernel_rfl
theorem ok_spec_l1In : OK Try.prog 71 F_spec_l1In.spec := (vbody_ok (vin_ok TTV_0_ok annTTV 3) TTV_0_ok.looks _ _).ofF fun args m p R h hp => by
  unfold F_spec_l1In at h
  split at h
  · injection h with h; injection h with h1 h2; subst h1; subst h2
    exact ⟨rfl, (congrArg At (eq_spec_l1In _ _ _ _)).mp ⟨vc_spec_l1In _ _ _ hp⟩⟩
  · cases h
def TTV_1 : Tab := TTV_0.add 71 F_spec_l1In
theorem TTV_1_ok : TTV_1.Ok Try.prog := TTV_0_ok.add ok_spec_l1In
theorem eq_impl_within (n : Int) (lo : Int) (hi : Int) (K : V → Prop) : VC_impl_within n lo hi K = vbody Try.prog (vin Try.prog TTV_1 annTTV 3) TTV_1.looks (annTTV 73) 73 [.int .i64 n, .int .i64 lo, .int .i64 hi] [] (fun v _ => K v) := by kernel_rfl
theorem ok_impl_within : OK Try.prog 73 F_impl_within.spec := (vbody_ok (vin_ok TTV_1_ok annTTV 3) TTV_1_ok.looks _ _).ofF fun args m p R h hp => by
  unfold F_impl_within at h
  split at h
  · injection h with h; injection h with h1 h2; subst h1; subst h2
    exact ⟨rfl, (congrArg At (eq_impl_within _ _ _ _)).mp ⟨vc_impl_within _ _ _ hp⟩⟩
  · cases h
def TTV_2 : Tab := TTV_1.add 73 F_impl_within
theorem TTV_2_ok : TTV_2.Ok Try.prog := TTV_1_ok.add ok_impl_within
theorem eq_impl_digit (b : Int) (K : V → Prop) : VC_impl_digit b K = vbody Try.prog (vin Try.prog TTV_2 annTTV 3) TTV_2.looks (annTTV 74) 74 [.int .u8 b] [] (fun v _ => K v) := by kernel_rfl
theorem ok_impl_digit : OK Try.prog 74 F_impl_digit.spec := (vbody_ok (vin_ok TTV_2_ok annTTV 3) TTV_2_ok.looks _ _).ofF fun args m p R h hp => by
  unfold F_impl_digit at h
  split at h
  · injection h with h; injection h with h1 h2; subst h1; subst h2
    exact ⟨rfl, (congrArg At (eq_impl_digit _ _)).mp ⟨vc_impl_digit _ hp⟩⟩
  · cases h
def TTV_3 : Tab := TTV_2.add 74 F_impl_digit
theorem TTV_3_ok : TTV_3.Ok Try.prog := TTV_2_ok.add ok_impl_digit
theorem eq_impl_isSign (b : Int) (K : V → Prop) : VC_impl_isSign b K = vbody Try.prog (vin Try.prog TTV_3 annTTV 3) TTV_3.looks (annTTV 75) 75 [.int .u8 b] [] (fun v _ => K v) := by kernel_rfl
theorem ok_impl_isSign : OK Try.prog 75 F_impl_isSign.spec := (vbody_ok (vin_ok TTV_3_ok annTTV 3) TTV_3_ok.looks _ _).ofF fun args m p R h hp => by
  unfold F_impl_isSign at h
  split at h
  · injection h with h; injection h with h1 h2; subst h1; subst h2
    exact ⟨rfl, (congrArg At (eq_impl_isSign _ _)).mp ⟨vc_impl_isSign _ hp⟩⟩
  · cases h
def TTV_4 : Tab := TTV_3.add 75 F_impl_isSign
theorem TTV_4_ok : TTV_4.Ok Try.prog := TTV_3_ok.add ok_impl_isSign
theorem eq_spec_woRule (s : List UInt8) (K : V → Prop) : VC_spec_woRule s K = vbody Try.prog (vin Try.prog TTV_4 annTTV 3) TTV_4.looks (annTTV 72) 72 [.str s] [] (fun v _ => K v) := by kernel_rfl
theorem ok_spec_woRule : OK Try.prog 72 F_spec_woRule.spec := (vbody_ok (vin_ok TTV_4_ok annTTV 3) TTV_4_ok.looks _ _).ofF fun args m p R h hp => by
  unfold F_spec_woRule at h
  split at h
  · injection h with h; injection h with h1 h2; subst h1; subst h2
    exact ⟨rfl, (congrArg At (eq_spec_woRule _ _)).mp ⟨vc_spec_woRule _ hp⟩⟩
  · cases h
def TTV_5 : Tab := TTV_4.add 72 F_spec_woRule
theorem TTV_5_ok : TTV_5.Ok Try.prog := TTV_4_ok.add ok_spec_woRule
theorem eq_spec_tuGood (s : List UInt8) (K : V → Prop) : VC_spec_tuGood s K = vbody Try.prog (vin Try.prog TTV_5 annTTV 3) TTV_5.looks (annTTV 45) 45 [.str s] [] (fun v _ => K v) := by kernel_rfl
theorem ok_spec_tuGood : OK Try.prog 45 F_spec_tuGood.spec := (vbody_ok (vin_ok TTV_5_ok annTTV 3) TTV_5_ok.looks _ _).ofF fun args m p R h hp => by
  unfold F_spec_tuGood at h
  split at h
  · injection h with h; injection h with h1 h2; subst h1; subst h2
    exact ⟨rfl, (congrArg At (eq_spec_tuGood _ _)).mp ⟨vc_spec_tuGood _ hp⟩⟩
  · cases h
def TTV_6 : Tab := TTV_5.add 45 F_spec_tuGood
theorem TTV_6_ok : TTV_6.Ok Try.prog := TTV_5_ok.add ok_spec_tuGood
theorem eq_impl_partsOf (s : List UInt8) (K : V → List Blk → Prop) : VC_impl_partsOf s K = vbody Try.prog (vin Try.prog TTV_6 annTTV 3) TTV_6.looks (annTTV 46) 46 [.str s] [] (K) := by kernel_rfl
theorem ok_impl_partsOf : OK Try.prog 46 F_impl_partsOf.spec := (vbody_ok (vin_ok TTV_6_ok annTTV 3) TTV_6_ok.looks _ _).ofG fun args m p R M h hp => by
  unfold F_impl_partsOf at h
  split at h
  · injection h with h; injection h with h1 h2; injection h2 with h2 h3; subst h1; subst h2; subst h3
    exact (congrArg At (eq_impl_partsOf _ _)).mp ⟨vc_impl_partsOf _ hp⟩
  · cases h
def TTV_7 : Tab := TTV_6.addG 46 F_impl_partsOf
theorem TTV_7_ok : TTV_7.Ok Try.prog := TTV_6_ok.addG ok_impl_partsOf
theorem eq_spec_IsProgram (s : List UInt8) (K : V → Prop) : VC_spec_IsProgram s K = vbody Try.prog (vin Try.prog TTV_7 annTTV 3) TTV_7.looks (annTTV 15) 15 [.str s] [] (fun v _ => K v) := by kernel_rfl
theorem ok_spec_IsProgram : OK Try.prog 15 F_spec_IsProgram.spec := (vbody_ok (vin_ok TTV_7_ok annTTV 3) TTV_7_ok.looks _ _).ofF fun args m p R h hp => by
  unfold F_spec_IsProgram at h
  split at h
  · injection h with h; injection h with h1 h2; subst h1; subst h2
    exact ⟨rfl, (congrArg At (eq_spec_IsProgram _ _)).mp ⟨vc_spec_IsProgram _ hp⟩⟩
  · cases h
def TTV_8 : Tab := TTV_7.add 15 F_spec_IsProgram
theorem TTV_8_ok : TTV_8.Ok Try.prog := TTV_7_ok.add ok_spec_IsProgram
theorem eq_impl_IsProgram (s : List UInt8) (K : V → Prop) : VC_impl_IsProgram s K = vbody Try.prog (vin Try.prog TTV_8 annTTV 3) TTV_8.looks (annTTV 16) 16 [.str s] [] (fun v _ => K v) := by kernel_rfl
theorem ok_impl_IsProgram : OK Try.prog 16 F_impl_IsProgram.spec := (vbody_ok (vin_ok TTV_8_ok annTTV 3) TTV_8_ok.looks _ _).ofF fun args m p R h hp => by
  unfold F_impl_IsProgram at h
  split at h
  · injection h with h; injection h with h1 h2; subst h1; subst h2
    exact ⟨rfl, (congrArg At (eq_impl_IsProgram _ _)).mp ⟨vc_impl_IsProgram _ hp⟩⟩
  · cases h
def TTV_9 : Tab := TTV_8.add 16 F_impl_IsProgram
theorem TTV_9_ok : TTV_9.Ok Try.prog := TTV_8_ok.add ok_impl_IsProgram
theorem eq_impl_quarters (b : Int) (K : V → Prop) : VC_impl_quarters b K = vbody Try.prog (vin Try.prog TTV_9 annTTV 3) TTV_9.looks (annTTV 55) 55 [.int .u8 b] [] (fun v _ => K v) := by kernel_rfl
theorem ok_impl_quarters : OK Try.prog 55 F_impl_quarters.spec := (vbody_ok (vin_ok TTV_9_ok annTTV 3) TTV_9_ok.looks _ _).ofF fun args m p R h hp => by
  unfold F_impl_quarters at h
  split at h
  · injection h with h; injection h with h1 h2; subst h1; subst h2
    exact ⟨rfl, (congrArg At (eq_impl_quarters _ _)).mp ⟨vc_impl_quarters _ hp⟩⟩
  · cases h
def TTV_10 : Tab := TTV_9.add 55 F_impl_quarters
theorem TTV_10_ok : TTV_10.Ok Try.prog := TTV_9_ok.add ok_impl_quarters
theorem eq_spec_woTurn (b : Int) (K : V → Prop) : VC_spec_woTurn b K = vbody Try.prog (vin Try.prog TTV_10 annTTV 3) TTV_10.looks (annTTV 86) 86 [.int .u8 b] [] (fun v _ => K v) := by kernel_rfl
theorem ok_spec_woTurn : OK Try.prog 86 F_spec_woTurn.spec := (vbody_ok (vin_ok TTV_10_ok annTTV 3) TTV_10_ok.looks _ _).ofF fun args m p R h hp => by
  unfold F_spec_woTurn at h
  split at h
  · injection h with h; injection h with h1 h2; subst h1; subst h2
    exact ⟨rfl, (congrArg At (eq_spec_woTurn _ _)).mp ⟨vc_spec_woTurn _ hp⟩⟩
  · cases h
def TTV_11 : Tab := TTV_10.add 86 F_spec_woTurn
theorem TTV_11_ok : TTV_11.Ok Try.prog := TTV_10_ok.add ok_spec_woTurn
theorem eq_impl_direction (w : Int) (K : V → Prop) : VC_impl_direction w K = vbody Try.prog (vin Try.prog TTV_11 annTTV 3) TTV_11.looks (annTTV 79) 79 [.int .i64 w] [] (fun v _ => K v) := by kernel_rfl
theorem ok_impl_direction : OK Try.prog 79 F_impl_direction.spec := (vbody_ok (vin_ok TTV_11_ok annTTV 3) TTV_11_ok.looks _ _).ofF fun args m p R h hp => by
  unfold F_impl_direction at h
  split at h
  · injection h with h; injection h with h1 h2; subst h1; subst h2
    exact ⟨rfl, (congrArg At (eq_impl_direction _ _)).mp ⟨vc_impl_direction _ hp⟩⟩
  · cases h
def TTV_12 : Tab := TTV_11.add 79 F_impl_direction
theorem TTV_12_ok : TTV_12.Ok Try.prog := TTV_11_ok.add ok_impl_direction
theorem eq_spec_tuQuarters (s : List UInt8) (K : V → Prop) : VC_spec_tuQuarters s K = vbody Try.prog (vin Try.prog TTV_12 annTTV 3) TTV_12.looks (annTTV 54) 54 [.str s] [] (fun v _ => K v) := by kernel_rfl
theorem ok_spec_tuQuarters : OK Try.prog 54 F_spec_tuQuarters.spec := (vbody_ok (vin_ok TTV_12_ok annTTV 3) TTV_12_ok.looks _ _).ofF fun args m p R h hp => by
  unfold F_spec_tuQuarters at h
  split at h
  · injection h with h; injection h with h1 h2; subst h1; subst h2
    exact ⟨rfl, (congrArg At (eq_spec_tuQuarters _ _)).mp ⟨vc_spec_tuQuarters _ hp⟩⟩
  · cases h
def TTV_13 : Tab := TTV_12.add 54 F_spec_tuQuarters
theorem TTV_13_ok : TTV_13.Ok Try.prog := TTV_12_ok.add ok_spec_tuQuarters
theorem eq_spec_QuartersOf (s : List UInt8) (K : V → Prop) : VC_spec_QuartersOf s K = vbody Try.prog (vin Try.prog TTV_13 annTTV 3) TTV_13.looks (annTTV 21) 21 [.str s] [] (fun v _ => K v) := by kernel_rfl
theorem ok_spec_QuartersOf : OK Try.prog 21 F_spec_QuartersOf.spec := (vbody_ok (vin_ok TTV_13_ok annTTV 3) TTV_13_ok.looks _ _).ofF fun args m p R h hp => by
  unfold F_spec_QuartersOf at h
  split at h
  · injection h with h; injection h with h1 h2; subst h1; subst h2
    exact ⟨rfl, (congrArg At (eq_spec_QuartersOf _ _)).mp ⟨vc_spec_QuartersOf _ hp⟩⟩
  · cases h
def TTV_14 : Tab := TTV_13.add 21 F_spec_QuartersOf
theorem TTV_14_ok : TTV_14.Ok Try.prog := TTV_13_ok.add ok_spec_QuartersOf
theorem eq_impl_QuartersOf (s : List UInt8) (K : V → Prop) : VC_impl_QuartersOf s K = vbody Try.prog (vin Try.prog TTV_14 annTTV 3) TTV_14.looks (annTTV 22) 22 [.str s] [] (fun v _ => K v) := by kernel_rfl
theorem ok_impl_QuartersOf : OK Try.prog 22 F_impl_QuartersOf.spec := (vbody_ok (vin_ok TTV_14_ok annTTV 3) TTV_14_ok.looks _ _).ofF fun args m p R h hp => by
  unfold F_impl_QuartersOf at h
  split at h
  · injection h with h; injection h with h1 h2; subst h1; subst h2
    exact ⟨rfl, (congrArg At (eq_impl_QuartersOf _ _)).mp ⟨vc_impl_QuartersOf _ hp⟩⟩
  · cases h
def TTV_15 : Tab := TTV_14.add 22 F_impl_QuartersOf
theorem TTV_15_ok : TTV_15.Ok Try.prog := TTV_14_ok.add ok_impl_QuartersOf
theorem eq_spec_tuLength (s : List UInt8) (K : V → Prop) : VC_spec_tuLength s K = vbody Try.prog (vin Try.prog TTV_15 annTTV 3) TTV_15.looks (annTTV 56) 56 [.str s] [] (fun v _ => K v) := by kernel_rfl
theorem ok_spec_tuLength : OK Try.prog 56 F_spec_tuLength.spec := (vbody_ok (vin_ok TTV_15_ok annTTV 3) TTV_15_ok.looks _ _).ofF fun args m p R h hp => by
  unfold F_spec_tuLength at h
  split at h
  · injection h with h; injection h with h1 h2; subst h1; subst h2
    exact ⟨rfl, (congrArg At (eq_spec_tuLength _ _)).mp ⟨vc_spec_tuLength _ hp⟩⟩
  · cases h
def TTV_16 : Tab := TTV_15.add 56 F_spec_tuLength
theorem TTV_16_ok : TTV_16.Ok Try.prog := TTV_15_ok.add ok_spec_tuLength
theorem eq_impl_stepsOf  (n : Nat) (c : List Sc) (k : Kind) (K : V → List Blk → Prop) : VC_impl_stepsOf  n c k K = vbody Try.prog (vin Try.prog TTV_16 annTTV 3) TTV_16.looks (annTTV 57) 57 [.row 0 n] [⟨.recs [.int .i64, .int .u8] (c), 57, k⟩] (K) := by kernel_rfl
theorem ok_impl_stepsOf : OK Try.prog 57 F_impl_stepsOf.spec := (vbody_ok (vin_ok TTV_16_ok annTTV 3) TTV_16_ok.looks _ _).ofFM fun args m p R h hp => by
  unfold F_impl_stepsOf at h
  split at h
  · injection h with h; injection h with h1 h2; subst h1; subst h2
    exact (congrArg At (eq_impl_stepsOf _ _ _ _)).mp ⟨vc_impl_stepsOf _ _ _ hp⟩
  · cases h
def TTV_17 : Tab := TTV_16.add 57 F_impl_stepsOf
theorem TTV_17_ok : TTV_17.Ok Try.prog := TTV_16_ok.add ok_impl_stepsOf
theorem eq_spec_tuAsked (s : List UInt8) (k : Int) (K : V → Prop) : VC_spec_tuAsked s k K = vbody Try.prog (vin Try.prog TTV_17 annTTV 3) TTV_17.looks (annTTV 47) 47 [.str s, .int .i64 k] [] (fun v _ => K v) := by kernel_rfl
theorem ok_spec_tuAsked : OK Try.prog 47 F_spec_tuAsked.spec := (vbody_ok (vin_ok TTV_17_ok annTTV 3) TTV_17_ok.looks _ _).ofF fun args m p R h hp => by
  unfold F_spec_tuAsked at h
  split at h
  · injection h with h; injection h with h1 h2; subst h1; subst h2
    exact ⟨rfl, (congrArg At (eq_spec_tuAsked _ _ _)).mp ⟨vc_spec_tuAsked _ _ hp⟩⟩
  · cases h
def TTV_18 : Tab := TTV_17.add 47 F_spec_tuAsked
theorem TTV_18_ok : TTV_18.Ok Try.prog := TTV_17_ok.add ok_spec_tuAsked
theorem eq_bits_Mul64 (x : Int) (y : Int) (K : V → Prop) : VC_bits_Mul64 x y K = vbody Try.prog (vin Try.prog TTV_18 annTTV 3) TTV_18.looks (annTTV 88) 88 [.int .u64 x, .int .u64 y] [] (fun v _ => K v) := by kernel_rfl
theorem ok_bits_Mul64 : OK Try.prog 88 F_bits_Mul64.spec := (vbody_ok (vin_ok TTV_18_ok annTTV 3) TTV_18_ok.looks _ _).ofF fun args m p R h hp => by
  unfold F_bits_Mul64 at h
  split at h
  · injection h with h; injection h with h1 h2; subst h1; subst h2
    exact ⟨rfl, (congrArg At (eq_bits_Mul64 _ _ _)).mp ⟨vc_bits_Mul64 _ _ hp⟩⟩
  · cases h
def TTV_19 : Tab := TTV_18.add 88 F_bits_Mul64
theorem TTV_19_ok : TTV_19.Ok Try.prog := TTV_18_ok.add ok_bits_Mul64
theorem eq_bits_Mul (x : Int) (y : Int) (K : V → Prop) : VC_bits_Mul x y K = vbody Try.prog (vin Try.prog TTV_19 annTTV 3) TTV_19.looks (annTTV 80) 80 [.int .u64 x, .int .u64 y] [] (fun v _ => K v) := by kernel_rfl
theorem ok_bits_Mul : OK Try.prog 80 F_bits_Mul.spec := (vbody_ok (vin_ok TTV_19_ok annTTV 3) TTV_19_ok.looks _ _).ofF fun args m p R h hp => by
  unfold F_bits_Mul at h
  split at h
  · injection h with h; injection h with h1 h2; subst h1; subst h2
    exact ⟨rfl, (congrArg At (eq_bits_Mul _ _ _)).mp ⟨vc_bits_Mul _ _ hp⟩⟩
  · cases h
def TTV_20 : Tab := TTV_19.add 80 F_bits_Mul
theorem TTV_20_ok : TTV_20.Ok Try.prog := TTV_19_ok.add ok_bits_Mul
theorem eq_impl_part (k : Int) (n : Nat) (c : List Sc) (K : V → List Blk → Prop) : VC_impl_part k n c K = vbody Try.prog (vin Try.prog TTV_20 annTTV 3) TTV_20.looks (annTTV 53) 53 [.row 0 n, .int .i64 k] [⟨.recs [.int .i64, .int .u8] (c), 57, .rows 2⟩] (K) := by kernel_rfl
theorem ok_impl_part : OK Try.prog 53 F_impl_part.spec := (vbody_ok (vin_ok TTV_20_ok annTTV 3) TTV_20_ok.looks _ _).ofG fun args m p R M h hp => by
  unfold F_impl_part at h
  split at h
  · injection h with h; injection h with h1 h2; injection h2 with h2 h3; subst h1; subst h2; subst h3
    exact (congrArg At (eq_impl_part _ _ _ _)).mp ⟨vc_impl_part _ _ _ hp⟩
  · cases h
def TTV_21 : Tab := TTV_20.addG 53 F_impl_part
theorem TTV_21_ok : TTV_21.Ok Try.prog := TTV_20_ok.addG ok_impl_part
theorem eq_impl_repeated (s : List UInt8) (k : Int) (K : V → List Blk → Prop) : VC_impl_repeated s k K = vbody Try.prog (vin Try.prog TTV_21 annTTV 3) TTV_21.looks (annTTV 49) 49 [.str s, .int .i64 k] [] (K) := by kernel_rfl
theorem ok_impl_repeated : OK Try.prog 49 F_impl_repeated.spec := (vbody_ok (vin_ok TTV_21_ok annTTV 3) TTV_21_ok.looks _ _).ofG fun args m p R M h hp => by
  unfold F_impl_repeated at h
  split at h
  · injection h with h; injection h with h1 h2; injection h2 with h2 h3; subst h1; subst h2; subst h3
    exact (congrArg At (eq_impl_repeated _ _ _)).mp ⟨vc_impl_repeated _ _ hp⟩
  · cases h
def TTV_22 : Tab := TTV_21.addG 49 F_impl_repeated
theorem TTV_22_ok : TTV_22.Ok Try.prog := TTV_21_ok.addG ok_impl_repeated
theorem eq_spec_LengthOf (s : List UInt8) (k : Int) (K : V → Prop) : VC_spec_LengthOf s k K = vbody Try.prog (vin Try.prog TTV_22 annTTV 3) TTV_22.looks (annTTV 23) 23 [.str s, .int .i64 k] [] (fun v _ => K v) := by kernel_rfl
theorem ok_spec_LengthOf : OK Try.prog 23 F_spec_LengthOf.spec := (vbody_ok (vin_ok TTV_22_ok annTTV 3) TTV_22_ok.looks _ _).ofF fun args m p R h hp => by
  unfold F_spec_LengthOf at h
  split at h
  · injection h with h; injection h with h1 h2; subst h1; subst h2
    exact ⟨rfl, (congrArg At (eq_spec_LengthOf _ _ _)).mp ⟨vc_spec_LengthOf _ _ hp⟩⟩
  · cases h
def TTV_23 : Tab := TTV_22.add 23 F_spec_LengthOf
theorem TTV_23_ok : TTV_23.Ok Try.prog := TTV_22_ok.add ok_spec_LengthOf
theorem eq_impl_LengthOf (s : List UInt8) (k : Int) (K : V → Prop) : VC_impl_LengthOf s k K = vbody Try.prog (vin Try.prog TTV_23 annTTV 3) TTV_23.looks (annTTV 24) 24 [.str s, .int .i64 k] [] (fun v _ => K v) := by kernel_rfl
theorem ok_impl_LengthOf : OK Try.prog 24 F_impl_LengthOf.spec := (vbody_ok (vin_ok TTV_23_ok annTTV 3) TTV_23_ok.looks _ _).ofF fun args m p R h hp => by
  unfold F_impl_LengthOf at h
  split at h
  · injection h with h; injection h with h1 h2; subst h1; subst h2
    exact ⟨rfl, (congrArg At (eq_impl_LengthOf _ _ _)).mp ⟨vc_impl_LengthOf _ _ hp⟩⟩
  · cases h
def TTV_24 : Tab := TTV_23.add 24 F_impl_LengthOf
theorem TTV_24_ok : TTV_24.Ok Try.prog := TTV_23_ok.add ok_impl_LengthOf
theorem eq_spec_tuTurtle_tuGo (a : Int) (x : Int) (y : Int) (w : Int) (K : V → List Blk → Prop) : VC_spec_tuTurtle_tuGo a x y w K = vbody Try.prog (vin Try.prog TTV_24 annTTV 3) TTV_24.looks (annTTV 85) 85 [.ptr 0 0, .int .i64 a] [⟨.vals [.int .i64 x, .int .i64 y, .int .i64 w], 45, .box⟩] (K) := by kernel_rfl
theorem ok_spec_tuTurtle_tuGo : OK Try.prog 85 F_spec_tuTurtle_tuGo.spec := (vbody_ok (vin_ok TTV_24_ok annTTV 3) TTV_24_ok.looks _ _).ofG fun args m p R M h hp => by
  unfold F_spec_tuTurtle_tuGo at h
  split at h
  · injection h with h; injection h with h1 h2; injection h2 with h2 h3; subst h1; subst h2; subst h3
    exact (congrArg At (eq_spec_tuTurtle_tuGo _ _ _ _ _)).mp ⟨vc_spec_tuTurtle_tuGo _ _ _ _ hp⟩
  · cases h
def TTV_25 : Tab := TTV_24.addG 85 F_spec_tuTurtle_tuGo
theorem TTV_25_ok : TTV_25.Ok Try.prog := TTV_24_ok.addG ok_spec_tuTurtle_tuGo
theorem eq_spec_tuTurtle_tuPart (s : List UInt8) (i : Int) (x : Int) (y : Int) (w : Int) (K : V → List Blk → Prop) : VC_spec_tuTurtle_tuPart s i x y w K = vbody Try.prog (vin Try.prog TTV_25 annTTV 3) TTV_25.looks (annTTV 76) 76 [.ptr 0 0, .str s, .int .i64 i] [⟨.vals [.int .i64 x, .int .i64 y, .int .i64 w], 45, .box⟩] (K) := by kernel_rfl
theorem ok_spec_tuTurtle_tuPart : OK Try.prog 76 F_spec_tuTurtle_tuPart.spec := (vbody_ok (vin_ok TTV_25_ok annTTV 3) TTV_25_ok.looks _ _).ofG fun args m p R M h hp => by
  unfold F_spec_tuTurtle_tuPart at h
  split at h
  · injection h with h; injection h with h1 h2; injection h2 with h2 h3; subst h1; subst h2; subst h3
    exact (congrArg At (eq_spec_tuTurtle_tuPart _ _ _ _ _ _)).mp ⟨vc_spec_tuTurtle_tuPart _ _ _ _ _ hp⟩
  · cases h
def TTV_26 : Tab := TTV_25.addG 76 F_spec_tuTurtle_tuPart
theorem TTV_26_ok : TTV_26.Ok Try.prog := TTV_25_ok.addG ok_spec_tuTurtle_tuPart
theorem eq_spec_tuTurtle_tuSign (s : List UInt8) (i : Int) (x : Int) (y : Int) (w : Int) (K : V → List Blk → Prop) : VC_spec_tuTurtle_tuSign s i x y w K = vbody Try.prog (vin Try.prog TTV_26 annTTV 3) TTV_26.looks (annTTV 77) 77 [.ptr 0 0, .str s, .int .i64 i] [⟨.vals [.int .i64 x, .int .i64 y, .int .i64 w], 45, .box⟩] (K) := by kernel_rfl
theorem ok_spec_tuTurtle_tuSign : OK Try.prog 77 F_spec_tuTurtle_tuSign.spec := (vbody_ok (vin_ok TTV_26_ok annTTV 3) TTV_26_ok.looks _ _).ofG fun args m p R M h hp => by
  unfold F_spec_tuTurtle_tuSign at h
  split at h
  · injection h with h; injection h with h1 h2; injection h2 with h2 h3; subst h1; subst h2; subst h3
    exact (congrArg At (eq_spec_tuTurtle_tuSign _ _ _ _ _ _)).mp ⟨vc_spec_tuTurtle_tuSign _ _ _ _ _ hp⟩
  · cases h
def TTV_27 : Tab := TTV_26.addG 77 F_spec_tuTurtle_tuSign
theorem TTV_27_ok : TTV_27.Ok Try.prog := TTV_26_ok.addG ok_spec_tuTurtle_tuSign
theorem eq_spec_tuAfter (s : List UInt8) (k : Int) (K : V → Prop) : VC_spec_tuAfter s k K = vbody Try.prog (vin Try.prog TTV_27 annTTV 3) TTV_27.looks (annTTV 48) 48 [.str s, .int .i64 k] [] (fun v _ => K v) := by kernel_rfl
theorem ok_spec_tuAfter : OK Try.prog 48 F_spec_tuAfter.spec := (vbody_ok (vin_ok TTV_27_ok annTTV 3) TTV_27_ok.looks _ _).ofF fun args m p R h hp => by
  unfold F_spec_tuAfter at h
  split at h
  · injection h with h; injection h with h1 h2; subst h1; subst h2
    exact ⟨rfl, (congrArg At (eq_spec_tuAfter _ _ _)).mp ⟨vc_spec_tuAfter _ _ hp⟩⟩
  · cases h
def TTV_28 : Tab := TTV_27.add 48 F_spec_tuAfter
theorem TTV_28_ok : TTV_28.Ok Try.prog := TTV_27_ok.add ok_spec_tuAfter
theorem eq_impl_newTurtle_1  (n : Nat) (c : List Sc) (x : Int) (y : Int) (w : Int) (K : V → List Blk → Prop) : VC_impl_newTurtle_1  n c x y w K = vbody Try.prog (vin Try.prog TTV_28 annTTV 3) TTV_28.looks (annTTV 78) 78 [.row 0 n, .ptr 1 0] [⟨.recs [.int .i64, .int .u8] (c), 57, .rows 2⟩, ⟨.vals [.int .i64 x, .int .i64 y, .int .i64 w], 51, .box⟩] (K) := by kernel_rfl
theorem eq_impl_newTurtle_1_2  (x : Int) (y : Int) (w : Int) (K : V → List Blk → Prop) : VC_impl_newTurtle_1_2  x y w K = vbody Try.prog (vin Try.prog TTV_28 annTTV 3) TTV_28.looks (annTTV 78) 78 [.raw (.slice none 0 0), .ptr 0 0] [⟨.vals [.int .i64 x, .int .i64 y, .int .i64 w], 51, .box⟩] (K) := by kernel_rfl
theorem eq_impl_newTurtle_1_3  (n : Nat) (c : List Sc) (x : Int) (y : Int) (w : Int) (K : V → List Blk → Prop) : VC_impl_newTurtle_1_3  n c x y w K = vbody Try.prog (vin Try.prog TTV_28 annTTV 3) TTV_28.looks (annTTV 78) 78 [.row 0 n, .ptr 1 0] [⟨.recs [.int .i64, .int .u8] (c), 57, .arg 2⟩, ⟨.vals [.int .i64 x, .int .i64 y, .int .i64 w], 51, .box⟩] (K) := by kernel_rfl
theorem ok_impl_newTurtle_1 : OK Try.prog 78 F_impl_newTurtle_1.spec := (vbody_ok (vin_ok TTV_28_ok annTTV 3) TTV_28_ok.looks _ _).ofG fun args m p R M h hp => by
  unfold F_impl_newTurtle_1 at h
  split at h
  · injection h with h; injection h with h1 h2; injection h2 with h2 h3; subst h1; subst h2; subst h3
    exact (congrArg At (eq_impl_newTurtle_1 _ _ _ _ _ _)).mp ⟨vc_impl_newTurtle_1 _ _ _ _ _ hp⟩
  · injection h with h; injection h with h1 h2; injection h2 with h2 h3; subst h1; subst h2; subst h3
    exact (congrArg At (eq_impl_newTurtle_1_2 _ _ _ _)).mp ⟨vc_impl_newTurtle_1_2 _ _ _ hp⟩
  · injection h with h; injection h with h1 h2; injection h2 with h2 h3; subst h1; subst h2; subst h3
    exact (congrArg At (eq_impl_newTurtle_1_3 _ _ _ _ _ _)).mp ⟨vc_impl_newTurtle_1_3 _ _ _ _ _ hp⟩
  · cases h
def TTV_29 : Tab := TTV_28.addG 78 F_impl_newTurtle_1
theorem TTV_29_ok : TTV_29.Ok Try.prog := TTV_28_ok.addG ok_impl_newTurtle_1
theorem eq_spec_PlaceAfter (s : List UInt8) (k : Int) (K : V → Prop) : VC_spec_PlaceAfter s k K = vbody Try.prog (vin Try.prog TTV_29 annTTV 3) TTV_29.looks (annTTV 17) 17 [.str s, .int .i64 k] [] (fun v _ => K v) := by kernel_rfl
theorem ok_spec_PlaceAfter : OK Try.prog 17 F_spec_PlaceAfter.spec := (vbody_ok (vin_ok TTV_29_ok annTTV 3) TTV_29_ok.looks _ _).ofF fun args m p R h hp => by
  unfold F_spec_PlaceAfter at h
  split at h
  · injection h with h; injection h with h1 h2; subst h1; subst h2
    exact ⟨rfl, (congrArg At (eq_spec_PlaceAfter _ _ _)).mp ⟨vc_spec_PlaceAfter _ _ hp⟩⟩
  · cases h
def TTV_30 : Tab := TTV_29.add 17 F_spec_PlaceAfter
theorem TTV_30_ok : TTV_30.Ok Try.prog := TTV_29_ok.add ok_spec_PlaceAfter
theorem eq_impl_PlaceAfter (s : List UInt8) (k : Int) (K : V → Prop) : VC_impl_PlaceAfter s k K = vbody Try.prog (vin Try.prog TTV_30 annTTV 3) TTV_30.looks (annTTV 18) 18 [.str s, .int .i64 k] [] (fun v _ => K v) := by kernel_rfl
theorem ok_impl_PlaceAfter : OK Try.prog 18 F_impl_PlaceAfter.spec := (vbody_ok (vin_ok TTV_30_ok annTTV 3) TTV_30_ok.looks _ _).ofF fun args m p R h hp => by
  unfold F_impl_PlaceAfter at h
  split at h
  · injection h with h; injection h with h1 h2; subst h1; subst h2
    exact ⟨rfl, (congrArg At (eq_impl_PlaceAfter _ _ _)).mp ⟨vc_impl_PlaceAfter _ _ hp⟩⟩
  · cases h
def TTV_31 : Tab := TTV_30.add 18 F_impl_PlaceAfter
theorem TTV_31_ok : TTV_31.Ok Try.prog := TTV_30_ok.add ok_impl_PlaceAfter
theorem eq_spec_tuCloses (s : List UInt8) (K : V → Prop) : VC_spec_tuCloses s K = vbody Try.prog (vin Try.prog TTV_31 annTTV 3) TTV_31.looks (annTTV 51) 51 [.str s] [] (fun v _ => K v) := by kernel_rfl
theorem ok_spec_tuCloses : OK Try.prog 51 F_spec_tuCloses.spec := (vbody_ok (vin_ok TTV_31_ok annTTV 3) TTV_31_ok.looks _ _).ofF fun args m p R h hp => by
  unfold F_spec_tuCloses at h
  split at h
  · injection h with h; injection h with h1 h2; subst h1; subst h2
    exact ⟨rfl, (congrArg At (eq_spec_tuCloses _ _)).mp ⟨vc_spec_tuCloses _ hp⟩⟩
  · cases h
def TTV_32 : Tab := TTV_31.add 51 F_spec_tuCloses
theorem TTV_32_ok : TTV_32.Ok Try.prog := TTV_31_ok.add ok_spec_tuCloses
theorem eq_impl_haltsOf (e : Int) (n : Nat) (c : List Sc) (K : V → List Blk → Prop) : VC_impl_haltsOf e n c K = vbody Try.prog (vin Try.prog TTV_32 annTTV 3) TTV_32.looks (annTTV 52) 52 [.row 0 n, .int .i64 e] [⟨.recs [.int .i64, .int .u8] (c), 57, .rows 2⟩] (K) := by kernel_rfl
theorem ok_impl_haltsOf : OK Try.prog 52 F_impl_haltsOf.spec := (vbody_ok (vin_ok TTV_32_ok annTTV 3) TTV_32_ok.looks _ _).ofG fun args m p R M h hp => by
  unfold F_impl_haltsOf at h
  split at h
  · injection h with h; injection h with h1 h2; injection h2 with h2 h3; subst h1; subst h2; subst h3
    exact (congrArg At (eq_impl_haltsOf _ _ _ _)).mp ⟨vc_impl_haltsOf _ _ _ hp⟩
  · cases h
def TTV_33 : Tab := TTV_32.addG 52 F_impl_haltsOf
theorem TTV_33_ok : TTV_33.Ok Try.prog := TTV_32_ok.addG ok_impl_haltsOf
theorem eq_spec_ClosesAfter (s : List UInt8) (K : V → Prop) : VC_spec_ClosesAfter s K = vbody Try.prog (vin Try.prog TTV_33 annTTV 3) TTV_33.looks (annTTV 19) 19 [.str s] [] (fun v _ => K v) := by kernel_rfl
theorem ok_spec_ClosesAfter : OK Try.prog 19 F_spec_ClosesAfter.spec := (vbody_ok (vin_ok TTV_33_ok annTTV 3) TTV_33_ok.looks _ _).ofF fun args m p R h hp => by
  unfold F_spec_ClosesAfter at h
  split at h
  · injection h with h; injection h with h1 h2; subst h1; subst h2
    exact ⟨rfl, (congrArg At (eq_spec_ClosesAfter _ _)).mp ⟨vc_spec_ClosesAfter _ hp⟩⟩
  · cases h
def TTV_34 : Tab := TTV_33.add 19 F_spec_ClosesAfter
theorem TTV_34_ok : TTV_34.Ok Try.prog := TTV_33_ok.add ok_spec_ClosesAfter
theorem eq_impl_ClosesAfter (s : List UInt8) (K : V → Prop) : VC_impl_ClosesAfter s K = vbody Try.prog (vin Try.prog TTV_34 annTTV 3) TTV_34.looks (annTTV 20) 20 [.str s] [] (fun v _ => K v) := by kernel_rfl
theorem ok_impl_ClosesAfter : OK Try.prog 20 F_impl_ClosesAfter.spec := (vbody_ok (vin_ok TTV_34_ok annTTV 3) TTV_34_ok.looks _ _).ofF fun args m p R h hp => by
  unfold F_impl_ClosesAfter at h
  split at h
  · injection h with h; injection h with h1 h2; subst h1; subst h2
    exact ⟨rfl, (congrArg At (eq_impl_ClosesAfter _ _)).mp ⟨vc_impl_ClosesAfter _ hp⟩⟩
  · cases h
def TTV_35 : Tab := TTV_34.add 20 F_impl_ClosesAfter
theorem TTV_35_ok : TTV_35.Ok Try.prog := TTV_34_ok.add ok_impl_ClosesAfter
theorem eq_laws_eqIntS  (n : Nat) (m : Nat) (a : List Int) (b : List Int) (e : TypeId) (k : Kind) (f : TypeId) (q : Kind) (K : V → List Blk → Prop) : VC_laws_eqIntS  n m a b e k f q K = vbody Try.prog (vin Try.prog TTV_35 annTTV 3) TTV_35.looks (annTTV 32) 32 [.row 0 n, .row 1 m] [⟨.ints .i64 a, e, k⟩, ⟨.ints .i64 b, f, q⟩] (K) := by kernel_rfl
theorem ok_laws_eqIntS : OK Try.prog 32 F_laws_eqIntS.spec := (vbody_ok (vin_ok TTV_35_ok annTTV 3) TTV_35_ok.looks _ _).ofFM fun args m p R h hp => by
  unfold F_laws_eqIntS at h
  split at h
  · injection h with h; injection h with h1 h2; subst h1; subst h2
    exact (congrArg At (eq_laws_eqIntS _ _ _ _ _ _ _ _ _)).mp ⟨vc_laws_eqIntS _ _ _ _ _ _ _ _ hp⟩
  · cases h
def TTV_36 : Tab := TTV_35.add 32 F_laws_eqIntS
theorem TTV_36_ok : TTV_36.Ok Try.prog := TTV_35_ok.add ok_laws_eqIntS
theorem eq_laws_eqIntSS  (n : Nat) (m : Nat) (l : List (List Int)) (j : List (List Int)) (K : V → List Blk → Prop) : VC_laws_eqIntSS  n m l j K = vbody Try.prog (vin Try.prog TTV_36 annTTV 3) TTV_36.looks (annTTV 27) 27 [.row 0 n, .row 1 m] [⟨.mat .i64 3 (l), 34, .mat⟩, ⟨.mat .i64 3 (j), 34, .mat⟩] (K) := by kernel_rfl
theorem ok_laws_eqIntSS : OK Try.prog 27 F_laws_eqIntSS.spec := (vbody_ok (vin_ok TTV_36_ok annTTV 3) TTV_36_ok.looks _ _).ofFM fun args m p R h hp => by
  unfold F_laws_eqIntSS at h
  split at h
  · injection h with h; injection h with h1 h2; subst h1; subst h2
    exact (congrArg At (eq_laws_eqIntSS _ _ _ _ _)).mp ⟨vc_laws_eqIntSS _ _ _ _ hp⟩
  · cases h
def TTV_37 : Tab := TTV_36.add 27 F_laws_eqIntSS
theorem TTV_37_ok : TTV_37.Ok Try.prog := TTV_36_ok.add ok_laws_eqIntSS
theorem eq_laws_markIntS (k : Int) (n : Nat) (a : List Int) (K : V → List Blk → Prop) : VC_laws_markIntS k n a K = vbody Try.prog (vin Try.prog TTV_37 annTTV 3) TTV_37.looks (annTTV 33) 33 [.row 0 n, .int .i64 k] [⟨.ints .i64 (a), 3, .row⟩] (K) := by kernel_rfl
theorem ok_laws_markIntS : OK Try.prog 33 F_laws_markIntS.spec := (vbody_ok (vin_ok TTV_37_ok annTTV 3) TTV_37_ok.looks _ _).ofG fun args m p R M h hp => by
  unfold F_laws_markIntS at h
  split at h
  · injection h with h; injection h with h1 h2; injection h2 with h2 h3; subst h1; subst h2; subst h3
    exact (congrArg At (eq_laws_markIntS _ _ _ _)).mp ⟨vc_laws_markIntS _ _ _ hp⟩
  · cases h
def TTV_38 : Tab := TTV_37.addG 33 F_laws_markIntS
theorem TTV_38_ok : TTV_38.Ok Try.prog := TTV_37_ok.addG ok_laws_markIntS
theorem eq_laws_markIntSS (k : Int) (n : Nat) (l : List (List Int)) (K : V → List Blk → Prop) : VC_laws_markIntSS k n l K = vbody Try.prog (vin Try.prog TTV_38 annTTV 3) TTV_38.looks (annTTV 28) 28 [.row 0 n, .int .i64 k] [⟨.mat .i64 3 (l), 34, .mat⟩] (K) := by kernel_rfl
theorem ok_laws_markIntSS : OK Try.prog 28 F_laws_markIntSS.spec := (vbody_ok (vin_ok TTV_38_ok annTTV 3) TTV_38_ok.looks _ _).ofG fun args m p R M h hp => by
  unfold F_laws_markIntSS at h
  split at h
  · injection h with h; injection h with h1 h2; injection h2 with h2 h3; subst h1; subst h2; subst h3
    exact (congrArg At (eq_laws_markIntSS _ _ _ _)).mp ⟨vc_laws_markIntSS _ _ _ hp⟩
  · cases h
def TTV_39 : Tab := TTV_38.addG 28 F_laws_markIntSS
theorem TTV_39_ok : TTV_39.Ok Try.prog := TTV_38_ok.addG ok_laws_markIntSS
theorem eq_laws_heldIntS (q : Int) (n : Nat) (a : List Int) (e : TypeId) (k : Kind) (K : V → List Blk → Prop) : VC_laws_heldIntS q n a e k K = vbody Try.prog (vin Try.prog TTV_39 annTTV 3) TTV_39.looks (annTTV 34) 34 [.row 0 n, .int .i64 q] [⟨.ints .i64 a, e, k⟩] (K) := by kernel_rfl
theorem ok_laws_heldIntS : OK Try.prog 34 F_laws_heldIntS.spec := (vbody_ok (vin_ok TTV_39_ok annTTV 3) TTV_39_ok.looks _ _).ofFM fun args m p R h hp => by
  unfold F_laws_heldIntS at h
  split at h
  · injection h with h; injection h with h1 h2; subst h1; subst h2
    exact (congrArg At (eq_laws_heldIntS _ _ _ _ _ _)).mp ⟨vc_laws_heldIntS _ _ _ _ _ hp⟩
  · cases h
def TTV_40 : Tab := TTV_39.add 34 F_laws_heldIntS
theorem TTV_40_ok : TTV_40.Ok Try.prog := TTV_39_ok.add ok_laws_heldIntS
theorem eq_laws_heldIntSS (q : Int) (n : Nat) (l : List (List Int)) (K : V → List Blk → Prop) : VC_laws_heldIntSS q n l K = vbody Try.prog (vin Try.prog TTV_40 annTTV 3) TTV_40.looks (annTTV 29) 29 [.row 0 n, .int .i64 q] [⟨.mat .i64 3 (l), 34, .mat⟩] (K) := by kernel_rfl
theorem ok_laws_heldIntSS : OK Try.prog 29 F_laws_heldIntSS.spec := (vbody_ok (vin_ok TTV_40_ok annTTV 3) TTV_40_ok.looks _ _).ofFM fun args m p R h hp => by
  unfold F_laws_heldIntSS at h
  split at h
  · injection h with h; injection h with h1 h2; subst h1; subst h2
    exact (congrArg At (eq_laws_heldIntSS _ _ _ _)).mp ⟨vc_laws_heldIntSS _ _ _ hp⟩
  · cases h
def TTV_41 : Tab := TTV_40.add 29 F_laws_heldIntSS
theorem TTV_41_ok : TTV_41.Ok Try.prog := TTV_40_ok.add ok_laws_heldIntSS
theorem eq_spec_tuFew (s : List UInt8) (k : Int) (K : V → Prop) : VC_spec_tuFew s k K = vbody Try.prog (vin Try.prog TTV_41 annTTV 3) TTV_41.looks (annTTV 58) 58 [.str s, .int .i64 k] [] (fun v _ => K v) := by kernel_rfl
theorem ok_spec_tuFew : OK Try.prog 58 F_spec_tuFew.spec := (vbody_ok (vin_ok TTV_41_ok annTTV 3) TTV_41_ok.looks _ _).ofF fun args m p R h hp => by
  unfold F_spec_tuFew at h
  split at h
  · injection h with h; injection h with h1 h2; subst h1; subst h2
    exact ⟨rfl, (congrArg At (eq_spec_tuFew _ _ _)).mp ⟨vc_spec_tuFew _ _ hp⟩⟩
  · cases h
def TTV_42 : Tab := TTV_41.add 58 F_spec_tuFew
theorem TTV_42_ok : TTV_42.Ok Try.prog := TTV_41_ok.add ok_spec_tuFew
theorem eq_impl_turtle_point  (x : Int) (y : Int) (w : Int) (K : V → List Blk → Prop) : VC_impl_turtle_point  x y w K = vbody Try.prog (vin Try.prog TTV_42 annTTV 3) TTV_42.looks (annTTV 81) 81 [.agg [.int .i64 x, .int .i64 y, .int .i64 w]] [] (K) := by kernel_rfl
theorem ok_impl_turtle_point : OK Try.prog 81 F_impl_turtle_point.spec := (vbody_ok (vin_ok TTV_42_ok annTTV 3) TTV_42_ok.looks _ _).ofFM fun args m p R h hp => by
  unfold F_impl_turtle_point at h
  split at h
  · injection h with h; injection h with h1 h2; subst h1; subst h2
    exact (congrArg At (eq_impl_turtle_point _ _ _ _)).mp ⟨vc_impl_turtle_point _ _ _ hp⟩
  · cases h
def TTV_43 : Tab := TTV_42.add 81 F_impl_turtle_point
theorem TTV_43_ok : TTV_43.Ok Try.prog := TTV_42_ok.add ok_impl_turtle_point
theorem eq_spec_tuCorners (s : List UInt8) (k : Int) (K : V → List Blk → Prop) : VC_spec_tuCorners s k K = vbody Try.prog (vin Try.prog TTV_43 annTTV 3) TTV_43.looks (annTTV 59) 59 [.str s, .int .i64 k] [] (K) := by kernel_rfl
theorem ok_spec_tuCorners : OK Try.prog 59 F_spec_tuCorners.spec := (vbody_ok (vin_ok TTV_43_ok annTTV 3) TTV_43_ok.looks _ _).ofG fun args m p R M h hp => by
  unfold F_spec_tuCorners at h
  split at h
  · injection h with h; injection h with h1 h2; injection h2 with h2 h3; subst h1; subst h2; subst h3
    exact (congrArg At (eq_spec_tuCorners _ _ _)).mp ⟨vc_spec_tuCorners _ _ hp⟩
  · cases h
def TTV_44 : Tab := TTV_43.addG 59 F_spec_tuCorners
theorem TTV_44_ok : TTV_44.Ok Try.prog := TTV_43_ok.addG ok_spec_tuCorners
theorem eq_spec_CornersAfter (s : List UInt8) (k : Int) (K : V → List Blk → Prop) : VC_spec_CornersAfter s k K = vbody Try.prog (vin Try.prog TTV_44 annTTV 3) TTV_44.looks (annTTV 25) 25 [.str s, .int .i64 k] [] (K) := by kernel_rfl
theorem ok_spec_CornersAfter : OK Try.prog 25 F_spec_CornersAfter.spec := (vbody_ok (vin_ok TTV_44_ok annTTV 3) TTV_44_ok.looks _ _).ofG fun args m p R M h hp => by
  unfold F_spec_CornersAfter at h
  split at h
  · injection h with h; injection h with h1 h2; injection h2 with h2 h3; subst h1; subst h2; subst h3
    exact (congrArg At (eq_spec_CornersAfter _ _ _)).mp ⟨vc_spec_CornersAfter _ _ hp⟩
  · cases h
def TTV_45 : Tab := TTV_44.addG 25 F_spec_CornersAfter
theorem TTV_45_ok : TTV_45.Ok Try.prog := TTV_44_ok.addG ok_spec_CornersAfter
theorem eq_impl_cornersOf (s : List UInt8) (k : Int) (K : V → List Blk → Prop) : VC_impl_cornersOf s k K = vbody Try.prog (vin Try.prog TTV_45 annTTV 3) TTV_45.looks (annTTV 60) 60 [.str s, .int .i64 k] [] (K) := by kernel_rfl
theorem ok_impl_cornersOf : OK Try.prog 60 F_impl_cornersOf.spec := (vbody_ok (vin_ok TTV_45_ok annTTV 3) TTV_45_ok.looks _ _).ofG fun args m p R M h hp => by
  unfold F_impl_cornersOf at h
  split at h
  · injection h with h; injection h with h1 h2; injection h2 with h2 h3; subst h1; subst h2; subst h3
    exact (congrArg At (eq_impl_cornersOf _ _ _)).mp ⟨vc_impl_cornersOf _ _ hp⟩
  · cases h
def TTV_46 : Tab := TTV_45.addG 60 F_impl_cornersOf
theorem TTV_46_ok : TTV_46.Ok Try.prog := TTV_45_ok.addG ok_impl_cornersOf
theorem eq_impl_CornersAfter (s : List UInt8) (k : Int) (K : V → List Blk → Prop) : VC_impl_CornersAfter s k K = vbody Try.prog (vin Try.prog TTV_46 annTTV 3) TTV_46.looks (annTTV 26) 26 [.str s, .int .i64 k] [] (K) := by kernel_rfl
theorem ok_impl_CornersAfter : OK Try.prog 26 F_impl_CornersAfter.spec := (vbody_ok (vin_ok TTV_46_ok annTTV 3) TTV_46_ok.looks _ _).ofG fun args m p R M h hp => by
  unfold F_impl_CornersAfter at h
  split at h
  · injection h with h; injection h with h1 h2; injection h2 with h2 h3; subst h1; subst h2; subst h3
    exact (congrArg At (eq_impl_CornersAfter _ _ _)).mp ⟨vc_impl_CornersAfter _ _ hp⟩
  · cases h
def TTV_47 : Tab := TTV_46.addG 26 F_impl_CornersAfter
theorem TTV_47_ok : TTV_47.Ok Try.prog := TTV_46_ok.addG ok_impl_CornersAfter
theorem eq_spec_l1Least (a : Int) (b : Int) (K : V → Prop) : VC_spec_l1Least a b K = vbody Try.prog (vin Try.prog TTV_47 annTTV 3) TTV_47.looks (annTTV 82) 82 [.int .i64 a, .int .i64 b] [] (fun v _ => K v) := by kernel_rfl
theorem ok_spec_l1Least : OK Try.prog 82 F_spec_l1Least.spec := (vbody_ok (vin_ok TTV_47_ok annTTV 3) TTV_47_ok.looks _ _).ofF fun args m p R h hp => by
  unfold F_spec_l1Least at h
  split at h
  · injection h with h; injection h with h1 h2; subst h1; subst h2
    exact ⟨rfl, (congrArg At (eq_spec_l1Least _ _ _)).mp ⟨vc_spec_l1Least _ _ hp⟩⟩
  · cases h
def TTV_48 : Tab := TTV_47.add 82 F_spec_l1Least
theorem TTV_48_ok : TTV_48.Ok Try.prog := TTV_47_ok.add ok_spec_l1Least
theorem eq_spec_l1Most (a : Int) (b : Int) (K : V → Prop) : VC_spec_l1Most a b K = vbody Try.prog (vin Try.prog TTV_48 annTTV 3) TTV_48.looks (annTTV 83) 83 [.int .i64 a, .int .i64 b] [] (fun v _ => K v) := by kernel_rfl
theorem ok_spec_l1Most : OK Try.prog 83 F_spec_l1Most.spec := (vbody_ok (vin_ok TTV_48_ok annTTV 3) TTV_48_ok.looks _ _).ofF fun args m p R h hp => by
  unfold F_spec_l1Most at h
  split at h
  · injection h with h; injection h with h1 h2; subst h1; subst h2
    exact ⟨rfl, (congrArg At (eq_spec_l1Most _ _ _)).mp ⟨vc_spec_l1Most _ _ hp⟩⟩
  · cases h
def TTV_49 : Tab := TTV_48.add 83 F_spec_l1Most
theorem TTV_49_ok : TTV_49.Ok Try.prog := TTV_48_ok.add ok_spec_l1Most
theorem eq_spec_tuBox  (n : Nat) (l : List (List Int)) (K : V → List Blk → Prop) : VC_spec_tuBox  n l K = vbody Try.prog (vin Try.prog TTV_49 annTTV 3) TTV_49.looks (annTTV 61) 61 [.row 0 n] [⟨.mat .i64 3 (l), 34, .mat⟩] (K) := by kernel_rfl
theorem ok_spec_tuBox : OK Try.prog 61 F_spec_tuBox.spec := (vbody_ok (vin_ok TTV_49_ok annTTV 3) TTV_49_ok.looks _ _).ofG fun args m p R M h hp => by
  unfold F_spec_tuBox at h
  split at h
  · injection h with h; injection h with h1 h2; injection h2 with h2 h3; subst h1; subst h2; subst h3
    exact (congrArg At (eq_spec_tuBox _ _ _)).mp ⟨vc_spec_tuBox _ _ hp⟩
  · cases h
def TTV_50 : Tab := TTV_49.addG 61 F_spec_tuBox
theorem TTV_50_ok : TTV_50.Ok Try.prog := TTV_49_ok.addG ok_spec_tuBox
theorem eq_impl_boxOf  (n : Nat) (f : List Int) (K : V → List Blk → Prop) : VC_impl_boxOf  n f K = vbody Try.prog (vin Try.prog TTV_50 annTTV 3) TTV_50.looks (annTTV 62) 62 [.row 0 n] [⟨.ints .i64 (f), 65, .rows 2⟩] (K) := by kernel_rfl
theorem ok_impl_boxOf : OK Try.prog 62 F_impl_boxOf.spec := (vbody_ok (vin_ok TTV_50_ok annTTV 3) TTV_50_ok.looks _ _).ofG fun args m p R M h hp => by
  unfold F_impl_boxOf at h
  split at h
  · injection h with h; injection h with h1 h2; injection h2 with h2 h3; subst h1; subst h2; subst h3
    exact (congrArg At (eq_impl_boxOf _ _ _)).mp ⟨vc_impl_boxOf _ _ hp⟩
  · cases h
def TTV_51 : Tab := TTV_50.addG 62 F_impl_boxOf
theorem TTV_51_ok : TTV_51.Ok Try.prog := TTV_50_ok.addG ok_impl_boxOf
theorem eq_spec_BoxAfter (s : List UInt8) (k : Int) (K : V → List Blk → Prop) : VC_spec_BoxAfter s k K = vbody Try.prog (vin Try.prog TTV_51 annTTV 3) TTV_51.looks (annTTV 30) 30 [.str s, .int .i64 k] [] (K) := by kernel_rfl
theorem ok_spec_BoxAfter : OK Try.prog 30 F_spec_BoxAfter.spec := (vbody_ok (vin_ok TTV_51_ok annTTV 3) TTV_51_ok.looks _ _).ofG fun args m p R M h hp => by
  unfold F_spec_BoxAfter at h
  split at h
  · injection h with h; injection h with h1 h2; injection h2 with h2 h3; subst h1; subst h2; subst h3
    exact (congrArg At (eq_spec_BoxAfter _ _ _)).mp ⟨vc_spec_BoxAfter _ _ hp⟩
  · cases h
def TTV_52 : Tab := TTV_51.addG 30 F_spec_BoxAfter
theorem TTV_52_ok : TTV_52.Ok Try.prog := TTV_51_ok.addG ok_spec_BoxAfter
theorem eq_impl_BoxAfter (s : List UInt8) (k : Int) (K : V → List Blk → Prop) : VC_impl_BoxAfter s k K = vbody Try.prog (vin Try.prog TTV_52 annTTV 3) TTV_52.looks (annTTV 31) 31 [.str s, .int .i64 k] [] (K) := by kernel_rfl
theorem ok_impl_BoxAfter : OK Try.prog 31 F_impl_BoxAfter.spec := (vbody_ok (vin_ok TTV_52_ok annTTV 3) TTV_52_ok.looks _ _).ofG fun args m p R M h hp => by
  unfold F_impl_BoxAfter at h
  split at h
  · injection h with h; injection h with h1 h2; injection h2 with h2 h3; subst h1; subst h2; subst h3
    exact (congrArg At (eq_impl_BoxAfter _ _ _)).mp ⟨vc_impl_BoxAfter _ _ hp⟩
  · cases h
def TTV_53 : Tab := TTV_52.addG 31 F_impl_BoxAfter
theorem TTV_53_ok : TTV_53.Ok Try.prog := TTV_52_ok.addG ok_impl_BoxAfter
theorem eq_spec_TwiceArea (s : List UInt8) (K : V → Prop) : VC_spec_TwiceArea s K = vbody Try.prog (vin Try.prog TTV_53 annTTV 3) TTV_53.looks (annTTV 35) 35 [.str s] [] (fun v _ => K v) := by kernel_rfl
theorem ok_spec_TwiceArea : OK Try.prog 35 F_spec_TwiceArea.spec := (vbody_ok (vin_ok TTV_53_ok annTTV 3) TTV_53_ok.looks _ _).ofF fun args m p R h hp => by
  unfold F_spec_TwiceArea at h
  split at h
  · injection h with h; injection h with h1 h2; subst h1; subst h2
    exact ⟨rfl, (congrArg At (eq_spec_TwiceArea _ _)).mp ⟨vc_spec_TwiceArea _ hp⟩⟩
  · cases h
def TTV_54 : Tab := TTV_53.add 35 F_spec_TwiceArea
theorem TTV_54_ok : TTV_54.Ok Try.prog := TTV_53_ok.add ok_spec_TwiceArea
theorem eq_impl_TwiceArea (s : List UInt8) (K : V → Prop) : VC_impl_TwiceArea s K = vbody Try.prog (vin Try.prog TTV_54 annTTV 3) TTV_54.looks (annTTV 36) 36 [.str s] [] (fun v _ => K v) := by kernel_rfl
theorem ok_impl_TwiceArea : OK Try.prog 36 F_impl_TwiceArea.spec := (vbody_ok (vin_ok TTV_54_ok annTTV 3) TTV_54_ok.looks _ _).ofF fun args m p R h hp => by
  unfold F_impl_TwiceArea at h
  split at h
  · injection h with h; injection h with h1 h2; subst h1; subst h2
    exact ⟨rfl, (congrArg At (eq_impl_TwiceArea _ _)).mp ⟨vc_impl_TwiceArea _ hp⟩⟩
  · cases h
def TTV_55 : Tab := TTV_54.add 36 F_impl_TwiceArea
theorem TTV_55_ok : TTV_55.Ok Try.prog := TTV_54_ok.add ok_impl_TwiceArea
theorem ok_strings_Contains : OK Try.prog 63 F_strings_Contains.spec := Go.Proofs.Try.libContains
def TTV_56 : Tab := TTV_55.add 63 F_strings_Contains
theorem TTV_56_ok : TTV_56.Ok Try.prog := TTV_55_ok.add ok_strings_Contains
theorem eq_spec_WindingOf (s : List UInt8) (K : V → Prop) : VC_spec_WindingOf s K = vbody Try.prog (vin Try.prog TTV_56 annTTV 3) TTV_56.looks (annTTV 37) 37 [.str s] [] (fun v _ => K v) := by kernel_rfl
theorem ok_spec_WindingOf : OK Try.prog 37 F_spec_WindingOf.spec := (vbody_ok (vin_ok TTV_56_ok annTTV 3) TTV_56_ok.looks _ _).ofF fun args m p R h hp => by
  unfold F_spec_WindingOf at h
  split at h
  · injection h with h; injection h with h1 h2; subst h1; subst h2
    exact ⟨rfl, (congrArg At (eq_spec_WindingOf _ _)).mp ⟨vc_spec_WindingOf _ hp⟩⟩
  · cases h
def TTV_57 : Tab := TTV_56.add 37 F_spec_WindingOf
theorem TTV_57_ok : TTV_57.Ok Try.prog := TTV_56_ok.add ok_spec_WindingOf
theorem eq_impl_WindingOf (s : List UInt8) (K : V → Prop) : VC_impl_WindingOf s K = vbody Try.prog (vin Try.prog TTV_57 annTTV 3) TTV_57.looks (annTTV 38) 38 [.str s] [] (fun v _ => K v) := by kernel_rfl
theorem ok_impl_WindingOf : OK Try.prog 38 F_impl_WindingOf.spec := (vbody_ok (vin_ok TTV_57_ok annTTV 3) TTV_57_ok.looks _ _).ofF fun args m p R h hp => by
  unfold F_impl_WindingOf at h
  split at h
  · injection h with h; injection h with h1 h2; subst h1; subst h2
    exact ⟨rfl, (congrArg At (eq_impl_WindingOf _ _)).mp ⟨vc_impl_WindingOf _ hp⟩⟩
  · cases h
def TTV_58 : Tab := TTV_57.add 38 F_impl_WindingOf
theorem TTV_58_ok : TTV_58.Ok Try.prog := TTV_57_ok.add ok_impl_WindingOf
def TTV : Tab := TTV_58
theorem TTV_ok : TTV.Ok Try.prog := TTV_58_ok
end Go.Proofs.Ytllocclgllappaa
