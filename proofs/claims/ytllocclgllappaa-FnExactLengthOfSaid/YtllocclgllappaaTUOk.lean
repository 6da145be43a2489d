/- The contracts of this chapter. -/
import Derived.Test.YtllocclgllappaaProg
import Derived.Test.YtllocclgllappaaTUPf
import Derived.KernelRfl
namespace Go.Proofs.Ytllocclgllappaa
open Go Go.Vi
set_option linter.unusedVariables false
def annTTU : FuncId → Nat → St → Option Ann := fun f => if f = 72 then ann_spec_woRule else if f = 45 then ann_spec_tuGood else if f = 46 then ann_impl_partsOf else if f = 54 then ann_spec_tuQuarters else if f = 22 then ann_impl_QuartersOf else if f = 56 then ann_spec_tuLength else if f = 57 then ann_impl_stepsOf else if f = 53 then ann_impl_part else if f = 48 then ann_spec_tuAfter else if f = 78 then ann_impl_newTurtle_1 else if f = 51 then ann_spec_tuCloses else if f = 52 then ann_impl_haltsOf else if f = 20 then ann_impl_ClosesAfter else (fun _ _ => none)
def TTU_0 : Tab := Tab.none
theorem TTU_0_ok : TTU_0.Ok Try.prog := Tab.none_ok
theorem eq_spec_l1In (n : Int) (lo : Int) (hi : Int) (K : V → Prop) : VC_spec_l1In n lo hi K = vbody Try.prog (vin Try.prog TTU_0 annTTU 3) TTU_0.looks (annTTU 71) 71 [.int .i64 n, .int .i64 lo, .int .i64 hi] [] (fun v _ => K v) := by kernel_rfl
theorem ok_spec_l1In : OK Try.prog 71 F_spec_l1In.spec := (vbody_ok (vin_ok TTU_0_ok annTTU 3) TTU_0_ok.looks _ _).ofF fun args m p R h hp => by
  unfold F_spec_l1In at h
  split at h
  · injection h with h; injection h with h1 h2; subst h1; subst h2
    exact ⟨rfl, (congrArg At (eq_spec_l1In _ _ _ _)).mp ⟨vc_spec_l1In _ _ _ hp⟩⟩
  · cases h
def TTU_1 : Tab := TTU_0.add 71 F_spec_l1In
theorem TTU_1_ok : TTU_1.Ok Try.prog := TTU_0_ok.add ok_spec_l1In
theorem eq_impl_within (n : Int) (lo : Int) (hi : Int) (K : V → Prop) : VC_impl_within n lo hi K = vbody Try.prog (vin Try.prog TTU_1 annTTU 3) TTU_1.looks (annTTU 73) 73 [.int .i64 n, .int .i64 lo, .int .i64 hi] [] (fun v _ => K v) := by kernel_rfl
theorem ok_impl_within : OK Try.prog 73 F_impl_within.spec := (vbody_ok (vin_ok TTU_1_ok annTTU 3) TTU_1_ok.looks _ _).ofF fun args m p R h hp => by
  unfold F_impl_within at h
  split at h
  · injection h with h; injection h with h1 h2; subst h1; subst h2
    exact ⟨rfl, (congrArg At (eq_impl_within _ _ _ _)).mp ⟨vc_impl_within _ _ _ hp⟩⟩
  · cases h
def TTU_2 : Tab := TTU_1.add 73 F_impl_within
theorem TTU_2_ok : TTU_2.Ok Try.prog := TTU_1_ok.add ok_impl_within
theorem eq_impl_digit (b : Int) (K : V → Prop) : VC_impl_digit b K = vbody Try.prog (vin Try.prog TTU_2 annTTU 3) TTU_2.looks (annTTU 74) 74 [.int .u8 b] [] (fun v _ => K v) := by kernel_rfl
theorem ok_impl_digit : OK Try.prog 74 F_impl_digit.spec := (vbody_ok (vin_ok TTU_2_ok annTTU 3) TTU_2_ok.looks _ _).ofF fun args m p R h hp => by
  unfold F_impl_digit at h
  split at h
  · injection h with h; injection h with h1 h2; subst h1; subst h2
    exact ⟨rfl, (congrArg At (eq_impl_digit _ _)).mp ⟨vc_impl_digit _ hp⟩⟩
  · cases h
def TTU_3 : Tab := TTU_2.add 74 F_impl_digit
theorem TTU_3_ok : TTU_3.Ok Try.prog := TTU_2_ok.add ok_impl_digit
theorem eq_impl_isSign (b : Int) (K : V → Prop) : VC_impl_isSign b K = vbody Try.prog (vin Try.prog TTU_3 annTTU 3) TTU_3.looks (annTTU 75) 75 [.int .u8 b] [] (fun v _ => K v) := by kernel_rfl
theorem ok_impl_isSign : OK Try.prog 75 F_impl_isSign.spec := (vbody_ok (vin_ok TTU_3_ok annTTU 3) TTU_3_ok.looks _ _).ofF fun args m p R h hp => by
  unfold F_impl_isSign at h
  split at h
  · injection h with h; injection h with h1 h2; subst h1; subst h2
    exact ⟨rfl, (congrArg At (eq_impl_isSign _ _)).mp ⟨vc_impl_isSign _ hp⟩⟩
  · cases h
def TTU_4 : Tab := TTU_3.add 75 F_impl_isSign
theorem TTU_4_ok : TTU_4.Ok Try.prog := TTU_3_ok.add ok_impl_isSign
theorem eq_spec_woRule (s : List UInt8) (K : V → Prop) : VC_spec_woRule s K = vbody Try.prog (vin Try.prog TTU_4 annTTU 3) TTU_4.looks (annTTU 72) 72 [.str s] [] (fun v _ => K v) := by kernel_rfl
theorem ok_spec_woRule : OK Try.prog 72 F_spec_woRule.spec := (vbody_ok (vin_ok TTU_4_ok annTTU 3) TTU_4_ok.looks _ _).ofF fun args m p R h hp => by
  unfold F_spec_woRule at h
  split at h
  · injection h with h; injection h with h1 h2; subst h1; subst h2
    exact ⟨rfl, (congrArg At (eq_spec_woRule _ _)).mp ⟨vc_spec_woRule _ hp⟩⟩
  · cases h
def TTU_5 : Tab := TTU_4.add 72 F_spec_woRule
theorem TTU_5_ok : TTU_5.Ok Try.prog := TTU_4_ok.add ok_spec_woRule
theorem eq_spec_tuGood (s : List UInt8) (K : V → Prop) : VC_spec_tuGood s K = vbody Try.prog (vin Try.prog TTU_5 annTTU 3) TTU_5.looks (annTTU 45) 45 [.str s] [] (fun v _ => K v) := by kernel_rfl
theorem ok_spec_tuGood : OK Try.prog 45 F_spec_tuGood.spec := (vbody_ok (vin_ok TTU_5_ok annTTU 3) TTU_5_ok.looks _ _).ofF fun args m p R h hp => by
  unfold F_spec_tuGood at h
  split at h
  · injection h with h; injection h with h1 h2; subst h1; subst h2
    exact ⟨rfl, (congrArg At (eq_spec_tuGood _ _)).mp ⟨vc_spec_tuGood _ hp⟩⟩
  · cases h
def TTU_6 : Tab := TTU_5.add 45 F_spec_tuGood
theorem TTU_6_ok : TTU_6.Ok Try.prog := TTU_5_ok.add ok_spec_tuGood
theorem eq_impl_partsOf (s : List UInt8) (K : V → List Blk → Prop) : VC_impl_partsOf s K = vbody Try.prog (vin Try.prog TTU_6 annTTU 3) TTU_6.looks (annTTU 46) 46 [.str s] [] (K) := by kernel_rfl
theorem ok_impl_partsOf : OK Try.prog 46 F_impl_partsOf.spec := (vbody_ok (vin_ok TTU_6_ok annTTU 3) TTU_6_ok.looks _ _).ofG fun args m p R M h hp => by
  unfold F_impl_partsOf at h
  split at h
  · injection h with h; injection h with h1 h2; injection h2 with h2 h3; subst h1; subst h2; subst h3
    exact (congrArg At (eq_impl_partsOf _ _)).mp ⟨vc_impl_partsOf _ hp⟩
  · cases h
def TTU_7 : Tab := TTU_6.addG 46 F_impl_partsOf
theorem TTU_7_ok : TTU_7.Ok Try.prog := TTU_6_ok.addG ok_impl_partsOf
theorem eq_spec_IsProgram (s : List UInt8) (K : V → Prop) : VC_spec_IsProgram s K = vbody Try.prog (vin Try.prog TTU_7 annTTU 3) TTU_7.looks (annTTU 15) 15 [.str s] [] (fun v _ => K v) := by kernel_rfl
theorem ok_spec_IsProgram : OK Try.prog 15 F_spec_IsProgram.spec := (vbody_ok (vin_ok TTU_7_ok annTTU 3) TTU_7_ok.looks _ _).ofF fun args m p R h hp => by
  unfold F_spec_IsProgram at h
  split at h
  · injection h with h; injection h with h1 h2; subst h1; subst h2
    exact ⟨rfl, (congrArg At (eq_spec_IsProgram _ _)).mp ⟨vc_spec_IsProgram _ hp⟩⟩
  · cases h
def TTU_8 : Tab := TTU_7.add 15 F_spec_IsProgram
theorem TTU_8_ok : TTU_8.Ok Try.prog := TTU_7_ok.add ok_spec_IsProgram
theorem eq_impl_IsProgram (s : List UInt8) (K : V → Prop) : VC_impl_IsProgram s K = vbody Try.prog (vin Try.prog TTU_8 annTTU 3) TTU_8.looks (annTTU 16) 16 [.str s] [] (fun v _ => K v) := by kernel_rfl
theorem ok_impl_IsProgram : OK Try.prog 16 F_impl_IsProgram.spec := (vbody_ok (vin_ok TTU_8_ok annTTU 3) TTU_8_ok.looks _ _).ofF fun args m p R h hp => by
  unfold F_impl_IsProgram at h
  split at h
  · injection h with h; injection h with h1 h2; subst h1; subst h2
    exact ⟨rfl, (congrArg At (eq_impl_IsProgram _ _)).mp ⟨vc_impl_IsProgram _ hp⟩⟩
  · cases h
def TTU_9 : Tab := TTU_8.add 16 F_impl_IsProgram
theorem TTU_9_ok : TTU_9.Ok Try.prog := TTU_8_ok.add ok_impl_IsProgram
theorem eq_impl_quarters (b : Int) (K : V → Prop) : VC_impl_quarters b K = vbody Try.prog (vin Try.prog TTU_9 annTTU 3) TTU_9.looks (annTTU 55) 55 [.int .u8 b] [] (fun v _ => K v) := by kernel_rfl
theorem ok_impl_quarters : OK Try.prog 55 F_impl_quarters.spec := (vbody_ok (vin_ok TTU_9_ok annTTU 3) TTU_9_ok.looks _ _).ofF fun args m p R h hp => by
  unfold F_impl_quarters at h
  split at h
  · injection h with h; injection h with h1 h2; subst h1; subst h2
    exact ⟨rfl, (congrArg At (eq_impl_quarters _ _)).mp ⟨vc_impl_quarters _ hp⟩⟩
  · cases h
def TTU_10 : Tab := TTU_9.add 55 F_impl_quarters
theorem TTU_10_ok : TTU_10.Ok Try.prog := TTU_9_ok.add ok_impl_quarters
theorem eq_spec_woTurn (b : Int) (K : V → Prop) : VC_spec_woTurn b K = vbody Try.prog (vin Try.prog TTU_10 annTTU 3) TTU_10.looks (annTTU 86) 86 [.int .u8 b] [] (fun v _ => K v) := by kernel_rfl
theorem ok_spec_woTurn : OK Try.prog 86 F_spec_woTurn.spec := (vbody_ok (vin_ok TTU_10_ok annTTU 3) TTU_10_ok.looks _ _).ofF fun args m p R h hp => by
  unfold F_spec_woTurn at h
  split at h
  · injection h with h; injection h with h1 h2; subst h1; subst h2
    exact ⟨rfl, (congrArg At (eq_spec_woTurn _ _)).mp ⟨vc_spec_woTurn _ hp⟩⟩
  · cases h
def TTU_11 : Tab := TTU_10.add 86 F_spec_woTurn
theorem TTU_11_ok : TTU_11.Ok Try.prog := TTU_10_ok.add ok_spec_woTurn
theorem eq_impl_direction (w : Int) (K : V → Prop) : VC_impl_direction w K = vbody Try.prog (vin Try.prog TTU_11 annTTU 3) TTU_11.looks (annTTU 79) 79 [.int .i64 w] [] (fun v _ => K v) := by kernel_rfl
theorem ok_impl_direction : OK Try.prog 79 F_impl_direction.spec := (vbody_ok (vin_ok TTU_11_ok annTTU 3) TTU_11_ok.looks _ _).ofF fun args m p R h hp => by
  unfold F_impl_direction at h
  split at h
  · injection h with h; injection h with h1 h2; subst h1; subst h2
    exact ⟨rfl, (congrArg At (eq_impl_direction _ _)).mp ⟨vc_impl_direction _ hp⟩⟩
  · cases h
def TTU_12 : Tab := TTU_11.add 79 F_impl_direction
theorem TTU_12_ok : TTU_12.Ok Try.prog := TTU_11_ok.add ok_impl_direction
theorem eq_spec_tuQuarters (s : List UInt8) (K : V → Prop) : VC_spec_tuQuarters s K = vbody Try.prog (vin Try.prog TTU_12 annTTU 3) TTU_12.looks (annTTU 54) 54 [.str s] [] (fun v _ => K v) := by kernel_rfl
theorem ok_spec_tuQuarters : OK Try.prog 54 F_spec_tuQuarters.spec := (vbody_ok (vin_ok TTU_12_ok annTTU 3) TTU_12_ok.looks _ _).ofF fun args m p R h hp => by
  unfold F_spec_tuQuarters at h
  split at h
  · injection h with h; injection h with h1 h2; subst h1; subst h2
    exact ⟨rfl, (congrArg At (eq_spec_tuQuarters _ _)).mp ⟨vc_spec_tuQuarters _ hp⟩⟩
  · cases h
def TTU_13 : Tab := TTU_12.add 54 F_spec_tuQuarters
theorem TTU_13_ok : TTU_13.Ok Try.prog := TTU_12_ok.add ok_spec_tuQuarters
theorem eq_spec_QuartersOf (s : List UInt8) (K : V → Prop) : VC_spec_QuartersOf s K = vbody Try.prog (vin Try.prog TTU_13 annTTU 3) TTU_13.looks (annTTU 21) 21 [.str s] [] (fun v _ => K v) := by kernel_rfl
theorem ok_spec_QuartersOf : OK Try.prog 21 F_spec_QuartersOf.spec := (vbody_ok (vin_ok TTU_13_ok annTTU 3) TTU_13_ok.looks _ _).ofF fun args m p R h hp => by
  unfold F_spec_QuartersOf at h
  split at h
  · injection h with h; injection h with h1 h2; subst h1; subst h2
    exact ⟨rfl, (congrArg At (eq_spec_QuartersOf _ _)).mp ⟨vc_spec_QuartersOf _ hp⟩⟩
  · cases h
def TTU_14 : Tab := TTU_13.add 21 F_spec_QuartersOf
theorem TTU_14_ok : TTU_14.Ok Try.prog := TTU_13_ok.add ok_spec_QuartersOf
theorem eq_impl_QuartersOf (s : List UInt8) (K : V → Prop) : VC_impl_QuartersOf s K = vbody Try.prog (vin Try.prog TTU_14 annTTU 3) TTU_14.looks (annTTU 22) 22 [.str s] [] (fun v _ => K v) := by kernel_rfl
theorem ok_impl_QuartersOf : OK Try.prog 22 F_impl_QuartersOf.spec := (vbody_ok (vin_ok TTU_14_ok annTTU 3) TTU_14_ok.looks _ _).ofF fun args m p R h hp => by
  unfold F_impl_QuartersOf at h
  split at h
  · injection h with h; injection h with h1 h2; subst h1; subst h2
    exact ⟨rfl, (congrArg At (eq_impl_QuartersOf _ _)).mp ⟨vc_impl_QuartersOf _ hp⟩⟩
  · cases h
def TTU_15 : Tab := TTU_14.add 22 F_impl_QuartersOf
theorem TTU_15_ok : TTU_15.Ok Try.prog := TTU_14_ok.add ok_impl_QuartersOf
theorem eq_spec_tuLength (s : List UInt8) (K : V → Prop) : VC_spec_tuLength s K = vbody Try.prog (vin Try.prog TTU_15 annTTU 3) TTU_15.looks (annTTU 56) 56 [.str s] [] (fun v _ => K v) := by kernel_rfl
theorem ok_spec_tuLength : OK Try.prog 56 F_spec_tuLength.spec := (vbody_ok (vin_ok TTU_15_ok annTTU 3) TTU_15_ok.looks _ _).ofF fun args m p R h hp => by
  unfold F_spec_tuLength at h
  split at h
  · injection h with h; injection h with h1 h2; subst h1; subst h2
    exact ⟨rfl, (congrArg At (eq_spec_tuLength _ _)).mp ⟨vc_spec_tuLength _ hp⟩⟩
  · cases h
def TTU_16 : Tab := TTU_15.add 56 F_spec_tuLength
theorem TTU_16_ok : TTU_16.Ok Try.prog := TTU_15_ok.add ok_spec_tuLength
theorem eq_impl_stepsOf  (n : Nat) (c : List Sc) (k : Kind) (K : V → List Blk → Prop) : VC_impl_stepsOf  n c k K = vbody Try.prog (vin Try.prog TTU_16 annTTU 3) TTU_16.looks (annTTU 57) 57 [.row 0 n] [⟨.recs [.int .i64, .int .u8] (c), 57, k⟩] (K) := by kernel_rfl
theorem ok_impl_stepsOf : OK Try.prog 57 F_impl_stepsOf.spec := (vbody_ok (vin_ok TTU_16_ok annTTU 3) TTU_16_ok.looks _ _).ofFM fun args m p R h hp => by
  unfold F_impl_stepsOf at h
  split at h
  · injection h with h; injection h with h1 h2; subst h1; subst h2
    exact (congrArg At (eq_impl_stepsOf _ _ _ _)).mp ⟨vc_impl_stepsOf _ _ _ hp⟩
  · cases h
def TTU_17 : Tab := TTU_16.add 57 F_impl_stepsOf
theorem TTU_17_ok : TTU_17.Ok Try.prog := TTU_16_ok.add ok_impl_stepsOf
theorem eq_spec_tuAsked (s : List UInt8) (k : Int) (K : V → Prop) : VC_spec_tuAsked s k K = vbody Try.prog (vin Try.prog TTU_17 annTTU 3) TTU_17.looks (annTTU 47) 47 [.str s, .int .i64 k] [] (fun v _ => K v) := by kernel_rfl
theorem ok_spec_tuAsked : OK Try.prog 47 F_spec_tuAsked.spec := (vbody_ok (vin_ok TTU_17_ok annTTU 3) TTU_17_ok.looks _ _).ofF fun args m p R h hp => by
  unfold F_spec_tuAsked at h
  split at h
  · injection h with h; injection h with h1 h2; subst h1; subst h2
    exact ⟨rfl, (congrArg At (eq_spec_tuAsked _ _ _)).mp ⟨vc_spec_tuAsked _ _ hp⟩⟩
  · cases h
def TTU_18 : Tab := TTU_17.add 47 F_spec_tuAsked
theorem TTU_18_ok : TTU_18.Ok Try.prog := TTU_17_ok.add ok_spec_tuAsked
theorem eq_bits_Mul64 (x : Int) (y : Int) (K : V → Prop) : VC_bits_Mul64 x y K = vbody Try.prog (vin Try.prog TTU_18 annTTU 3) TTU_18.looks (annTTU 88) 88 [.int .u64 x, .int .u64 y] [] (fun v _ => K v) := by kernel_rfl
theorem ok_bits_Mul64 : OK Try.prog 88 F_bits_Mul64.spec := (vbody_ok (vin_ok TTU_18_ok annTTU 3) TTU_18_ok.looks _ _).ofF fun args m p R h hp => by
  unfold F_bits_Mul64 at h
  split at h
  · injection h with h; injection h with h1 h2; subst h1; subst h2
    exact ⟨rfl, (congrArg At (eq_bits_Mul64 _ _ _)).mp ⟨vc_bits_Mul64 _ _ hp⟩⟩
  · cases h
def TTU_19 : Tab := TTU_18.add 88 F_bits_Mul64
theorem TTU_19_ok : TTU_19.Ok Try.prog := TTU_18_ok.add ok_bits_Mul64
theorem eq_bits_Mul (x : Int) (y : Int) (K : V → Prop) : VC_bits_Mul x y K = vbody Try.prog (vin Try.prog TTU_19 annTTU 3) TTU_19.looks (annTTU 80) 80 [.int .u64 x, .int .u64 y] [] (fun v _ => K v) := by kernel_rfl
theorem ok_bits_Mul : OK Try.prog 80 F_bits_Mul.spec := (vbody_ok (vin_ok TTU_19_ok annTTU 3) TTU_19_ok.looks _ _).ofF fun args m p R h hp => by
  unfold F_bits_Mul at h
  split at h
  · injection h with h; injection h with h1 h2; subst h1; subst h2
    exact ⟨rfl, (congrArg At (eq_bits_Mul _ _ _)).mp ⟨vc_bits_Mul _ _ hp⟩⟩
  · cases h
def TTU_20 : Tab := TTU_19.add 80 F_bits_Mul
theorem TTU_20_ok : TTU_20.Ok Try.prog := TTU_19_ok.add ok_bits_Mul
theorem eq_impl_part (k : Int) (n : Nat) (c : List Sc) (K : V → List Blk → Prop) : VC_impl_part k n c K = vbody Try.prog (vin Try.prog TTU_20 annTTU 3) TTU_20.looks (annTTU 53) 53 [.row 0 n, .int .i64 k] [⟨.recs [.int .i64, .int .u8] (c), 57, .rows 2⟩] (K) := by kernel_rfl
theorem ok_impl_part : OK Try.prog 53 F_impl_part.spec := (vbody_ok (vin_ok TTU_20_ok annTTU 3) TTU_20_ok.looks _ _).ofG fun args m p R M h hp => by
  unfold F_impl_part at h
  split at h
  · injection h with h; injection h with h1 h2; injection h2 with h2 h3; subst h1; subst h2; subst h3
    exact (congrArg At (eq_impl_part _ _ _ _)).mp ⟨vc_impl_part _ _ _ hp⟩
  · cases h
def TTU_21 : Tab := TTU_20.addG 53 F_impl_part
theorem TTU_21_ok : TTU_21.Ok Try.prog := TTU_20_ok.addG ok_impl_part
theorem eq_impl_repeated (s : List UInt8) (k : Int) (K : V → List Blk → Prop) : VC_impl_repeated s k K = vbody Try.prog (vin Try.prog TTU_21 annTTU 3) TTU_21.looks (annTTU 49) 49 [.str s, .int .i64 k] [] (K) := by kernel_rfl
theorem ok_impl_repeated : OK Try.prog 49 F_impl_repeated.spec := (vbody_ok (vin_ok TTU_21_ok annTTU 3) TTU_21_ok.looks _ _).ofG fun args m p R M h hp => by
  unfold F_impl_repeated at h
  split at h
  · injection h with h; injection h with h1 h2; injection h2 with h2 h3; subst h1; subst h2; subst h3
    exact (congrArg At (eq_impl_repeated _ _ _)).mp ⟨vc_impl_repeated _ _ hp⟩
  · cases h
def TTU_22 : Tab := TTU_21.addG 49 F_impl_repeated
theorem TTU_22_ok : TTU_22.Ok Try.prog := TTU_21_ok.addG ok_impl_repeated
theorem eq_spec_LengthOf (s : List UInt8) (k : Int) (K : V → Prop) : VC_spec_LengthOf s k K = vbody Try.prog (vin Try.prog TTU_22 annTTU 3) TTU_22.looks (annTTU 23) 23 [.str s, .int .i64 k] [] (fun v _ => K v) := by kernel_rfl
theorem ok_spec_LengthOf : OK Try.prog 23 F_spec_LengthOf.spec := (vbody_ok (vin_ok TTU_22_ok annTTU 3) TTU_22_ok.looks _ _).ofF fun args m p R h hp => by
  unfold F_spec_LengthOf at h
  split at h
  · injection h with h; injection h with h1 h2; subst h1; subst h2
    exact ⟨rfl, (congrArg At (eq_spec_LengthOf _ _ _)).mp ⟨vc_spec_LengthOf _ _ hp⟩⟩
  · cases h
def TTU_23 : Tab := TTU_22.add 23 F_spec_LengthOf
theorem TTU_23_ok : TTU_23.Ok Try.prog := TTU_22_ok.add ok_spec_LengthOf
theorem eq_impl_LengthOf (s : List UInt8) (k : Int) (K : V → Prop) : VC_impl_LengthOf s k K = vbody Try.prog (vin Try.prog TTU_23 annTTU 3) TTU_23.looks (annTTU 24) 24 [.str s, .int .i64 k] [] (fun v _ => K v) := by kernel_rfl
theorem ok_impl_LengthOf : OK Try.prog 24 F_impl_LengthOf.spec := (vbody_ok (vin_ok TTU_23_ok annTTU 3) TTU_23_ok.looks _ _).ofF fun args m p R h hp => by
  unfold F_impl_LengthOf at h
  split at h
  · injection h with h; injection h with h1 h2; subst h1; subst h2
    exact ⟨rfl, (congrArg At (eq_impl_LengthOf _ _ _)).mp ⟨vc_impl_LengthOf _ _ hp⟩⟩
  · cases h
def TTU_24 : Tab := TTU_23.add 24 F_impl_LengthOf
theorem TTU_24_ok : TTU_24.Ok Try.prog := TTU_23_ok.add ok_impl_LengthOf
theorem eq_spec_tuTurtle_tuGo (a : Int) (x : Int) (y : Int) (w : Int) (K : V → List Blk → Prop) : VC_spec_tuTurtle_tuGo a x y w K = vbody Try.prog (vin Try.prog TTU_24 annTTU 3) TTU_24.looks (annTTU 85) 85 [.ptr 0 0, .int .i64 a] [⟨.vals [.int .i64 x, .int .i64 y, .int .i64 w], 45, .box⟩] (K) := by kernel_rfl
theorem ok_spec_tuTurtle_tuGo : OK Try.prog 85 F_spec_tuTurtle_tuGo.spec := (vbody_ok (vin_ok TTU_24_ok annTTU 3) TTU_24_ok.looks _ _).ofG fun args m p R M h hp => by
  unfold F_spec_tuTurtle_tuGo at h
  split at h
  · injection h with h; injection h with h1 h2; injection h2 with h2 h3; subst h1; subst h2; subst h3
    exact (congrArg At (eq_spec_tuTurtle_tuGo _ _ _ _ _)).mp ⟨vc_spec_tuTurtle_tuGo _ _ _ _ hp⟩
  · cases h
def TTU_25 : Tab := TTU_24.addG 85 F_spec_tuTurtle_tuGo
theorem TTU_25_ok : TTU_25.Ok Try.prog := TTU_24_ok.addG ok_spec_tuTurtle_tuGo
theorem eq_spec_tuTurtle_tuPart (s : List UInt8) (i : Int) (x : Int) (y : Int) (w : Int) (K : V → List Blk → Prop) : VC_spec_tuTurtle_tuPart s i x y w K = vbody Try.prog (vin Try.prog TTU_25 annTTU 3) TTU_25.looks (annTTU 76) 76 [.ptr 0 0, .str s, .int .i64 i] [⟨.vals [.int .i64 x, .int .i64 y, .int .i64 w], 45, .box⟩] (K) := by kernel_rfl
theorem ok_spec_tuTurtle_tuPart : OK Try.prog 76 F_spec_tuTurtle_tuPart.spec := (vbody_ok (vin_ok TTU_25_ok annTTU 3) TTU_25_ok.looks _ _).ofG fun args m p R M h hp => by
  unfold F_spec_tuTurtle_tuPart at h
  split at h
  · injection h with h; injection h with h1 h2; injection h2 with h2 h3; subst h1; subst h2; subst h3
    exact (congrArg At (eq_spec_tuTurtle_tuPart _ _ _ _ _ _)).mp ⟨vc_spec_tuTurtle_tuPart _ _ _ _ _ hp⟩
  · cases h
def TTU_26 : Tab := TTU_25.addG 76 F_spec_tuTurtle_tuPart
theorem TTU_26_ok : TTU_26.Ok Try.prog := TTU_25_ok.addG ok_spec_tuTurtle_tuPart
theorem eq_spec_tuTurtle_tuSign (s : List UInt8) (i : Int) (x : Int) (y : Int) (w : Int) (K : V → List Blk → Prop) : VC_spec_tuTurtle_tuSign s i x y w K = vbody Try.prog (vin Try.prog TTU_26 annTTU 3) TTU_26.looks (annTTU 77) 77 [.ptr 0 0, .str s, .int .i64 i] [⟨.vals [.int .i64 x, .int .i64 y, .int .i64 w], 45, .box⟩] (K) := by kernel_rfl
theorem ok_spec_tuTurtle_tuSign : OK Try.prog 77 F_spec_tuTurtle_tuSign.spec := (vbody_ok (vin_ok TTU_26_ok annTTU 3) TTU_26_ok.looks _ _).ofG fun args m p R M h hp => by
  unfold F_spec_tuTurtle_tuSign at h
  split at h
  · injection h with h; injection h with h1 h2; injection h2 with h2 h3; subst h1; subst h2; subst h3
    exact (congrArg At (eq_spec_tuTurtle_tuSign _ _ _ _ _ _)).mp ⟨vc_spec_tuTurtle_tuSign _ _ _ _ _ hp⟩
  · cases h
def TTU_27 : Tab := TTU_26.addG 77 F_spec_tuTurtle_tuSign
theorem TTU_27_ok : TTU_27.Ok Try.prog := TTU_26_ok.addG ok_spec_tuTurtle_tuSign
theorem eq_spec_tuAfter (s : List UInt8) (k : Int) (K : V → Prop) : VC_spec_tuAfter s k K = vbody Try.prog (vin Try.prog TTU_27 annTTU 3) TTU_27.looks (annTTU 48) 48 [.str s, .int .i64 k] [] (fun v _ => K v) := by kernel_rfl
theorem ok_spec_tuAfter : OK Try.prog 48 F_spec_tuAfter.spec := (vbody_ok (vin_ok TTU_27_ok annTTU 3) TTU_27_ok.looks _ _).ofF fun args m p R h hp => by
  unfold F_spec_tuAfter at h
  split at h
  · injection h with h; injection h with h1 h2; subst h1; subst h2
    exact ⟨rfl, (congrArg At (eq_spec_tuAfter _ _ _)).mp ⟨vc_spec_tuAfter _ _ hp⟩⟩
  · cases h
def TTU_28 : Tab := TTU_27.add 48 F_spec_tuAfter
theorem TTU_28_ok : TTU_28.Ok Try.prog := TTU_27_ok.add ok_spec_tuAfter
theorem eq_impl_newTurtle_1  (n : Nat) (c : List Sc) (x : Int) (y : Int) (w : Int) (K : V → List Blk → Prop) : VC_impl_newTurtle_1  n c x y w K = vbody Try.prog (vin Try.prog TTU_28 annTTU 3) TTU_28.looks (annTTU 78) 78 [.row 0 n, .ptr 1 0] [⟨.recs [.int .i64, .int .u8] (c), 57, .rows 2⟩, ⟨.vals [.int .i64 x, .int .i64 y, .int .i64 w], 51, .box⟩] (K) := by kernel_rfl
theorem eq_impl_newTurtle_1_2  (x : Int) (y : Int) (w : Int) (K : V → List Blk → Prop) : VC_impl_newTurtle_1_2  x y w K = vbody Try.prog (vin Try.prog TTU_28 annTTU 3) TTU_28.looks (annTTU 78) 78 [.raw (.slice none 0 0), .ptr 0 0] [⟨.vals [.int .i64 x, .int .i64 y, .int .i64 w], 51, .box⟩] (K) := by kernel_rfl
theorem eq_impl_newTurtle_1_3  (n : Nat) (c : List Sc) (x : Int) (y : Int) (w : Int) (K : V → List Blk → Prop) : VC_impl_newTurtle_1_3  n c x y w K = vbody Try.prog (vin Try.prog TTU_28 annTTU 3) TTU_28.looks (annTTU 78) 78 [.row 0 n, .ptr 1 0] [⟨.recs [.int .i64, .int .u8] (c), 57, .arg 2⟩, ⟨.vals [.int .i64 x, .int .i64 y, .int .i64 w], 51, .box⟩] (K) := by kernel_rfl
theorem ok_impl_newTurtle_1 : OK Try.prog 78 F_impl_newTurtle_1.spec := (vbody_ok (vin_ok TTU_28_ok annTTU 3) TTU_28_ok.looks _ _).ofG fun args m p R M h hp => by
  unfold F_impl_newTurtle_1 at h
  split at h
  · injection h with h; injection h with h1 h2; injection h2 with h2 h3; subst h1; subst h2; subst h3
    exact (congrArg At (eq_impl_newTurtle_1 _ _ _ _ _ _)).mp ⟨vc_impl_newTurtle_1 _ _ _ _ _ hp⟩
  · injection h with h; injection h with h1 h2; injection h2 with h2 h3; subst h1; subst h2; subst h3
    exact (congrArg At (eq_impl_newTurtle_1_2 _ _ _ _)).mp ⟨vc_impl_newTurtle_1_2 _ _ _ hp⟩
  · injection h with h; injection h with h1 h2; injection h2 with h2 h3; subst h1; subst h2; subst h3
    exact (congrArg At (eq_impl_newTurtle_1_3 _ _ _ _ _ _)).mp ⟨vc_impl_newTurtle_1_3 _ _ _ _ _ hp⟩
  · cases h
def TTU_29 : Tab := TTU_28.addG 78 F_impl_newTurtle_1
theorem TTU_29_ok : TTU_29.Ok Try.prog := TTU_28_ok.addG ok_impl_newTurtle_1
theorem eq_spec_PlaceAfter (s : List UInt8) (k : Int) (K : V → Prop) : VC_spec_PlaceAfter s k K = vbody Try.prog (vin Try.prog TTU_29 annTTU 3) TTU_29.looks (annTTU 17) 17 [.str s, .int .i64 k] [] (fun v _ => K v) := by kernel_rfl
theorem ok_spec_PlaceAfter : OK Try.prog 17 F_spec_PlaceAfter.spec := (vbody_ok (vin_ok TTU_29_ok annTTU 3) TTU_29_ok.looks _ _).ofF fun args m p R h hp => by
  unfold F_spec_PlaceAfter at h
  split at h
  · injection h with h; injection h with h1 h2; subst h1; subst h2
    exact ⟨rfl, (congrArg At (eq_spec_PlaceAfter _ _ _)).mp ⟨vc_spec_PlaceAfter _ _ hp⟩⟩
  · cases h
def TTU_30 : Tab := TTU_29.add 17 F_spec_PlaceAfter
theorem TTU_30_ok : TTU_30.Ok Try.prog := TTU_29_ok.add ok_spec_PlaceAfter
theorem eq_impl_PlaceAfter (s : List UInt8) (k : Int) (K : V → Prop) : VC_impl_PlaceAfter s k K = vbody Try.prog (vin Try.prog TTU_30 annTTU 3) TTU_30.looks (annTTU 18) 18 [.str s, .int .i64 k] [] (fun v _ => K v) := by kernel_rfl
theorem ok_impl_PlaceAfter : OK Try.prog 18 F_impl_PlaceAfter.spec := (vbody_ok (vin_ok TTU_30_ok annTTU 3) TTU_30_ok.looks _ _).ofF fun args m p R h hp => by
  unfold F_impl_PlaceAfter at h
  split at h
  · injection h with h; injection h with h1 h2; subst h1; subst h2
    exact ⟨rfl, (congrArg At (eq_impl_PlaceAfter _ _ _)).mp ⟨vc_impl_PlaceAfter _ _ hp⟩⟩
  · cases h
def TTU_31 : Tab := TTU_30.add 18 F_impl_PlaceAfter
theorem TTU_31_ok : TTU_31.Ok Try.prog := TTU_30_ok.add ok_impl_PlaceAfter
theorem eq_spec_tuCloses (s : List UInt8) (K : V → Prop) : VC_spec_tuCloses s K = vbody Try.prog (vin Try.prog TTU_31 annTTU 3) TTU_31.looks (annTTU 51) 51 [.str s] [] (fun v _ => K v) := by kernel_rfl
theorem ok_spec_tuCloses : OK Try.prog 51 F_spec_tuCloses.spec := (vbody_ok (vin_ok TTU_31_ok annTTU 3) TTU_31_ok.looks _ _).ofF fun args m p R h hp => by
  unfold F_spec_tuCloses at h
  split at h
  · injection h with h; injection h with h1 h2; subst h1; subst h2
    exact ⟨rfl, (congrArg At (eq_spec_tuCloses _ _)).mp ⟨vc_spec_tuCloses _ hp⟩⟩
  · cases h
def TTU_32 : Tab := TTU_31.add 51 F_spec_tuCloses
theorem TTU_32_ok : TTU_32.Ok Try.prog := TTU_31_ok.add ok_spec_tuCloses
theorem eq_impl_haltsOf (e : Int) (n : Nat) (c : List Sc) (K : V → List Blk → Prop) : VC_impl_haltsOf e n c K = vbody Try.prog (vin Try.prog TTU_32 annTTU 3) TTU_32.looks (annTTU 52) 52 [.row 0 n, .int .i64 e] [⟨.recs [.int .i64, .int .u8] (c), 57, .rows 2⟩] (K) := by kernel_rfl
theorem ok_impl_haltsOf : OK Try.prog 52 F_impl_haltsOf.spec := (vbody_ok (vin_ok TTU_32_ok annTTU 3) TTU_32_ok.looks _ _).ofG fun args m p R M h hp => by
  unfold F_impl_haltsOf at h
  split at h
  · injection h with h; injection h with h1 h2; injection h2 with h2 h3; subst h1; subst h2; subst h3
    exact (congrArg At (eq_impl_haltsOf _ _ _ _)).mp ⟨vc_impl_haltsOf _ _ _ hp⟩
  · cases h
def TTU_33 : Tab := TTU_32.addG 52 F_impl_haltsOf
theorem TTU_33_ok : TTU_33.Ok Try.prog := TTU_32_ok.addG ok_impl_haltsOf
theorem eq_spec_ClosesAfter (s : List UInt8) (K : V → Prop) : VC_spec_ClosesAfter s K = vbody Try.prog (vin Try.prog TTU_33 annTTU 3) TTU_33.looks (annTTU 19) 19 [.str s] [] (fun v _ => K v) := by kernel_rfl
theorem ok_spec_ClosesAfter : OK Try.prog 19 F_spec_ClosesAfter.spec := (vbody_ok (vin_ok TTU_33_ok annTTU 3) TTU_33_ok.looks _ _).ofF fun args m p R h hp => by
  unfold F_spec_ClosesAfter at h
  split at h
  · injection h with h; injection h with h1 h2; subst h1; subst h2
    exact ⟨rfl, (congrArg At (eq_spec_ClosesAfter _ _)).mp ⟨vc_spec_ClosesAfter _ hp⟩⟩
  · cases h
def TTU_34 : Tab := TTU_33.add 19 F_spec_ClosesAfter
theorem TTU_34_ok : TTU_34.Ok Try.prog := TTU_33_ok.add ok_spec_ClosesAfter
theorem eq_impl_ClosesAfter (s : List UInt8) (K : V → Prop) : VC_impl_ClosesAfter s K = vbody Try.prog (vin Try.prog TTU_34 annTTU 3) TTU_34.looks (annTTU 20) 20 [.str s] [] (fun v _ => K v) := by kernel_rfl
theorem ok_impl_ClosesAfter : OK Try.prog 20 F_impl_ClosesAfter.spec := (vbody_ok (vin_ok TTU_34_ok annTTU 3) TTU_34_ok.looks _ _).ofF fun args m p R h hp => by
  unfold F_impl_ClosesAfter at h
  split at h
  · injection h with h; injection h with h1 h2; subst h1; subst h2
    exact ⟨rfl, (congrArg At (eq_impl_ClosesAfter _ _)).mp ⟨vc_impl_ClosesAfter _ hp⟩⟩
  · cases h
def TTU_35 : Tab := TTU_34.add 20 F_impl_ClosesAfter
theorem TTU_35_ok : TTU_35.Ok Try.prog := TTU_34_ok.add ok_impl_ClosesAfter
def TTU : Tab := TTU_35
theorem TTU_ok : TTU.Ok Try.prog := TTU_35_ok
end Go.Proofs.Ytllocclgllappaa
