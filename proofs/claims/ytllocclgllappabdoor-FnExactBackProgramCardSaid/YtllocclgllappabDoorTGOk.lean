/- The contracts of this chapter. -/
import Derived.Test.YtllocclgllappabDoorProg
import Derived.Test.YtllocclgllappabDoorTGPf
import Derived.KernelRfl
namespace Go.Proofs.YtllocclgllappabDoor
open Go Go.Vi
set_option linter.unusedVariables false
def annTTG : FuncId → Nat → St → Option Ann := fun f => if f = 27 then ann_spec_woRule else if f = 21 then ann_spec_tuGood else if f = 23 then ann_impl_partsOf else if f = 22 then ann_spec_woOther else if f = 25 then ann_impl_exchanged else if f = 20 then ann_impl_programOf else if f = 24 then ann_impl_part else if f = 10 then ann_spec_BackProgram else if f = 12 then ann_spec_GrowProgram else if f = 13 then ann_impl_GrowProgram else (fun _ _ => none)
def TTG_0 : Tab := Tab.none
theorem TTG_0_ok : TTG_0.Ok Tryd.prog := Tab.none_ok
theorem eq_spec_l1In (n : Int) (lo : Int) (hi : Int) (K : V → Prop) : VC_spec_l1In n lo hi K = vbody Tryd.prog (vin Tryd.prog TTG_0 annTTG 3) TTG_0.looks (annTTG 14) 14 [.int .i64 n, .int .i64 lo, .int .i64 hi] [] (fun v _ => K v) := by kernel_rfl
theorem ok_spec_l1In : OK Tryd.prog 14 F_spec_l1In.spec := (vbody_ok (vin_ok TTG_0_ok annTTG 3) TTG_0_ok.looks _ _).ofF fun args m p R h hp => by
  unfold F_spec_l1In at h
  split at h
  · injection h with h; injection h with h1 h2; subst h1; subst h2
    exact ⟨rfl, (congrArg At (eq_spec_l1In _ _ _ _)).mp ⟨vc_spec_l1In _ _ _ hp⟩⟩
  · cases h
def TTG_1 : Tab := TTG_0.add 14 F_spec_l1In
theorem TTG_1_ok : TTG_1.Ok Tryd.prog := TTG_0_ok.add ok_spec_l1In
theorem eq_impl_within (n : Int) (lo : Int) (hi : Int) (K : V → Prop) : VC_impl_within n lo hi K = vbody Tryd.prog (vin Tryd.prog TTG_1 annTTG 3) TTG_1.looks (annTTG 18) 18 [.int .i64 n, .int .i64 lo, .int .i64 hi] [] (fun v _ => K v) := by kernel_rfl
theorem ok_impl_within : OK Tryd.prog 18 F_impl_within.spec := (vbody_ok (vin_ok TTG_1_ok annTTG 3) TTG_1_ok.looks _ _).ofF fun args m p R h hp => by
  unfold F_impl_within at h
  split at h
  · injection h with h; injection h with h1 h2; subst h1; subst h2
    exact ⟨rfl, (congrArg At (eq_impl_within _ _ _ _)).mp ⟨vc_impl_within _ _ _ hp⟩⟩
  · cases h
def TTG_2 : Tab := TTG_1.add 18 F_impl_within
theorem TTG_2_ok : TTG_2.Ok Tryd.prog := TTG_1_ok.add ok_impl_within
theorem eq_impl_digit (b : Int) (K : V → Prop) : VC_impl_digit b K = vbody Tryd.prog (vin Tryd.prog TTG_2 annTTG 3) TTG_2.looks (annTTG 28) 28 [.int .u8 b] [] (fun v _ => K v) := by kernel_rfl
theorem ok_impl_digit : OK Tryd.prog 28 F_impl_digit.spec := (vbody_ok (vin_ok TTG_2_ok annTTG 3) TTG_2_ok.looks _ _).ofF fun args m p R h hp => by
  unfold F_impl_digit at h
  split at h
  · injection h with h; injection h with h1 h2; subst h1; subst h2
    exact ⟨rfl, (congrArg At (eq_impl_digit _ _)).mp ⟨vc_impl_digit _ hp⟩⟩
  · cases h
def TTG_3 : Tab := TTG_2.add 28 F_impl_digit
theorem TTG_3_ok : TTG_3.Ok Tryd.prog := TTG_2_ok.add ok_impl_digit
theorem eq_impl_isSign (b : Int) (K : V → Prop) : VC_impl_isSign b K = vbody Tryd.prog (vin Tryd.prog TTG_3 annTTG 3) TTG_3.looks (annTTG 29) 29 [.int .u8 b] [] (fun v _ => K v) := by kernel_rfl
theorem ok_impl_isSign : OK Tryd.prog 29 F_impl_isSign.spec := (vbody_ok (vin_ok TTG_3_ok annTTG 3) TTG_3_ok.looks _ _).ofF fun args m p R h hp => by
  unfold F_impl_isSign at h
  split at h
  · injection h with h; injection h with h1 h2; subst h1; subst h2
    exact ⟨rfl, (congrArg At (eq_impl_isSign _ _)).mp ⟨vc_impl_isSign _ hp⟩⟩
  · cases h
def TTG_4 : Tab := TTG_3.add 29 F_impl_isSign
theorem TTG_4_ok : TTG_4.Ok Tryd.prog := TTG_3_ok.add ok_impl_isSign
theorem eq_spec_woRule (s : List UInt8) (K : V → Prop) : VC_spec_woRule s K = vbody Tryd.prog (vin Tryd.prog TTG_4 annTTG 3) TTG_4.looks (annTTG 27) 27 [.str s] [] (fun v _ => K v) := by kernel_rfl
theorem ok_spec_woRule : OK Tryd.prog 27 F_spec_woRule.spec := (vbody_ok (vin_ok TTG_4_ok annTTG 3) TTG_4_ok.looks _ _).ofF fun args m p R h hp => by
  unfold F_spec_woRule at h
  split at h
  · injection h with h; injection h with h1 h2; subst h1; subst h2
    exact ⟨rfl, (congrArg At (eq_spec_woRule _ _)).mp ⟨vc_spec_woRule _ hp⟩⟩
  · cases h
def TTG_5 : Tab := TTG_4.add 27 F_spec_woRule
theorem TTG_5_ok : TTG_5.Ok Tryd.prog := TTG_4_ok.add ok_spec_woRule
theorem eq_spec_tuGood (s : List UInt8) (K : V → Prop) : VC_spec_tuGood s K = vbody Tryd.prog (vin Tryd.prog TTG_5 annTTG 3) TTG_5.looks (annTTG 21) 21 [.str s] [] (fun v _ => K v) := by kernel_rfl
theorem ok_spec_tuGood : OK Tryd.prog 21 F_spec_tuGood.spec := (vbody_ok (vin_ok TTG_5_ok annTTG 3) TTG_5_ok.looks _ _).ofF fun args m p R h hp => by
  unfold F_spec_tuGood at h
  split at h
  · injection h with h; injection h with h1 h2; subst h1; subst h2
    exact ⟨rfl, (congrArg At (eq_spec_tuGood _ _)).mp ⟨vc_spec_tuGood _ hp⟩⟩
  · cases h
def TTG_6 : Tab := TTG_5.add 21 F_spec_tuGood
theorem TTG_6_ok : TTG_6.Ok Tryd.prog := TTG_5_ok.add ok_spec_tuGood
theorem eq_impl_partsOf (s : List UInt8) (K : V → List Blk → Prop) : VC_impl_partsOf s K = vbody Tryd.prog (vin Tryd.prog TTG_6 annTTG 3) TTG_6.looks (annTTG 23) 23 [.str s] [] (K) := by kernel_rfl
theorem ok_impl_partsOf : OK Tryd.prog 23 F_impl_partsOf.spec := (vbody_ok (vin_ok TTG_6_ok annTTG 3) TTG_6_ok.looks _ _).ofG fun args m p R M h hp => by
  unfold F_impl_partsOf at h
  split at h
  · injection h with h; injection h with h1 h2; injection h2 with h2 h3; subst h1; subst h2; subst h3
    exact (congrArg At (eq_impl_partsOf _ _)).mp ⟨vc_impl_partsOf _ hp⟩
  · cases h
def TTG_7 : Tab := TTG_6.addG 23 F_impl_partsOf
theorem TTG_7_ok : TTG_7.Ok Tryd.prog := TTG_6_ok.addG ok_impl_partsOf
theorem eq_spec_woOther (s : List UInt8) (K : V → Prop) : VC_spec_woOther s K = vbody Tryd.prog (vin Tryd.prog TTG_7 annTTG 3) TTG_7.looks (annTTG 22) 22 [.str s] [] (fun v _ => K v) := by kernel_rfl
theorem ok_spec_woOther : OK Tryd.prog 22 F_spec_woOther.spec := (vbody_ok (vin_ok TTG_7_ok annTTG 3) TTG_7_ok.looks _ _).ofF fun args m p R h hp => by
  unfold F_spec_woOther at h
  split at h
  · injection h with h; injection h with h1 h2; subst h1; subst h2
    exact ⟨rfl, (congrArg At (eq_spec_woOther _ _)).mp ⟨vc_spec_woOther _ hp⟩⟩
  · cases h
def TTG_8 : Tab := TTG_7.add 22 F_spec_woOther
theorem TTG_8_ok : TTG_8.Ok Tryd.prog := TTG_7_ok.add ok_spec_woOther
theorem eq_impl_exchanged (s : List UInt8) (K : V → Prop) : VC_impl_exchanged s K = vbody Tryd.prog (vin Tryd.prog TTG_8 annTTG 3) TTG_8.looks (annTTG 25) 25 [.str s] [] (fun v _ => K v) := by kernel_rfl
theorem ok_impl_exchanged : OK Tryd.prog 25 F_impl_exchanged.spec := (vbody_ok (vin_ok TTG_8_ok annTTG 3) TTG_8_ok.looks _ _).ofF fun args m p R h hp => by
  unfold F_impl_exchanged at h
  split at h
  · injection h with h; injection h with h1 h2; subst h1; subst h2
    exact ⟨rfl, (congrArg At (eq_impl_exchanged _ _)).mp ⟨vc_impl_exchanged _ hp⟩⟩
  · cases h
def TTG_9 : Tab := TTG_8.add 25 F_impl_exchanged
theorem TTG_9_ok : TTG_9.Ok Tryd.prog := TTG_8_ok.add ok_impl_exchanged
theorem eq_spec_l1Num (n : Int) (K : V → Prop) : VC_spec_l1Num n K = vbody Tryd.prog (vin Tryd.prog TTG_9 annTTG 0) TTG_9.looks (annTTG 16) 16 [.int .i64 n] [] (fun v _ => K v) := by kernel_rfl
theorem ok_spec_l1Num : OK Tryd.prog 16 F_spec_l1Num.spec := (vbody_ok (vin_ok TTG_9_ok annTTG 0) TTG_9_ok.looks _ _).ofF fun args m p R h hp => by
  unfold F_spec_l1Num at h
  split at h
  · injection h with h; injection h with h1 h2; subst h1; subst h2
    exact ⟨rfl, (congrArg At (eq_spec_l1Num _ _)).mp ⟨vc_spec_l1Num _ hp⟩⟩
  · cases h
def TTG_10 : Tab := TTG_9.add 16 F_spec_l1Num
theorem TTG_10_ok : TTG_10.Ok Tryd.prog := TTG_9_ok.add ok_spec_l1Num
theorem eq_strconv_small (n : Int) (K : V → Prop) : VC_strconv_small n K = vbody Tryd.prog (vin Tryd.prog TTG_10 annTTG 0) TTG_10.looks (annTTG 32) 32 [.int .i64 n] [] (fun v _ => K v) := by kernel_rfl
theorem ok_strconv_small : OK Tryd.prog 32 F_strconv_small.spec := (vbody_ok (vin_ok TTG_10_ok annTTG 0) TTG_10_ok.looks _ _).ofF fun args m p R h hp => by
  unfold F_strconv_small at h
  split at h
  · injection h with h; injection h with h1 h2; subst h1; subst h2
    exact ⟨rfl, (congrArg At (eq_strconv_small _ _)).mp ⟨vc_strconv_small _ hp⟩⟩
  · cases h
def TTG_11 : Tab := TTG_10.add 32 F_strconv_small
theorem TTG_11_ok : TTG_11.Ok Tryd.prog := TTG_10_ok.add ok_strconv_small
theorem eq_impl_programOf  (n : Nat) (c : List Sc) (K : V → List Blk → Prop) : VC_impl_programOf  n c K = vbody Tryd.prog (vin Tryd.prog TTG_11 annTTG 4) TTG_11.looks (annTTG 20) 20 [.row 0 n] [⟨.recs [.int .i64, .int .u8] (c), 38, .rows 2⟩] (K) := by kernel_rfl
theorem ok_impl_programOf : OK Tryd.prog 20 F_impl_programOf.spec := (vbody_ok (vin_ok TTG_11_ok annTTG 4) TTG_11_ok.looks _ _).ofFM fun args m p R h hp => by
  unfold F_impl_programOf at h
  split at h
  · injection h with h; injection h with h1 h2; subst h1; subst h2
    exact (congrArg At (eq_impl_programOf _ _ _)).mp ⟨vc_impl_programOf _ _ hp⟩
  · cases h
def TTG_12 : Tab := TTG_11.add 20 F_impl_programOf
theorem TTG_12_ok : TTG_12.Ok Tryd.prog := TTG_11_ok.add ok_impl_programOf
theorem eq_impl_part  (n : Nat) (c : List Sc) (K : V → List Blk → Prop) : VC_impl_part  n c K = vbody Tryd.prog (vin Tryd.prog TTG_12 annTTG 3) TTG_12.looks (annTTG 24) 24 [.row 0 n] [⟨.recs [.int .i64, .int .u8] (c), 38, .rows 2⟩] (K) := by kernel_rfl
theorem ok_impl_part : OK Tryd.prog 24 F_impl_part.spec := (vbody_ok (vin_ok TTG_12_ok annTTG 3) TTG_12_ok.looks _ _).ofG fun args m p R M h hp => by
  unfold F_impl_part at h
  split at h
  · injection h with h; injection h with h1 h2; injection h2 with h2 h3; subst h1; subst h2; subst h3
    exact (congrArg At (eq_impl_part _ _ _)).mp ⟨vc_impl_part _ _ hp⟩
  · cases h
def TTG_13 : Tab := TTG_12.addG 24 F_impl_part
theorem TTG_13_ok : TTG_13.Ok Tryd.prog := TTG_12_ok.addG ok_impl_part
theorem eq_spec_BackProgram (s : List UInt8) (K : V → Prop) : VC_spec_BackProgram s K = vbody Tryd.prog (vin Tryd.prog TTG_13 annTTG 3) TTG_13.looks (annTTG 10) 10 [.str s] [] (fun v _ => K v) := by kernel_rfl
theorem ok_spec_BackProgram : OK Tryd.prog 10 F_spec_BackProgram.spec := (vbody_ok (vin_ok TTG_13_ok annTTG 3) TTG_13_ok.looks _ _).ofF fun args m p R h hp => by
  unfold F_spec_BackProgram at h
  split at h
  · injection h with h; injection h with h1 h2; subst h1; subst h2
    exact ⟨rfl, (congrArg At (eq_spec_BackProgram _ _)).mp ⟨vc_spec_BackProgram _ hp⟩⟩
  · cases h
def TTG_14 : Tab := TTG_13.add 10 F_spec_BackProgram
theorem TTG_14_ok : TTG_14.Ok Tryd.prog := TTG_13_ok.add ok_spec_BackProgram
theorem eq_impl_BackProgram (s : List UInt8) (K : V → Prop) : VC_impl_BackProgram s K = vbody Tryd.prog (vin Tryd.prog TTG_14 annTTG 3) TTG_14.looks (annTTG 11) 11 [.str s] [] (fun v _ => K v) := by kernel_rfl
theorem ok_impl_BackProgram : OK Tryd.prog 11 F_impl_BackProgram.spec := (vbody_ok (vin_ok TTG_14_ok annTTG 3) TTG_14_ok.looks _ _).ofF fun args m p R h hp => by
  unfold F_impl_BackProgram at h
  split at h
  · injection h with h; injection h with h1 h2; subst h1; subst h2
    exact ⟨rfl, (congrArg At (eq_impl_BackProgram _ _)).mp ⟨vc_impl_BackProgram _ hp⟩⟩
  · cases h
def TTG_15 : Tab := TTG_14.add 11 F_impl_BackProgram
theorem TTG_15_ok : TTG_15.Ok Tryd.prog := TTG_14_ok.add ok_impl_BackProgram
theorem eq_spec_GrowProgram (s : List UInt8) (k : Int) (K : V → Prop) : VC_spec_GrowProgram s k K = vbody Tryd.prog (vin Tryd.prog TTG_15 annTTG 3) TTG_15.looks (annTTG 12) 12 [.str s, .int .i64 k] [] (fun v _ => K v) := by kernel_rfl
theorem ok_spec_GrowProgram : OK Tryd.prog 12 F_spec_GrowProgram.spec := (vbody_ok (vin_ok TTG_15_ok annTTG 3) TTG_15_ok.looks _ _).ofF fun args m p R h hp => by
  unfold F_spec_GrowProgram at h
  split at h
  · injection h with h; injection h with h1 h2; subst h1; subst h2
    exact ⟨rfl, (congrArg At (eq_spec_GrowProgram _ _ _)).mp ⟨vc_spec_GrowProgram _ _ hp⟩⟩
  · cases h
def TTG_16 : Tab := TTG_15.add 12 F_spec_GrowProgram
theorem TTG_16_ok : TTG_16.Ok Tryd.prog := TTG_15_ok.add ok_spec_GrowProgram
theorem eq_impl_GrowProgram (s : List UInt8) (k : Int) (K : V → Prop) : VC_impl_GrowProgram s k K = vbody Tryd.prog (vin Tryd.prog TTG_16 annTTG 3) TTG_16.looks (annTTG 13) 13 [.str s, .int .i64 k] [] (fun v _ => K v) := by kernel_rfl
theorem ok_impl_GrowProgram : OK Tryd.prog 13 F_impl_GrowProgram.spec := (vbody_ok (vin_ok TTG_16_ok annTTG 3) TTG_16_ok.looks _ _).ofF fun args m p R h hp => by
  unfold F_impl_GrowProgram at h
  split at h
  · injection h with h; injection h with h1 h2; subst h1; subst h2
    exact ⟨rfl, (congrArg At (eq_impl_GrowProgram _ _ _)).mp ⟨vc_impl_GrowProgram _ _ hp⟩⟩
  · cases h
def TTG_17 : Tab := TTG_16.add 13 F_impl_GrowProgram
theorem TTG_17_ok : TTG_17.Ok Tryd.prog := TTG_16_ok.add ok_impl_GrowProgram
def TTG : Tab := TTG_17
theorem TTG_ok : TTG.Ok Tryd.prog := TTG_17_ok
end Go.Proofs.YtllocclgllappabDoor
