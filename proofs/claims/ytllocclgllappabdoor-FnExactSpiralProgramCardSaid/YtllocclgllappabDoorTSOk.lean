/- The contracts of this chapter. -/
import Derived.Test.YtllocclgllappabDoorProg
import Derived.Test.YtllocclgllappabDoorTSPf
import Derived.KernelRfl
namespace Go.Proofs.YtllocclgllappabDoor
open Go Go.Vi
set_option linter.unusedVariables false
def annTTS : FuncId → Nat → St → Option Ann := fun f => if f = 20 then ann_impl_programOf else if f = 9 then ann_laws_eqIntS else if f = 15 then ann_spec_l1Rising else if f = 17 then ann_spec_l1Has else if f = 19 then ann_impl_areNumbersOfParts else if f = 7 then ann_laws_toIntS else if f = 6 then ann_spec_SpiralProgram else if f = 8 then ann_impl_SpiralProgram else (fun _ _ => none)
def TTS_0 : Tab := Tab.none
theorem TTS_0_ok : TTS_0.Ok Tryd.prog := Tab.none_ok
theorem eq_spec_l1In (n : Int) (lo : Int) (hi : Int) (K : V → Prop) : VC_spec_l1In n lo hi K = vbody Tryd.prog (vin Tryd.prog TTS_0 annTTS 3) TTS_0.looks (annTTS 14) 14 [.int .i64 n, .int .i64 lo, .int .i64 hi] [] (fun v _ => K v) := by kernel_rfl
theorem ok_spec_l1In : OK Tryd.prog 14 F_spec_l1In.spec := (vbody_ok (vin_ok TTS_0_ok annTTS 3) TTS_0_ok.looks _ _).ofF fun args m p R h hp => by
  unfold F_spec_l1In at h
  split at h
  · injection h with h; injection h with h1 h2; subst h1; subst h2
    exact ⟨rfl, (congrArg At (eq_spec_l1In _ _ _ _)).mp ⟨vc_spec_l1In _ _ _ hp⟩⟩
  · cases h
def TTS_1 : Tab := TTS_0.add 14 F_spec_l1In
theorem TTS_1_ok : TTS_1.Ok Tryd.prog := TTS_0_ok.add ok_spec_l1In
theorem eq_impl_within (n : Int) (lo : Int) (hi : Int) (K : V → Prop) : VC_impl_within n lo hi K = vbody Tryd.prog (vin Tryd.prog TTS_1 annTTS 3) TTS_1.looks (annTTS 18) 18 [.int .i64 n, .int .i64 lo, .int .i64 hi] [] (fun v _ => K v) := by kernel_rfl
theorem ok_impl_within : OK Tryd.prog 18 F_impl_within.spec := (vbody_ok (vin_ok TTS_1_ok annTTS 3) TTS_1_ok.looks _ _).ofF fun args m p R h hp => by
  unfold F_impl_within at h
  split at h
  · injection h with h; injection h with h1 h2; subst h1; subst h2
    exact ⟨rfl, (congrArg At (eq_impl_within _ _ _ _)).mp ⟨vc_impl_within _ _ _ hp⟩⟩
  · cases h
def TTS_2 : Tab := TTS_1.add 18 F_impl_within
theorem TTS_2_ok : TTS_2.Ok Tryd.prog := TTS_1_ok.add ok_impl_within
theorem eq_spec_l1Num (n : Int) (K : V → Prop) : VC_spec_l1Num n K = vbody Tryd.prog (vin Tryd.prog TTS_2 annTTS 0) TTS_2.looks (annTTS 16) 16 [.int .i64 n] [] (fun v _ => K v) := by kernel_rfl
theorem ok_spec_l1Num : OK Tryd.prog 16 F_spec_l1Num.spec := (vbody_ok (vin_ok TTS_2_ok annTTS 0) TTS_2_ok.looks _ _).ofF fun args m p R h hp => by
  unfold F_spec_l1Num at h
  split at h
  · injection h with h; injection h with h1 h2; subst h1; subst h2
    exact ⟨rfl, (congrArg At (eq_spec_l1Num _ _)).mp ⟨vc_spec_l1Num _ hp⟩⟩
  · cases h
def TTS_3 : Tab := TTS_2.add 16 F_spec_l1Num
theorem TTS_3_ok : TTS_3.Ok Tryd.prog := TTS_2_ok.add ok_spec_l1Num
theorem eq_strconv_small (n : Int) (K : V → Prop) : VC_strconv_small n K = vbody Tryd.prog (vin Tryd.prog TTS_3 annTTS 0) TTS_3.looks (annTTS 32) 32 [.int .i64 n] [] (fun v _ => K v) := by kernel_rfl
theorem ok_strconv_small : OK Tryd.prog 32 F_strconv_small.spec := (vbody_ok (vin_ok TTS_3_ok annTTS 0) TTS_3_ok.looks _ _).ofF fun args m p R h hp => by
  unfold F_strconv_small at h
  split at h
  · injection h with h; injection h with h1 h2; subst h1; subst h2
    exact ⟨rfl, (congrArg At (eq_strconv_small _ _)).mp ⟨vc_strconv_small _ hp⟩⟩
  · cases h
def TTS_4 : Tab := TTS_3.add 32 F_strconv_small
theorem TTS_4_ok : TTS_4.Ok Tryd.prog := TTS_3_ok.add ok_strconv_small
theorem eq_impl_programOf  (n : Nat) (c : List Sc) (K : V → List Blk → Prop) : VC_impl_programOf  n c K = vbody Tryd.prog (vin Tryd.prog TTS_4 annTTS 4) TTS_4.looks (annTTS 20) 20 [.row 0 n] [⟨.recs [.int .i64, .int .u8] (c), 38, .rows 2⟩] (K) := by kernel_rfl
theorem ok_impl_programOf : OK Tryd.prog 20 F_impl_programOf.spec := (vbody_ok (vin_ok TTS_4_ok annTTS 4) TTS_4_ok.looks _ _).ofFM fun args m p R h hp => by
  unfold F_impl_programOf at h
  split at h
  · injection h with h; injection h with h1 h2; subst h1; subst h2
    exact (congrArg At (eq_impl_programOf _ _ _)).mp ⟨vc_impl_programOf _ _ hp⟩
  · cases h
def TTS_5 : Tab := TTS_4.add 20 F_impl_programOf
theorem TTS_5_ok : TTS_5.Ok Tryd.prog := TTS_4_ok.add ok_impl_programOf
theorem eq_laws_eqIntS  (n : Nat) (m : Nat) (a : List Int) (b : List Int) (e : TypeId) (k : Kind) (f : TypeId) (q : Kind) (K : V → List Blk → Prop) : VC_laws_eqIntS  n m a b e k f q K = vbody Tryd.prog (vin Tryd.prog TTS_5 annTTS 3) TTS_5.looks (annTTS 9) 9 [.row 0 n, .row 1 m] [⟨.ints .i64 a, e, k⟩, ⟨.ints .i64 b, f, q⟩] (K) := by kernel_rfl
theorem ok_laws_eqIntS : OK Tryd.prog 9 F_laws_eqIntS.spec := (vbody_ok (vin_ok TTS_5_ok annTTS 3) TTS_5_ok.looks _ _).ofFM fun args m p R h hp => by
  unfold F_laws_eqIntS at h
  split at h
  · injection h with h; injection h with h1 h2; subst h1; subst h2
    exact (congrArg At (eq_laws_eqIntS _ _ _ _ _ _ _ _ _)).mp ⟨vc_laws_eqIntS _ _ _ _ _ _ _ _ hp⟩
  · cases h
def TTS_6 : Tab := TTS_5.add 9 F_laws_eqIntS
theorem TTS_6_ok : TTS_6.Ok Tryd.prog := TTS_5_ok.add ok_laws_eqIntS
theorem eq_spec_l1Rising (lo : Int) (hi : Int) (n : Nat) (a : List Int) (K : V → List Blk → Prop) : VC_spec_l1Rising lo hi n a K = vbody Tryd.prog (vin Tryd.prog TTS_6 annTTS 3) TTS_6.looks (annTTS 15) 15 [.row 0 n, .int .i64 lo, .int .i64 hi] [⟨.ints .i64 (a), 3, .row⟩] (K) := by kernel_rfl
theorem ok_spec_l1Rising : OK Tryd.prog 15 F_spec_l1Rising.spec := (vbody_ok (vin_ok TTS_6_ok annTTS 3) TTS_6_ok.looks _ _).ofFM fun args m p R h hp => by
  unfold F_spec_l1Rising at h
  split at h
  · injection h with h; injection h with h1 h2; subst h1; subst h2
    exact (congrArg At (eq_spec_l1Rising _ _ _ _ _)).mp ⟨vc_spec_l1Rising _ _ _ _ hp⟩
  · cases h
def TTS_7 : Tab := TTS_6.add 15 F_spec_l1Rising
theorem TTS_7_ok : TTS_7.Ok Tryd.prog := TTS_6_ok.add ok_spec_l1Rising
theorem eq_spec_l1Has (v : Int) (n : Nat) (a : List Int) (K : V → List Blk → Prop) : VC_spec_l1Has v n a K = vbody Tryd.prog (vin Tryd.prog TTS_7 annTTS 3) TTS_7.looks (annTTS 17) 17 [.row 0 n, .int .i64 v] [⟨.ints .i64 (a), 3, .row⟩] (K) := by kernel_rfl
theorem ok_spec_l1Has : OK Tryd.prog 17 F_spec_l1Has.spec := (vbody_ok (vin_ok TTS_7_ok annTTS 3) TTS_7_ok.looks _ _).ofFM fun args m p R h hp => by
  unfold F_spec_l1Has at h
  split at h
  · injection h with h; injection h with h1 h2; subst h1; subst h2
    exact (congrArg At (eq_spec_l1Has _ _ _ _)).mp ⟨vc_spec_l1Has _ _ _ hp⟩
  · cases h
def TTS_8 : Tab := TTS_7.add 17 F_spec_l1Has
theorem TTS_8_ok : TTS_8.Ok Tryd.prog := TTS_7_ok.add ok_spec_l1Has
theorem eq_impl_areNumbersOfParts (p : Int) (n : Nat) (a : List Int) (K : V → List Blk → Prop) : VC_impl_areNumbersOfParts p n a K = vbody Tryd.prog (vin Tryd.prog TTS_8 annTTS 3) TTS_8.looks (annTTS 19) 19 [.row 0 n, .int .i64 p] [⟨.ints .i64 (a), 3, .row⟩] (K) := by kernel_rfl
theorem ok_impl_areNumbersOfParts : OK Tryd.prog 19 F_impl_areNumbersOfParts.spec := (vbody_ok (vin_ok TTS_8_ok annTTS 3) TTS_8_ok.looks _ _).ofFM fun args m p R h hp => by
  unfold F_impl_areNumbersOfParts at h
  split at h
  · injection h with h; injection h with h1 h2; subst h1; subst h2
    exact (congrArg At (eq_impl_areNumbersOfParts _ _ _ _)).mp ⟨vc_impl_areNumbersOfParts _ _ _ hp⟩
  · cases h
def TTS_9 : Tab := TTS_8.add 19 F_impl_areNumbersOfParts
theorem TTS_9_ok : TTS_9.Ok Tryd.prog := TTS_8_ok.add ok_impl_areNumbersOfParts
theorem eq_laws_toIntS  (n : Nat) (a : List Int) (e : TypeId) (k : Kind) (K : V → List Blk → Prop) : VC_laws_toIntS  n a e k K = vbody Tryd.prog (vin Tryd.prog TTS_9 annTTS 3) TTS_9.looks (annTTS 7) 7 [.row 0 n] [⟨.ints .i64 a, e, k⟩] (K) := by kernel_rfl
theorem ok_laws_toIntS : OK Tryd.prog 7 F_laws_toIntS.spec := (vbody_ok (vin_ok TTS_9_ok annTTS 3) TTS_9_ok.looks _ _).ofG fun args m p R M h hp => by
  unfold F_laws_toIntS at h
  split at h
  · injection h with h; injection h with h1 h2; injection h2 with h2 h3; subst h1; subst h2; subst h3
    exact (congrArg At (eq_laws_toIntS _ _ _ _ _)).mp ⟨vc_laws_toIntS _ _ _ _ hp⟩
  · cases h
def TTS_10 : Tab := TTS_9.addG 7 F_laws_toIntS
theorem TTS_10_ok : TTS_10.Ok Tryd.prog := TTS_9_ok.addG ok_laws_toIntS
theorem eq_spec_SpiralProgram (p : Int) (n : Nat) (a : List Int) (K : V → List Blk → Prop) : VC_spec_SpiralProgram p n a K = vbody Tryd.prog (vin Tryd.prog TTS_10 annTTS 3) TTS_10.looks (annTTS 6) 6 [.int .i64 p, .row 0 n] [⟨.ints .i64 (a), 3, .row⟩] (K) := by kernel_rfl
theorem ok_spec_SpiralProgram : OK Tryd.prog 6 F_spec_SpiralProgram.spec := (vbody_ok (vin_ok TTS_10_ok annTTS 3) TTS_10_ok.looks _ _).ofFM fun args m p R h hp => by
  unfold F_spec_SpiralProgram at h
  split at h
  · injection h with h; injection h with h1 h2; subst h1; subst h2
    exact (congrArg At (eq_spec_SpiralProgram _ _ _ _)).mp ⟨vc_spec_SpiralProgram _ _ _ hp⟩
  · cases h
def TTS_11 : Tab := TTS_10.add 6 F_spec_SpiralProgram
theorem TTS_11_ok : TTS_11.Ok Tryd.prog := TTS_10_ok.add ok_spec_SpiralProgram
theorem eq_impl_SpiralProgram (p : Int) (n : Nat) (a : List Int) (K : V → List Blk → Prop) : VC_impl_SpiralProgram p n a K = vbody Tryd.prog (vin Tryd.prog TTS_11 annTTS 3) TTS_11.looks (annTTS 8) 8 [.int .i64 p, .row 0 n] [⟨.ints .i64 (a), 3, .row⟩] (K) := by kernel_rfl
theorem ok_impl_SpiralProgram : OK Tryd.prog 8 F_impl_SpiralProgram.spec := (vbody_ok (vin_ok TTS_11_ok annTTS 3) TTS_11_ok.looks _ _).ofFM fun args m p R h hp => by
  unfold F_impl_SpiralProgram at h
  split at h
  · injection h with h; injection h with h1 h2; subst h1; subst h2
    exact (congrArg At (eq_impl_SpiralProgram _ _ _ _)).mp ⟨vc_impl_SpiralProgram _ _ _ hp⟩
  · cases h
def TTS_12 : Tab := TTS_11.add 8 F_impl_SpiralProgram
theorem TTS_12_ok : TTS_12.Ok Tryd.prog := TTS_11_ok.add ok_impl_SpiralProgram
def TTS : Tab := TTS_12
theorem TTS_ok : TTS.Ok Tryd.prog := TTS_12_ok
end Go.Proofs.YtllocclgllappabDoor
