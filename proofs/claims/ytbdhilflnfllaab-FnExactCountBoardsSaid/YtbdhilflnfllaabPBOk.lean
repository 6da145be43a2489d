/- The contracts of this chapter. -/
import Derived.Test.YtbdhilflnfllaabPDDoor
import Derived.Test.YtbdhilflnfllaabProg
import Derived.Test.YtbdhilflnfllaabPBPf
import Derived.KernelRfl
namespace Go.Proofs.Ytbdhilflnfllaab
open Go Go.Vi
set_option linter.unusedVariables false
def annTPB : FuncId → Nat → St → Option Ann := fun f => if f = 37 then ann_spec_woRule else if f = 22 then ann_impl_IsRule else if f = 31 then ann_laws_eqClueS else if f = 32 then ann_laws_markClueS else if f = 33 then ann_laws_heldClueS else if f = 28 then ann_laws_toClueS else if f = 21 then ann_spec_pzPower else if f = 7 then ann_impl_CountBoards else if f = 25 then ann_spec_pzGood else if f = 9 then ann_spec_AddClue else if f = 12 then ann_impl_AddClue else (fun _ _ => none)
def TPB_0 : Tab := Tab.none
theorem TPB_0_ok : TPB_0.Ok Try.prog := Tab.none_ok
theorem eq_spec_l1In (n : Int) (lo : Int) (hi : Int) (K : V → Prop) : VC_spec_l1In n lo hi K = vbody Try.prog (vin Try.prog TPB_0 annTPB 3) TPB_0.looks (annTPB 38) 38 [.int .i64 n, .int .i64 lo, .int .i64 hi] [] (fun v _ => K v) := by kernel_rfl
theorem ok_spec_l1In : OK Try.prog 38 F_spec_l1In.spec := (vbody_ok (vin_ok TPB_0_ok annTPB 3) TPB_0_ok.looks _ _).ofF fun args m p R h hp => by
  unfold F_spec_l1In at h
  split at h
  · injection h with h; injection h with h1 h2; subst h1; subst h2
    exact ⟨rfl, (congrArg At (eq_spec_l1In _ _ _ _)).mp ⟨vc_spec_l1In _ _ _ hp⟩⟩
  · cases h
def TPB_1 : Tab := TPB_0.add 38 F_spec_l1In
theorem TPB_1_ok : TPB_1.Ok Try.prog := TPB_0_ok.add ok_spec_l1In
theorem eq_impl_within (n : Int) (lo : Int) (hi : Int) (K : V → Prop) : VC_impl_within n lo hi K = vbody Try.prog (vin Try.prog TPB_1 annTPB 3) TPB_1.looks (annTPB 39) 39 [.int .i64 n, .int .i64 lo, .int .i64 hi] [] (fun v _ => K v) := by kernel_rfl
theorem ok_impl_within : OK Try.prog 39 F_impl_within.spec := (vbody_ok (vin_ok TPB_1_ok annTPB 3) TPB_1_ok.looks _ _).ofF fun args m p R h hp => by
  unfold F_impl_within at h
  split at h
  · injection h with h; injection h with h1 h2; subst h1; subst h2
    exact ⟨rfl, (congrArg At (eq_impl_within _ _ _ _)).mp ⟨vc_impl_within _ _ _ hp⟩⟩
  · cases h
def TPB_2 : Tab := TPB_1.add 39 F_impl_within
theorem TPB_2_ok : TPB_2.Ok Try.prog := TPB_1_ok.add ok_impl_within
theorem eq_spec_woRule (s : List UInt8) (K : V → Prop) : VC_spec_woRule s K = vbody Try.prog (vin Try.prog TPB_2 annTPB 3) TPB_2.looks (annTPB 37) 37 [.str s] [] (fun v _ => K v) := by kernel_rfl
theorem ok_spec_woRule : OK Try.prog 37 F_spec_woRule.spec := (vbody_ok (vin_ok TPB_2_ok annTPB 3) TPB_2_ok.looks _ _).ofF fun args m p R h hp => by
  unfold F_spec_woRule at h
  split at h
  · injection h with h; injection h with h1 h2; subst h1; subst h2
    exact ⟨rfl, (congrArg At (eq_spec_woRule _ _)).mp ⟨vc_spec_woRule _ hp⟩⟩
  · cases h
def TPB_3 : Tab := TPB_2.add 37 F_spec_woRule
theorem TPB_3_ok : TPB_3.Ok Try.prog := TPB_2_ok.add ok_spec_woRule
theorem eq_impl_IsRule (s : List UInt8) (K : V → Prop) : VC_impl_IsRule s K = vbody Try.prog (vin Try.prog TPB_3 annTPB 3) TPB_3.looks (annTPB 22) 22 [.str s] [] (fun v _ => K v) := by kernel_rfl
theorem ok_impl_IsRule : OK Try.prog 22 F_impl_IsRule.spec := (vbody_ok (vin_ok TPB_3_ok annTPB 3) TPB_3_ok.looks _ _).ofF fun args m p R h hp => by
  unfold F_impl_IsRule at h
  split at h
  · injection h with h; injection h with h1 h2; subst h1; subst h2
    exact ⟨rfl, (congrArg At (eq_impl_IsRule _ _)).mp ⟨vc_impl_IsRule _ hp⟩⟩
  · cases h
def TPB_4 : Tab := TPB_3.add 22 F_impl_IsRule
theorem TPB_4_ok : TPB_4.Ok Try.prog := TPB_3_ok.add ok_impl_IsRule
theorem eq_laws_eqClue (ax : Int) (ay : Int) (ak : Int) (bx : Int) (by_ : Int) (bk : Int) (K : V → Prop) : VC_laws_eqClue ax ay ak bx by_ bk K = vbody Try.prog (vin Try.prog TPB_4 annTPB 3) TPB_4.looks (annTPB 42) 42 [.agg [.int .i64 ax, .int .i64 ay, .int .i64 ak], .agg [.int .i64 bx, .int .i64 by_, .int .i64 bk]] [] (fun v _ => K v) := by kernel_rfl
theorem ok_laws_eqClue : OK Try.prog 42 F_laws_eqClue.spec := (vbody_ok (vin_ok TPB_4_ok annTPB 3) TPB_4_ok.looks _ _).ofF fun args m p R h hp => by
  unfold F_laws_eqClue at h
  split at h
  · injection h with h; injection h with h1 h2; subst h1; subst h2
    exact ⟨rfl, (congrArg At (eq_laws_eqClue _ _ _ _ _ _ _)).mp ⟨vc_laws_eqClue _ _ _ _ _ _ hp⟩⟩
  · cases h
def TPB_5 : Tab := TPB_4.add 42 F_laws_eqClue
theorem TPB_5_ok : TPB_5.Ok Try.prog := TPB_4_ok.add ok_laws_eqClue
theorem eq_laws_eqClueS  (n : Nat) (m : Nat) (a : List Int) (b : List Int) (K : V → List Blk → Prop) : VC_laws_eqClueS  n m a b K = vbody Try.prog (vin Try.prog TPB_5 annTPB 3) TPB_5.looks (annTPB 31) 31 [.row 0 n, .row 1 m] [⟨.ints .i64 a, 37, .rows 3⟩, ⟨.ints .i64 b, 37, .rows 3⟩] (K) := by kernel_rfl
theorem ok_laws_eqClueS : OK Try.prog 31 F_laws_eqClueS.spec := (vbody_ok (vin_ok TPB_5_ok annTPB 3) TPB_5_ok.looks _ _).ofFM fun args m p R h hp => by
  unfold F_laws_eqClueS at h
  split at h
  · injection h with h; injection h with h1 h2; subst h1; subst h2
    exact (congrArg At (eq_laws_eqClueS _ _ _ _ _)).mp ⟨vc_laws_eqClueS _ _ _ _ hp⟩
  · cases h
def TPB_6 : Tab := TPB_5.add 31 F_laws_eqClueS
theorem TPB_6_ok : TPB_6.Ok Try.prog := TPB_5_ok.add ok_laws_eqClueS
theorem eq_laws_eqPuzzle  (ar : List UInt8) (aw : Int) (ah : Int) (cr : List UInt8) (cw : Int) (ch : Int) (n : Nat) (m : Nat) (a : List Int) (b : List Int) (K : V → List Blk → Prop) : VC_laws_eqPuzzle  ar aw ah cr cw ch n m a b K = vbody Try.prog (vin Try.prog TPB_6 annTPB 3) TPB_6.looks (annTPB 13) 13 [.agg [.str ar, .int .i64 aw, .int .i64 ah, .row 0 n], .agg [.str cr, .int .i64 cw, .int .i64 ch, .row 1 m]] [⟨.ints .i64 a, 37, .rows 3⟩, ⟨.ints .i64 b, 37, .rows 3⟩] (K) := by kernel_rfl
theorem ok_laws_eqPuzzle : OK Try.prog 13 F_laws_eqPuzzle.spec := (vbody_ok (vin_ok TPB_6_ok annTPB 3) TPB_6_ok.looks _ _).ofFM fun args m p R h hp => by
  unfold F_laws_eqPuzzle at h
  split at h
  · injection h with h; injection h with h1 h2; subst h1; subst h2
    exact (congrArg At (eq_laws_eqPuzzle _ _ _ _ _ _ _ _ _ _ _)).mp ⟨vc_laws_eqPuzzle _ _ _ _ _ _ _ _ _ _ hp⟩
  · cases h
def TPB_7 : Tab := TPB_6.add 13 F_laws_eqPuzzle
theorem TPB_7_ok : TPB_7.Ok Try.prog := TPB_6_ok.add ok_laws_eqPuzzle
theorem eq_laws_markClueS (k : Int) (n : Nat) (a : List Int) (K : V → List Blk → Prop) : VC_laws_markClueS k n a K = vbody Try.prog (vin Try.prog TPB_7 annTPB 3) TPB_7.looks (annTPB 32) 32 [.row 0 n, .int .i64 k] [⟨.ints .i64 a, 37, .rows 3⟩] (K) := by kernel_rfl
theorem ok_laws_markClueS : OK Try.prog 32 F_laws_markClueS.spec := (vbody_ok (vin_ok TPB_7_ok annTPB 3) TPB_7_ok.looks _ _).ofG fun args m p R M h hp => by
  unfold F_laws_markClueS at h
  split at h
  · injection h with h; injection h with h1 h2; injection h2 with h2 h3; subst h1; subst h2; subst h3
    exact (congrArg At (eq_laws_markClueS _ _ _ _)).mp ⟨vc_laws_markClueS _ _ _ hp⟩
  · cases h
def TPB_8 : Tab := TPB_7.addG 32 F_laws_markClueS
theorem TPB_8_ok : TPB_8.Ok Try.prog := TPB_7_ok.addG ok_laws_markClueS
theorem eq_laws_heldClueS (k : Int) (n : Nat) (a : List Int) (K : V → List Blk → Prop) : VC_laws_heldClueS k n a K = vbody Try.prog (vin Try.prog TPB_8 annTPB 3) TPB_8.looks (annTPB 33) 33 [.row 0 n, .int .i64 k] [⟨.ints .i64 a, 37, .rows 3⟩] (K) := by kernel_rfl
theorem ok_laws_heldClueS : OK Try.prog 33 F_laws_heldClueS.spec := (vbody_ok (vin_ok TPB_8_ok annTPB 3) TPB_8_ok.looks _ _).ofFM fun args m p R h hp => by
  unfold F_laws_heldClueS at h
  split at h
  · injection h with h; injection h with h1 h2; subst h1; subst h2
    exact (congrArg At (eq_laws_heldClueS _ _ _ _)).mp ⟨vc_laws_heldClueS _ _ _ hp⟩
  · cases h
def TPB_9 : Tab := TPB_8.add 33 F_laws_heldClueS
theorem TPB_9_ok : TPB_9.Ok Try.prog := TPB_8_ok.add ok_laws_heldClueS
theorem eq_laws_markPuzzle (k : Int) (pr : List UInt8) (pw : Int) (ph : Int) (n : Nat) (a : List Int) (K : V → List Blk → Prop) : VC_laws_markPuzzle k pr pw ph n a K = vbody Try.prog (vin Try.prog TPB_9 annTPB 3) TPB_9.looks (annTPB 14) 14 [.agg [.str pr, .int .i64 pw, .int .i64 ph, .row 0 n], .int .i64 k] [⟨.ints .i64 a, 37, .rows 3⟩] (K) := by kernel_rfl
theorem ok_laws_markPuzzle : OK Try.prog 14 F_laws_markPuzzle.spec := (vbody_ok (vin_ok TPB_9_ok annTPB 3) TPB_9_ok.looks _ _).ofG fun args m p R M h hp => by
  unfold F_laws_markPuzzle at h
  split at h
  · injection h with h; injection h with h1 h2; injection h2 with h2 h3; subst h1; subst h2; subst h3
    exact (congrArg At (eq_laws_markPuzzle _ _ _ _ _ _ _)).mp ⟨vc_laws_markPuzzle _ _ _ _ _ _ hp⟩
  · cases h
def TPB_10 : Tab := TPB_9.addG 14 F_laws_markPuzzle
theorem TPB_10_ok : TPB_10.Ok Try.prog := TPB_9_ok.addG ok_laws_markPuzzle
theorem eq_laws_heldPuzzle (k : Int) (pr : List UInt8) (pw : Int) (ph : Int) (n : Nat) (a : List Int) (K : V → List Blk → Prop) : VC_laws_heldPuzzle k pr pw ph n a K = vbody Try.prog (vin Try.prog TPB_10 annTPB 3) TPB_10.looks (annTPB 15) 15 [.agg [.str pr, .int .i64 pw, .int .i64 ph, .row 0 n], .int .i64 k] [⟨.ints .i64 a, 37, .rows 3⟩] (K) := by kernel_rfl
theorem ok_laws_heldPuzzle : OK Try.prog 15 F_laws_heldPuzzle.spec := (vbody_ok (vin_ok TPB_10_ok annTPB 3) TPB_10_ok.looks _ _).ofFM fun args m p R h hp => by
  unfold F_laws_heldPuzzle at h
  split at h
  · injection h with h; injection h with h1 h2; subst h1; subst h2
    exact (congrArg At (eq_laws_heldPuzzle _ _ _ _ _ _ _)).mp ⟨vc_laws_heldPuzzle _ _ _ _ _ _ hp⟩
  · cases h
def TPB_11 : Tab := TPB_10.add 15 F_laws_heldPuzzle
theorem TPB_11_ok : TPB_11.Ok Try.prog := TPB_10_ok.add ok_laws_heldPuzzle
theorem eq_laws_szClueS (left : Int) (n : Nat) (a : List Int) (K : V → List Blk → Prop) : VC_laws_szClueS left n a K = vbody Try.prog (vin Try.prog TPB_11 annTPB 3) TPB_11.looks (annTPB 24) 24 [.row 0 n, .int .i64 left] [⟨.ints .i64 a, 29, .arg 3⟩] (K) := by kernel_rfl
theorem ok_laws_szClueS : OK Try.prog 24 F_laws_szClueS.spec := (vbody_ok (vin_ok TPB_11_ok annTPB 3) TPB_11_ok.looks _ _).ofFM fun args m p R h hp => by
  unfold F_laws_szClueS at h
  split at h
  · injection h with h; injection h with h1 h2; subst h1; subst h2
    exact (congrArg At (eq_laws_szClueS _ _ _ _)).mp ⟨vc_laws_szClueS _ _ _ hp⟩
  · cases h
def TPB_12 : Tab := TPB_11.add 24 F_laws_szClueS
theorem TPB_12_ok : TPB_12.Ok Try.prog := TPB_11_ok.add ok_laws_szClueS
theorem eq_laws_szPuzzle (left : Int) (pr : List UInt8) (pw : Int) (ph : Int) (n : Nat) (a : List Int) (K : V → List Blk → Prop) : VC_laws_szPuzzle left pr pw ph n a K = vbody Try.prog (vin Try.prog TPB_12 annTPB 3) TPB_12.looks (annTPB 8) 8 [.agg [.str pr, .int .i64 pw, .int .i64 ph, .row 0 n], .int .i64 left] [⟨.ints .i64 a, 29, .arg 3⟩] (K) := by kernel_rfl
theorem ok_laws_szPuzzle : OK Try.prog 8 F_laws_szPuzzle.spec := (vbody_ok (vin_ok TPB_12_ok annTPB 3) TPB_12_ok.looks _ _).ofFM fun args m p R h hp => by
  unfold F_laws_szPuzzle at h
  split at h
  · injection h with h; injection h with h1 h2; subst h1; subst h2
    exact (congrArg At (eq_laws_szPuzzle _ _ _ _ _ _ _)).mp ⟨vc_laws_szPuzzle _ _ _ _ _ _ hp⟩
  · cases h
def TPB_13 : Tab := TPB_12.add 8 F_laws_szPuzzle
theorem TPB_13_ok : TPB_13.Ok Try.prog := TPB_12_ok.add ok_laws_szPuzzle
theorem eq_laws_toClue (ax : Int) (ay : Int) (ak : Int) (K : V → Prop) : VC_laws_toClue ax ay ak K = vbody Try.prog (vin Try.prog TPB_13 annTPB 3) TPB_13.looks (annTPB 11) 11 [.agg [.int .i64 ax, .int .i64 ay, .int .i64 ak]] [] (fun v _ => K v) := by kernel_rfl
theorem ok_laws_toClue : OK Try.prog 11 F_laws_toClue.spec := (vbody_ok (vin_ok TPB_13_ok annTPB 3) TPB_13_ok.looks _ _).ofF fun args m p R h hp => by
  unfold F_laws_toClue at h
  split at h
  · injection h with h; injection h with h1 h2; subst h1; subst h2
    exact ⟨rfl, (congrArg At (eq_laws_toClue _ _ _ _)).mp ⟨vc_laws_toClue _ _ _ hp⟩⟩
  · cases h
def TPB_14 : Tab := TPB_13.add 11 F_laws_toClue
theorem TPB_14_ok : TPB_14.Ok Try.prog := TPB_13_ok.add ok_laws_toClue
theorem eq_laws_toClueS  (n : Nat) (a : List Int) (K : V → List Blk → Prop) : VC_laws_toClueS  n a K = vbody Try.prog (vin Try.prog TPB_14 annTPB 3) TPB_14.looks (annTPB 28) 28 [.row 0 n] [⟨.ints .i64 a, 29, .arg 3⟩] (K) := by kernel_rfl
theorem ok_laws_toClueS : OK Try.prog 28 F_laws_toClueS.spec := (vbody_ok (vin_ok TPB_14_ok annTPB 3) TPB_14_ok.looks _ _).ofG fun args m p R M h hp => by
  unfold F_laws_toClueS at h
  split at h
  · injection h with h; injection h with h1 h2; injection h2 with h2 h3; subst h1; subst h2; subst h3
    exact (congrArg At (eq_laws_toClueS _ _ _)).mp ⟨vc_laws_toClueS _ _ hp⟩
  · cases h
def TPB_15 : Tab := TPB_14.addG 28 F_laws_toClueS
theorem TPB_15_ok : TPB_15.Ok Try.prog := TPB_14_ok.addG ok_laws_toClueS
theorem eq_laws_toPuzzle  (pr : List UInt8) (pw : Int) (ph : Int) (n : Nat) (a : List Int) (K : V → List Blk → Prop) : VC_laws_toPuzzle  pr pw ph n a K = vbody Try.prog (vin Try.prog TPB_15 annTPB 3) TPB_15.looks (annTPB 10) 10 [.agg [.str pr, .int .i64 pw, .int .i64 ph, .row 0 n]] [⟨.ints .i64 a, 29, .arg 3⟩] (K) := by kernel_rfl
theorem ok_laws_toPuzzle : OK Try.prog 10 F_laws_toPuzzle.spec := (vbody_ok (vin_ok TPB_15_ok annTPB 3) TPB_15_ok.looks _ _).ofG fun args m p R M h hp => by
  unfold F_laws_toPuzzle at h
  split at h
  · injection h with h; injection h with h1 h2; injection h2 with h2 h3; subst h1; subst h2; subst h3
    exact (congrArg At (eq_laws_toPuzzle _ _ _ _ _ _)).mp ⟨vc_laws_toPuzzle _ _ _ _ _ hp⟩
  · cases h
def TPB_16 : Tab := TPB_15.addG 10 F_laws_toPuzzle
theorem TPB_16_ok : TPB_16.Ok Try.prog := TPB_15_ok.addG ok_laws_toPuzzle
theorem ok_impl_areClues : OK Try.prog 41 F_impl_areClues.spec := Go.Proofs.Ytbdhilflnfllaab.PD.ok_areClues
def TPB_17 : Tab := TPB_16.add 41 F_impl_areClues
theorem TPB_17_ok : TPB_17.Ok Try.prog := TPB_16_ok.add ok_impl_areClues
theorem eq_spec_pzPower (s : List UInt8) (n : Int) (K : V → Prop) : VC_spec_pzPower s n K = vbody Try.prog (vin Try.prog TPB_17 annTPB 3) TPB_17.looks (annTPB 21) 21 [.str s, .int .i64 n] [] (fun v _ => K v) := by kernel_rfl
theorem ok_spec_pzPower : OK Try.prog 21 F_spec_pzPower.spec := (vbody_ok (vin_ok TPB_17_ok annTPB 3) TPB_17_ok.looks _ _).ofF fun args m p R h hp => by
  unfold F_spec_pzPower at h
  split at h
  · injection h with h; injection h with h1 h2; subst h1; subst h2
    exact ⟨rfl, (congrArg At (eq_spec_pzPower _ _ _)).mp ⟨vc_spec_pzPower _ _ hp⟩⟩
  · cases h
def TPB_18 : Tab := TPB_17.add 21 F_spec_pzPower
theorem TPB_18_ok : TPB_18.Ok Try.prog := TPB_17_ok.add ok_spec_pzPower
theorem eq_spec_pzSize (s : List UInt8) (w : Int) (h : Int) (K : V → Prop) : VC_spec_pzSize s w h K = vbody Try.prog (vin Try.prog TPB_18 annTPB 3) TPB_18.looks (annTPB 20) 20 [.str s, .int .i64 w, .int .i64 h] [] (fun v _ => K v) := by kernel_rfl
theorem ok_spec_pzSize : OK Try.prog 20 F_spec_pzSize.spec := (vbody_ok (vin_ok TPB_18_ok annTPB 3) TPB_18_ok.looks _ _).ofF fun args m p R h hp => by
  unfold F_spec_pzSize at h
  split at h
  · injection h with h; injection h with h1 h2; subst h1; subst h2
    exact ⟨rfl, (congrArg At (eq_spec_pzSize _ _ _ _)).mp ⟨vc_spec_pzSize _ _ _ hp⟩⟩
  · cases h
def TPB_19 : Tab := TPB_18.add 20 F_spec_pzSize
theorem TPB_19_ok : TPB_19.Ok Try.prog := TPB_18_ok.add ok_spec_pzSize
theorem eq_impl_isSize (w : Int) (h : Int) (K : V → Prop) : VC_impl_isSize w h K = vbody Try.prog (vin Try.prog TPB_19 annTPB 3) TPB_19.looks (annTPB 23) 23 [.int .i64 w, .int .i64 h] [] (fun v _ => K v) := by kernel_rfl
theorem ok_impl_isSize : OK Try.prog 23 F_impl_isSize.spec := (vbody_ok (vin_ok TPB_19_ok annTPB 3) TPB_19_ok.looks _ _).ofF fun args m p R h hp => by
  unfold F_impl_isSize at h
  split at h
  · injection h with h; injection h with h1 h2; subst h1; subst h2
    exact ⟨rfl, (congrArg At (eq_impl_isSize _ _ _)).mp ⟨vc_impl_isSize _ _ hp⟩⟩
  · cases h
def TPB_20 : Tab := TPB_19.add 23 F_impl_isSize
theorem TPB_20_ok : TPB_20.Ok Try.prog := TPB_19_ok.add ok_impl_isSize
theorem eq_impl_CountBoards (s : List UInt8) (w : Int) (h : Int) (K : V → Prop) : VC_impl_CountBoards s w h K = vbody Try.prog (vin Try.prog TPB_20 annTPB 3) TPB_20.looks (annTPB 7) 7 [.str s, .int .i64 w, .int .i64 h] [] (fun v _ => K v) := by kernel_rfl
theorem ok_impl_CountBoards : OK Try.prog 7 F_impl_CountBoards.spec := (vbody_ok (vin_ok TPB_20_ok annTPB 3) TPB_20_ok.looks _ _).ofF fun args m p R h hp => by
  unfold F_impl_CountBoards at h
  split at h
  · injection h with h; injection h with h1 h2; subst h1; subst h2
    exact ⟨rfl, (congrArg At (eq_impl_CountBoards _ _ _ _)).mp ⟨vc_impl_CountBoards _ _ _ hp⟩⟩
  · cases h
def TPB_21 : Tab := TPB_20.add 7 F_impl_CountBoards
theorem TPB_21_ok : TPB_21.Ok Try.prog := TPB_20_ok.add ok_impl_CountBoards
theorem eq_spec_pzClue (s : List UInt8) (cells : Int) (cx : Int) (cy : Int) (ck : Int) (K : V → Prop) : VC_spec_pzClue s cells cx cy ck K = vbody Try.prog (vin Try.prog TPB_21 annTPB 3) TPB_21.looks (annTPB 26) 26 [.str s, .int .i64 cells, .agg [.int .i64 cx, .int .i64 cy, .int .i64 ck]] [] (fun v _ => K v) := by kernel_rfl
theorem ok_spec_pzClue : OK Try.prog 26 F_spec_pzClue.spec := (vbody_ok (vin_ok TPB_21_ok annTPB 3) TPB_21_ok.looks _ _).ofF fun args m p R h hp => by
  unfold F_spec_pzClue at h
  split at h
  · injection h with h; injection h with h1 h2; subst h1; subst h2
    exact ⟨rfl, (congrArg At (eq_spec_pzClue _ _ _ _ _ _)).mp ⟨vc_spec_pzClue _ _ _ _ _ hp⟩⟩
  · cases h
def TPB_22 : Tab := TPB_21.add 26 F_spec_pzClue
theorem TPB_22_ok : TPB_22.Ok Try.prog := TPB_21_ok.add ok_spec_pzClue
theorem eq_impl_IsClue (s : List UInt8) (cells : Int) (cx : Int) (cy : Int) (ck : Int) (K : V → Prop) : VC_impl_IsClue s cells cx cy ck K = vbody Try.prog (vin Try.prog TPB_22 annTPB 3) TPB_22.looks (annTPB 30) 30 [.str s, .int .i64 cells, .agg [.int .i64 cx, .int .i64 cy, .int .i64 ck]] [] (fun v _ => K v) := by kernel_rfl
theorem ok_impl_IsClue : OK Try.prog 30 F_impl_IsClue.spec := (vbody_ok (vin_ok TPB_22_ok annTPB 3) TPB_22_ok.looks _ _).ofF fun args m p R h hp => by
  unfold F_impl_IsClue at h
  split at h
  · injection h with h; injection h with h1 h2; subst h1; subst h2
    exact ⟨rfl, (congrArg At (eq_impl_IsClue _ _ _ _ _ _)).mp ⟨vc_impl_IsClue _ _ _ _ _ hp⟩⟩
  · cases h
def TPB_23 : Tab := TPB_22.add 30 F_impl_IsClue
theorem TPB_23_ok : TPB_23.Ok Try.prog := TPB_22_ok.add ok_impl_IsClue
theorem eq_spec_pzGood  (pr : List UInt8) (pw : Int) (ph : Int) (n : Nat) (a : List Int) (K : V → List Blk → Prop) : VC_spec_pzGood  pr pw ph n a K = vbody Try.prog (vin Try.prog TPB_23 annTPB 3) TPB_23.looks (annTPB 25) 25 [.agg [.str pr, .int .i64 pw, .int .i64 ph, .row 0 n]] [⟨.ints .i64 a, 37, .rows 3⟩] (K) := by kernel_rfl
theorem ok_spec_pzGood : OK Try.prog 25 F_spec_pzGood.spec := (vbody_ok (vin_ok TPB_23_ok annTPB 3) TPB_23_ok.looks _ _).ofFM fun args m p R h hp => by
  unfold F_spec_pzGood at h
  split at h
  · injection h with h; injection h with h1 h2; subst h1; subst h2
    exact (congrArg At (eq_spec_pzGood _ _ _ _ _ _)).mp ⟨vc_spec_pzGood _ _ _ _ _ hp⟩
  · cases h
def TPB_24 : Tab := TPB_23.add 25 F_spec_pzGood
theorem TPB_24_ok : TPB_24.Ok Try.prog := TPB_23_ok.add ok_spec_pzGood
theorem eq_impl_IsPuzzle  (pr : List UInt8) (pw : Int) (ph : Int) (n : Nat) (a : List Int) (K : V → List Blk → Prop) : VC_impl_IsPuzzle  pr pw ph n a K = vbody Try.prog (vin Try.prog TPB_24 annTPB 3) TPB_24.looks (annTPB 29) 29 [.agg [.str pr, .int .i64 pw, .int .i64 ph, .row 0 n]] [⟨.ints .i64 a, 37, .rows 3⟩] (K) := by kernel_rfl
theorem ok_impl_IsPuzzle : OK Try.prog 29 F_impl_IsPuzzle.spec := (vbody_ok (vin_ok TPB_24_ok annTPB 3) TPB_24_ok.looks _ _).ofFM fun args m p R h hp => by
  unfold F_impl_IsPuzzle at h
  split at h
  · injection h with h; injection h with h1 h2; subst h1; subst h2
    exact (congrArg At (eq_impl_IsPuzzle _ _ _ _ _ _)).mp ⟨vc_impl_IsPuzzle _ _ _ _ _ hp⟩
  · cases h
def TPB_25 : Tab := TPB_24.add 29 F_impl_IsPuzzle
theorem TPB_25_ok : TPB_25.Ok Try.prog := TPB_24_ok.add ok_impl_IsPuzzle
theorem eq_spec_CountBoards (s : List UInt8) (w : Int) (h : Int) (K : V → Prop) : VC_spec_CountBoards s w h K = vbody Try.prog (vin Try.prog TPB_25 annTPB 3) TPB_25.looks (annTPB 6) 6 [.str s, .int .i64 w, .int .i64 h] [] (fun v _ => K v) := by kernel_rfl
theorem ok_spec_CountBoards : OK Try.prog 6 F_spec_CountBoards.spec := (vbody_ok (vin_ok TPB_25_ok annTPB 3) TPB_25_ok.looks _ _).ofF fun args m p R h hp => by
  unfold F_spec_CountBoards at h
  split at h
  · injection h with h; injection h with h1 h2; subst h1; subst h2
    exact ⟨rfl, (congrArg At (eq_spec_CountBoards _ _ _ _)).mp ⟨vc_spec_CountBoards _ _ _ hp⟩⟩
  · cases h
def TPB_26 : Tab := TPB_25.add 6 F_spec_CountBoards
theorem TPB_26_ok : TPB_26.Ok Try.prog := TPB_25_ok.add ok_spec_CountBoards
theorem eq_spec_AddClue (cx : Int) (cy : Int) (ck : Int) (pr : List UInt8) (pw : Int) (ph : Int) (n : Nat) (a : List Int) (K : V → List Blk → Prop) : VC_spec_AddClue cx cy ck pr pw ph n a K = vbody Try.prog (vin Try.prog TPB_26 annTPB 3) TPB_26.looks (annTPB 9) 9 [.agg [.str pr, .int .i64 pw, .int .i64 ph, .row 0 n], .agg [.int .i64 cx, .int .i64 cy, .int .i64 ck]] [⟨.ints .i64 a, 37, .rows 3⟩] (K) := by kernel_rfl
theorem ok_spec_AddClue : OK Try.prog 9 F_spec_AddClue.spec := (vbody_ok (vin_ok TPB_26_ok annTPB 3) TPB_26_ok.looks _ _).ofG fun args m p R M h hp => by
  unfold F_spec_AddClue at h
  split at h
  · injection h with h; injection h with h1 h2; injection h2 with h2 h3; subst h1; subst h2; subst h3
    exact (congrArg At (eq_spec_AddClue _ _ _ _ _ _ _ _ _)).mp ⟨vc_spec_AddClue _ _ _ _ _ _ _ _ hp⟩
  · cases h
def TPB_27 : Tab := TPB_26.addG 9 F_spec_AddClue
theorem TPB_27_ok : TPB_27.Ok Try.prog := TPB_26_ok.addG ok_spec_AddClue
theorem eq_impl_AddClue (cx : Int) (cy : Int) (ck : Int) (pr : List UInt8) (pw : Int) (ph : Int) (n : Nat) (a : List Int) (K : V → List Blk → Prop) : VC_impl_AddClue cx cy ck pr pw ph n a K = vbody Try.prog (vin Try.prog TPB_27 annTPB 3) TPB_27.looks (annTPB 12) 12 [.agg [.str pr, .int .i64 pw, .int .i64 ph, .row 0 n], .agg [.int .i64 cx, .int .i64 cy, .int .i64 ck]] [⟨.ints .i64 a, 37, .rows 3⟩] (K) := by kernel_rfl
theorem ok_impl_AddClue : OK Try.prog 12 F_impl_AddClue.spec := (vbody_ok (vin_ok TPB_27_ok annTPB 3) TPB_27_ok.looks _ _).ofG fun args m p R M h hp => by
  unfold F_impl_AddClue at h
  split at h
  · injection h with h; injection h with h1 h2; injection h2 with h2 h3; subst h1; subst h2; subst h3
    exact (congrArg At (eq_impl_AddClue _ _ _ _ _ _ _ _ _)).mp ⟨vc_impl_AddClue _ _ _ _ _ _ _ _ hp⟩
  · cases h
def TPB_28 : Tab := TPB_27.addG 12 F_impl_AddClue
theorem TPB_28_ok : TPB_28.Ok Try.prog := TPB_27_ok.addG ok_impl_AddClue
def TPB : Tab := TPB_28
theorem TPB_ok : TPB.Ok Try.prog := TPB_28_ok
end Go.Proofs.Ytbdhilflnfllaab
