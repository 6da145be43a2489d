/- The contracts of this chapter. -/
import Derived.Test.YtbdhilflnfllaaaPDDoor
import Derived.Test.YtbdhilflnfllaaaProg
import Derived.Test.YtbdhilflnfllaaaPAPf
import Derived.KernelRfl
namespace Go.Proofs.Ytbdhilflnfllaaa
open Go Go.Vi
set_option linter.unusedVariables false
def annTPA : FuncId → Nat → St → Option Ann := fun f => if f = 18 then ann_spec_woRule else if f = 21 then ann_impl_IsRule else if f = 28 then ann_laws_eqClueS else if f = 34 then ann_laws_markClueS else if f = 35 then ann_laws_heldClueS else if f = 26 then ann_laws_toClueS else if f = 46 then ann_spec_pzPower else if f = 27 then ann_impl_CountBoards else if f = 25 then ann_spec_pzGood else if f = 31 then ann_impl_withClues else (fun _ _ => none)
def TPA_0 : Tab := Tab.none
theorem TPA_0_ok : TPA_0.Ok Try.prog := Tab.none_ok
theorem eq_spec_l1In (n : Int) (lo : Int) (hi : Int) (K : V → Prop) : VC_spec_l1In n lo hi K = vbody Try.prog (vin Try.prog TPA_0 annTPA 3) TPA_0.looks (annTPA 19) 19 [.int .i64 n, .int .i64 lo, .int .i64 hi] [] (fun v _ => K v) := by kernel_rfl
theorem ok_spec_l1In : OK Try.prog 19 F_spec_l1In.spec := (vbody_ok (vin_ok TPA_0_ok annTPA 3) TPA_0_ok.looks _ _).ofF fun args m p R h hp => by
  unfold F_spec_l1In at h
  split at h
  · injection h with h; injection h with h1 h2; subst h1; subst h2
    exact ⟨rfl, (congrArg At (eq_spec_l1In _ _ _ _)).mp ⟨vc_spec_l1In _ _ _ hp⟩⟩
  · cases h
def TPA_1 : Tab := TPA_0.add 19 F_spec_l1In
theorem TPA_1_ok : TPA_1.Ok Try.prog := TPA_0_ok.add ok_spec_l1In
theorem eq_impl_within (n : Int) (lo : Int) (hi : Int) (K : V → Prop) : VC_impl_within n lo hi K = vbody Try.prog (vin Try.prog TPA_1 annTPA 3) TPA_1.looks (annTPA 22) 22 [.int .i64 n, .int .i64 lo, .int .i64 hi] [] (fun v _ => K v) := by kernel_rfl
theorem ok_impl_within : OK Try.prog 22 F_impl_within.spec := (vbody_ok (vin_ok TPA_1_ok annTPA 3) TPA_1_ok.looks _ _).ofF fun args m p R h hp => by
  unfold F_impl_within at h
  split at h
  · injection h with h; injection h with h1 h2; subst h1; subst h2
    exact ⟨rfl, (congrArg At (eq_impl_within _ _ _ _)).mp ⟨vc_impl_within _ _ _ hp⟩⟩
  · cases h
def TPA_2 : Tab := TPA_1.add 22 F_impl_within
theorem TPA_2_ok : TPA_2.Ok Try.prog := TPA_1_ok.add ok_impl_within
theorem eq_spec_woRule (s : List UInt8) (K : V → Prop) : VC_spec_woRule s K = vbody Try.prog (vin Try.prog TPA_2 annTPA 3) TPA_2.looks (annTPA 18) 18 [.str s] [] (fun v _ => K v) := by kernel_rfl
theorem ok_spec_woRule : OK Try.prog 18 F_spec_woRule.spec := (vbody_ok (vin_ok TPA_2_ok annTPA 3) TPA_2_ok.looks _ _).ofF fun args m p R h hp => by
  unfold F_spec_woRule at h
  split at h
  · injection h with h; injection h with h1 h2; subst h1; subst h2
    exact ⟨rfl, (congrArg At (eq_spec_woRule _ _)).mp ⟨vc_spec_woRule _ hp⟩⟩
  · cases h
def TPA_3 : Tab := TPA_2.add 18 F_spec_woRule
theorem TPA_3_ok : TPA_3.Ok Try.prog := TPA_2_ok.add ok_spec_woRule
theorem eq_impl_IsRule (s : List UInt8) (K : V → Prop) : VC_impl_IsRule s K = vbody Try.prog (vin Try.prog TPA_3 annTPA 3) TPA_3.looks (annTPA 21) 21 [.str s] [] (fun v _ => K v) := by kernel_rfl
theorem ok_impl_IsRule : OK Try.prog 21 F_impl_IsRule.spec := (vbody_ok (vin_ok TPA_3_ok annTPA 3) TPA_3_ok.looks _ _).ofF fun args m p R h hp => by
  unfold F_impl_IsRule at h
  split at h
  · injection h with h; injection h with h1 h2; subst h1; subst h2
    exact ⟨rfl, (congrArg At (eq_impl_IsRule _ _)).mp ⟨vc_impl_IsRule _ hp⟩⟩
  · cases h
def TPA_4 : Tab := TPA_3.add 21 F_impl_IsRule
theorem TPA_4_ok : TPA_4.Ok Try.prog := TPA_3_ok.add ok_impl_IsRule
theorem eq_laws_eqClue (ax : Int) (ay : Int) (ak : Int) (bx : Int) (by_ : Int) (bk : Int) (K : V → Prop) : VC_laws_eqClue ax ay ak bx by_ bk K = vbody Try.prog (vin Try.prog TPA_4 annTPA 3) TPA_4.looks (annTPA 41) 41 [.agg [.int .i64 ax, .int .i64 ay, .int .i64 ak], .agg [.int .i64 bx, .int .i64 by_, .int .i64 bk]] [] (fun v _ => K v) := by kernel_rfl
theorem ok_laws_eqClue : OK Try.prog 41 F_laws_eqClue.spec := (vbody_ok (vin_ok TPA_4_ok annTPA 3) TPA_4_ok.looks _ _).ofF fun args m p R h hp => by
  unfold F_laws_eqClue at h
  split at h
  · injection h with h; injection h with h1 h2; subst h1; subst h2
    exact ⟨rfl, (congrArg At (eq_laws_eqClue _ _ _ _ _ _ _)).mp ⟨vc_laws_eqClue _ _ _ _ _ _ hp⟩⟩
  · cases h
def TPA_5 : Tab := TPA_4.add 41 F_laws_eqClue
theorem TPA_5_ok : TPA_5.Ok Try.prog := TPA_4_ok.add ok_laws_eqClue
theorem eq_laws_eqClueS  (n : Nat) (m : Nat) (a : List Int) (b : List Int) (K : V → List Blk → Prop) : VC_laws_eqClueS  n m a b K = vbody Try.prog (vin Try.prog TPA_5 annTPA 3) TPA_5.looks (annTPA 28) 28 [.row 0 n, .row 1 m] [⟨.ints .i64 a, 25, .rows 3⟩, ⟨.ints .i64 b, 25, .rows 3⟩] (K) := by kernel_rfl
theorem ok_laws_eqClueS : OK Try.prog 28 F_laws_eqClueS.spec := (vbody_ok (vin_ok TPA_5_ok annTPA 3) TPA_5_ok.looks _ _).ofFM fun args m p R h hp => by
  unfold F_laws_eqClueS at h
  split at h
  · injection h with h; injection h with h1 h2; subst h1; subst h2
    exact (congrArg At (eq_laws_eqClueS _ _ _ _ _)).mp ⟨vc_laws_eqClueS _ _ _ _ hp⟩
  · cases h
def TPA_6 : Tab := TPA_5.add 28 F_laws_eqClueS
theorem TPA_6_ok : TPA_6.Ok Try.prog := TPA_5_ok.add ok_laws_eqClueS
theorem eq_laws_eqPuzzle  (ar : List UInt8) (aw : Int) (ah : Int) (cr : List UInt8) (cw : Int) (ch : Int) (n : Nat) (m : Nat) (a : List Int) (b : List Int) (K : V → List Blk → Prop) : VC_laws_eqPuzzle  ar aw ah cr cw ch n m a b K = vbody Try.prog (vin Try.prog TPA_6 annTPA 3) TPA_6.looks (annTPA 13) 13 [.agg [.str ar, .int .i64 aw, .int .i64 ah, .row 0 n], .agg [.str cr, .int .i64 cw, .int .i64 ch, .row 1 m]] [⟨.ints .i64 a, 25, .rows 3⟩, ⟨.ints .i64 b, 25, .rows 3⟩] (K) := by kernel_rfl
theorem ok_laws_eqPuzzle : OK Try.prog 13 F_laws_eqPuzzle.spec := (vbody_ok (vin_ok TPA_6_ok annTPA 3) TPA_6_ok.looks _ _).ofFM fun args m p R h hp => by
  unfold F_laws_eqPuzzle at h
  split at h
  · injection h with h; injection h with h1 h2; subst h1; subst h2
    exact (congrArg At (eq_laws_eqPuzzle _ _ _ _ _ _ _ _ _ _ _)).mp ⟨vc_laws_eqPuzzle _ _ _ _ _ _ _ _ _ _ hp⟩
  · cases h
def TPA_7 : Tab := TPA_6.add 13 F_laws_eqPuzzle
theorem TPA_7_ok : TPA_7.Ok Try.prog := TPA_6_ok.add ok_laws_eqPuzzle
theorem eq_laws_markClueS (k : Int) (n : Nat) (a : List Int) (K : V → List Blk → Prop) : VC_laws_markClueS k n a K = vbody Try.prog (vin Try.prog TPA_7 annTPA 3) TPA_7.looks (annTPA 34) 34 [.row 0 n, .int .i64 k] [⟨.ints .i64 a, 25, .rows 3⟩] (K) := by kernel_rfl
theorem ok_laws_markClueS : OK Try.prog 34 F_laws_markClueS.spec := (vbody_ok (vin_ok TPA_7_ok annTPA 3) TPA_7_ok.looks _ _).ofG fun args m p R M h hp => by
  unfold F_laws_markClueS at h
  split at h
  · injection h with h; injection h with h1 h2; injection h2 with h2 h3; subst h1; subst h2; subst h3
    exact (congrArg At (eq_laws_markClueS _ _ _ _)).mp ⟨vc_laws_markClueS _ _ _ hp⟩
  · cases h
def TPA_8 : Tab := TPA_7.addG 34 F_laws_markClueS
theorem TPA_8_ok : TPA_8.Ok Try.prog := TPA_7_ok.addG ok_laws_markClueS
theorem eq_laws_heldClueS (k : Int) (n : Nat) (a : List Int) (K : V → List Blk → Prop) : VC_laws_heldClueS k n a K = vbody Try.prog (vin Try.prog TPA_8 annTPA 3) TPA_8.looks (annTPA 35) 35 [.row 0 n, .int .i64 k] [⟨.ints .i64 a, 25, .rows 3⟩] (K) := by kernel_rfl
theorem ok_laws_heldClueS : OK Try.prog 35 F_laws_heldClueS.spec := (vbody_ok (vin_ok TPA_8_ok annTPA 3) TPA_8_ok.looks _ _).ofFM fun args m p R h hp => by
  unfold F_laws_heldClueS at h
  split at h
  · injection h with h; injection h with h1 h2; subst h1; subst h2
    exact (congrArg At (eq_laws_heldClueS _ _ _ _)).mp ⟨vc_laws_heldClueS _ _ _ hp⟩
  · cases h
def TPA_9 : Tab := TPA_8.add 35 F_laws_heldClueS
theorem TPA_9_ok : TPA_9.Ok Try.prog := TPA_8_ok.add ok_laws_heldClueS
theorem eq_laws_markPuzzle (k : Int) (pr : List UInt8) (pw : Int) (ph : Int) (n : Nat) (a : List Int) (K : V → List Blk → Prop) : VC_laws_markPuzzle k pr pw ph n a K = vbody Try.prog (vin Try.prog TPA_9 annTPA 3) TPA_9.looks (annTPA 16) 16 [.agg [.str pr, .int .i64 pw, .int .i64 ph, .row 0 n], .int .i64 k] [⟨.ints .i64 a, 25, .rows 3⟩] (K) := by kernel_rfl
theorem ok_laws_markPuzzle : OK Try.prog 16 F_laws_markPuzzle.spec := (vbody_ok (vin_ok TPA_9_ok annTPA 3) TPA_9_ok.looks _ _).ofG fun args m p R M h hp => by
  unfold F_laws_markPuzzle at h
  split at h
  · injection h with h; injection h with h1 h2; injection h2 with h2 h3; subst h1; subst h2; subst h3
    exact (congrArg At (eq_laws_markPuzzle _ _ _ _ _ _ _)).mp ⟨vc_laws_markPuzzle _ _ _ _ _ _ hp⟩
  · cases h
def TPA_10 : Tab := TPA_9.addG 16 F_laws_markPuzzle
theorem TPA_10_ok : TPA_10.Ok Try.prog := TPA_9_ok.addG ok_laws_markPuzzle
theorem eq_laws_heldPuzzle (k : Int) (pr : List UInt8) (pw : Int) (ph : Int) (n : Nat) (a : List Int) (K : V → List Blk → Prop) : VC_laws_heldPuzzle k pr pw ph n a K = vbody Try.prog (vin Try.prog TPA_10 annTPA 3) TPA_10.looks (annTPA 17) 17 [.agg [.str pr, .int .i64 pw, .int .i64 ph, .row 0 n], .int .i64 k] [⟨.ints .i64 a, 25, .rows 3⟩] (K) := by kernel_rfl
theorem ok_laws_heldPuzzle : OK Try.prog 17 F_laws_heldPuzzle.spec := (vbody_ok (vin_ok TPA_10_ok annTPA 3) TPA_10_ok.looks _ _).ofFM fun args m p R h hp => by
  unfold F_laws_heldPuzzle at h
  split at h
  · injection h with h; injection h with h1 h2; subst h1; subst h2
    exact (congrArg At (eq_laws_heldPuzzle _ _ _ _ _ _ _)).mp ⟨vc_laws_heldPuzzle _ _ _ _ _ _ hp⟩
  · cases h
def TPA_11 : Tab := TPA_10.add 17 F_laws_heldPuzzle
theorem TPA_11_ok : TPA_11.Ok Try.prog := TPA_10_ok.add ok_laws_heldPuzzle
theorem eq_laws_szClueS (left : Int) (n : Nat) (a : List Int) (K : V → List Blk → Prop) : VC_laws_szClueS left n a K = vbody Try.prog (vin Try.prog TPA_11 annTPA 3) TPA_11.looks (annTPA 24) 24 [.row 0 n, .int .i64 left] [⟨.ints .i64 a, 23, .arg 3⟩] (K) := by kernel_rfl
theorem ok_laws_szClueS : OK Try.prog 24 F_laws_szClueS.spec := (vbody_ok (vin_ok TPA_11_ok annTPA 3) TPA_11_ok.looks _ _).ofFM fun args m p R h hp => by
  unfold F_laws_szClueS at h
  split at h
  · injection h with h; injection h with h1 h2; subst h1; subst h2
    exact (congrArg At (eq_laws_szClueS _ _ _ _)).mp ⟨vc_laws_szClueS _ _ _ hp⟩
  · cases h
def TPA_12 : Tab := TPA_11.add 24 F_laws_szClueS
theorem TPA_12_ok : TPA_12.Ok Try.prog := TPA_11_ok.add ok_laws_szClueS
theorem eq_laws_szPuzzle (left : Int) (pr : List UInt8) (pw : Int) (ph : Int) (n : Nat) (a : List Int) (K : V → List Blk → Prop) : VC_laws_szPuzzle left pr pw ph n a K = vbody Try.prog (vin Try.prog TPA_12 annTPA 3) TPA_12.looks (annTPA 9) 9 [.agg [.str pr, .int .i64 pw, .int .i64 ph, .row 0 n], .int .i64 left] [⟨.ints .i64 a, 23, .arg 3⟩] (K) := by kernel_rfl
theorem ok_laws_szPuzzle : OK Try.prog 9 F_laws_szPuzzle.spec := (vbody_ok (vin_ok TPA_12_ok annTPA 3) TPA_12_ok.looks _ _).ofFM fun args m p R h hp => by
  unfold F_laws_szPuzzle at h
  split at h
  · injection h with h; injection h with h1 h2; subst h1; subst h2
    exact (congrArg At (eq_laws_szPuzzle _ _ _ _ _ _ _)).mp ⟨vc_laws_szPuzzle _ _ _ _ _ _ hp⟩
  · cases h
def TPA_13 : Tab := TPA_12.add 9 F_laws_szPuzzle
theorem TPA_13_ok : TPA_13.Ok Try.prog := TPA_12_ok.add ok_laws_szPuzzle
theorem eq_laws_toClue (ax : Int) (ay : Int) (ak : Int) (K : V → Prop) : VC_laws_toClue ax ay ak K = vbody Try.prog (vin Try.prog TPA_13 annTPA 3) TPA_13.looks (annTPA 7) 7 [.agg [.int .i64 ax, .int .i64 ay, .int .i64 ak]] [] (fun v _ => K v) := by kernel_rfl
theorem ok_laws_toClue : OK Try.prog 7 F_laws_toClue.spec := (vbody_ok (vin_ok TPA_13_ok annTPA 3) TPA_13_ok.looks _ _).ofF fun args m p R h hp => by
  unfold F_laws_toClue at h
  split at h
  · injection h with h; injection h with h1 h2; subst h1; subst h2
    exact ⟨rfl, (congrArg At (eq_laws_toClue _ _ _ _)).mp ⟨vc_laws_toClue _ _ _ hp⟩⟩
  · cases h
def TPA_14 : Tab := TPA_13.add 7 F_laws_toClue
theorem TPA_14_ok : TPA_14.Ok Try.prog := TPA_13_ok.add ok_laws_toClue
theorem eq_laws_toClueS  (n : Nat) (a : List Int) (K : V → List Blk → Prop) : VC_laws_toClueS  n a K = vbody Try.prog (vin Try.prog TPA_14 annTPA 3) TPA_14.looks (annTPA 26) 26 [.row 0 n] [⟨.ints .i64 a, 23, .arg 3⟩] (K) := by kernel_rfl
theorem ok_laws_toClueS : OK Try.prog 26 F_laws_toClueS.spec := (vbody_ok (vin_ok TPA_14_ok annTPA 3) TPA_14_ok.looks _ _).ofG fun args m p R M h hp => by
  unfold F_laws_toClueS at h
  split at h
  · injection h with h; injection h with h1 h2; injection h2 with h2 h3; subst h1; subst h2; subst h3
    exact (congrArg At (eq_laws_toClueS _ _ _)).mp ⟨vc_laws_toClueS _ _ hp⟩
  · cases h
def TPA_15 : Tab := TPA_14.addG 26 F_laws_toClueS
theorem TPA_15_ok : TPA_15.Ok Try.prog := TPA_14_ok.addG ok_laws_toClueS
theorem eq_laws_toPuzzle  (pr : List UInt8) (pw : Int) (ph : Int) (n : Nat) (a : List Int) (K : V → List Blk → Prop) : VC_laws_toPuzzle  pr pw ph n a K = vbody Try.prog (vin Try.prog TPA_15 annTPA 3) TPA_15.looks (annTPA 11) 11 [.agg [.str pr, .int .i64 pw, .int .i64 ph, .row 0 n]] [⟨.ints .i64 a, 23, .arg 3⟩] (K) := by kernel_rfl
theorem ok_laws_toPuzzle : OK Try.prog 11 F_laws_toPuzzle.spec := (vbody_ok (vin_ok TPA_15_ok annTPA 3) TPA_15_ok.looks _ _).ofG fun args m p R M h hp => by
  unfold F_laws_toPuzzle at h
  split at h
  · injection h with h; injection h with h1 h2; injection h2 with h2 h3; subst h1; subst h2; subst h3
    exact (congrArg At (eq_laws_toPuzzle _ _ _ _ _ _)).mp ⟨vc_laws_toPuzzle _ _ _ _ _ hp⟩
  · cases h
def TPA_16 : Tab := TPA_15.addG 11 F_laws_toPuzzle
theorem TPA_16_ok : TPA_16.Ok Try.prog := TPA_15_ok.addG ok_laws_toPuzzle
theorem ok_impl_areClues : OK Try.prog 23 F_impl_areClues.spec := Go.Proofs.Ytbdhilflnfllaaa.PD.ok_areClues
def TPA_17 : Tab := TPA_16.add 23 F_impl_areClues
theorem TPA_17_ok : TPA_17.Ok Try.prog := TPA_16_ok.add ok_impl_areClues
theorem eq_spec_pzPower (s : List UInt8) (n : Int) (K : V → Prop) : VC_spec_pzPower s n K = vbody Try.prog (vin Try.prog TPA_17 annTPA 3) TPA_17.looks (annTPA 46) 46 [.str s, .int .i64 n] [] (fun v _ => K v) := by kernel_rfl
theorem ok_spec_pzPower : OK Try.prog 46 F_spec_pzPower.spec := (vbody_ok (vin_ok TPA_17_ok annTPA 3) TPA_17_ok.looks _ _).ofF fun args m p R h hp => by
  unfold F_spec_pzPower at h
  split at h
  · injection h with h; injection h with h1 h2; subst h1; subst h2
    exact ⟨rfl, (congrArg At (eq_spec_pzPower _ _ _)).mp ⟨vc_spec_pzPower _ _ hp⟩⟩
  · cases h
def TPA_18 : Tab := TPA_17.add 46 F_spec_pzPower
theorem TPA_18_ok : TPA_18.Ok Try.prog := TPA_17_ok.add ok_spec_pzPower
theorem eq_spec_pzSize (s : List UInt8) (w : Int) (h : Int) (K : V → Prop) : VC_spec_pzSize s w h K = vbody Try.prog (vin Try.prog TPA_18 annTPA 3) TPA_18.looks (annTPA 39) 39 [.str s, .int .i64 w, .int .i64 h] [] (fun v _ => K v) := by kernel_rfl
theorem ok_spec_pzSize : OK Try.prog 39 F_spec_pzSize.spec := (vbody_ok (vin_ok TPA_18_ok annTPA 3) TPA_18_ok.looks _ _).ofF fun args m p R h hp => by
  unfold F_spec_pzSize at h
  split at h
  · injection h with h; injection h with h1 h2; subst h1; subst h2
    exact ⟨rfl, (congrArg At (eq_spec_pzSize _ _ _ _)).mp ⟨vc_spec_pzSize _ _ _ hp⟩⟩
  · cases h
def TPA_19 : Tab := TPA_18.add 39 F_spec_pzSize
theorem TPA_19_ok : TPA_19.Ok Try.prog := TPA_18_ok.add ok_spec_pzSize
theorem eq_impl_isSize (w : Int) (h : Int) (K : V → Prop) : VC_impl_isSize w h K = vbody Try.prog (vin Try.prog TPA_19 annTPA 3) TPA_19.looks (annTPA 40) 40 [.int .i64 w, .int .i64 h] [] (fun v _ => K v) := by kernel_rfl
theorem ok_impl_isSize : OK Try.prog 40 F_impl_isSize.spec := (vbody_ok (vin_ok TPA_19_ok annTPA 3) TPA_19_ok.looks _ _).ofF fun args m p R h hp => by
  unfold F_impl_isSize at h
  split at h
  · injection h with h; injection h with h1 h2; subst h1; subst h2
    exact ⟨rfl, (congrArg At (eq_impl_isSize _ _ _)).mp ⟨vc_impl_isSize _ _ hp⟩⟩
  · cases h
def TPA_20 : Tab := TPA_19.add 40 F_impl_isSize
theorem TPA_20_ok : TPA_20.Ok Try.prog := TPA_19_ok.add ok_impl_isSize
theorem eq_impl_CountBoards (s : List UInt8) (w : Int) (h : Int) (K : V → Prop) : VC_impl_CountBoards s w h K = vbody Try.prog (vin Try.prog TPA_20 annTPA 3) TPA_20.looks (annTPA 27) 27 [.str s, .int .i64 w, .int .i64 h] [] (fun v _ => K v) := by kernel_rfl
theorem ok_impl_CountBoards : OK Try.prog 27 F_impl_CountBoards.spec := (vbody_ok (vin_ok TPA_20_ok annTPA 3) TPA_20_ok.looks _ _).ofF fun args m p R h hp => by
  unfold F_impl_CountBoards at h
  split at h
  · injection h with h; injection h with h1 h2; subst h1; subst h2
    exact ⟨rfl, (congrArg At (eq_impl_CountBoards _ _ _ _)).mp ⟨vc_impl_CountBoards _ _ _ hp⟩⟩
  · cases h
def TPA_21 : Tab := TPA_20.add 27 F_impl_CountBoards
theorem TPA_21_ok : TPA_21.Ok Try.prog := TPA_20_ok.add ok_impl_CountBoards
theorem eq_spec_pzClue (s : List UInt8) (cells : Int) (cx : Int) (cy : Int) (ck : Int) (K : V → Prop) : VC_spec_pzClue s cells cx cy ck K = vbody Try.prog (vin Try.prog TPA_21 annTPA 3) TPA_21.looks (annTPA 20) 20 [.str s, .int .i64 cells, .agg [.int .i64 cx, .int .i64 cy, .int .i64 ck]] [] (fun v _ => K v) := by kernel_rfl
theorem ok_spec_pzClue : OK Try.prog 20 F_spec_pzClue.spec := (vbody_ok (vin_ok TPA_21_ok annTPA 3) TPA_21_ok.looks _ _).ofF fun args m p R h hp => by
  unfold F_spec_pzClue at h
  split at h
  · injection h with h; injection h with h1 h2; subst h1; subst h2
    exact ⟨rfl, (congrArg At (eq_spec_pzClue _ _ _ _ _ _)).mp ⟨vc_spec_pzClue _ _ _ _ _ hp⟩⟩
  · cases h
def TPA_22 : Tab := TPA_21.add 20 F_spec_pzClue
theorem TPA_22_ok : TPA_22.Ok Try.prog := TPA_21_ok.add ok_spec_pzClue
theorem eq_spec_IsClue (s : List UInt8) (cells : Int) (cx : Int) (cy : Int) (ck : Int) (K : V → Prop) : VC_spec_IsClue s cells cx cy ck K = vbody Try.prog (vin Try.prog TPA_22 annTPA 3) TPA_22.looks (annTPA 6) 6 [.str s, .int .i64 cells, .agg [.int .i64 cx, .int .i64 cy, .int .i64 ck]] [] (fun v _ => K v) := by kernel_rfl
theorem ok_spec_IsClue : OK Try.prog 6 F_spec_IsClue.spec := (vbody_ok (vin_ok TPA_22_ok annTPA 3) TPA_22_ok.looks _ _).ofF fun args m p R h hp => by
  unfold F_spec_IsClue at h
  split at h
  · injection h with h; injection h with h1 h2; subst h1; subst h2
    exact ⟨rfl, (congrArg At (eq_spec_IsClue _ _ _ _ _ _)).mp ⟨vc_spec_IsClue _ _ _ _ _ hp⟩⟩
  · cases h
def TPA_23 : Tab := TPA_22.add 6 F_spec_IsClue
theorem TPA_23_ok : TPA_23.Ok Try.prog := TPA_22_ok.add ok_spec_IsClue
theorem eq_impl_IsClue (s : List UInt8) (cells : Int) (cx : Int) (cy : Int) (ck : Int) (K : V → Prop) : VC_impl_IsClue s cells cx cy ck K = vbody Try.prog (vin Try.prog TPA_23 annTPA 3) TPA_23.looks (annTPA 8) 8 [.str s, .int .i64 cells, .agg [.int .i64 cx, .int .i64 cy, .int .i64 ck]] [] (fun v _ => K v) := by kernel_rfl
theorem ok_impl_IsClue : OK Try.prog 8 F_impl_IsClue.spec := (vbody_ok (vin_ok TPA_23_ok annTPA 3) TPA_23_ok.looks _ _).ofF fun args m p R h hp => by
  unfold F_impl_IsClue at h
  split at h
  · injection h with h; injection h with h1 h2; subst h1; subst h2
    exact ⟨rfl, (congrArg At (eq_impl_IsClue _ _ _ _ _ _)).mp ⟨vc_impl_IsClue _ _ _ _ _ hp⟩⟩
  · cases h
def TPA_24 : Tab := TPA_23.add 8 F_impl_IsClue
theorem TPA_24_ok : TPA_24.Ok Try.prog := TPA_23_ok.add ok_impl_IsClue
theorem eq_spec_pzGood  (pr : List UInt8) (pw : Int) (ph : Int) (n : Nat) (a : List Int) (K : V → List Blk → Prop) : VC_spec_pzGood  pr pw ph n a K = vbody Try.prog (vin Try.prog TPA_24 annTPA 3) TPA_24.looks (annTPA 25) 25 [.agg [.str pr, .int .i64 pw, .int .i64 ph, .row 0 n]] [⟨.ints .i64 a, 25, .rows 3⟩] (K) := by kernel_rfl
theorem ok_spec_pzGood : OK Try.prog 25 F_spec_pzGood.spec := (vbody_ok (vin_ok TPA_24_ok annTPA 3) TPA_24_ok.looks _ _).ofFM fun args m p R h hp => by
  unfold F_spec_pzGood at h
  split at h
  · injection h with h; injection h with h1 h2; subst h1; subst h2
    exact (congrArg At (eq_spec_pzGood _ _ _ _ _ _)).mp ⟨vc_spec_pzGood _ _ _ _ _ hp⟩
  · cases h
def TPA_25 : Tab := TPA_24.add 25 F_spec_pzGood
theorem TPA_25_ok : TPA_25.Ok Try.prog := TPA_24_ok.add ok_spec_pzGood
theorem eq_impl_IsPuzzle  (pr : List UInt8) (pw : Int) (ph : Int) (n : Nat) (a : List Int) (K : V → List Blk → Prop) : VC_impl_IsPuzzle  pr pw ph n a K = vbody Try.prog (vin Try.prog TPA_25 annTPA 3) TPA_25.looks (annTPA 12) 12 [.agg [.str pr, .int .i64 pw, .int .i64 ph, .row 0 n]] [⟨.ints .i64 a, 25, .rows 3⟩] (K) := by kernel_rfl
theorem ok_impl_IsPuzzle : OK Try.prog 12 F_impl_IsPuzzle.spec := (vbody_ok (vin_ok TPA_25_ok annTPA 3) TPA_25_ok.looks _ _).ofFM fun args m p R h hp => by
  unfold F_impl_IsPuzzle at h
  split at h
  · injection h with h; injection h with h1 h2; subst h1; subst h2
    exact (congrArg At (eq_impl_IsPuzzle _ _ _ _ _ _)).mp ⟨vc_impl_IsPuzzle _ _ _ _ _ hp⟩
  · cases h
def TPA_26 : Tab := TPA_25.add 12 F_impl_IsPuzzle
theorem TPA_26_ok : TPA_26.Ok Try.prog := TPA_25_ok.add ok_impl_IsPuzzle
theorem eq_impl_firstClues (n : Int) (K : V → Prop) : VC_impl_firstClues n K = vbody Try.prog (vin Try.prog TPA_26 annTPA 3) TPA_26.looks (annTPA 44) 44 [.int .i64 n] [] (fun v _ => K v) := by kernel_rfl
theorem ok_impl_firstClues : OK Try.prog 44 F_impl_firstClues.spec := (vbody_ok (vin_ok TPA_26_ok annTPA 3) TPA_26_ok.looks _ _).ofF fun args m p R h hp => by
  unfold F_impl_firstClues at h
  split at h
  · injection h with h; injection h with h1 h2; subst h1; subst h2
    exact ⟨rfl, (congrArg At (eq_impl_firstClues _ _)).mp ⟨vc_impl_firstClues _ hp⟩⟩
  · cases h
def TPA_27 : Tab := TPA_26.add 44 F_impl_firstClues
theorem TPA_27_ok : TPA_27.Ok Try.prog := TPA_26_ok.add ok_impl_firstClues
theorem eq_impl_oneClue (n : Int) (K : V → Prop) : VC_impl_oneClue n K = vbody Try.prog (vin Try.prog TPA_27 annTPA 3) TPA_27.looks (annTPA 43) 43 [.int .i64 n] [] (fun v _ => K v) := by kernel_rfl
theorem ok_impl_oneClue : OK Try.prog 43 F_impl_oneClue.spec := (vbody_ok (vin_ok TPA_27_ok annTPA 3) TPA_27_ok.looks _ _).ofF fun args m p R h hp => by
  unfold F_impl_oneClue at h
  split at h
  · injection h with h; injection h with h1 h2; subst h1; subst h2
    exact ⟨rfl, (congrArg At (eq_impl_oneClue _ _)).mp ⟨vc_impl_oneClue _ hp⟩⟩
  · cases h
def TPA_28 : Tab := TPA_27.add 43 F_impl_oneClue
theorem TPA_28_ok : TPA_28.Ok Try.prog := TPA_27_ok.add ok_impl_oneClue
theorem eq_impl_clueSet_hasAll (s : Int) (o : Int) (K : V → Prop) : VC_impl_clueSet_hasAll s o K = vbody Try.prog (vin Try.prog TPA_28 annTPA 3) TPA_28.looks (annTPA 42) 42 [.int .u64 s, .int .u64 o] [] (fun v _ => K v) := by kernel_rfl
theorem ok_impl_clueSet_hasAll : OK Try.prog 42 F_impl_clueSet_hasAll.spec := (vbody_ok (vin_ok TPA_28_ok annTPA 3) TPA_28_ok.looks _ _).ofF fun args m p R h hp => by
  unfold F_impl_clueSet_hasAll at h
  split at h
  · injection h with h; injection h with h1 h2; subst h1; subst h2
    exact ⟨rfl, (congrArg At (eq_impl_clueSet_hasAll _ _ _)).mp ⟨vc_impl_clueSet_hasAll _ _ hp⟩⟩
  · cases h
def TPA_29 : Tab := TPA_28.add 42 F_impl_clueSet_hasAll
theorem TPA_29_ok : TPA_29.Ok Try.prog := TPA_28_ok.add ok_impl_clueSet_hasAll
theorem eq_impl_clueSet_without (s : Int) (n : Int) (K : V → Prop) : VC_impl_clueSet_without s n K = vbody Try.prog (vin Try.prog TPA_29 annTPA 3) TPA_29.looks (annTPA 33) 33 [.int .u64 s, .int .i64 n] [] (fun v _ => K v) := by kernel_rfl
theorem ok_impl_clueSet_without : OK Try.prog 33 F_impl_clueSet_without.spec := (vbody_ok (vin_ok TPA_29_ok annTPA 3) TPA_29_ok.looks _ _).ofF fun args m p R h hp => by
  unfold F_impl_clueSet_without at h
  split at h
  · injection h with h; injection h with h1 h2; subst h1; subst h2
    exact ⟨rfl, (congrArg At (eq_impl_clueSet_without _ _ _)).mp ⟨vc_impl_clueSet_without _ _ hp⟩⟩
  · cases h
def TPA_30 : Tab := TPA_29.add 33 F_impl_clueSet_without
theorem TPA_30_ok : TPA_30.Ok Try.prog := TPA_29_ok.add ok_impl_clueSet_without
theorem eq_impl_allClues  (pr : List UInt8) (pw : Int) (ph : Int) (n : Nat) (a : List Int) (K : V → List Blk → Prop) : VC_impl_allClues  pr pw ph n a K = vbody Try.prog (vin Try.prog TPA_30 annTPA 3) TPA_30.looks (annTPA 32) 32 [.agg [.str pr, .int .i64 pw, .int .i64 ph, .row 0 n]] [⟨.ints .i64 a, 25, .rows 3⟩] (K) := by kernel_rfl
theorem ok_impl_allClues : OK Try.prog 32 F_impl_allClues.spec := (vbody_ok (vin_ok TPA_30_ok annTPA 3) TPA_30_ok.looks _ _).ofFM fun args m p R h hp => by
  unfold F_impl_allClues at h
  split at h
  · injection h with h; injection h with h1 h2; subst h1; subst h2
    exact (congrArg At (eq_impl_allClues _ _ _ _ _ _)).mp ⟨vc_impl_allClues _ _ _ _ _ hp⟩
  · cases h
def TPA_31 : Tab := TPA_30.add 32 F_impl_allClues
theorem TPA_31_ok : TPA_31.Ok Try.prog := TPA_30_ok.add ok_impl_allClues
theorem eq_impl_withClues (m : Int) (pr : List UInt8) (pw : Int) (ph : Int) (n : Nat) (a : List Int) (K : V → List Blk → Prop) : VC_impl_withClues m pr pw ph n a K = vbody Try.prog (vin Try.prog TPA_31 annTPA 3) TPA_31.looks (annTPA 31) 31 [.agg [.str pr, .int .i64 pw, .int .i64 ph, .row 0 n], .int .u64 m] [⟨.ints .i64 a, 25, .rows 3⟩] (K) := by kernel_rfl
theorem ok_impl_withClues : OK Try.prog 31 F_impl_withClues.spec := (vbody_ok (vin_ok TPA_31_ok annTPA 3) TPA_31_ok.looks _ _).ofG fun args m p R M h hp => by
  unfold F_impl_withClues at h
  split at h
  · injection h with h; injection h with h1 h2; injection h2 with h2 h3; subst h1; subst h2; subst h3
    exact (congrArg At (eq_impl_withClues _ _ _ _ _ _ _)).mp ⟨vc_impl_withClues _ _ _ _ _ _ hp⟩
  · cases h
def TPA_32 : Tab := TPA_31.addG 31 F_impl_withClues
theorem TPA_32_ok : TPA_32.Ok Try.prog := TPA_31_ok.addG ok_impl_withClues
theorem eq_spec_pzWithout (k : Int) (n : Nat) (a : List Int) (K : V → List Blk → Prop) : VC_spec_pzWithout k n a K = vbody Try.prog (vin Try.prog TPA_32 annTPA 3) TPA_32.looks (annTPA 30) 30 [.row 0 n, .int .i64 k] [⟨.ints .i64 a, 25, .rows 3⟩] (K) := by kernel_rfl
theorem ok_spec_pzWithout : OK Try.prog 30 F_spec_pzWithout.spec := (vbody_ok (vin_ok TPA_32_ok annTPA 3) TPA_32_ok.looks _ _).ofG fun args m p R M h hp => by
  unfold F_spec_pzWithout at h
  split at h
  · injection h with h; injection h with h1 h2; injection h2 with h2 h3; subst h1; subst h2; subst h3
    exact (congrArg At (eq_spec_pzWithout _ _ _ _)).mp ⟨vc_spec_pzWithout _ _ _ hp⟩
  · cases h
def TPA_33 : Tab := TPA_32.addG 30 F_spec_pzWithout
theorem TPA_33_ok : TPA_33.Ok Try.prog := TPA_32_ok.addG ok_spec_pzWithout
theorem eq_spec_DropClue (k : Int) (pr : List UInt8) (pw : Int) (ph : Int) (n : Nat) (a : List Int) (K : V → List Blk → Prop) : VC_spec_DropClue k pr pw ph n a K = vbody Try.prog (vin Try.prog TPA_33 annTPA 3) TPA_33.looks (annTPA 14) 14 [.agg [.str pr, .int .i64 pw, .int .i64 ph, .row 0 n], .int .i64 k] [⟨.ints .i64 a, 25, .rows 3⟩] (K) := by kernel_rfl
theorem ok_spec_DropClue : OK Try.prog 14 F_spec_DropClue.spec := (vbody_ok (vin_ok TPA_33_ok annTPA 3) TPA_33_ok.looks _ _).ofG fun args m p R M h hp => by
  unfold F_spec_DropClue at h
  split at h
  · injection h with h; injection h with h1 h2; injection h2 with h2 h3; subst h1; subst h2; subst h3
    exact (congrArg At (eq_spec_DropClue _ _ _ _ _ _ _)).mp ⟨vc_spec_DropClue _ _ _ _ _ _ hp⟩
  · cases h
def TPA_34 : Tab := TPA_33.addG 14 F_spec_DropClue
theorem TPA_34_ok : TPA_34.Ok Try.prog := TPA_33_ok.addG ok_spec_DropClue
theorem eq_impl_DropClue (k : Int) (pr : List UInt8) (pw : Int) (ph : Int) (n : Nat) (a : List Int) (K : V → List Blk → Prop) : VC_impl_DropClue k pr pw ph n a K = vbody Try.prog (vin Try.prog TPA_34 annTPA 3) TPA_34.looks (annTPA 15) 15 [.agg [.str pr, .int .i64 pw, .int .i64 ph, .row 0 n], .int .i64 k] [⟨.ints .i64 a, 25, .rows 3⟩] (K) := by kernel_rfl
theorem ok_impl_DropClue : OK Try.prog 15 F_impl_DropClue.spec := (vbody_ok (vin_ok TPA_34_ok annTPA 3) TPA_34_ok.looks _ _).ofG fun args m p R M h hp => by
  unfold F_impl_DropClue at h
  split at h
  · injection h with h; injection h with h1 h2; injection h2 with h2 h3; subst h1; subst h2; subst h3
    exact (congrArg At (eq_impl_DropClue _ _ _ _ _ _ _)).mp ⟨vc_impl_DropClue _ _ _ _ _ _ hp⟩
  · cases h
def TPA_35 : Tab := TPA_34.addG 15 F_impl_DropClue
theorem TPA_35_ok : TPA_35.Ok Try.prog := TPA_34_ok.addG ok_impl_DropClue
def TPA : Tab := TPA_35
theorem TPA_ok : TPA.Ok Try.prog := TPA_35_ok
end Go.Proofs.Ytbdhilflnfllaaa
