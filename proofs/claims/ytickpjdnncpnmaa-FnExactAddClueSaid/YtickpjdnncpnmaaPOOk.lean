/- The contracts of this chapter. -/
import Derived.Test.YtickpjdnncpnmaaPDDoor
import Derived.Test.YtickpjdnncpnmaaProg
import Derived.Test.YtickpjdnncpnmaaPOPf
import Derived.KernelRfl
namespace Go.Proofs.Ytickpjdnncpnmaa
open Go Go.Vi
set_option linter.unusedVariables false
def annTPO : FuncId -> Nat -> St -> Option Ann := fun f => if f = 3 then ann_laws_FnExactAddClue else if f = 51 then ann_spec_woRule else if f = 41 then ann_impl_IsRule else if f = 28 then ann_laws_eqClueS else if f = 29 then ann_laws_markClueS else if f = 30 then ann_laws_heldClueS else if f = 25 then ann_laws_toClueS else if f = 52 then ann_spec_pzPower else if f = 39 then ann_impl_CountBoards else if f = 22 then ann_spec_pzGood else if f = 7 then ann_spec_AddClue else if f = 10 then ann_impl_AddClue else (fun _ _ => none)
def TPO_0 : Tab := Tab.none
theorem TPO_0_ok : TPO_0.Ok Try.prog := Tab.none_ok
theorem eq_spec_l1In (n : Int) (lo : Int) (hi : Int) (K : V -> Prop) : VC_spec_l1In n lo hi K = vbody Try.prog (vin Try.prog TPO_0 annTPO 3) TPO_0.looks (annTPO 38) 38 [.int .i64 n, .int .i64 lo, .int .i64 hi] [] (fun v _ => K v) := by kernel_rfl
theorem ok_spec_l1In : OK Try.prog 38 F_spec_l1In.spec := (vbody_ok (vin_ok TPO_0_ok annTPO 3) TPO_0_ok.looks _ _).ofF fun args m p R h hp => by
 unfold F_spec_l1In at h
 split at h
 ·injection h with h; injection h with h1 h2; subst h1; subst h2
  exact ⟨rfl, (congrArg At (eq_spec_l1In _ _ _ _)).mp ⟨vc_spec_l1In _ _ _ hp⟩⟩
 ·cases h
def TPO_1 : Tab := TPO_0.add 38 F_spec_l1In
theorem TPO_1_ok : TPO_1.Ok Try.prog := TPO_0_ok.add ok_spec_l1In
theorem eq_impl_within (n : Int) (lo : Int) (hi : Int) (K : V -> Prop) : VC_impl_within n lo hi K = vbody Try.prog (vin Try.prog TPO_1 annTPO 3) TPO_1.looks (annTPO 42) 42 [.int .i64 n, .int .i64 lo, .int .i64 hi] [] (fun v _ => K v) := by kernel_rfl
theorem ok_impl_within : OK Try.prog 42 F_impl_within.spec := (vbody_ok (vin_ok TPO_1_ok annTPO 3) TPO_1_ok.looks _ _).ofF fun args m p R h hp => by
 unfold F_impl_within at h
 split at h
 ·injection h with h; injection h with h1 h2; subst h1; subst h2
  exact ⟨rfl, (congrArg At (eq_impl_within _ _ _ _)).mp ⟨vc_impl_within _ _ _ hp⟩⟩
 ·cases h
def TPO_2 : Tab := TPO_1.add 42 F_impl_within
theorem TPO_2_ok : TPO_2.Ok Try.prog := TPO_1_ok.add ok_impl_within
theorem eq_spec_woRule (s : List UInt8) (K : V -> Prop) : VC_spec_woRule s K = vbody Try.prog (vin Try.prog TPO_2 annTPO 3) TPO_2.looks (annTPO 51) 51 [.str s] [] (fun v _ => K v) := by kernel_rfl
theorem ok_spec_woRule : OK Try.prog 51 F_spec_woRule.spec := (vbody_ok (vin_ok TPO_2_ok annTPO 3) TPO_2_ok.looks _ _).ofF fun args m p R h hp => by
 unfold F_spec_woRule at h
 split at h
 ·injection h with h; injection h with h1 h2; subst h1; subst h2
  exact ⟨rfl, (congrArg At (eq_spec_woRule _ _)).mp ⟨vc_spec_woRule _ hp⟩⟩
 ·cases h
def TPO_3 : Tab := TPO_2.add 51 F_spec_woRule
theorem TPO_3_ok : TPO_3.Ok Try.prog := TPO_2_ok.add ok_spec_woRule
theorem eq_impl_IsRule (s : List UInt8) (K : V -> Prop) : VC_impl_IsRule s K = vbody Try.prog (vin Try.prog TPO_3 annTPO 3) TPO_3.looks (annTPO 41) 41 [.str s] [] (fun v _ => K v) := by kernel_rfl
theorem ok_impl_IsRule : OK Try.prog 41 F_impl_IsRule.spec := (vbody_ok (vin_ok TPO_3_ok annTPO 3) TPO_3_ok.looks _ _).ofF fun args m p R h hp => by
 unfold F_impl_IsRule at h
 split at h
 ·injection h with h; injection h with h1 h2; subst h1; subst h2
  exact ⟨rfl, (congrArg At (eq_impl_IsRule _ _)).mp ⟨vc_impl_IsRule _ hp⟩⟩
 ·cases h
def TPO_4 : Tab := TPO_3.add 41 F_impl_IsRule
theorem TPO_4_ok : TPO_4.Ok Try.prog := TPO_3_ok.add ok_impl_IsRule
theorem eq_laws_eqClue (ax : Int) (ay : Int) (ak : Int) (bx : Int) (by_ : Int) (bk : Int) (K : V -> Prop) : VC_laws_eqClue ax ay ak bx by_ bk K = vbody Try.prog (vin Try.prog TPO_4 annTPO 3) TPO_4.looks (annTPO 43) 43 [.agg [.int .i64 ax, .int .i64 ay, .int .i64 ak], .agg [.int .i64 bx, .int .i64 by_, .int .i64 bk]] [] (fun v _ => K v) := by kernel_rfl
theorem ok_laws_eqClue : OK Try.prog 43 F_laws_eqClue.spec := (vbody_ok (vin_ok TPO_4_ok annTPO 3) TPO_4_ok.looks _ _).ofF fun args m p R h hp => by
 unfold F_laws_eqClue at h
 split at h
 ·injection h with h; injection h with h1 h2; subst h1; subst h2
  exact ⟨rfl, (congrArg At (eq_laws_eqClue _ _ _ _ _ _ _)).mp ⟨vc_laws_eqClue _ _ _ _ _ _ hp⟩⟩
 ·cases h
def TPO_5 : Tab := TPO_4.add 43 F_laws_eqClue
theorem TPO_5_ok : TPO_5.Ok Try.prog := TPO_4_ok.add ok_laws_eqClue
theorem eq_laws_eqClueS  (n : Nat) (m : Nat) (a : List Int) (b : List Int) (K : V -> List Blk -> Prop) : VC_laws_eqClueS  n m a b K = vbody Try.prog (vin Try.prog TPO_5 annTPO 3) TPO_5.looks (annTPO 28) 28 [.row 0 n, .row 1 m] [⟨.ints .i64 a, 34, .rows 3⟩, ⟨.ints .i64 b, 34, .rows 3⟩] (K) := by kernel_rfl
theorem ok_laws_eqClueS : OK Try.prog 28 F_laws_eqClueS.spec := (vbody_ok (vin_ok TPO_5_ok annTPO 3) TPO_5_ok.looks _ _).ofFM fun args m p R h hp => by
 unfold F_laws_eqClueS at h
 split at h
 ·injection h with h; injection h with h1 h2; subst h1; subst h2
  exact (congrArg At (eq_laws_eqClueS _ _ _ _ _)).mp ⟨vc_laws_eqClueS _ _ _ _ hp⟩
 ·cases h
def TPO_6 : Tab := TPO_5.add 28 F_laws_eqClueS
theorem TPO_6_ok : TPO_6.Ok Try.prog := TPO_5_ok.add ok_laws_eqClueS
theorem eq_laws_eqPuzzle  (ar : List UInt8) (aw : Int) (ah : Int) (cr : List UInt8) (cw : Int) (ch : Int) (n : Nat) (m : Nat) (a : List Int) (b : List Int) (K : V -> List Blk -> Prop) : VC_laws_eqPuzzle  ar aw ah cr cw ch n m a b K = vbody Try.prog (vin Try.prog TPO_6 annTPO 3) TPO_6.looks (annTPO 11) 11 [.agg [.str ar, .int .i64 aw, .int .i64 ah, .row 0 n], .agg [.str cr, .int .i64 cw, .int .i64 ch, .row 1 m]] [⟨.ints .i64 a, 34, .rows 3⟩, ⟨.ints .i64 b, 34, .rows 3⟩] (K) := by kernel_rfl
theorem ok_laws_eqPuzzle : OK Try.prog 11 F_laws_eqPuzzle.spec := (vbody_ok (vin_ok TPO_6_ok annTPO 3) TPO_6_ok.looks _ _).ofFM fun args m p R h hp => by
 unfold F_laws_eqPuzzle at h
 split at h
 ·injection h with h; injection h with h1 h2; subst h1; subst h2
  exact (congrArg At (eq_laws_eqPuzzle _ _ _ _ _ _ _ _ _ _ _)).mp ⟨vc_laws_eqPuzzle _ _ _ _ _ _ _ _ _ _ hp⟩
 ·cases h
def TPO_7 : Tab := TPO_6.add 11 F_laws_eqPuzzle
theorem TPO_7_ok : TPO_7.Ok Try.prog := TPO_6_ok.add ok_laws_eqPuzzle
theorem eq_laws_markClueS (k : Int) (n : Nat) (a : List Int) (K : V -> List Blk -> Prop) : VC_laws_markClueS k n a K = vbody Try.prog (vin Try.prog TPO_7 annTPO 3) TPO_7.looks (annTPO 29) 29 [.row 0 n, .int .i64 k] [⟨.ints .i64 a, 34, .rows 3⟩] (K) := by kernel_rfl
theorem ok_laws_markClueS : OK Try.prog 29 F_laws_markClueS.spec := (vbody_ok (vin_ok TPO_7_ok annTPO 3) TPO_7_ok.looks _ _).ofG fun args m p R M h hp => by
 unfold F_laws_markClueS at h
 split at h
 ·injection h with h; injection h with h1 h2; injection h2 with h2 h3; subst h1; subst h2; subst h3
  exact (congrArg At (eq_laws_markClueS _ _ _ _)).mp ⟨vc_laws_markClueS _ _ _ hp⟩
 ·cases h
def TPO_8 : Tab := TPO_7.addG 29 F_laws_markClueS
theorem TPO_8_ok : TPO_8.Ok Try.prog := TPO_7_ok.addG ok_laws_markClueS
theorem eq_laws_heldClueS (k : Int) (n : Nat) (a : List Int) (K : V -> List Blk -> Prop) : VC_laws_heldClueS k n a K = vbody Try.prog (vin Try.prog TPO_8 annTPO 3) TPO_8.looks (annTPO 30) 30 [.row 0 n, .int .i64 k] [⟨.ints .i64 a, 34, .rows 3⟩] (K) := by kernel_rfl
theorem ok_laws_heldClueS : OK Try.prog 30 F_laws_heldClueS.spec := (vbody_ok (vin_ok TPO_8_ok annTPO 3) TPO_8_ok.looks _ _).ofFM fun args m p R h hp => by
 unfold F_laws_heldClueS at h
 split at h
 ·injection h with h; injection h with h1 h2; subst h1; subst h2
  exact (congrArg At (eq_laws_heldClueS _ _ _ _)).mp ⟨vc_laws_heldClueS _ _ _ hp⟩
 ·cases h
def TPO_9 : Tab := TPO_8.add 30 F_laws_heldClueS
theorem TPO_9_ok : TPO_9.Ok Try.prog := TPO_8_ok.add ok_laws_heldClueS
theorem eq_laws_markPuzzle (k : Int) (pr : List UInt8) (pw : Int) (ph : Int) (n : Nat) (a : List Int) (K : V -> List Blk -> Prop) : VC_laws_markPuzzle k pr pw ph n a K = vbody Try.prog (vin Try.prog TPO_9 annTPO 3) TPO_9.looks (annTPO 12) 12 [.agg [.str pr, .int .i64 pw, .int .i64 ph, .row 0 n], .int .i64 k] [⟨.ints .i64 a, 34, .rows 3⟩] (K) := by kernel_rfl
theorem ok_laws_markPuzzle : OK Try.prog 12 F_laws_markPuzzle.spec := (vbody_ok (vin_ok TPO_9_ok annTPO 3) TPO_9_ok.looks _ _).ofG fun args m p R M h hp => by
 unfold F_laws_markPuzzle at h
 split at h
 ·injection h with h; injection h with h1 h2; injection h2 with h2 h3; subst h1; subst h2; subst h3
  exact (congrArg At (eq_laws_markPuzzle _ _ _ _ _ _ _)).mp ⟨vc_laws_markPuzzle _ _ _ _ _ _ hp⟩
 ·cases h
def TPO_10 : Tab := TPO_9.addG 12 F_laws_markPuzzle
theorem TPO_10_ok : TPO_10.Ok Try.prog := TPO_9_ok.addG ok_laws_markPuzzle
theorem eq_laws_heldPuzzle (k : Int) (pr : List UInt8) (pw : Int) (ph : Int) (n : Nat) (a : List Int) (K : V -> List Blk -> Prop) : VC_laws_heldPuzzle k pr pw ph n a K = vbody Try.prog (vin Try.prog TPO_10 annTPO 3) TPO_10.looks (annTPO 13) 13 [.agg [.str pr, .int .i64 pw, .int .i64 ph, .row 0 n], .int .i64 k] [⟨.ints .i64 a, 34, .rows 3⟩] (K) := by kernel_rfl
theorem ok_laws_heldPuzzle : OK Try.prog 13 F_laws_heldPuzzle.spec := (vbody_ok (vin_ok TPO_10_ok annTPO 3) TPO_10_ok.looks _ _).ofFM fun args m p R h hp => by
 unfold F_laws_heldPuzzle at h
 split at h
 ·injection h with h; injection h with h1 h2; subst h1; subst h2
  exact (congrArg At (eq_laws_heldPuzzle _ _ _ _ _ _ _)).mp ⟨vc_laws_heldPuzzle _ _ _ _ _ _ hp⟩
 ·cases h
def TPO_11 : Tab := TPO_10.add 13 F_laws_heldPuzzle
theorem TPO_11_ok : TPO_11.Ok Try.prog := TPO_10_ok.add ok_laws_heldPuzzle
theorem eq_laws_szClueS (left : Int) (n : Nat) (a : List Int) (K : V -> List Blk -> Prop) : VC_laws_szClueS left n a K = vbody Try.prog (vin Try.prog TPO_11 annTPO 3) TPO_11.looks (annTPO 21) 21 [.row 0 n, .int .i64 left] [⟨.ints .i64 a, 26, .arg 3⟩] (K) := by kernel_rfl
theorem ok_laws_szClueS : OK Try.prog 21 F_laws_szClueS.spec := (vbody_ok (vin_ok TPO_11_ok annTPO 3) TPO_11_ok.looks _ _).ofFM fun args m p R h hp => by
 unfold F_laws_szClueS at h
 split at h
 ·injection h with h; injection h with h1 h2; subst h1; subst h2
  exact (congrArg At (eq_laws_szClueS _ _ _ _)).mp ⟨vc_laws_szClueS _ _ _ hp⟩
 ·cases h
def TPO_12 : Tab := TPO_11.add 21 F_laws_szClueS
theorem TPO_12_ok : TPO_12.Ok Try.prog := TPO_11_ok.add ok_laws_szClueS
theorem eq_laws_szPuzzle (left : Int) (pr : List UInt8) (pw : Int) (ph : Int) (n : Nat) (a : List Int) (K : V -> List Blk -> Prop) : VC_laws_szPuzzle left pr pw ph n a K = vbody Try.prog (vin Try.prog TPO_12 annTPO 3) TPO_12.looks (annTPO 6) 6 [.agg [.str pr, .int .i64 pw, .int .i64 ph, .row 0 n], .int .i64 left] [⟨.ints .i64 a, 26, .arg 3⟩] (K) := by kernel_rfl
theorem ok_laws_szPuzzle : OK Try.prog 6 F_laws_szPuzzle.spec := (vbody_ok (vin_ok TPO_12_ok annTPO 3) TPO_12_ok.looks _ _).ofFM fun args m p R h hp => by
 unfold F_laws_szPuzzle at h
 split at h
 ·injection h with h; injection h with h1 h2; subst h1; subst h2
  exact (congrArg At (eq_laws_szPuzzle _ _ _ _ _ _ _)).mp ⟨vc_laws_szPuzzle _ _ _ _ _ _ hp⟩
 ·cases h
def TPO_13 : Tab := TPO_12.add 6 F_laws_szPuzzle
theorem TPO_13_ok : TPO_13.Ok Try.prog := TPO_12_ok.add ok_laws_szPuzzle
theorem eq_laws_toClue (ax : Int) (ay : Int) (ak : Int) (K : V -> Prop) : VC_laws_toClue ax ay ak K = vbody Try.prog (vin Try.prog TPO_13 annTPO 3) TPO_13.looks (annTPO 9) 9 [.agg [.int .i64 ax, .int .i64 ay, .int .i64 ak]] [] (fun v _ => K v) := by kernel_rfl
theorem ok_laws_toClue : OK Try.prog 9 F_laws_toClue.spec := (vbody_ok (vin_ok TPO_13_ok annTPO 3) TPO_13_ok.looks _ _).ofF fun args m p R h hp => by
 unfold F_laws_toClue at h
 split at h
 ·injection h with h; injection h with h1 h2; subst h1; subst h2
  exact ⟨rfl, (congrArg At (eq_laws_toClue _ _ _ _)).mp ⟨vc_laws_toClue _ _ _ hp⟩⟩
 ·cases h
def TPO_14 : Tab := TPO_13.add 9 F_laws_toClue
theorem TPO_14_ok : TPO_14.Ok Try.prog := TPO_13_ok.add ok_laws_toClue
theorem eq_laws_toClueS  (n : Nat) (a : List Int) (K : V -> List Blk -> Prop) : VC_laws_toClueS  n a K = vbody Try.prog (vin Try.prog TPO_14 annTPO 3) TPO_14.looks (annTPO 25) 25 [.row 0 n] [⟨.ints .i64 a, 26, .arg 3⟩] (K) := by kernel_rfl
theorem ok_laws_toClueS : OK Try.prog 25 F_laws_toClueS.spec := (vbody_ok (vin_ok TPO_14_ok annTPO 3) TPO_14_ok.looks _ _).ofG fun args m p R M h hp => by
 unfold F_laws_toClueS at h
 split at h
 ·injection h with h; injection h with h1 h2; injection h2 with h2 h3; subst h1; subst h2; subst h3
  exact (congrArg At (eq_laws_toClueS _ _ _)).mp ⟨vc_laws_toClueS _ _ hp⟩
 ·cases h
def TPO_15 : Tab := TPO_14.addG 25 F_laws_toClueS
theorem TPO_15_ok : TPO_15.Ok Try.prog := TPO_14_ok.addG ok_laws_toClueS
theorem eq_laws_toPuzzle  (pr : List UInt8) (pw : Int) (ph : Int) (n : Nat) (a : List Int) (K : V -> List Blk -> Prop) : VC_laws_toPuzzle  pr pw ph n a K = vbody Try.prog (vin Try.prog TPO_15 annTPO 3) TPO_15.looks (annTPO 8) 8 [.agg [.str pr, .int .i64 pw, .int .i64 ph, .row 0 n]] [⟨.ints .i64 a, 26, .arg 3⟩] (K) := by kernel_rfl
theorem ok_laws_toPuzzle : OK Try.prog 8 F_laws_toPuzzle.spec := (vbody_ok (vin_ok TPO_15_ok annTPO 3) TPO_15_ok.looks _ _).ofG fun args m p R M h hp => by
 unfold F_laws_toPuzzle at h
 split at h
 ·injection h with h; injection h with h1 h2; injection h2 with h2 h3; subst h1; subst h2; subst h3
  exact (congrArg At (eq_laws_toPuzzle _ _ _ _ _ _)).mp ⟨vc_laws_toPuzzle _ _ _ _ _ hp⟩
 ·cases h
def TPO_16 : Tab := TPO_15.addG 8 F_laws_toPuzzle
theorem TPO_16_ok : TPO_16.Ok Try.prog := TPO_15_ok.addG ok_laws_toPuzzle
theorem ok_impl_areClues : OK Try.prog 40 F_impl_areClues.spec := Go.Proofs.Ytickpjdnncpnmaa.PD.ok_areClues
def TPO_17 : Tab := TPO_16.add 40 F_impl_areClues
theorem TPO_17_ok : TPO_17.Ok Try.prog := TPO_16_ok.add ok_impl_areClues
theorem eq_spec_pzPower (s : List UInt8) (n : Int) (K : V -> Prop) : VC_spec_pzPower s n K = vbody Try.prog (vin Try.prog TPO_17 annTPO 3) TPO_17.looks (annTPO 52) 52 [.str s, .int .i64 n] [] (fun v _ => K v) := by kernel_rfl
theorem ok_spec_pzPower : OK Try.prog 52 F_spec_pzPower.spec := (vbody_ok (vin_ok TPO_17_ok annTPO 3) TPO_17_ok.looks _ _).ofF fun args m p R h hp => by
 unfold F_spec_pzPower at h
 split at h
 ·injection h with h; injection h with h1 h2; subst h1; subst h2
  exact ⟨rfl, (congrArg At (eq_spec_pzPower _ _ _)).mp ⟨vc_spec_pzPower _ _ hp⟩⟩
 ·cases h
def TPO_18 : Tab := TPO_17.add 52 F_spec_pzPower
theorem TPO_18_ok : TPO_18.Ok Try.prog := TPO_17_ok.add ok_spec_pzPower
theorem eq_spec_pzSize (s : List UInt8) (w : Int) (h : Int) (K : V -> Prop) : VC_spec_pzSize s w h K = vbody Try.prog (vin Try.prog TPO_18 annTPO 3) TPO_18.looks (annTPO 37) 37 [.str s, .int .i64 w, .int .i64 h] [] (fun v _ => K v) := by kernel_rfl
theorem ok_spec_pzSize : OK Try.prog 37 F_spec_pzSize.spec := (vbody_ok (vin_ok TPO_18_ok annTPO 3) TPO_18_ok.looks _ _).ofF fun args m p R h hp => by
 unfold F_spec_pzSize at h
 split at h
 ·injection h with h; injection h with h1 h2; subst h1; subst h2
  exact ⟨rfl, (congrArg At (eq_spec_pzSize _ _ _ _)).mp ⟨vc_spec_pzSize _ _ _ hp⟩⟩
 ·cases h
def TPO_19 : Tab := TPO_18.add 37 F_spec_pzSize
theorem TPO_19_ok : TPO_19.Ok Try.prog := TPO_18_ok.add ok_spec_pzSize
theorem eq_impl_isSize (w : Int) (h : Int) (K : V -> Prop) : VC_impl_isSize w h K = vbody Try.prog (vin Try.prog TPO_19 annTPO 3) TPO_19.looks (annTPO 46) 46 [.int .i64 w, .int .i64 h] [] (fun v _ => K v) := by kernel_rfl
theorem ok_impl_isSize : OK Try.prog 46 F_impl_isSize.spec := (vbody_ok (vin_ok TPO_19_ok annTPO 3) TPO_19_ok.looks _ _).ofF fun args m p R h hp => by
 unfold F_impl_isSize at h
 split at h
 ·injection h with h; injection h with h1 h2; subst h1; subst h2
  exact ⟨rfl, (congrArg At (eq_impl_isSize _ _ _)).mp ⟨vc_impl_isSize _ _ hp⟩⟩
 ·cases h
def TPO_20 : Tab := TPO_19.add 46 F_impl_isSize
theorem TPO_20_ok : TPO_20.Ok Try.prog := TPO_19_ok.add ok_impl_isSize
theorem eq_impl_CountBoards (s : List UInt8) (w : Int) (h : Int) (K : V -> Prop) : VC_impl_CountBoards s w h K = vbody Try.prog (vin Try.prog TPO_20 annTPO 3) TPO_20.looks (annTPO 39) 39 [.str s, .int .i64 w, .int .i64 h] [] (fun v _ => K v) := by kernel_rfl
theorem ok_impl_CountBoards : OK Try.prog 39 F_impl_CountBoards.spec := (vbody_ok (vin_ok TPO_20_ok annTPO 3) TPO_20_ok.looks _ _).ofF fun args m p R h hp => by
 unfold F_impl_CountBoards at h
 split at h
 ·injection h with h; injection h with h1 h2; subst h1; subst h2
  exact ⟨rfl, (congrArg At (eq_impl_CountBoards _ _ _ _)).mp ⟨vc_impl_CountBoards _ _ _ hp⟩⟩
 ·cases h
def TPO_21 : Tab := TPO_20.add 39 F_impl_CountBoards
theorem TPO_21_ok : TPO_21.Ok Try.prog := TPO_20_ok.add ok_impl_CountBoards
theorem eq_spec_pzClue (s : List UInt8) (cells : Int) (cx : Int) (cy : Int) (ck : Int) (K : V -> Prop) : VC_spec_pzClue s cells cx cy ck K = vbody Try.prog (vin Try.prog TPO_21 annTPO 3) TPO_21.looks (annTPO 23) 23 [.str s, .int .i64 cells, .agg [.int .i64 cx, .int .i64 cy, .int .i64 ck]] [] (fun v _ => K v) := by kernel_rfl
theorem ok_spec_pzClue : OK Try.prog 23 F_spec_pzClue.spec := (vbody_ok (vin_ok TPO_21_ok annTPO 3) TPO_21_ok.looks _ _).ofF fun args m p R h hp => by
 unfold F_spec_pzClue at h
 split at h
 ·injection h with h; injection h with h1 h2; subst h1; subst h2
  exact ⟨rfl, (congrArg At (eq_spec_pzClue _ _ _ _ _ _)).mp ⟨vc_spec_pzClue _ _ _ _ _ hp⟩⟩
 ·cases h
def TPO_22 : Tab := TPO_21.add 23 F_spec_pzClue
theorem TPO_22_ok : TPO_22.Ok Try.prog := TPO_21_ok.add ok_spec_pzClue
theorem eq_impl_IsClue (s : List UInt8) (cells : Int) (cx : Int) (cy : Int) (ck : Int) (K : V -> Prop) : VC_impl_IsClue s cells cx cy ck K = vbody Try.prog (vin Try.prog TPO_22 annTPO 3) TPO_22.looks (annTPO 27) 27 [.str s, .int .i64 cells, .agg [.int .i64 cx, .int .i64 cy, .int .i64 ck]] [] (fun v _ => K v) := by kernel_rfl
theorem ok_impl_IsClue : OK Try.prog 27 F_impl_IsClue.spec := (vbody_ok (vin_ok TPO_22_ok annTPO 3) TPO_22_ok.looks _ _).ofF fun args m p R h hp => by
 unfold F_impl_IsClue at h
 split at h
 ·injection h with h; injection h with h1 h2; subst h1; subst h2
  exact ⟨rfl, (congrArg At (eq_impl_IsClue _ _ _ _ _ _)).mp ⟨vc_impl_IsClue _ _ _ _ _ hp⟩⟩
 ·cases h
def TPO_23 : Tab := TPO_22.add 27 F_impl_IsClue
theorem TPO_23_ok : TPO_23.Ok Try.prog := TPO_22_ok.add ok_impl_IsClue
theorem eq_spec_pzGood  (pr : List UInt8) (pw : Int) (ph : Int) (n : Nat) (a : List Int) (K : V -> List Blk -> Prop) : VC_spec_pzGood  pr pw ph n a K = vbody Try.prog (vin Try.prog TPO_23 annTPO 3) TPO_23.looks (annTPO 22) 22 [.agg [.str pr, .int .i64 pw, .int .i64 ph, .row 0 n]] [⟨.ints .i64 a, 34, .rows 3⟩] (K) := by kernel_rfl
theorem ok_spec_pzGood : OK Try.prog 22 F_spec_pzGood.spec := (vbody_ok (vin_ok TPO_23_ok annTPO 3) TPO_23_ok.looks _ _).ofFM fun args m p R h hp => by
 unfold F_spec_pzGood at h
 split at h
 ·injection h with h; injection h with h1 h2; subst h1; subst h2
  exact (congrArg At (eq_spec_pzGood _ _ _ _ _ _)).mp ⟨vc_spec_pzGood _ _ _ _ _ hp⟩
 ·cases h
def TPO_24 : Tab := TPO_23.add 22 F_spec_pzGood
theorem TPO_24_ok : TPO_24.Ok Try.prog := TPO_23_ok.add ok_spec_pzGood
theorem eq_impl_IsPuzzle  (pr : List UInt8) (pw : Int) (ph : Int) (n : Nat) (a : List Int) (K : V -> List Blk -> Prop) : VC_impl_IsPuzzle  pr pw ph n a K = vbody Try.prog (vin Try.prog TPO_24 annTPO 3) TPO_24.looks (annTPO 26) 26 [.agg [.str pr, .int .i64 pw, .int .i64 ph, .row 0 n]] [⟨.ints .i64 a, 34, .rows 3⟩] (K) := by kernel_rfl
theorem ok_impl_IsPuzzle : OK Try.prog 26 F_impl_IsPuzzle.spec := (vbody_ok (vin_ok TPO_24_ok annTPO 3) TPO_24_ok.looks _ _).ofFM fun args m p R h hp => by
 unfold F_impl_IsPuzzle at h
 split at h
 ·injection h with h; injection h with h1 h2; subst h1; subst h2
  exact (congrArg At (eq_impl_IsPuzzle _ _ _ _ _ _)).mp ⟨vc_impl_IsPuzzle _ _ _ _ _ hp⟩
 ·cases h
def TPO_25 : Tab := TPO_24.add 26 F_impl_IsPuzzle
theorem TPO_25_ok : TPO_25.Ok Try.prog := TPO_24_ok.add ok_impl_IsPuzzle
theorem eq_spec_AddClue (cx : Int) (cy : Int) (ck : Int) (pr : List UInt8) (pw : Int) (ph : Int) (n : Nat) (a : List Int) (K : V -> List Blk -> Prop) : VC_spec_AddClue cx cy ck pr pw ph n a K = vbody Try.prog (vin Try.prog TPO_25 annTPO 3) TPO_25.looks (annTPO 7) 7 [.agg [.str pr, .int .i64 pw, .int .i64 ph, .row 0 n], .agg [.int .i64 cx, .int .i64 cy, .int .i64 ck]] [⟨.ints .i64 a, 34, .rows 3⟩] (K) := by kernel_rfl
theorem ok_spec_AddClue : OK Try.prog 7 F_spec_AddClue.spec := (vbody_ok (vin_ok TPO_25_ok annTPO 3) TPO_25_ok.looks _ _).ofG fun args m p R M h hp => by
 unfold F_spec_AddClue at h
 split at h
 ·injection h with h; injection h with h1 h2; injection h2 with h2 h3; subst h1; subst h2; subst h3
  exact (congrArg At (eq_spec_AddClue _ _ _ _ _ _ _ _ _)).mp ⟨vc_spec_AddClue _ _ _ _ _ _ _ _ hp⟩
 ·cases h
def TPO_26 : Tab := TPO_25.addG 7 F_spec_AddClue
theorem TPO_26_ok : TPO_26.Ok Try.prog := TPO_25_ok.addG ok_spec_AddClue
theorem eq_impl_AddClue (cx : Int) (cy : Int) (ck : Int) (pr : List UInt8) (pw : Int) (ph : Int) (n : Nat) (a : List Int) (K : V -> List Blk -> Prop) : VC_impl_AddClue cx cy ck pr pw ph n a K = vbody Try.prog (vin Try.prog TPO_26 annTPO 3) TPO_26.looks (annTPO 10) 10 [.agg [.str pr, .int .i64 pw, .int .i64 ph, .row 0 n], .agg [.int .i64 cx, .int .i64 cy, .int .i64 ck]] [⟨.ints .i64 a, 34, .rows 3⟩] (K) := by kernel_rfl
theorem ok_impl_AddClue : OK Try.prog 10 F_impl_AddClue.spec := (vbody_ok (vin_ok TPO_26_ok annTPO 3) TPO_26_ok.looks _ _).ofG fun args m p R M h hp => by
 unfold F_impl_AddClue at h
 split at h
 ·injection h with h; injection h with h1 h2; injection h2 with h2 h3; subst h1; subst h2; subst h3
  exact (congrArg At (eq_impl_AddClue _ _ _ _ _ _ _ _ _)).mp ⟨vc_impl_AddClue _ _ _ _ _ _ _ _ hp⟩
 ·cases h
def TPO_27 : Tab := TPO_26.addG 10 F_impl_AddClue
theorem TPO_27_ok : TPO_27.Ok Try.prog := TPO_26_ok.addG ok_impl_AddClue
def TPO : Tab := TPO_27
theorem TPO_ok : TPO.Ok Try.prog := TPO_27_ok
end Go.Proofs.Ytickpjdnncpnmaa
