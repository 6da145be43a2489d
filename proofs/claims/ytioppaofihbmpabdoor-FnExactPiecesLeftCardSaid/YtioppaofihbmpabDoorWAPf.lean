/- Worms: the conditions hold. -/
import Derived.Test.YtioppaofihbmpabDoorWAVc
import Derived.Test.YtioppaofihbmpabDoorWASpec
namespace Go.Vi
set_option linter.unusedSimpArgs false
theorem wrap64_in {x : Int} (h : -9223372036854775808 ≤ x ∧ x ≤ 9223372036854775807) : IntKind.wrap .i64 x = x := IntWalk.i64_in _ (by omega)
theorem all_take_succ {p : UInt8 → Bool} {l : List UInt8} {i : Nat} (h : i < l.length) : (l.take (i + 1)).all p = ((l.take i).all p && p (l.getD i 0)) := by
  rw [List.take_succ_eq_append_getElem h, List.all_append]
  simp [List.getD_eq_getElem?_getD, List.getElem?_eq_getElem h]
theorem all_getD {p : UInt8 → Bool} {l : List UInt8} {i : Nat} (h : i < l.length) (hp : p (l.getD i 0) = false) : l.all p = false := by
  rw [List.all_eq_false]
  refine ⟨l[i], List.getElem_mem h, ?_⟩
  rw [List.getD_eq_getElem?_getD, List.getElem?_eq_getElem h] at hp
  simpa using hp
theorem byte_lt (c : UInt8) : ((c.toNat : Nat) : Int) < 256 := by have := c.toNat_lt; omega
theorem inB_eq {n lo hi : Int} : inB n lo hi = true ↔ lo ≤ n ∧ n ≤ hi := by unfold inB; simp
theorem inB_ne {n lo hi : Int} : inB n lo hi = false ↔ ¬ (lo ≤ n ∧ n ≤ hi) := by rw [← inB_eq]; simp
theorem vc_spec_l1In (n lo hi : Int) (_ : True) : VC_spec_l1In n lo hi (retP (.bool (inB n lo hi))) := by
  unfold VC_spec_l1In inB
  simp only [retP_lit, retP_bool, ge_iff_le]
  refine ⟨fun h => by simp [h], fun h => by simp [h]⟩
theorem vc_impl_within (n lo hi : Int) (_ : True) : VC_impl_within n lo hi (retP (.bool (inB n lo hi))) := by
  unfold VC_impl_within inB
  simp only [retP_lit, retP_bool]
  refine ⟨fun h => by simp [h], fun h => by simp [h]⟩
theorem u8_int {c : UInt8} {n : Nat} (hn : n < 256) : (((c.toNat : Nat) : Int) = (n : Int)) ↔ c = UInt8.ofNat n := by
  rw [← UInt8.toNat_inj, UInt8.toNat_ofNat']
  omega
theorem bit_iff {c : UInt8} : bitB c = true ↔ ((c.toNat : Int) = 48 ∨ (c.toNat : Int) = 49) := by
  unfold bitB
  simp only [Bool.or_eq_true, beq_iff_eq]
  rw [show (48 : Int) = ((48 : Nat) : Int) from rfl, show (49 : Int) = ((49 : Nat) : Int) from rfl, u8_int (by omega), u8_int (by omega)]
  rfl
theorem bit_cond {c : UInt8} {F S P Q : Prop} (hP : P) (hQ : Q) (hF : bitB c = false → F) (hS : bitB c = true → S) :
    P ∧ (((c.toNat : Int) != 48) = true → Q ∧ (((c.toNat : Int) != 49) = true → F) ∧ (((c.toNat : Int) != 49) = false → S)) ∧ (((c.toNat : Int) != 48) = false → S) := by
  have hb := @bit_iff c
  refine ⟨hP, fun h1 => ⟨hQ, fun h2 => hF ?_, fun h2 => hS ?_⟩, fun h1 => hS ?_⟩
  · cases h : bitB c
    · rfl
    · have := hb.1 h
      simp only [bne_iff_ne, ne_eq] at h1 h2
      omega
  · exact hb.2 (.inr (by simpa using h2))
  · exact hb.2 (.inl (by simpa using h1))
theorem mul_bd6 {a b : Int} (ha : 3 ≤ a ∧ a ≤ 6) (hb : 3 ≤ b ∧ b ≤ 6) : 9 ≤ a * b ∧ a * b ≤ 36 := by
  have h1 : a * b ≤ 6 * b := Int.mul_le_mul_of_nonneg_right ha.2 (by omega)
  have h2 : 3 * b ≤ a * b := Int.mul_le_mul_of_nonneg_right ha.1 (by omega)
  omega
theorem wom_iff {m : Wo} : womB m = true ↔ (3 ≤ m.w ∧ m.w ≤ 6) ∧ (3 ≤ m.h ∧ m.h ≤ 6) ∧ (m.r.length : Int) = m.w * m.h ∧ (m.n.length : Int) = m.w * m.h ∧ binB m.r = true ∧ binB m.n = true ∧ (0 ≤ m.x ∧ m.x ≤ m.w - 1) ∧ (0 ≤ m.y ∧ m.y ≤ m.h - 1) ∧ (0 ≤ m.d ∧ m.d ≤ 3) := by
  unfold womB
  simp only [Bool.and_eq_true, inB_eq, beq_iff_eq, and_assoc]
theorem wg_step {r n : List UInt8} {i : Int} (h : wgInv r n i) (hi : i < r.length) (h1 : bitB (r.getD i.toNat 0) = true) (h2 : bitB (n.getD i.toNat 0) = true) :
    wgInv r n (IntKind.wrap .i64 (i + 1)) ∧ ((r.length : Int) - IntKind.wrap .i64 (i + 1)).toNat < ((r.length : Int) - i).toNat := by
  obtain ⟨k0, k1, k2, k3, k4, k5⟩ := h
  rw [wrap64_in (by omega)]
  refine ⟨⟨by omega, by omega, k2, k3, ?_, ?_⟩, by omega⟩
  · unfold binB at k4 ⊢
    rw [show (i + 1).toNat = i.toNat + 1 by omega, all_take_succ (by omega), k4, h1]; rfl
  · unfold binB at k5 ⊢
    rw [show (i + 1).toNat = i.toNat + 1 by omega, all_take_succ (by omega), k5, h2]; rfl
theorem vc_spec_wmGood (mw mh : Int) (mr mn : List UInt8) (mx my md : Int) (_ : True) : VC_spec_wmGood mw mh mr mn mx my md (retP (.bool (womB ⟨mw, mh, mr, mn, mx, my, md⟩))) := by
  unfold VC_spec_wmGood womB
  simp only [at_iff, retP_lit, retP_bool, true_and, and_true, Bool.not_eq_true', Bool.not_eq_false']
  refine ⟨fun h => by simp [h], fun hw => ⟨fun h => by simp [h], fun hh => ?_⟩⟩
  have hw' := inB_eq.1 hw
  have hh' := inB_eq.1 hh
  have hm := mul_bd6 hw' hh'
  rw [wrap64_in (x := mw * mh) (by omega), wrap64_in (x := mw - 1) (by omega), wrap64_in (x := mh - 1) (by omega)]
  simp only [hw, hh, Bool.true_and]
  refine ⟨fun h => ?_, fun h => ⟨fun h2 => ?_, fun h2 => ?_⟩⟩
  · have : ((mr.length : Int) == mw * mh) = false := by simpa using h
    simp [this]
  · have hc : (mr.length : Int) = mw * mh := by simpa using h
    have : ((mn.length : Int) == mw * mh) = false := by rw [← hc]; simpa using h2
    simp [this]
  · have hc : (mr.length : Int) = mw * mh := by simpa using h
    have hn : (mn.length : Int) = mr.length := by simpa using h2
    have e1 : ((mr.length : Int) == mw * mh) = true := by simpa using hc
    have e2 : ((mn.length : Int) == mw * mh) = true := by rw [← hc]; simpa using hn
    simp only [e1, e2, Bool.true_and]
    refine ⟨⟨by omega, by omega, by omega, by omega, by simp [binB], by simp [binB]⟩, fun i hi => ⟨fun hlt => ?_, fun hge => ?_⟩⟩
    · have hlt' : i < mr.length := by simpa using hlt
      have h0 := hi.1
      refine bit_cond ⟨h0, hlt'⟩ ⟨h0, hlt'⟩ (fun hb => ?_) (fun hb => bit_cond ⟨h0, by omega⟩ ⟨h0, by omega⟩ (fun hc => ?_) (fun hc => wg_step hi hlt' hb hc))
      · simp [binB, all_getD (by omega) hb]
      · simp [binB, all_getD (l := mn) (by omega) hc]
    · have hge' := of_decide_eq_false hge
      have h4 := hi.2.2.2.2.1
      have h5 := hi.2.2.2.2.2
      have hle := hi.2.1
      have h0 := hi.1
      rw [List.take_of_length_le (by omega)] at h4 h5
      simp only [h4, h5, Bool.true_and]
      refine ⟨fun hx => ⟨fun hy => by simp [hx, hy], fun hy => by simp [hx, hy]⟩, fun hx => by simp [hx]⟩
theorem vc_impl_isGrid (a b : Int) (_ : True) : VC_impl_isGrid a b (retP (.bool (inB a 3 6 && inB b 3 6))) := by
  unfold VC_impl_isGrid
  simp only [at_iff, retP_lit, retP_bool, true_and]
  refine ⟨fun h => by simp [h], fun h => by simp [h]⟩
theorem vc_impl_hasNode (mw mh : Int) (mr mn : List UInt8) (mx my md x y : Int) (h : inB mw 3 6 = true ∧ inB mh 3 6 = true) : VC_impl_hasNode mw mh mr mn mx my md x y (retP (.bool (inB x 0 (mw - 1) && inB y 0 (mh - 1)))) := by
  unfold VC_impl_hasNode
  have h1 := inB_eq.1 h.1
  have h2 := inB_eq.1 h.2
  rw [wrap64_in (x := mw - 1) (by omega), wrap64_in (x := mh - 1) (by omega)]
  simp only [at_iff, retP_lit, retP_bool, true_and]
  refine ⟨fun h => by simp [h], fun h => by simp [h]⟩
theorem vc_impl_isWay (d : Int) (_ : True) : VC_impl_isWay d (retP (.bool (inB d 0 3))) := by
  unfold VC_impl_isWay
  simp only [at_iff, retP_lit, retP_bool, true_and]
theorem dropWhile_nil {p : UInt8 → Bool} : ∀ {l : List UInt8}, l.dropWhile p = [] ↔ l.all p = true
  | [] => by simp
  | a :: l => by
    rw [List.dropWhile_cons]
    cases h : p a
    · simp [h]
    · simp [h, dropWhile_nil (l := l)]
theorem trim_bin (c : List UInt8) : (Go.Lib.trimS c [48, 49] == []) = binB c := by
  have hp : (fun x : UInt8 => ([48, 49] : List UInt8).contains x) = bitB := by
    funext x
    simp only [bitB, List.contains_cons, List.contains_nil, Bool.or_false]
  unfold binB
  rw [Bool.eq_iff_iff, beq_iff_eq]
  unfold Go.Lib.trimS Go.Lib.trimLeftS Go.Lib.trimRightS
  rw [hp, dropWhile_nil, List.all_reverse]
  constructor
  · intro h
    cases hd : c.reverse.dropWhile bitB with
    | nil =>
      have := dropWhile_nil.1 hd
      rwa [List.all_reverse] at this
    | cons a r =>
      rw [hd] at h
      have ha : bitB a = true := by
        simp only [List.all_cons, Bool.and_eq_true] at h
        exact h.1
      have := List.head?_dropWhile_not bitB c.reverse
      rw [hd] at this
      simp [ha] at this
  · intro h
    have : c.reverse.dropWhile bitB = [] := dropWhile_nil.2 (by rwa [List.all_reverse])
    rw [this]; rfl
theorem vc_impl_areLines (s : List UInt8) (n : Int) (h : n ≤ 1000) : VC_impl_areLines s n (retP (.bool (((s.length : Int) == n) && binB s))) := by
  unfold VC_impl_areLines
  simp only [at_iff, retP_lit, retP_bool, true_and]
  refine ⟨fun h1 => ?_, fun h1 => by simp [h1]⟩
  have h2 : (s.length : Int) = n := by simpa using h1
  refine ⟨by omega, ?_⟩
  rw [h1, Bool.true_and]
  exact trim_bin s
theorem vc_impl_IsWorm (mw mh : Int) (mr mn : List UInt8) (mx my md : Int) (_ : True) : VC_impl_IsWorm mw mh mr mn mx my md (retP (.bool (womB ⟨mw, mh, mr, mn, mx, my, md⟩))) := by
  unfold VC_impl_IsWorm womB
  simp only [at_iff, retP_lit, retP_bool, true_and, and_true, Bool.not_eq_true', Bool.not_eq_false']
  refine ⟨fun h => by simp [h], fun hg => ?_⟩
  simp only [Bool.and_eq_true] at hg
  obtain ⟨hw, hh⟩ := hg
  have hm := mul_bd6 (inB_eq.1 hw) (inB_eq.1 hh)
  rw [wrap64_in (x := mw * mh) (by omega)]
  simp only [hw, hh, Bool.true_and, true_and, and_self]
  refine ⟨fun h => ?_, fun hp => ⟨fun h => by simp [h], fun hd => ⟨by omega, fun h => ⟨by omega, ?_⟩, fun h => ?_⟩⟩⟩
  · simp only [Bool.and_eq_false_iff] at h
    rcases h with h | h <;> simp [h]
  · simp only [Bool.and_eq_true] at hp h
    rw [hp.1, hp.2, hd, h.1, h.2]
    simp
  · simp only [Bool.and_eq_false_iff] at h
    rcases h with h | h <;> simp [h]
theorem vc_laws_szWorm (mw mh : Int) (mr mn : List UInt8) (mx my md left : Int) (h : 0 ≤ left ∧ left ≤ 1000000000 ∧ (mr.length : Int) ≤ 9223372036854775807 ∧ (mn.length : Int) ≤ 9223372036854775807) : VC_laws_szWorm mw mh mr mn mx my md left (retP (.int .i64 (szWo mr mn left))) := by
  unfold VC_laws_szWorm szWo
  rw [wrap64_in (x := left - (mr.length : Int)) (by omega)]
  simp only [retP_int, decide_eq_true_eq, decide_eq_false_iff_not]
  refine ⟨fun h1 => by simp [h1], fun h1 => ?_⟩
  rw [wrap64_in (x := left - (mr.length : Int) - (mn.length : Int)) (by omega)]
  refine ⟨fun h2 => by simp [h1, h2], fun h2 => by simp [h1, h2]⟩
theorem retP_wo {u m : Wo} (h : u = m) : retP (woV m) (woV u) := by
  subst h
  simp [woV, retP, leV, leL, chkB, V.under, underL]
theorem retP_okw {u m : Wo} {b ok : Bool} (h : b = ok) (hu : u = bif ok then m else zeroWo) : retP (okWo ok m) (.tup [woV u, .bool b]) := by
  subst h; subst hu
  simp [okWo, woV, retP, leV, leL, chkB, V.under, underL]
theorem retP_okwl {u m : Wo} {b ok : Bool} (h : b = ok) (hu : u = bif ok then m else zeroWo) : retP (okWo ok m) (.tup [woV u, .lit b]) := by
  subst h; subst hu
  simp [okWo, woV, retP, leV, leL, chkB, V.under, underL]
theorem vc_laws_toWorm (mw mh : Int) (mr mn : List UInt8) (mx my md : Int) (_ : True) : VC_laws_toWorm mw mh mr mn mx my md (retP (woV ⟨mw, mh, mr, mn, mx, my, md⟩)) := by
  unfold VC_laws_toWorm
  exact retP_wo (u := ⟨mw, mh, mr, mn, mx, my, md⟩) rfl
theorem vc_laws_eqWorm (aw ah : Int) (ar an : List UInt8) (ax ay ad bw bh : Int) (br bn : List UInt8) (bx by_ bd : Int) (_ : True) : VC_laws_eqWorm aw ah ar an ax ay ad bw bh br bn bx by_ bd (retP (.bool (eqWo ⟨aw, ah, ar, an, ax, ay, ad⟩ ⟨bw, bh, br, bn, bx, by_, bd⟩))) := by
  unfold VC_laws_eqWorm eqWo
  simp only [retP_lit, Bool.not_eq_true', Bool.not_eq_false', bne_iff_ne, ne_eq, bne_eq_false_iff_eq]
  refine ⟨fun h => by simp [h], fun h1 => ⟨fun h => by simp [h], fun h2 => ⟨fun h => by simp [h], fun h3 => ⟨fun h => by simp [h], fun h4 => ⟨fun h => by simp [h], fun h5 => ⟨fun h => by simp [h], fun h6 => ⟨fun h => by simp [h], fun h7 => by simp [h1, h2, h3, h4, h5, h6, h7]⟩⟩⟩⟩⟩⟩⟩
theorem eqWo_self (m : Wo) : eqWo m m = true := by unfold eqWo; simp
theorem vc_spec_wmTastes (_ : True) : VC_spec_wmTastes (retG 0 (.row 0 6) [⟨.strs tastes, 9, .row⟩]) := by
  unfold VC_spec_wmTastes retG leSel leSelBy autoSel
  simp [pairsL, pairsV, idPairs, pairsIn, selOf, lookN, selMem, chkB, nodupSel, hasSel, prefSel, leSt, leL, leV, nilToL, V.nilTo, selL, V.sel, Cells.selN, leMem, leCells, memUnder, underL, V.under, tastes, findSel, isNilS]
  exact trivial
theorem retG_t1 {q r : Bool} {f : TypeId} {g : Kind} {g0 g1 g2 g3 g4 g5 : List UInt8} {J : List Blk} (h : q = r) : retG 1 (.bool r) [⟨.vals [.str g0, .str g1, .str g2, .str g3, .str g4, .str g5], f, g⟩] (.lit q) (⟨.vals [.str g0, .str g1, .str g2, .str g3, .str g4, .str g5], f, g⟩ :: J) := by
  subst h
  unfold retG leSel leSelBy autoSel
  simp [pairsL, pairsV, idPairs, pairsIn, selOf, lookN, selMem, chkB, nodupSel, hasSel, prefSel, leSt, leL, leV, nilToL, V.nilTo, selL, V.sel, Cells.selN, leMem, leCells, memUnder, underL, V.under]
theorem any_take {p : List UInt8 → Bool} {l : List (List UInt8)} {i : Nat} (h : i < l.length) : (l.take (i + 1)).any p = ((l.take i).any p || p (l.getD i [])) := by
  rw [List.take_succ_eq_append_getElem h, List.any_append]
  simp [List.getD_eq_getElem?_getD, List.getElem?_eq_getElem h]
theorem tastes_len : tastes.length = 6 := rfl
theorem ts_yes {t : List UInt8} {i : Nat} (h : i < 6) (he : (tastes.getD i [] == t) = true) : tasB t = true := by
  unfold tasB
  rw [List.any_eq_true]
  refine ⟨tastes.getD i [], ?_, he⟩
  rw [List.getD_eq_getElem?_getD, List.getElem?_eq_getElem (by rw [tastes_len]; exact h)]
  exact List.getElem_mem _
theorem ts_step {t : List UInt8} {i : Int} (h : tsInv t i) (hi : i < 6) (he : (tastes.getD i.toNat [] == t) = false) : tsInv t (IntKind.wrap .i64 (i + 1)) ∧ ((6 : Int) - IntKind.wrap .i64 (i + 1)).toNat < ((6 : Int) - i).toNat := by
  obtain ⟨h0, h1, h2⟩ := h
  rw [wrap64_in (by omega)]
  refine ⟨⟨by omega, by omega, ?_⟩, by omega⟩
  rw [show (i + 1).toNat = i.toNat + 1 by omega, any_take (by rw [tastes_len]; omega), h2, he]; rfl
theorem ts_end {t : List UInt8} {i : Int} (h : tsInv t i) (hi : ¬ i < 6) : tasB t = false := by
  obtain ⟨h0, h1, h2⟩ := h
  rw [List.take_of_length_le (by rw [tastes_len]; omega)] at h2
  exact h2
theorem vc_spec_wmTaste (t : List UInt8) (_ : True) : VC_spec_wmTaste t (retP (.bool (tasB t))) := by
  unfold VC_spec_wmTaste
  simp only [at_iff, retP_lit, true_and, and_true]
  refine ⟨by simp, ⟨by omega, by omega, rfl⟩, fun i hi => ⟨fun hlt => ?_, fun hge => ?_⟩⟩
  · have hlt := of_decide_eq_true hlt
    have h0 := hi.1
    refine ⟨⟨h0, by omega⟩, by rw [tastes_len]; omega, fun he => (ts_yes (by omega) he).symm, fun he => ts_step hi hlt he⟩
  · exact (ts_end hi (of_decide_eq_false hge)).symm
theorem beq_sym (a b : List UInt8) : (a == b) = (b == a) := by rw [Bool.eq_iff_iff, beq_iff_eq, beq_iff_eq]; exact eq_comm
theorem vc_impl_IsTaste (t g0 g1 g2 g3 g4 g5 : List UInt8) (h : isTs g0 g1 g2 g3 g4 g5) : VC_impl_IsTaste t g0 g1 g2 g3 g4 g5 (retG 1 (.bool (tasB t)) [⟨.vals [.str g0, .str g1, .str g2, .str g3, .str g4, .str g5], 9, .gl 0⟩]) := by
  have hg : ([g0, g1, g2, g3, g4, g5] : List (List UInt8)) = tastes := by
    obtain ⟨rfl, rfl, rfl, rfl, rfl, rfl⟩ := h; rfl
  unfold VC_impl_IsTaste
  rw [hg]
  simp only [at_iff, true_and, and_true]
  refine ⟨⟨by omega, by omega, rfl⟩, fun i hi => ⟨fun hlt => ?_, fun hge => ?_⟩⟩
  · have hlt := of_decide_eq_true hlt
    have h0 := hi.1
    rw [beq_sym t]
    refine ⟨⟨h0, by omega⟩, fun he => retG_t1 (ts_yes (by omega) he).symm, fun he => ts_step hi hlt he⟩
  · exact retG_t1 (ts_end hi (of_decide_eq_false hge)).symm
theorem cnt_le (b : UInt8) (c : List UInt8) : 0 ≤ cntB b c ∧ cntB b c ≤ c.length := by
  unfold cntB
  have := List.countP_le_length (p := (· == b)) (l := c)
  omega
theorem cnt_take_le (b : UInt8) (c : List UInt8) (k : Nat) : 0 ≤ cntB b (c.take k) ∧ cntB b (c.take k) ≤ c.length := by
  have h := cnt_le b (c.take k)
  rw [List.length_take] at h
  omega
theorem cnt_step {b : UInt8} {c : List UInt8} {i : Nat} (h : i < c.length) : cntB b (c.take (i + 1)) = cntB b (c.take i) + (if c.getD i 0 = b then 1 else 0) := by
  unfold cntB
  rw [List.take_succ_eq_append_getElem h, List.countP_append, List.countP_singleton, List.getD_eq_getElem?_getD, List.getElem?_eq_getElem h]
  simp only [Option.getD_some, beq_iff_eq]
  split <;> simp
theorem vc_spec_wmCount (s : List UInt8) (h : s.length ≤ 1000) : VC_spec_wmCount s (retP (.int .i64 (cntB 49 s))) := by
  unfold VC_spec_wmCount
  simp only [at_iff, retP_int, true_and, and_true]
  refine ⟨by simp [cntB], ⟨by omega, by omega, h⟩, fun i hi => ⟨fun hlt => ?_, fun hge => ?_⟩⟩
  · have hlt := of_decide_eq_true hlt
    obtain ⟨h0, h1, h2⟩ := hi
    have hs := cnt_step (b := 49) (c := s) (i := i.toNat) (by omega)
    have hb := cnt_take_le 49 s i.toNat
    have h49 : (((s.getD i.toNat 0).toNat : Int) == 49) = decide (s.getD i.toNat 0 = 49) := by
      rw [Bool.eq_iff_iff, beq_iff_eq, decide_eq_true_eq]
      exact u8_int (n := 49) (by omega)
    rw [wrap64_in (x := i + 1) (by omega), wrap64_in (x := cntB 49 (s.take i.toNat) + 1) (by omega), h49, show (i + 1).toNat = i.toNat + 1 by omega, hs]
    refine ⟨⟨h0, hlt⟩, fun he => ⟨?_, ⟨by omega, by omega, h2⟩, by omega⟩, fun he => ⟨?_, ⟨by omega, by omega, h2⟩, by omega⟩⟩
    · rw [if_pos (of_decide_eq_true he)]
    · rw [if_neg (of_decide_eq_false he)]; omega
  · have := of_decide_eq_false hge
    obtain ⟨h0, h1, h2⟩ := hi
    rw [List.take_of_length_le (by omega)]
end Go.Vi
