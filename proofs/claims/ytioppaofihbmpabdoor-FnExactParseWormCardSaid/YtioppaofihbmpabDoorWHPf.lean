/- Worms told and read: the conditions hold. -/
import Derived.Test.YtioppaofihbmpabDoorWHVc
import Derived.Test.YtioppaofihbmpabDoorWHSpec
namespace Go.Vi
set_option linter.unusedSimpArgs false
theorem u8_int {c : UInt8} {n : Nat} (hn : n < 256) : (((c.toNat : Nat) : Int) = (n : Int)) ↔ c = UInt8.ofNat n := by
  rw [← UInt8.toNat_inj, UInt8.toNat_ofNat']
  omega
theorem bit_iff {c : UInt8} : bitB c = true ↔ ((c.toNat : Int) = 48 ∨ (c.toNat : Int) = 49) := by
  unfold bitB
  simp only [Bool.or_eq_true, beq_iff_eq]
  rw [show (48 : Int) = ((48 : Nat) : Int) from rfl, show (49 : Int) = ((49 : Nat) : Int) from rfl, u8_int (by omega), u8_int (by omega)]
  rfl
theorem bit_cond {c : UInt8} {F S P Q : Prop} (hP : P) (hQ : Q) (hF : bitB c = false → F) (hS : bitB c = true → S) :
    P ∧ (((c.toNat : Int) != 48) = true → Q ∧ (((c.toNat : Int) != 49) = true → F) ∧ (((c.toNat : Int) != 49) = false → S)) ∧ (((c.toNat : Int) != 48) = false → S) := by
  have hb := @bit_iff c
  refine ⟨hP, fun h1 => ⟨hQ, fun h2 => hF ?_, fun h2 => hS ?_⟩, fun h1 => hS ?_⟩
  · cases h : bitB c
    · rfl
    · have := hb.1 h
      simp only [bne_iff_ne, ne_eq] at h1 h2
      omega
  · exact hb.2 (.inr (by simpa using h2))
  · exact hb.2 (.inl (by simpa using h1))
theorem mul_bd6 {a b : Int} (ha : 3 ≤ a ∧ a ≤ 6) (hb : 3 ≤ b ∧ b ≤ 6) : 9 ≤ a * b ∧ a * b ≤ 36 := by
  have h1 : a * b ≤ 6 * b := Int.mul_le_mul_of_nonneg_right ha.2 (by omega)
  have h2 : 3 * b ≤ a * b := Int.mul_le_mul_of_nonneg_right ha.1 (by omega)
  omega
theorem wom_iff {m : Wo} : womB m = true ↔ (3 ≤ m.w ∧ m.w ≤ 6) ∧ (3 ≤ m.h ∧ m.h ≤ 6) ∧ (m.r.length : Int) = m.w * m.h ∧ (m.n.length : Int) = m.w * m.h ∧ binB m.r = true ∧ binB m.n = true ∧ (0 ≤ m.x ∧ m.x ≤ m.w - 1) ∧ (0 ≤ m.y ∧ m.y ≤ m.h - 1) ∧ (0 ≤ m.d ∧ m.d ≤ 3) := by
  unfold womB
  simp only [Bool.and_eq_true, inB_eq, beq_iff_eq, and_assoc]
theorem wg_step {r n : List UInt8} {i : Int} (h : wgInv r n i) (hi : i < r.length) (h1 : bitB (r.getD i.toNat 0) = true) (h2 : bitB (n.getD i.toNat 0) = true) :
    wgInv r n (IntKind.wrap .i64 (i + 1)) ∧ ((r.length : Int) - IntKind.wrap .i64 (i + 1)).toNat < ((r.length : Int) - i).toNat := by
  obtain ⟨k0, k1, k2, k3, k4, k5⟩ := h
  rw [wrap64_in (by omega)]
  refine ⟨⟨by omega, by omega, k2, k3, ?_, ?_⟩, by omega⟩
  · unfold binB at k4 ⊢
    rw [show (i + 1).toNat = i.toNat + 1 by omega, all_take_succ (by omega), k4, h1]; rfl
  · unfold binB at k5 ⊢
    rw [show (i + 1).toNat = i.toNat + 1 by omega, all_take_succ (by omega), k5, h2]; rfl
theorem vc_spec_wmGood (mw mh : Int) (mr mn : List UInt8) (mx my md : Int) (_ : True) : VC_spec_wmGood mw mh mr mn mx my md (retP (.bool (womB ⟨mw, mh, mr, mn, mx, my, md⟩))) := by
  unfold VC_spec_wmGood womB
  simp only [at_iff, retP_lit, retP_bool, true_and, and_true, Bool.not_eq_true', Bool.not_eq_false']
  refine ⟨fun h => by simp [h], fun hw => ⟨fun h => by simp [h], fun hh => ?_⟩⟩
  have hw' := inB_eq.1 hw
  have hh' := inB_eq.1 hh
  have hm := mul_bd6 hw' hh'
  rw [wrap64_in (x := mw * mh) (by omega), wrap64_in (x := mw - 1) (by omega), wrap64_in (x := mh - 1) (by omega)]
  simp only [hw, hh, Bool.true_and]
  refine ⟨fun h => ?_, fun h => ⟨fun h2 => ?_, fun h2 => ?_⟩⟩
  · have : ((mr.length : Int) == mw * mh) = false := by simpa using h
    simp [this]
  · have hc : (mr.length : Int) = mw * mh := by simpa using h
    have : ((mn.length : Int) == mw * mh) = false := by rw [← hc]; simpa using h2
    simp [this]
  · have hc : (mr.length : Int) = mw * mh := by simpa using h
    have hn : (mn.length : Int) = mr.length := by simpa using h2
    have e1 : ((mr.length : Int) == mw * mh) = true := by simpa using hc
    have e2 : ((mn.length : Int) == mw * mh) = true := by rw [← hc]; simpa using hn
    simp only [e1, e2, Bool.true_and]
    refine ⟨⟨by omega, by omega, by omega, by omega, by simp [binB], by simp [binB]⟩, fun i hi => ⟨fun hlt => ?_, fun hge => ?_⟩⟩
    · have hlt' : i < mr.length := by simpa using hlt
      have h0 := hi.1
      refine bit_cond ⟨h0, hlt'⟩ ⟨h0, hlt'⟩ (fun hb => ?_) (fun hb => bit_cond ⟨h0, by omega⟩ ⟨h0, by omega⟩ (fun hc => ?_) (fun hc => wg_step hi hlt' hb hc))
      · simp [binB, all_getD (by omega) hb]
      · simp [binB, all_getD (l := mn) (by omega) hc]
    · have hge' := of_decide_eq_false hge
      have h4 := hi.2.2.2.2.1
      have h5 := hi.2.2.2.2.2
      have hle := hi.2.1
      have h0 := hi.1
      rw [List.take_of_length_le (by omega)] at h4 h5
      simp only [h4, h5, Bool.true_and]
      refine ⟨fun hx => ⟨fun hy => by simp [hx, hy], fun hy => by simp [hx, hy]⟩, fun hx => by simp [hx]⟩
theorem vc_impl_isGrid (a b : Int) (_ : True) : VC_impl_isGrid a b (retP (.bool (inB a 3 6 && inB b 3 6))) := by
  unfold VC_impl_isGrid
  simp only [at_iff, retP_lit, retP_bool, true_and]
  refine ⟨fun h => by simp [h], fun h => by simp [h]⟩
theorem vc_impl_hasNode (mw mh : Int) (mr mn : List UInt8) (mx my md x y : Int) (h : inB mw 3 6 = true ∧ inB mh 3 6 = true) : VC_impl_hasNode mw mh mr mn mx my md x y (retP (.bool (inB x 0 (mw - 1) && inB y 0 (mh - 1)))) := by
  unfold VC_impl_hasNode
  have h1 := inB_eq.1 h.1
  have h2 := inB_eq.1 h.2
  rw [wrap64_in (x := mw - 1) (by omega), wrap64_in (x := mh - 1) (by omega)]
  simp only [at_iff, retP_lit, retP_bool, true_and]
  refine ⟨fun h => by simp [h], fun h => by simp [h]⟩
theorem vc_impl_isWay (d : Int) (_ : True) : VC_impl_isWay d (retP (.bool (inB d 0 3))) := by
  unfold VC_impl_isWay
  simp only [at_iff, retP_lit, retP_bool, true_and]
theorem dropWhile_nil {p : UInt8 → Bool} : ∀ {l : List UInt8}, l.dropWhile p = [] ↔ l.all p = true
  | [] => by simp
  | a :: l => by
    rw [List.dropWhile_cons]
    cases h : p a
    · simp [h]
    · simp [h, dropWhile_nil (l := l)]
theorem trim_bin (c : List UInt8) : (Go.Lib.trimS c [48, 49] == []) = binB c := by
  have hp : (fun x : UInt8 => ([48, 49] : List UInt8).contains x) = bitB := by
    funext x
    simp only [bitB, List.contains_cons, List.contains_nil, Bool.or_false]
  unfold binB
  rw [Bool.eq_iff_iff, beq_iff_eq]
  unfold Go.Lib.trimS Go.Lib.trimLeftS Go.Lib.trimRightS
  rw [hp, dropWhile_nil, List.all_reverse]
  constructor
  · intro h
    cases hd : c.reverse.dropWhile bitB with
    | nil =>
      have := dropWhile_nil.1 hd
      rwa [List.all_reverse] at this
    | cons a r =>
      rw [hd] at h
      have ha : bitB a = true := by
        simp only [List.all_cons, Bool.and_eq_true] at h
        exact h.1
      have := List.head?_dropWhile_not bitB c.reverse
      rw [hd] at this
      simp [ha] at this
  · intro h
    have : c.reverse.dropWhile bitB = [] := dropWhile_nil.2 (by rwa [List.all_reverse])
    rw [this]; rfl
theorem vc_impl_areLines (s : List UInt8) (n : Int) (h : n ≤ 1000) : VC_impl_areLines s n (retP (.bool (((s.length : Int) == n) && binB s))) := by
  unfold VC_impl_areLines
  simp only [at_iff, retP_lit, retP_bool, true_and]
  refine ⟨fun h1 => ?_, fun h1 => by simp [h1]⟩
  have h2 : (s.length : Int) = n := by simpa using h1
  refine ⟨by omega, ?_⟩
  rw [h1, Bool.true_and]
  exact trim_bin s
theorem vc_impl_IsWorm (mw mh : Int) (mr mn : List UInt8) (mx my md : Int) (_ : True) : VC_impl_IsWorm mw mh mr mn mx my md (retP (.bool (womB ⟨mw, mh, mr, mn, mx, my, md⟩))) := by
  unfold VC_impl_IsWorm womB
  simp only [at_iff, retP_lit, retP_bool, true_and, and_true, Bool.not_eq_true', Bool.not_eq_false']
  refine ⟨fun h => by simp [h], fun hg => ?_⟩
  simp only [Bool.and_eq_true] at hg
  obtain ⟨hw, hh⟩ := hg
  have hm := mul_bd6 (inB_eq.1 hw) (inB_eq.1 hh)
  rw [wrap64_in (x := mw * mh) (by omega)]
  simp only [hw, hh, Bool.true_and, true_and, and_self]
  refine ⟨fun h => ?_, fun hp => ⟨fun h => by simp [h], fun hd => ⟨by omega, fun h => ⟨by omega, ?_⟩, fun h => ?_⟩⟩⟩
  · simp only [Bool.and_eq_false_iff] at h
    rcases h with h | h <;> simp [h]
  · simp only [Bool.and_eq_true] at hp h
    rw [hp.1, hp.2, hd, h.1, h.2]
    simp
  · simp only [Bool.and_eq_false_iff] at h
    rcases h with h | h <;> simp [h]
theorem vc_laws_szWorm (mw mh : Int) (mr mn : List UInt8) (mx my md left : Int) (h : 0 ≤ left ∧ left ≤ 1000000000 ∧ (mr.length : Int) ≤ 9223372036854775807 ∧ (mn.length : Int) ≤ 9223372036854775807) : VC_laws_szWorm mw mh mr mn mx my md left (retP (.int .i64 (szWo mr mn left))) := by
  unfold VC_laws_szWorm szWo
  rw [wrap64_in (x := left - (mr.length : Int)) (by omega)]
  simp only [retP_int, decide_eq_true_eq, decide_eq_false_iff_not]
  refine ⟨fun h1 => by simp [h1], fun h1 => ?_⟩
  rw [wrap64_in (x := left - (mr.length : Int) - (mn.length : Int)) (by omega)]
  refine ⟨fun h2 => by simp [h1, h2], fun h2 => by simp [h1, h2]⟩
theorem retP_wo {u m : Wo} (h : u = m) : retP (woV m) (woV u) := by
  subst h
  simp [woV, retP, leV, leL, chkB, V.under, underL]
theorem retP_okw {u m : Wo} {b ok : Bool} (h : b = ok) (hu : u = bif ok then m else zeroWo) : retP (okWo ok m) (.tup [woV u, .bool b]) := by
  subst h; subst hu
  simp [okWo, woV, retP, leV, leL, chkB, V.under, underL]
theorem retP_okwl {u m : Wo} {b ok : Bool} (h : b = ok) (hu : u = bif ok then m else zeroWo) : retP (okWo ok m) (.tup [woV u, .lit b]) := by
  subst h; subst hu
  simp [okWo, woV, retP, leV, leL, chkB, V.under, underL]
theorem vc_laws_toWorm (mw mh : Int) (mr mn : List UInt8) (mx my md : Int) (_ : True) : VC_laws_toWorm mw mh mr mn mx my md (retP (woV ⟨mw, mh, mr, mn, mx, my, md⟩)) := by
  unfold VC_laws_toWorm
  exact retP_wo (u := ⟨mw, mh, mr, mn, mx, my, md⟩) rfl
theorem vc_laws_eqWorm (aw ah : Int) (ar an : List UInt8) (ax ay ad bw bh : Int) (br bn : List UInt8) (bx by_ bd : Int) (_ : True) : VC_laws_eqWorm aw ah ar an ax ay ad bw bh br bn bx by_ bd (retP (.bool (eqWo ⟨aw, ah, ar, an, ax, ay, ad⟩ ⟨bw, bh, br, bn, bx, by_, bd⟩))) := by
  unfold VC_laws_eqWorm eqWo
  simp only [retP_lit, Bool.not_eq_true', Bool.not_eq_false', bne_iff_ne, ne_eq, bne_eq_false_iff_eq]
  refine ⟨fun h => by simp [h], fun h1 => ⟨fun h => by simp [h], fun h2 => ⟨fun h => by simp [h], fun h3 => ⟨fun h => by simp [h], fun h4 => ⟨fun h => by simp [h], fun h5 => ⟨fun h => by simp [h], fun h6 => ⟨fun h => by simp [h], fun h7 => by simp [h1, h2, h3, h4, h5, h6, h7]⟩⟩⟩⟩⟩⟩⟩
theorem eqWo_self (m : Wo) : eqWo m m = true := by unfold eqWo; simp
/-! ### a text's parts -/
theorem no_app3 {b x : UInt8} {a c : List UInt8} (h1 : b ∉ a) (h2 : b ≠ x) (h3 : b ∉ c) : b ∉ a ++ x :: c := by
  simp only [List.mem_append, List.mem_cons, not_or]
  exact ⟨h1, h2, h3⟩
/-! ### at most five parts -/
def limF (b : UInt8) : Nat → List UInt8 → List (List UInt8)
  | 0, s => [s]
  | k + 1, s => (match partsF b s with | [] => [s] | [_] => [s] | p :: _ => p :: limF b k (s.drop (p.length + 1)))
theorem cut_at {b : UInt8} : ∀ {s : List UInt8}, b ∈ s → ∃ x y, s = x ++ b :: y ∧ b ∉ x
  | c :: s, h => by
    by_cases hc : c = b
    · exact ⟨[], s, by rw [hc]; rfl, by simp⟩
    · obtain ⟨x, y, rfl, hx⟩ := cut_at (s := s) (by rcases List.mem_cons.1 h with h | h; exact absurd h.symm hc; exact h)
      exact ⟨c :: x, y, rfl, by simp only [List.mem_cons, not_or]; exact ⟨fun e => hc e.symm, hx⟩⟩
theorem index_app {b : UInt8} : ∀ {x y : List UInt8}, b ∉ x → Go.Lib.index (x ++ b :: y) [b] = x.length
  | [], y, _ => by simp [Go.Lib.index]
  | c :: x, y, h => by
    simp only [List.mem_cons, not_or] at h
    have ih := index_app (x := x) (y := y) h.2
    have hp : [b].isPrefixOf (c :: (x ++ b :: y)) = false := by
      simp only [List.isPrefixOf, Bool.and_true, beq_eq_false_iff_ne]
      exact h.1
    simp only [List.cons_append, Go.Lib.index, hp, Bool.false_eq_true, if_false, ih]
    have : ((x.length : Int) == -1) = false := by rw [beq_eq_false_iff_ne]; omega
    rw [this]
    simp
theorem index_none {b : UInt8} : ∀ {x : List UInt8}, b ∉ x → Go.Lib.index x [b] = -1
  | [], _ => rfl
  | c :: x, h => by
    simp only [List.mem_cons, not_or] at h
    have ih := index_none (x := x) h.2
    have hp : [b].isPrefixOf (c :: x) = false := by
      simp only [List.isPrefixOf, Bool.and_true, beq_eq_false_iff_ne]
      exact h.1
    simp [Go.Lib.index, hp, ih]
theorem lim_parts (b : UInt8) : ∀ (k : Nat) (s : List UInt8), ((partsF b s).length ≤ k + 1 → Go.Lib.splitK [b] 0 k s = partsF b s) ∧ (k + 1 < (partsF b s).length → (Go.Lib.splitK [b] 0 k s).length = k + 1)
  | 0, s => by
    refine ⟨fun h => ?_, fun _ => rfl⟩
    by_cases hb : b ∈ s
    · obtain ⟨x, y, rfl, hx⟩ := cut_at hb
      rw [partsF_app hx] at h
      have := partsF_ne b y
      cases hy : partsF b y with
      | nil => exact absurd hy this
      | cons _ _ => rw [hy] at h; simp at h
    · rw [partsF_none hb]; rfl
  | k + 1, s => by
    by_cases hb : b ∈ s
    · obtain ⟨x, y, rfl, hx⟩ := cut_at hb
      obtain ⟨i1, i2⟩ := lim_parts b k y
      have hs : Go.Lib.splitK [b] 0 (k + 1) (x ++ b :: y) = x :: Go.Lib.splitK [b] 0 k y := by
        show (if Go.Lib.index (x ++ b :: y) [b] == -1 then [x ++ b :: y] else (x ++ b :: y).take ((Go.Lib.index (x ++ b :: y) [b]).toNat + 0) :: Go.Lib.splitK [b] 0 k ((x ++ b :: y).drop ((Go.Lib.index (x ++ b :: y) [b]).toNat + [b].length))) = _
        rw [index_app hx]
        have : ((x.length : Int) == -1) = false := by rw [beq_eq_false_iff_ne]; omega
        rw [this]
        simp only [Bool.false_eq_true, if_false, Int.toNat_natCast, Nat.add_zero, List.length_singleton]
        rw [List.take_left' rfl]
        congr 2
        rw [show x.length + 1 = (x ++ [b]).length by simp, show x ++ b :: y = (x ++ [b]) ++ y by simp, List.drop_left' rfl]
      rw [hs, partsF_app hx]
      simp only [List.length_cons]
      exact ⟨fun h => by rw [i1 (by omega)], fun h => by rw [i2 (by omega)]⟩
    · have hs : Go.Lib.splitK [b] 0 (k + 1) s = [s] := by
        unfold Go.Lib.splitK
        rw [index_none hb]
        rfl
      rw [hs, partsF_none hb]
      exact ⟨fun _ => rfl, fun h => by simp at h⟩
theorem partsF_le (b : UInt8) : ∀ s : List UInt8, (partsF b s).length ≤ s.length + 1
  | [] => by simp [partsF]
  | c :: s => by
    have ih := partsF_le b s
    unfold partsF
    cases c == b
    · simp only [cond_false]
      cases h : partsF b s with
      | nil => simp [conP]
      | cons p r => rw [h] at ih; simp only [conP, List.length_cons] at ih ⊢; omega
    · simp only [cond_true, List.length_cons]
      omega
theorem spN_four (s : List UInt8) : ((spN s).length = 4 ↔ (splL 58 s).length = 4) ∧ ((spN s).length = 4 → spN s = splL 58 s) := by
  rw [splL_eq]
  have hle := partsF_le 58 s
  have key : ∀ k : Nat, k = min 5 (s.length + 1) - 1 → ((Go.Lib.splitK [58] 0 k s).length = 4 ↔ (partsF 58 s).length = 4) ∧ ((Go.Lib.splitK [58] 0 k s).length = 4 → Go.Lib.splitK [58] 0 k s = partsF 58 s) := by
    intro k hk
    obtain ⟨h1, h2⟩ := lim_parts 58 k s
    by_cases hc : (partsF 58 s).length ≤ k + 1
    · rw [h1 hc]
      exact ⟨Iff.rfl, fun _ => rfl⟩
    · have := h2 (by omega)
      rw [this]
      exact ⟨⟨fun h => by omega, fun h => by omega⟩, fun h => by omega⟩
  exact key _ rfl
theorem list4 {l : List (List UInt8)} (h : l.length = 4) : l = [l.getD 0 [], l.getD 1 [], l.getD 2 [], l.getD 3 []] := by
  match l, h with
  | [a, b, c, d], _ => rfl
theorem list2 {l : List (List UInt8)} (h : l.length = 2) : l = [l.getD 0 [], l.getD 1 []] := by
  match l, h with
  | [a, b], _ => rfl
theorem list3 {l : List (List UInt8)} (h : l.length = 3) : l = [l.getD 0 [], l.getD 1 [], l.getD 2 []] := by
  match l, h with
  | [a, b, c], _ => rfl
theorem parts_len (b : UInt8) : ∀ s : List UInt8, ∀ p ∈ partsF b s, p.length ≤ s.length
  | [], p, hp => by simp [partsF] at hp; subst hp; simp
  | c :: s, p, hp => by
    have ih := parts_len b s
    unfold partsF at hp
    cases hc : c == b
    · rw [hc] at hp
      simp only [cond_false] at hp
      cases hq : partsF b s with
      | nil => exact absurd hq (partsF_ne b s)
      | cons q r =>
        rw [hq] at hp ih
        simp only [conP, List.mem_cons] at hp
        rcases hp with rfl | hp
        · have := ih q (by simp)
          simp only [List.length_cons]; omega
        · have := ih p (by simp [hp])
          simp only [List.length_cons]; omega
    · rw [hc] at hp
      simp only [cond_true, List.mem_cons] at hp
      rcases hp with rfl | hp
      · simp
      · have := ih p hp
        simp only [List.length_cons]; omega
theorem spl_len {b : UInt8} {s p : List UInt8} (h : p ∈ splL b s) : p.length ≤ s.length := parts_len b s p (by rw [← splL_eq]; exact h)
theorem wom_len {m : Wo} (h : womB m = true) : (m.r.length : Int) = m.w * m.h ∧ (m.n.length : Int) = m.w * m.h ∧ 9 ≤ m.w * m.h ∧ m.w * m.h ≤ 36 := by
  obtain ⟨h1, h2, h3, h4, _⟩ := wom_iff.1 h
  exact ⟨h3, h4, mul_bd6 h1 h2⟩
theorem wom_nine {m : Wo} (h : womB m = true) : (0 ≤ m.w ∧ m.w ≤ 9) ∧ (0 ≤ m.h ∧ m.h ≤ 9) ∧ (0 ≤ m.x ∧ m.x ≤ 9) ∧ (0 ≤ m.y ∧ m.y ≤ 9) ∧ (0 ≤ m.d ∧ m.d ≤ 9) ∧ m.r.length ≤ 36 ∧ m.n.length ≤ 36 := by
  obtain ⟨h1, h2, _, _, _, _, h7, h8, h9⟩ := wom_iff.1 h
  have := wom_len h
  omega
theorem bin_no58 {l : List UInt8} (h : binB l = true) : (58 : UInt8) ∉ l := by
  intro hm
  have := (List.all_eq_true.1 h) 58 hm
  simp [bitB] at this
structure Parts (m : Wo) : Prop where
  ps : splL 58 (textM m) = [num1 m.w ++ 120 :: num1 m.h, m.r, m.n, num1 m.x ++ 44 :: (num1 m.y ++ 44 :: num1 m.d)]
  qs : splL 120 (num1 m.w ++ 120 :: num1 m.h) = [num1 m.w, num1 m.h]
  rs : splL 44 (num1 m.x ++ 44 :: (num1 m.y ++ 44 :: num1 m.d)) = [num1 m.x, num1 m.y, num1 m.d]
  len : (textM m).length ≤ 100
  rd : readF (num1 m.w) = m.w ∧ readF (num1 m.h) = m.h ∧ readF (num1 m.x) = m.x ∧ readF (num1 m.y) = m.y ∧ readF (num1 m.d) = m.d
theorem parts_of {m : Wo} (h : womB m = true) : Parts m := by
  obtain ⟨h1, h2, h3, h4, h5, h6, h7⟩ := wom_nine h
  obtain ⟨_, _, _, _, hr, hn, _⟩ := wom_iff.1 h
  have d1 : ∀ {b : UInt8}, b.toNat < 48 ∨ 57 < b.toNat → ∀ {n : Int}, 0 ≤ n ∧ n ≤ 9 → b ∉ num1 n := fun hb _ hn => num1_not hn hb
  have a58 : (58 : UInt8) ∉ num1 m.w ++ 120 :: num1 m.h := no_app3 (d1 (.inr (by decide)) h1) (by decide) (d1 (.inr (by decide)) h2)
  have b58 : (58 : UInt8) ∉ num1 m.x ++ 44 :: (num1 m.y ++ 44 :: num1 m.d) := no_app3 (d1 (.inr (by decide)) h3) (by decide) (no_app3 (d1 (.inr (by decide)) h4) (by decide) (d1 (.inr (by decide)) h5))
  refine ⟨?_, ?_, ?_, ?_, read_num1 h1, read_num1 h2, read_num1 h3, read_num1 h4, read_num1 h5⟩
  · have e : textM m = (num1 m.w ++ 120 :: num1 m.h) ++ 58 :: (m.r ++ 58 :: (m.n ++ 58 :: (num1 m.x ++ 44 :: (num1 m.y ++ 44 :: num1 m.d)))) := by
      simp [textM]
    rw [e, splL_app a58, splL_app (bin_no58 hr), splL_app (bin_no58 hn), splL_none b58]
  · rw [splL_app (d1 (.inr (by decide)) h1), splL_none (d1 (.inr (by decide)) h2)]
  · rw [splL_app (d1 (.inl (by decide)) h3), splL_app (d1 (.inl (by decide)) h4), splL_none (d1 (.inl (by decide)) h5)]
  · simp only [textM, List.length_append, List.length_cons, List.length_nil, num1]
    omega
theorem par_text {m : Wo} (h : womB m = true) : parT (textM m) = m ∧ okT (textM m) = true := by
  have hp := parts_of h
  obtain ⟨h1, h2, h3, h4, h5, _⟩ := wom_nine h
  have n1 := num1_dig h1
  have n2 := num1_dig h2
  have n3 := num1_dig h3
  have n4 := num1_dig h4
  have n5 := num1_dig h5
  have e0 : ptW (textM m) 0 = num1 m.w ++ 120 :: num1 m.h := by unfold ptW; rw [hp.ps]; rfl
  have e1 : ptW (textM m) 1 = m.r := by unfold ptW; rw [hp.ps]; rfl
  have e2 : ptW (textM m) 2 = m.n := by unfold ptW; rw [hp.ps]; rfl
  have e3 : ptW (textM m) 3 = num1 m.x ++ 44 :: (num1 m.y ++ 44 :: num1 m.d) := by unfold ptW; rw [hp.ps]; rfl
  have hpar : parT (textM m) = m := by
    have g1 : dgW (textM m) 0 0 = m.w := by unfold dgW; rw [e0]; exact n1
    have g2 : dgW (textM m) 0 2 = m.h := by unfold dgW; rw [e0]; exact n2
    have g3 : dgW (textM m) 3 0 = m.x := by unfold dgW; rw [e3]; exact n3
    have g4 : dgW (textM m) 3 2 = m.y := by unfold dgW; rw [e3]; exact n4
    have g5 : dgW (textM m) 3 4 = m.d := by unfold dgW; rw [e3]; exact n5
    unfold parT
    rw [e1, e2, g1, g2, g3, g4, g5]
  refine ⟨hpar, ?_⟩
  unfold okT
  rw [hpar, e0, e3, hp.ps, h]
  simp [num1]
theorem ok_text {s : List UInt8} (h : okT s = true) : s = textM (parT s) ∧ womB (parT s) = true := by
  unfold okT at h
  simp only [Bool.and_eq_true, beq_iff_eq] at h
  exact ⟨h.2.symm, h.1.2⟩
def rdW (s : List UInt8) : Wo :=
  ⟨readF ((splL 120 (ptW s 0)).getD 0 []), readF ((splL 120 (ptW s 0)).getD 1 []), ptW s 1, ptW s 2, readF ((splL 44 (ptW s 3)).getD 0 []), readF ((splL 44 (ptW s 3)).getD 1 []), readF ((splL 44 (ptW s 3)).getD 2 [])⟩
theorem rd_text {s : List UInt8} (h4 : (splL 58 s).length = 4) (hq : (splL 120 (ptW s 0)).length = 2) (hr : (splL 44 (ptW s 3)).length = 3) (hg : womB (rdW s) = true) : s = textM (rdW s) := by
  obtain ⟨g1, g2, g3, g4, g5, _⟩ := wom_nine hg
  have hs := joinB_parts 58 s
  rw [← splL_eq, list4 h4] at hs
  have e1 := joinB_parts 120 (ptW s 0)
  rw [← splL_eq, list2 hq] at e1
  have e3 := joinB_parts 44 (ptW s 3)
  rw [← splL_eq, list3 hr] at e3
  have q0 := read_one (s := (splL 120 (ptW s 0)).getD 0 []) rfl g1
  have q1 := read_one (s := (splL 120 (ptW s 0)).getD 1 []) rfl g2
  have r0 := read_one (s := (splL 44 (ptW s 3)).getD 0 []) rfl g3
  have r1 := read_one (s := (splL 44 (ptW s 3)).getD 1 []) rfl g4
  have r2 := read_one (s := (splL 44 (ptW s 3)).getD 2 []) rfl g5
  simp only [joinB] at hs e1 e3
  rw [q0, q1] at e1
  rw [r0, r1, r2] at e3
  have hs' : s = ptW s 0 ++ 58 :: (ptW s 1 ++ 58 :: (ptW s 2 ++ 58 :: ptW s 3)) := hs.symm
  have ht : textM (rdW s) = (num1 (rdW s).w ++ 120 :: num1 (rdW s).h) ++ 58 :: (ptW s 1 ++ 58 :: (ptW s 2 ++ 58 :: (num1 (rdW s).x ++ 44 :: (num1 (rdW s).y ++ 44 :: num1 (rdW s).d)))) := by
    simp [textM, rdW]
  have e1' : num1 (rdW s).w ++ 120 :: num1 (rdW s).h = ptW s 0 := e1
  have e3' : num1 (rdW s).x ++ 44 :: (num1 (rdW s).y ++ 44 :: num1 (rdW s).d) = ptW s 3 := e3
  rw [ht, e1', e3']
  exact hs'
theorem ok_no {s : List UInt8} (h : ∀ m : Wo, womB m = true → s ≠ textM m) : okT s = false := by
  cases hk : okT s with
  | false => rfl
  | true => exact absurd (ok_text hk).1 (h _ (ok_text hk).2)
theorem fail_Wb {s : List UInt8} (h : okT s = false) {b : Bool} (hb : b = false) : retP (okWo (okT s) (parT s)) (.tup [.agg [.int .i64 0, .int .i64 0, .str (Array.toList #[]), .str (Array.toList #[]), .int .i64 0, .int .i64 0, .int .i64 0], .bool b]) :=
  retP_okw (u := zeroWo) (by rw [h, hb]) (by rw [h]; rfl)
theorem fail_W {s : List UInt8} (h : okT s = false) : retP (okWo (okT s) (parT s)) (.tup [.agg [.int .i64 0, .int .i64 0, .str (Array.toList #[]), .str (Array.toList #[]), .int .i64 0, .int .i64 0, .int .i64 0], .lit false]) :=
  retP_okwl (u := zeroWo) h.symm (by rw [h]; rfl)
theorem vc_spec_wmText (mw mh : Int) (mr mn : List UInt8) (mx my md : Int) (h : womB ⟨mw, mh, mr, mn, mx, my, md⟩ = true) : VC_spec_wmText mw mh mr mn mx my md (retP (.str (textM ⟨mw, mh, mr, mn, mx, my, md⟩))) := by
  obtain ⟨h1, h2, h3, h4, h5, h6, h7⟩ := wom_nine h
  simp only at h1 h2 h3 h4 h5 h6 h7
  unfold VC_spec_wmText
  simp only [at_iff, retP_str, h1, h2, h3, h4, h5, List.length_append, num1_len, List.length_cons, List.length_nil, textM, true_and, and_true]
  refine ⟨?_, ?_, ?_, ?_, ?_, ?_, ?_, ?_, ?_, ?_, ?_, ?_⟩ <;> omega
theorem vc_spec_WormText (mw mh : Int) (mr mn : List UInt8) (mx my md : Int) (_ : True) : VC_spec_WormText mw mh mr mn mx my md
    (retP (.tup [.str (bif womB ⟨mw, mh, mr, mn, mx, my, md⟩ then textM ⟨mw, mh, mr, mn, mx, my, md⟩ else []), .bool (womB ⟨mw, mh, mr, mn, mx, my, md⟩)])) := by
  unfold VC_spec_WormText
  cases hg : womB ⟨mw, mh, mr, mn, mx, my, md⟩ <;> simp [at_iff, retP, leV, leL, chkB, V.under, underL]
theorem vc_impl_WormText (mw mh : Int) (mr mn : List UInt8) (mx my md : Int) (_ : True) : VC_impl_WormText mw mh mr mn mx my md
    (retP (.tup [.str (bif womB ⟨mw, mh, mr, mn, mx, my, md⟩ then textM ⟨mw, mh, mr, mn, mx, my, md⟩ else []), .bool (womB ⟨mw, mh, mr, mn, mx, my, md⟩)])) := by
  unfold VC_impl_WormText
  cases hg : womB ⟨mw, mh, mr, mn, mx, my, md⟩
  · simp [at_iff, retP, leV, leL, chkB, V.under, underL]
  · obtain ⟨h1, h2, h3, h4, h5, h6, h7⟩ := wom_nine hg
    simp only at h1 h2 h3 h4 h5 h6 h7
    refine ⟨⟨trivial⟩, fun hf => by simp at hf, fun _ => ?_⟩
    simp only [at_iff, h1, h2, h3, h4, h5, List.length_append, num1_len, List.length_cons, List.length_nil, true_and, and_true]
    refine ⟨?_, ?_, ?_, ?_, ?_, ?_, ?_, ?_, ?_, ?_, ?_, ?_, ?_⟩
    all_goals first | omega | skip
    simp [retP, leV, leL, chkB, V.under, underL, textM]
theorem vc_spec_ParseWorm (s : List UInt8) (h : s.length ≤ 1048576) : VC_spec_ParseWorm s (retP (okWo (okT s) (parT s))) := by
  unfold VC_spec_ParseWorm
  have u58 : UInt8.ofNat (Int.toNat 58) = 58 := rfl
  have u120 : UInt8.ofNat (Int.toNat 120) = 120 := rfl
  have u44 : UInt8.ofNat (Int.toNat 44) = 44 := rfl
  have i0 : Int.toNat 0 = 0 := rfl
  have i1 : Int.toNat 1 = 1 := rfl
  have i2 : Int.toNat 2 = 2 := rfl
  have i3 : Int.toNat 3 = 3 := rfl
  rw [u58, u120, u44, i0, i1, i2, i3]
  refine ⟨⟨by omega, by omega, h⟩, fun h1 => fail_W (ok_no fun w hw hs => ?_), fun h1 => ⟨fun h2 => fail_W (ok_no fun w hw hs => ?_), fun h2 => ?_⟩⟩
  · have := (parts_of hw).len
    rw [← hs] at this
    have := of_decide_eq_true h1
    omega
  · rw [hs, (parts_of hw).ps] at h2
    simp at h2
  · have h4 : (splL 58 s).length = 4 := by
      simp only [bne_eq_false_iff_eq] at h2
      omega
    obtain ⟨p0, p1, p2, p3, hps⟩ : ∃ p0 p1 p2 p3, splL 58 s = [p0, p1, p2, p3] := ⟨_, _, _, _, list4 h4⟩
    have l0 : p0.length ≤ 1048576 := Nat.le_trans (spl_len (b := 58) (s := s) (by rw [hps]; simp)) h
    have l3 : p3.length ≤ 1048576 := Nat.le_trans (spl_len (b := 58) (s := s) (by rw [hps]; simp)) h
    have e0 : ptW s 0 = p0 := by unfold ptW; rw [hps]; rfl
    have e1 : ptW s 1 = p1 := by unfold ptW; rw [hps]; rfl
    have e2 : ptW s 2 = p2 := by unfold ptW; rw [hps]; rfl
    have e3 : ptW s 3 = p3 := by unfold ptW; rw [hps]; rfl
    rw [hps]
    simp only [List.getD_cons_zero, List.getD_cons_succ]
    refine ⟨?_, fun h3 => fail_W (ok_no fun w hw hs => ?_), fun h3 => ⟨fun h5 => fail_W (ok_no fun w hw hs => ?_), fun h5 => ?_⟩⟩
    · simp [at_iff, l0, l3]
    · have hp := parts_of hw
      rw [hs, hp.ps] at hps
      injection hps with hps _
      rw [← hps, hp.qs] at h3
      simp at h3
    · have hp := parts_of hw
      rw [hs, hp.ps] at hps
      injection hps with _ hps
      injection hps with _ hps
      injection hps with _ hps
      injection hps with hps _
      rw [← hps, hp.rs] at h5
      simp at h5
    · have hq : (splL 120 p0).length = 2 := by
        simp only [bne_eq_false_iff_eq] at h3
        omega
      have hr : (splL 44 p3).length = 3 := by
        simp only [bne_eq_false_iff_eq] at h5
        omega
      obtain ⟨q0, q1, hqs⟩ : ∃ q0 q1, splL 120 p0 = [q0, q1] := ⟨_, _, list2 hq⟩
      obtain ⟨r0, r1, r2, hrs⟩ : ∃ r0 r1 r2, splL 44 p3 = [r0, r1, r2] := ⟨_, _, _, list3 hr⟩
      have lq0 : q0.length ≤ 1048576 := Nat.le_trans (spl_len (b := 120) (s := p0) (by rw [hqs]; simp)) l0
      have lq1 : q1.length ≤ 1048576 := Nat.le_trans (spl_len (b := 120) (s := p0) (by rw [hqs]; simp)) l0
      have lr0 : r0.length ≤ 1048576 := Nat.le_trans (spl_len (b := 44) (s := p3) (by rw [hrs]; simp)) l3
      have lr1 : r1.length ≤ 1048576 := Nat.le_trans (spl_len (b := 44) (s := p3) (by rw [hrs]; simp)) l3
      have lr2 : r2.length ≤ 1048576 := Nat.le_trans (spl_len (b := 44) (s := p3) (by rw [hrs]; simp)) l3
      have hrd : rdW s = ⟨readF q0, readF q1, p1, p2, readF r0, readF r1, readF r2⟩ := by
        unfold rdW
        rw [e0, e1, e2, e3, hqs, hrs]
        rfl
      rw [hqs, hrs]
      simp only [List.getD_cons_zero, List.getD_cons_succ, ← hrd]
      simp only [at_iff, List.length_cons, List.length_nil, lq0, lq1, lr0, lr1, lr2, true_and]
      have good : womB (rdW s) = true → okT s = true ∧ parT s = rdW s := fun hg => by
        have ht := rd_text h4 (by rw [e0]; exact hq) (by rw [e3]; exact hr) hg
        have := par_text hg
        rw [← ht] at this
        exact ⟨this.2, this.1⟩
      have bad : (womB (rdW s) && textM (rdW s) == s) = false → okT s = false := fun hg => ok_no fun w hw hs => by
        have hp := parts_of hw
        have hw' : rdW s = w := by
          rw [hrd]
          rw [hs, hp.ps] at hps
          injection hps with j0 hps
          injection hps with j1 hps
          injection hps with j2 hps
          injection hps with j3 _
          rw [← j0, hp.qs] at hqs
          injection hqs with k0 hqs
          injection hqs with k1 _
          rw [← j3, hp.rs] at hrs
          injection hrs with m0 hrs
          injection hrs with m1 hrs
          injection hrs with m2 _
          obtain ⟨d1, d2, d3, d4, d5⟩ := hp.rd
          rw [← j1, ← j2, ← k0, ← k1, ← m0, ← m1, ← m2, d1, d2, d3, d4, d5]
        rw [hw', hw, ← hs] at hg
        simp at hg
      refine ⟨by omega, by omega, by omega, by omega, by omega, by omega, by omega, by omega, by omega, by omega, by omega, by omega, by omega, by omega, ⟨⟨⟨?_, fun hg => fail_W (bad (by simpa only [Bool.not_eq_true'] using hg)), fun hg => ?_⟩, trivial⟩, trivial⟩⟩
      · cases hgW : womB (rdW s) <;> simp
      obtain ⟨g1, g2⟩ := good (by
        have : (womB (rdW s) && textM (rdW s) == s) = true := by simpa using hg
        simp only [Bool.and_eq_true] at this
        exact this.1)
      have := retP_okwl (u := rdW s) (m := parT s) (b := true) (ok := okT s) g1.symm (by rw [g1, g2]; rfl)
      rw [hrd] at this
      exact this
theorem vc_impl_ParseWorm (s : List UInt8) (h : s.length ≤ 1048576) : VC_impl_ParseWorm s (retP (okWo (okT s) (parT s))) := by
  unfold VC_impl_ParseWorm
  have i0 : Int.toNat 0 = 0 := rfl
  have i1 : Int.toNat 1 = 1 := rfl
  have i2 : Int.toNat 2 = 2 := rfl
  have i3 : Int.toNat 3 = 3 := rfl
  have i4 : Int.toNat 4 = 4 := rfl
  rw [i0, i1, i2, i3, i4]
  obtain ⟨f1, f2⟩ := spN_four s
  refine ⟨⟨rfl, rfl, rfl, h⟩, fun h2 => fail_W ?_, fun h2 => ?_⟩
  · have : decide ((splL 58 s).length = 4) = false := decide_eq_false fun h4 => by
      rw [f1.2 h4] at h2
      simp at h2
    simp [okT, this]
  · have hn : (spN s).length = 4 := by
      simp only [bne_eq_false_iff_eq] at h2
      omega
    have h4 := f1.1 hn
    obtain ⟨p0, p1, p2, p3, hps⟩ : ∃ p0 p1 p2 p3, splL 58 s = [p0, p1, p2, p3] := ⟨_, _, _, _, list4 h4⟩
    have e0 : ptW s 0 = p0 := by unfold ptW; rw [hps]; rfl
    have e1 : ptW s 1 = p1 := by unfold ptW; rw [hps]; rfl
    have e2 : ptW s 2 = p2 := by unfold ptW; rw [hps]; rfl
    have e3 : ptW s 3 = p3 := by unfold ptW; rw [hps]; rfl
    rw [f2 hn, hps]
    simp only [List.getD_cons_zero, List.getD_cons_succ]
    have hpar : parT s = ⟨((p0.getD 0 0).toNat : Int) - 48, ((p0.getD 2 0).toNat : Int) - 48, p1, p2, ((p3.getD 0 0).toNat : Int) - 48, ((p3.getD 2 0).toNat : Int) - 48, ((p3.getD 4 0).toNat : Int) - 48⟩ := by
      unfold parT dgW
      rw [e0, e1, e2, e3]
    simp only [← hpar]
    simp only [at_iff, List.length_cons, List.length_nil]
    have n58 : decide ((splL 58 s).length = 4) = true := decide_eq_true h4
    refine ⟨by omega, by omega, fun h3 => fail_W ?_, fun h3 => ⟨by omega, by omega, fun h5 => fail_W ?_, fun h5 => ?_⟩⟩
    · have : decide ((ptW s 0).length = 3) = false := decide_eq_false fun hc => by
        rw [e0] at hc
        rw [hc] at h3
        simp at h3
      simp [okT, this]
    · have : decide ((ptW s 3).length = 5) = false := decide_eq_false fun hc => by
        rw [e3] at hc
        rw [hc] at h5
        simp at h5
      simp [okT, this]
    · have hq : p0.length = 3 := by
        simp only [bne_eq_false_iff_eq] at h3
        omega
      have hr : p3.length = 5 := by
        simp only [bne_eq_false_iff_eq] at h5
        omega
      have n1 : decide ((ptW s 0).length = 3) = true := decide_eq_true (by rw [e0]; exact hq)
      have n3 : decide ((ptW s 3).length = 5) = true := decide_eq_true (by rw [e3]; exact hr)
      have hok : okT s = (womB (parT s) && (textM (parT s) == s)) := by
        unfold okT
        rw [n58, n1, n3]
        rfl
      have b1 := byte_lt (p0.getD 0 0)
      have b2 := byte_lt (p0.getD 2 0)
      have b3 := byte_lt (p3.getD 0 0)
      have b4 := byte_lt (p3.getD 2 0)
      have b5 := byte_lt (p3.getD 4 0)
      rw [hq, hr]
      refine ⟨trivial, by omega, by omega, by omega, by omega, by omega, by omega, by omega, by omega, by omega, by omega, by omega, by omega, by omega, by omega, by omega, by omega, by omega, by omega, ⟨⟨⟨trivial, fun hg => fail_W ?_, fun hg => ⟨fun ht => fail_W ?_, fun ht => ?_⟩⟩, trivial⟩, trivial⟩⟩
      · rw [hok]
        cases hgb : womB (parT s)
        · rfl
        · rw [hgb] at hg
          cases hg
      · have hg' : womB (parT s) = true := by
          cases hgb : womB (parT s)
          · rw [hgb] at hg
            cases hg
          · rfl
        rw [hok, hg']
        rw [hg'] at ht
        simpa using ht
      · have hg' : womB (parT s) = true := by
          cases hgb : womB (parT s)
          · rw [hgb] at hg
            cases hg
          · rfl
        have hok1 : okT s = true := by
          rw [hok, hg']
          rw [hg'] at ht
          simpa using ht
        have := retP_okwl (u := parT s) (m := parT s) (b := true) (ok := okT s) hok1.symm (by rw [hok1]; rfl)
        refine Eq.mp (congrArg (fun v => retP (okWo (okT s) (parT s)) (.tup [woV v, .lit true])) hpar) this
end Go.Vi
