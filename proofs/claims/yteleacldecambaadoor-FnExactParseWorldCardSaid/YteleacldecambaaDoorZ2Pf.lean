/- A world read: the conditions hold. -/
import Derived.Test.YteleacldecambaaDoorZ2Vc
import Derived.Test.YteleacldecambaaDoorZ2Spec
namespace Go.Vi
theorem retP_okz {u w : Wd} {b ok : Bool} (h : b = ok) (hu : u = bif ok then w else zeroWd) : retP (okV ok w) (.tup [wdV u, .lit b]) := by
  subst h; subst hu
  simp [okV, wdV, retP, leV, leL, chkB, V.under, underL]
/-! ### a text's parts -/
theorem rule_no58 {r : List UInt8} (h : ruleB r = true) : (58 : UInt8) ∉ r := by
  unfold ruleB at h
  simp only [Bool.and_eq_true, List.all_eq_true] at h
  intro hm
  have := h.2 58 hm
  simp [signB] at this
theorem cols_no58 {c : List UInt8} {n : Int} (h : colsB c n = true) (hn : n ≤ 6) : (58 : UInt8) ∉ c := by
  unfold colsB at h
  rw [List.all_eq_true] at h
  intro hm
  have := inB_eq.1 (h 58 hm)
  have e : ((58 : UInt8).toNat : Int) = 58 := rfl
  omega
theorem no_app3 {b x : UInt8} {a c : List UInt8} (h1 : b ∉ a) (h2 : b ≠ x) (h3 : b ∉ c) : b ∉ a ++ x :: c := by
  simp only [List.mem_append, List.mem_cons, not_or]
  exact ⟨h1, h2, h3⟩
structure Parts (w : Wd) : Prop where
  ps : splL 58 (textW w) = [w.r, num1 w.w ++ 120 :: num1 w.h, w.c, num1 w.x ++ 44 :: (num1 w.y ++ 44 :: num1 w.d)]
  qs : splL 120 (num1 w.w ++ 120 :: num1 w.h) = [num1 w.w, num1 w.h]
  rs : splL 44 (num1 w.x ++ 44 :: (num1 w.y ++ 44 :: num1 w.d)) = [num1 w.x, num1 w.y, num1 w.d]
  len : (textW w).length ≤ 120
  rd : readF (num1 w.w) = w.w ∧ readF (num1 w.h) = w.h ∧ readF (num1 w.x) = w.x ∧ readF (num1 w.y) = w.y ∧ readF (num1 w.d) = w.d
theorem parts_of {w : Wd} (h : goodB w = true) : Parts w := by
  obtain ⟨h1, h2, h3, h4, h5, h6, h7⟩ := good_nine h
  have hb := good_bd h
  have d1 : ∀ {b : UInt8}, b.toNat < 48 ∨ 57 < b.toNat → ∀ {n : Int}, 0 ≤ n ∧ n ≤ 9 → b ∉ num1 n := fun hb _ hn => num1_not hn hb
  have a58 : (58 : UInt8) ∉ num1 w.w ++ 120 :: num1 w.h := no_app3 (d1 (.inr (by decide)) h1) (by decide) (d1 (.inr (by decide)) h2)
  have b58 : (58 : UInt8) ∉ num1 w.x ++ 44 :: (num1 w.y ++ 44 :: num1 w.d) := no_app3 (d1 (.inr (by decide)) h3) (by decide) (no_app3 (d1 (.inr (by decide)) h4) (by decide) (d1 (.inr (by decide)) h5))
  refine ⟨?_, ?_, ?_, ?_, read_num1 h1, read_num1 h2, read_num1 h3, read_num1 h4, read_num1 h5⟩
  · have e : textW w = w.r ++ 58 :: ((num1 w.w ++ 120 :: num1 w.h) ++ 58 :: (w.c ++ 58 :: (num1 w.x ++ 44 :: (num1 w.y ++ 44 :: num1 w.d)))) := by
      simp [textW]
    rw [e, splL_app (rule_no58 hb.2.2.2.2.2.2.2.2), splL_app a58, splL_app (cols_no58 hb.2.2.2.2.2.2.2.1 (by omega)), splL_none b58]
  · rw [splL_app (d1 (.inr (by decide)) h1), splL_none (d1 (.inr (by decide)) h2)]
  · rw [splL_app (d1 (.inl (by decide)) h3), splL_app (d1 (.inl (by decide)) h4), splL_none (d1 (.inl (by decide)) h5)]
  · simp only [textW, List.length_append, List.length_cons, List.length_nil, num1]
    omega
theorem par_text {w : Wd} (h : goodB w = true) : parW (textW w) = w ∧ okW (textW w) = true := by
  have hp := parts_of h
  obtain ⟨h1, h2, h3, h4, h5, _⟩ := good_nine h
  have n1 := num1_dig h1
  have n2 := num1_dig h2
  have n3 := num1_dig h3
  have n4 := num1_dig h4
  have n5 := num1_dig h5
  have e0 : ptW (textW w) 0 = w.r := by unfold ptW; rw [hp.ps]; rfl
  have e1 : ptW (textW w) 1 = num1 w.w ++ 120 :: num1 w.h := by unfold ptW; rw [hp.ps]; rfl
  have e2 : ptW (textW w) 2 = w.c := by unfold ptW; rw [hp.ps]; rfl
  have e3 : ptW (textW w) 3 = num1 w.x ++ 44 :: (num1 w.y ++ 44 :: num1 w.d) := by unfold ptW; rw [hp.ps]; rfl
  have hpar : parW (textW w) = w := by
    have g1 : dgW (textW w) 1 0 = w.w := by unfold dgW; rw [e1]; exact n1
    have g2 : dgW (textW w) 1 2 = w.h := by unfold dgW; rw [e1]; exact n2
    have g3 : dgW (textW w) 3 0 = w.x := by unfold dgW; rw [e3]; exact n3
    have g4 : dgW (textW w) 3 2 = w.y := by unfold dgW; rw [e3]; exact n4
    have g5 : dgW (textW w) 3 4 = w.d := by unfold dgW; rw [e3]; exact n5
    unfold parW
    rw [e0, e2, g1, g2, g3, g4, g5]
  refine ⟨hpar, ?_⟩
  unfold okW
  rw [hpar, e1, e3, hp.ps, h]
  simp [num1]
theorem ok_text {s : List UInt8} (h : okW s = true) : s = textW (parW s) ∧ goodB (parW s) = true := by
  unfold okW at h
  simp only [Bool.and_eq_true, beq_iff_eq] at h
  exact ⟨h.2.symm, h.1.2⟩
/-! ### at most five parts -/
def limF (b : UInt8) : Nat → List UInt8 → List (List UInt8)
  | 0, s => [s]
  | k + 1, s => (match partsF b s with | [] => [s] | [_] => [s] | p :: _ => p :: limF b k (s.drop (p.length + 1)))
theorem cut_at {b : UInt8} : ∀ {s : List UInt8}, b ∈ s → ∃ x y, s = x ++ b :: y ∧ b ∉ x
  | c :: s, h => by
    by_cases hc : c = b
    · exact ⟨[], s, by rw [hc]; rfl, by simp⟩
    · obtain ⟨x, y, rfl, hx⟩ := cut_at (s := s) (by rcases List.mem_cons.1 h with h | h; exact absurd h.symm hc; exact h)
      exact ⟨c :: x, y, rfl, by simp only [List.mem_cons, not_or]; exact ⟨fun e => hc e.symm, hx⟩⟩
theorem index_app {b : UInt8} : ∀ {x y : List UInt8}, b ∉ x → Go.Lib.index (x ++ b :: y) [b] = x.length
  | [], y, _ => by simp [Go.Lib.index]
  | c :: x, y, h => by
    simp only [List.mem_cons, not_or] at h
    have ih := index_app (x := x) (y := y) h.2
    have hp : [b].isPrefixOf (c :: (x ++ b :: y)) = false := by
      simp only [List.isPrefixOf, Bool.and_true, beq_eq_false_iff_ne]
      exact h.1
    simp only [List.cons_append, Go.Lib.index, hp, Bool.false_eq_true, if_false, ih]
    have : ((x.length : Int) == -1) = false := by rw [beq_eq_false_iff_ne]; omega
    rw [this]
    simp
theorem index_none {b : UInt8} : ∀ {x : List UInt8}, b ∉ x → Go.Lib.index x [b] = -1
  | [], _ => rfl
  | c :: x, h => by
    simp only [List.mem_cons, not_or] at h
    have ih := index_none (x := x) h.2
    have hp : [b].isPrefixOf (c :: x) = false := by
      simp only [List.isPrefixOf, Bool.and_true, beq_eq_false_iff_ne]
      exact h.1
    simp [Go.Lib.index, hp, ih]
theorem lim_parts (b : UInt8) : ∀ (k : Nat) (s : List UInt8), ((partsF b s).length ≤ k + 1 → Go.Lib.splitK [b] 0 k s = partsF b s) ∧ (k + 1 < (partsF b s).length → (Go.Lib.splitK [b] 0 k s).length = k + 1)
  | 0, s => by
    refine ⟨fun h => ?_, fun _ => rfl⟩
    by_cases hb : b ∈ s
    · obtain ⟨x, y, rfl, hx⟩ := cut_at hb
      rw [partsF_app hx] at h
      have := partsF_ne b y
      cases hy : partsF b y with
      | nil => exact absurd hy this
      | cons _ _ => rw [hy] at h; simp at h
    · rw [partsF_none hb]; rfl
  | k + 1, s => by
    by_cases hb : b ∈ s
    · obtain ⟨x, y, rfl, hx⟩ := cut_at hb
      obtain ⟨i1, i2⟩ := lim_parts b k y
      have hs : Go.Lib.splitK [b] 0 (k + 1) (x ++ b :: y) = x :: Go.Lib.splitK [b] 0 k y := by
        show (if Go.Lib.index (x ++ b :: y) [b] == -1 then [x ++ b :: y] else (x ++ b :: y).take ((Go.Lib.index (x ++ b :: y) [b]).toNat + 0) :: Go.Lib.splitK [b] 0 k ((x ++ b :: y).drop ((Go.Lib.index (x ++ b :: y) [b]).toNat + [b].length))) = _
        rw [index_app hx]
        have : ((x.length : Int) == -1) = false := by rw [beq_eq_false_iff_ne]; omega
        rw [this]
        simp only [Bool.false_eq_true, if_false, Int.toNat_natCast, Nat.add_zero, List.length_singleton]
        rw [List.take_left' rfl]
        congr 2
        rw [show x.length + 1 = (x ++ [b]).length by simp, show x ++ b :: y = (x ++ [b]) ++ y by simp, List.drop_left' rfl]
      rw [hs, partsF_app hx]
      simp only [List.length_cons]
      exact ⟨fun h => by rw [i1 (by omega)], fun h => by rw [i2 (by omega)]⟩
    · have hs : Go.Lib.splitK [b] 0 (k + 1) s = [s] := by
        unfold Go.Lib.splitK
        rw [index_none hb]
        rfl
      rw [hs, partsF_none hb]
      exact ⟨fun _ => rfl, fun h => by simp at h⟩
theorem partsF_le (b : UInt8) : ∀ s : List UInt8, (partsF b s).length ≤ s.length + 1
  | [] => by simp [partsF]
  | c :: s => by
    have ih := partsF_le b s
    unfold partsF
    cases c == b
    · simp only [cond_false]
      cases h : partsF b s with
      | nil => simp [conP]
      | cons p r => rw [h] at ih; simp only [conP, List.length_cons] at ih ⊢; omega
    · simp only [cond_true, List.length_cons]
      omega
theorem spN_four (s : List UInt8) : ((spN s).length = 4 ↔ (splL 58 s).length = 4) ∧ ((spN s).length = 4 → spN s = splL 58 s) := by
  rw [splL_eq]
  have hle := partsF_le 58 s
  have key : ∀ k : Nat, k = min 5 (s.length + 1) - 1 → ((Go.Lib.splitK [58] 0 k s).length = 4 ↔ (partsF 58 s).length = 4) ∧ ((Go.Lib.splitK [58] 0 k s).length = 4 → Go.Lib.splitK [58] 0 k s = partsF 58 s) := by
    intro k hk
    obtain ⟨h1, h2⟩ := lim_parts 58 k s
    by_cases hc : (partsF 58 s).length ≤ k + 1
    · rw [h1 hc]
      exact ⟨Iff.rfl, fun _ => rfl⟩
    · have := h2 (by omega)
      rw [this]
      exact ⟨⟨fun h => by omega, fun h => by omega⟩, fun h => by omega⟩
  exact key _ rfl
theorem list4 {l : List (List UInt8)} (h : l.length = 4) : l = [l.getD 0 [], l.getD 1 [], l.getD 2 [], l.getD 3 []] := by
  match l, h with
  | [a, b, c, d], _ => rfl
theorem list2 {l : List (List UInt8)} (h : l.length = 2) : l = [l.getD 0 [], l.getD 1 []] := by
  match l, h with
  | [a, b], _ => rfl
theorem list3 {l : List (List UInt8)} (h : l.length = 3) : l = [l.getD 0 [], l.getD 1 [], l.getD 2 []] := by
  match l, h with
  | [a, b, c], _ => rfl
def rdW (s : List UInt8) : Wd :=
  ⟨ptW s 0, readF ((splL 120 (ptW s 1)).getD 0 []), readF ((splL 120 (ptW s 1)).getD 1 []), ptW s 2, readF ((splL 44 (ptW s 3)).getD 0 []), readF ((splL 44 (ptW s 3)).getD 1 []), readF ((splL 44 (ptW s 3)).getD 2 [])⟩
theorem rd_text {s : List UInt8} (h4 : (splL 58 s).length = 4) (hq : (splL 120 (ptW s 1)).length = 2) (hr : (splL 44 (ptW s 3)).length = 3) (hg : goodB (rdW s) = true) : s = textW (rdW s) := by
  obtain ⟨g1, g2, g3, g4, g5, _⟩ := good_nine hg
  have hs := joinB_parts 58 s
  rw [← splL_eq, list4 h4] at hs
  have e1 := joinB_parts 120 (ptW s 1)
  rw [← splL_eq, list2 hq] at e1
  have e3 := joinB_parts 44 (ptW s 3)
  rw [← splL_eq, list3 hr] at e3
  have q0 := read_one (s := (splL 120 (ptW s 1)).getD 0 []) rfl g1
  have q1 := read_one (s := (splL 120 (ptW s 1)).getD 1 []) rfl g2
  have r0 := read_one (s := (splL 44 (ptW s 3)).getD 0 []) rfl g3
  have r1 := read_one (s := (splL 44 (ptW s 3)).getD 1 []) rfl g4
  have r2 := read_one (s := (splL 44 (ptW s 3)).getD 2 []) rfl g5
  simp only [joinB] at hs e1 e3
  rw [q0, q1] at e1
  rw [r0, r1, r2] at e3
  have hs' : s = ptW s 0 ++ 58 :: (ptW s 1 ++ 58 :: (ptW s 2 ++ 58 :: ptW s 3)) := hs.symm
  have ht : textW (rdW s) = ptW s 0 ++ 58 :: ((num1 (rdW s).w ++ 120 :: num1 (rdW s).h) ++ 58 :: (ptW s 2 ++ 58 :: (num1 (rdW s).x ++ 44 :: (num1 (rdW s).y ++ 44 :: num1 (rdW s).d)))) := by
    simp [textW, rdW]
  have e1' : num1 (rdW s).w ++ 120 :: num1 (rdW s).h = ptW s 1 := e1
  have e3' : num1 (rdW s).x ++ 44 :: (num1 (rdW s).y ++ 44 :: num1 (rdW s).d) = ptW s 3 := e3
  rw [ht, e1', e3']
  exact hs'
theorem ok_no {s : List UInt8} (h : ∀ w : Wd, goodB w = true → s ≠ textW w) : okW s = false := by
  cases hk : okW s with
  | false => rfl
  | true => exact absurd (ok_text hk).1 (h _ (ok_text hk).2)
theorem fail_W {s : List UInt8} (h : okW s = false) : retP (okV (okW s) (parW s)) (.tup [.agg [.str (Array.toList #[]), .int .i64 0, .int .i64 0, .str (Array.toList #[]), .int .i64 0, .int .i64 0, .int .i64 0], .lit false]) :=
  retP_okz (u := zeroWd) h.symm (by rw [h]; rfl)
theorem parts_len (b : UInt8) : ∀ s : List UInt8, ∀ p ∈ partsF b s, p.length ≤ s.length
  | [], p, hp => by simp [partsF] at hp; subst hp; simp
  | c :: s, p, hp => by
    have ih := parts_len b s
    unfold partsF at hp
    cases hc : c == b
    · rw [hc] at hp
      simp only [cond_false] at hp
      cases hq : partsF b s with
      | nil => exact absurd hq (partsF_ne b s)
      | cons q r =>
        rw [hq] at hp ih
        simp only [conP, List.mem_cons] at hp
        rcases hp with rfl | hp
        · have := ih q (by simp)
          simp only [List.length_cons]; omega
        · have := ih p (by simp [hp])
          simp only [List.length_cons]; omega
    · rw [hc] at hp
      simp only [cond_true, List.mem_cons] at hp
      rcases hp with rfl | hp
      · simp
      · have := ih p hp
        simp only [List.length_cons]; omega
theorem spl_len {b : UInt8} {s p : List UInt8} (h : p ∈ splL b s) : p.length ≤ s.length := parts_len b s p (by rw [← splL_eq]; exact h)
theorem vc_spec_ParseWorld (s : List UInt8) (h : s.length ≤ 1048576) : VC_spec_ParseWorld s (retP (okV (okW s) (parW s))) := by
  unfold VC_spec_ParseWorld
  have u58 : UInt8.ofNat (Int.toNat 58) = 58 := rfl
  have u120 : UInt8.ofNat (Int.toNat 120) = 120 := rfl
  have u44 : UInt8.ofNat (Int.toNat 44) = 44 := rfl
  have i0 : Int.toNat 0 = 0 := rfl
  have i1 : Int.toNat 1 = 1 := rfl
  have i2 : Int.toNat 2 = 2 := rfl
  have i3 : Int.toNat 3 = 3 := rfl
  rw [u58, u120, u44, i0, i1, i2, i3]
  refine ⟨⟨by omega, by omega, h⟩, fun h1 => fail_W (ok_no fun w hw hs => ?_), fun h1 => ⟨fun h2 => fail_W (ok_no fun w hw hs => ?_), fun h2 => ?_⟩⟩
  · have := (parts_of hw).len
    rw [← hs] at this
    have := of_decide_eq_true h1
    omega
  · rw [hs, (parts_of hw).ps] at h2
    simp at h2
  · have h4 : (splL 58 s).length = 4 := by
      simp only [bne_eq_false_iff_eq] at h2
      omega
    obtain ⟨p0, p1, p2, p3, hps⟩ : ∃ p0 p1 p2 p3, splL 58 s = [p0, p1, p2, p3] := ⟨_, _, _, _, list4 h4⟩
    have l0 : p0.length ≤ 1048576 := Nat.le_trans (spl_len (b := 58) (s := s) (by rw [hps]; simp)) h
    have l1 : p1.length ≤ 1048576 := Nat.le_trans (spl_len (b := 58) (s := s) (by rw [hps]; simp)) h
    have l3 : p3.length ≤ 1048576 := Nat.le_trans (spl_len (b := 58) (s := s) (by rw [hps]; simp)) h
    have e0 : ptW s 0 = p0 := by unfold ptW; rw [hps]; rfl
    have e1 : ptW s 1 = p1 := by unfold ptW; rw [hps]; rfl
    have e2 : ptW s 2 = p2 := by unfold ptW; rw [hps]; rfl
    have e3 : ptW s 3 = p3 := by unfold ptW; rw [hps]; rfl
    have t120 : (0 : Int) ≤ 120 ∧ (120 : Int) < 256 := by omega
    have t44 : (0 : Int) ≤ 44 ∧ (44 : Int) < 256 := by omega
    rw [hps]
    simp only [List.getD_cons_zero, List.getD_cons_succ]
    refine ⟨?_, fun h3 => fail_W (ok_no fun w hw hs => ?_), fun h3 => ⟨fun h5 => fail_W (ok_no fun w hw hs => ?_), fun h5 => ?_⟩⟩
    · simp [at_iff, l1, l3]
    · have hp := parts_of hw
      rw [hs, hp.ps] at hps
      injection hps with _ hps
      injection hps with hps _
      rw [← hps, hp.qs] at h3
      simp at h3
    · have hp := parts_of hw
      rw [hs, hp.ps] at hps
      injection hps with _ hps
      injection hps with _ hps
      injection hps with _ hps
      injection hps with hps _
      rw [← hps, hp.rs] at h5
      simp at h5
    · have hq : (splL 120 p1).length = 2 := by
        simp only [bne_eq_false_iff_eq] at h3
        omega
      have hr : (splL 44 p3).length = 3 := by
        simp only [bne_eq_false_iff_eq] at h5
        omega
      obtain ⟨q0, q1, hqs⟩ : ∃ q0 q1, splL 120 p1 = [q0, q1] := ⟨_, _, list2 hq⟩
      obtain ⟨r0, r1, r2, hrs⟩ : ∃ r0 r1 r2, splL 44 p3 = [r0, r1, r2] := ⟨_, _, _, list3 hr⟩
      have lq0 : q0.length ≤ 1048576 := Nat.le_trans (spl_len (b := 120) (s := p1) (by rw [hqs]; simp)) l1
      have lq1 : q1.length ≤ 1048576 := Nat.le_trans (spl_len (b := 120) (s := p1) (by rw [hqs]; simp)) l1
      have lr0 : r0.length ≤ 1048576 := Nat.le_trans (spl_len (b := 44) (s := p3) (by rw [hrs]; simp)) l3
      have lr1 : r1.length ≤ 1048576 := Nat.le_trans (spl_len (b := 44) (s := p3) (by rw [hrs]; simp)) l3
      have lr2 : r2.length ≤ 1048576 := Nat.le_trans (spl_len (b := 44) (s := p3) (by rw [hrs]; simp)) l3
      have hrd : rdW s = ⟨p0, readF q0, readF q1, p2, readF r0, readF r1, readF r2⟩ := by
        unfold rdW
        rw [e0, e1, e2, e3, hqs, hrs]
        rfl
      rw [hqs, hrs]
      simp only [List.getD_cons_zero, List.getD_cons_succ, ← hrd]
      simp only [at_iff, List.length_cons, List.length_nil, lq0, lq1, lr0, lr1, lr2, true_and]
      have good : goodB (rdW s) = true → okW s = true ∧ parW s = rdW s := fun hg => by
        have ht := rd_text h4 (by rw [e1]; exact hq) (by rw [e3]; exact hr) hg
        have := par_text hg
        rw [← ht] at this
        exact ⟨this.2, this.1⟩
      have bad : goodB (rdW s) = false → okW s = false := fun hg => ok_no fun w hw hs => by
        have hp := parts_of hw
        have hw' : rdW s = w := by
          rw [hrd]
          rw [hs, hp.ps] at hps
          injection hps with j0 hps
          injection hps with j1 hps
          injection hps with j2 hps
          injection hps with j3 _
          rw [← j1, hp.qs] at hqs
          injection hqs with k0 hqs
          injection hqs with k1 _
          rw [← j3, hp.rs] at hrs
          injection hrs with m0 hrs
          injection hrs with m1 hrs
          injection hrs with m2 _
          obtain ⟨d1, d2, d3, d4, d5⟩ := hp.rd
          rw [← j0, ← j2, ← k0, ← k1, ← m0, ← m1, ← m2, d1, d2, d3, d4, d5]
        rw [hw', hw] at hg
        cases hg
      refine ⟨by omega, by omega, by omega, by omega, by omega, by omega, by omega, by omega, by omega, by omega, by omega, by omega, by omega, by omega, ⟨⟨⟨fun hg => fail_W (bad (by simpa using hg)), fun hg => ?_⟩, trivial⟩, trivial⟩⟩
      obtain ⟨g1, g2⟩ := good (by simpa using hg)
      have := retP_okz (u := rdW s) (w := parW s) (b := true) (ok := okW s) g1.symm (by rw [g1, g2]; rfl)
      rw [hrd] at this
      exact this
theorem vc_impl_ParseWorld (s : List UInt8) (h : s.length ≤ 1048576) : VC_impl_ParseWorld s (retP (okV (okW s) (parW s))) := by
  unfold VC_impl_ParseWorld
  have i0 : Int.toNat 0 = 0 := rfl
  have i1 : Int.toNat 1 = 1 := rfl
  have i2 : Int.toNat 2 = 2 := rfl
  have i3 : Int.toNat 3 = 3 := rfl
  have i4 : Int.toNat 4 = 4 := rfl
  rw [i0, i1, i2, i3, i4]
  obtain ⟨f1, f2⟩ := spN_four s
  refine ⟨⟨rfl, rfl, rfl, h⟩, fun h2 => fail_W ?_, fun h2 => ?_⟩
  · have : decide ((splL 58 s).length = 4) = false := decide_eq_false fun h4 => by
      rw [f1.2 h4] at h2
      simp at h2
    simp [okW, this]
  · have hn : (spN s).length = 4 := by
      simp only [bne_eq_false_iff_eq] at h2
      omega
    have h4 := f1.1 hn
    obtain ⟨p0, p1, p2, p3, hps⟩ : ∃ p0 p1 p2 p3, splL 58 s = [p0, p1, p2, p3] := ⟨_, _, _, _, list4 h4⟩
    have e0 : ptW s 0 = p0 := by unfold ptW; rw [hps]; rfl
    have e1 : ptW s 1 = p1 := by unfold ptW; rw [hps]; rfl
    have e2 : ptW s 2 = p2 := by unfold ptW; rw [hps]; rfl
    have e3 : ptW s 3 = p3 := by unfold ptW; rw [hps]; rfl
    rw [f2 hn, hps]
    simp only [List.getD_cons_zero, List.getD_cons_succ]
    have hpar : parW s = ⟨p0, ((p1.getD 0 0).toNat : Int) - 48, ((p1.getD 2 0).toNat : Int) - 48, p2, ((p3.getD 0 0).toNat : Int) - 48, ((p3.getD 2 0).toNat : Int) - 48, ((p3.getD 4 0).toNat : Int) - 48⟩ := by
      unfold parW dgW
      rw [e0, e1, e2, e3]
    simp only [← hpar]
    simp only [at_iff, List.length_cons, List.length_nil]
    have n58 : decide ((splL 58 s).length = 4) = true := decide_eq_true h4
    refine ⟨by omega, by omega, fun h3 => fail_W ?_, fun h3 => ⟨by omega, by omega, fun h5 => fail_W ?_, fun h5 => ?_⟩⟩
    · have : decide ((ptW s 1).length = 3) = false := decide_eq_false fun hc => by
        rw [e1] at hc
        rw [hc] at h3
        simp at h3
      simp [okW, this]
    · have : decide ((ptW s 3).length = 5) = false := decide_eq_false fun hc => by
        rw [e3] at hc
        rw [hc] at h5
        simp at h5
      simp [okW, this]
    · have hq : p1.length = 3 := by
        simp only [bne_eq_false_iff_eq] at h3
        omega
      have hr : p3.length = 5 := by
        simp only [bne_eq_false_iff_eq] at h5
        omega
      have n1 : decide ((ptW s 1).length = 3) = true := decide_eq_true (by rw [e1]; exact hq)
      have n3 : decide ((ptW s 3).length = 5) = true := decide_eq_true (by rw [e3]; exact hr)
      have hok : okW s = (goodB (parW s) && (textW (parW s) == s)) := by
        unfold okW
        rw [n58, n1, n3]
        rfl
      have b1 := byte_lt (p1.getD 0 0)
      have b2 := byte_lt (p1.getD 2 0)
      have b3 := byte_lt (p3.getD 0 0)
      have b4 := byte_lt (p3.getD 2 0)
      have b5 := byte_lt (p3.getD 4 0)
      rw [hq, hr]
      refine ⟨trivial, by omega, by omega, by omega, by omega, by omega, by omega, by omega, by omega, by omega, by omega, by omega, by omega, by omega, by omega, by omega, by omega, by omega, by omega, ⟨⟨⟨trivial, fun hg => fail_W ?_, fun hg => ⟨fun ht => fail_W ?_, fun ht => ?_⟩⟩, trivial⟩, trivial⟩⟩
      · rw [hok]
        cases hgb : goodB (parW s)
        · rfl
        · rw [hgb] at hg
          cases hg
      · have hg' : goodB (parW s) = true := by
          cases hgb : goodB (parW s)
          · rw [hgb] at hg
            cases hg
          · rfl
        rw [hok, hg']
        rw [hg'] at ht
        simpa using ht
      · have hg' : goodB (parW s) = true := by
          cases hgb : goodB (parW s)
          · rw [hgb] at hg
            cases hg
          · rfl
        have hok1 : okW s = true := by
          rw [hok, hg']
          rw [hg'] at ht
          simpa using ht
        have := retP_okz (u := parW s) (w := parW s) (b := true) (ok := okW s) hok1.symm (by rw [hok1]; rfl)
        refine Eq.mp (congrArg (fun v => retP (okV (okW s) (parW s)) (.tup [wdV v, .lit true])) hpar) this
end Go.Vi
