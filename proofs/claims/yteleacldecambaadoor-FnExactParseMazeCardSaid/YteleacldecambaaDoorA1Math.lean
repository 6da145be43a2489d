/- A ball comes out or comes again. -/
import Derived.Test.YteleacldecambaaDoorA1Defs
namespace Go.Vi
theorem pigeon : ∀ (N : Nat) (g : Nat → Nat), (∀ i, i ≤ N → g i < N) → ∃ i j, i < j ∧ j ≤ N ∧ g i = g j
  | 0, g, h => absurd (h 0 (Nat.le_refl _)) (Nat.not_lt_zero _)
  | N + 1, g, h => by
    by_cases hv : ∃ i, i ≤ N ∧ g i = g (N + 1)
    · obtain ⟨i, hi, he⟩ := hv
      exact ⟨i, N + 1, by omega, Nat.le_refl _, he⟩
    · have hne : ∀ i, i ≤ N → g i ≠ g (N + 1) := fun i hi he => hv ⟨i, hi, he⟩
      have hl := h (N + 1) (Nat.le_refl _)
      obtain ⟨i, j, hij, hj, he⟩ := pigeon N (fun i => if g i < g (N + 1) then g i else g i - 1) (fun i hi => by
        have h1 := hne i hi
        have h2 := h i (by omega)
        split <;> omega)
      refine ⟨i, j, hij, by omega, ?_⟩
      have h1 := hne i (by omega)
      have h2 := hne j hj
      split at he <;> split at he <;> omega
theorem pigeonL {α : Type} [DecidableEq α] (S : List α) (f : Nat → α) (h : ∀ i, i ≤ S.length → f i ∈ S) : ∃ i j, i < j ∧ j ≤ S.length ∧ f i = f j := by
  obtain ⟨i, j, hij, hj, he⟩ := pigeon S.length (fun i => S.idxOf (f i)) fun i hi => List.idxOf_lt_length_of_mem (h i hi)
  refine ⟨i, j, hij, hj, ?_⟩
  have hi := List.idxOf_lt_length_of_mem (h i (by omega))
  have hj' := List.idxOf_lt_length_of_mem (h j hj)
  have e1 := List.getElem_idxOf hi
  have e2 := List.getElem_idxOf hj'
  rw [← e1, ← e2]
  simp only [he]
/-! ### cells and ways -/
theorem mirB_iff {b : UInt8} : mirB b = true ↔ b = 46 ∨ b = 90 ∨ b = 83 := by
  unfold mirB; simp [or_assoc]
theorem mirO_mir {b : UInt8} (h : mirB b = true) : mirB (mirO b) = true := by
  rcases mirB_iff.1 h with rfl | rfl | rfl <;> decide
theorem mirO_inj {b c : UInt8} (hb : mirB b = true) (hc : mirB c = true) (h : mirO b = mirO c) : b = c := by
  rcases mirB_iff.1 hb with rfl | rfl | rfl <;> rcases mirB_iff.1 hc with rfl | rfl | rfl <;> first | rfl | (exact absurd h (by decide))
theorem four {d : Int} (h : 0 ≤ d ∧ d ≤ 3) : d = 0 ∨ d = 1 ∨ d = 2 ∨ d = 3 := by omega
theorem wayN_bd {b : UInt8} {d : Int} (hb : mirB b = true) (h : 0 ≤ d ∧ d ≤ 3) : 0 ≤ wayN b d ∧ wayN b d ≤ 3 := by
  rcases mirB_iff.1 hb with rfl | rfl | rfl <;> rcases four h with rfl | rfl | rfl | rfl <;> decide
theorem wayN_inj {b : UInt8} {d e : Int} (hb : mirB b = true) (hd : 0 ≤ d ∧ d ≤ 3) (he : 0 ≤ e ∧ e ≤ 3) (h : wayN b d = wayN b e) : d = e := by
  rcases mirB_iff.1 hb with rfl | rfl | rfl <;> rcases four hd with rfl | rfl | rfl | rfl <;> rcases four he with rfl | rfl | rfl | rfl <;> first | rfl | (exact absurd h (by decide))
theorem flat_ix {x y w h : Int} (hx : 0 ≤ x ∧ x < w) (hy : 0 ≤ y ∧ y < h) : 0 ≤ y * w + x ∧ y * w + x < w * h := by
  have h1 : 0 ≤ y * w := Int.mul_nonneg hy.1 (by omega)
  have h2 : (y + 1) * w ≤ h * w := Int.mul_le_mul_of_nonneg_right (by omega) (by omega)
  rw [Int.add_mul, Int.one_mul, Int.mul_comm h w] at h2
  omega
theorem inR_iff {w h : Int} {r : Rl} : inR w h r = true ↔ (0 ≤ r.x ∧ r.x < w) ∧ (0 ≤ r.y ∧ r.y < h) := by
  unfold inR
  rw [Bool.and_eq_true, inB_eq, inB_eq]
  omega
theorem goodR.ix {w h : Int} {r : Rl} (g : goodR w h r) : 0 ≤ r.y * w + r.x ∧ r.y * w + r.x < w * h ∧ ixR w r < r.c.length ∧ mirB (cellR w r) = true := by
  obtain ⟨_, hl, hm, hi, _⟩ := g
  obtain ⟨hx, hy⟩ := inR_iff.1 hi
  have hf := flat_ix hx hy
  have hlt : ixR w r < r.c.length := by unfold ixR; omega
  refine ⟨hf.1, hf.2, hlt, ?_⟩
  unfold cellR
  rw [List.getD_eq_getElem?_getD, List.getElem?_eq_getElem hlt]
  exact List.all_eq_true.1 hm _ (List.getElem_mem _)
theorem set_mir {l : List UInt8} {i : Nat} {v : UInt8} (h : l.all mirB = true) (hv : mirB v = true) : (l.set i v).all mirB = true := by
  rw [List.all_eq_true] at h ⊢
  intro x hx
  rcases List.mem_or_eq_of_mem_set hx with h' | rfl
  · exact h x h'
  · exact hv
theorem hit_cells {t : Bool} {w h : Int} {r : Rl} (g : goodR w h r) : ((hitR t w r).c.length : Int) = w * h ∧ (hitR t w r).c.all mirB = true ∧ 0 ≤ (hitR t w r).d ∧ (hitR t w r).d ≤ 3 := by
  obtain ⟨_, _, _, hc⟩ := g.ix
  obtain ⟨_, hl, hm, _, hd⟩ := g
  have hb := wayN_bd hc hd
  refine ⟨?_, ?_, hb⟩
  · cases t <;> simp [hitR, hl]
  · cases t
    · exact hm
    · exact set_mir hm (mirO_mir hc)
theorem hit_good {t : Bool} {w h : Int} {r : Rl} (g : goodR w h r) (hi : inR w h (hitR t w r) = true) : goodR w h (hitR t w r) := by
  obtain ⟨h1, h2, h3⟩ := hit_cells (t := t) g
  exact ⟨g.1, h1, h2, hi, h3⟩
theorem hit_inj {t : Bool} {w h : Int} {r s : Rl} (g : goodR w h r) (k : goodR w h s) (e : hitR t w r = hitR t w s) : r = s := by
  obtain ⟨_, _, gl, gm⟩ := g.ix
  obtain ⟨_, _, kl, km⟩ := k.ix
  have ec : (hitR t w r).c = (hitR t w s).c := by rw [e]
  have ed : wayN (cellR w r) r.d = wayN (cellR w s) s.d := congrArg Rl.d e
  have ex : r.x + dxW (wayN (cellR w r) r.d) = s.x + dxW (wayN (cellR w s) s.d) := congrArg Rl.x e
  have ey : r.y + dyW (wayN (cellR w r) r.d) = s.y + dyW (wayN (cellR w s) s.d) := congrArg Rl.y e
  rw [ed] at ex ey
  have hx : r.x = s.x := by omega
  have hy : r.y = s.y := by omega
  have hix : ixR w r = ixR w s := by unfold ixR; rw [hx, hy]
  have hcell : cellR w r = cellR w s ∧ r.c = s.c := by
    cases t with
    | false =>
      have ec' : r.c = s.c := ec
      exact ⟨by unfold cellR; rw [ec', hix], ec'⟩
    | true =>
      have ec' : r.c.set (ixR w r) (mirO (cellR w r)) = s.c.set (ixR w s) (mirO (cellR w s)) := ec
      have hlen : r.c.length = s.c.length := by have := congrArg List.length ec'; simpa using this
      have h0 : mirO (cellR w r) = mirO (cellR w s) := by
        have h1 := congrArg (fun l => l[ixR w s]?) ec'
        simp only [hix, List.getElem?_set_self (show ixR w s < r.c.length by omega), List.getElem?_set_self kl, Option.some.injEq] at h1
        exact h1
      have h2 := mirO_inj gm km h0
      refine ⟨h2, List.ext_getElem hlen fun i hi hi' => ?_⟩
      by_cases hii : i = ixR w s
      · subst hii
        unfold cellR at h2
        rw [hix] at h2
        simp only [List.getD_eq_getElem?_getD, List.getElem?_eq_getElem hi, List.getElem?_eq_getElem hi', Option.getD_some] at h2
        exact h2
      · have h1 := congrArg (fun l => l[i]?) ec'
        simp only [hix, List.getElem?_set_ne (Ne.symm hii), List.getElem?_eq_getElem hi, List.getElem?_eq_getElem hi', Option.some.injEq] at h1
        exact h1
  rw [hcell.1] at ed
  have hd := wayN_inj km g.2.2.2.2 k.2.2.2.2 ed
  cases r; cases s
  simp only at hx hy hd hcell
  simp [hx, hy, hd, hcell.2]
/-! ### all balls -/
theorem allC_mem : ∀ {c : List UInt8}, c.all mirB = true → c ∈ allC c.length
  | [], _ => by simp [allC]
  | b :: c, h => by
    simp only [List.all_cons, Bool.and_eq_true] at h
    simp only [List.length_cons, allC, List.mem_flatMap]
    refine ⟨c, allC_mem h.2, ?_⟩
    rcases mirB_iff.1 h.1 with rfl | rfl | rfl <;> simp
theorem allR_mem {w h : Int} {r : Rl} (g : goodR w h r) : r ∈ allR (w * h).toNat := by
  obtain ⟨⟨hw, hh⟩, hl, hm, hi, hd⟩ := g
  obtain ⟨hx, hy⟩ := inR_iff.1 hi
  have e : (w * h).toNat = r.c.length := by omega
  unfold allR
  rw [e]
  simp only [List.mem_flatMap, List.mem_map, List.mem_range]
  refine ⟨r.c, allC_mem hm, r.x.toNat, by omega, r.y.toNat, by omega, r.d.toNat, by omega, ?_⟩
  cases r
  simp only at hx hy hd
  simp only [Rl.mk.injEq, true_and]
  omega
/-! ### until it stops -/
theorem iterR_succ (t : Bool) (w : Int) : ∀ (n : Nat) (r : Rl), iterR t w (n + 1) r = hitR t w (iterR t w n r)
  | 0, r => rfl
  | n + 1, r => by rw [show iterR t w (n + 1 + 1) r = iterR t w (n + 1) (hitR t w r) from rfl, iterR_succ t w n (hitR t w r)]; rfl
theorem iterR_add (t : Bool) (w : Int) (m : Nat) : ∀ (n : Nat) (r : Rl), iterR t w (n + m) r = iterR t w m (iterR t w n r)
  | 0, r => by rw [Nat.zero_add]; rfl
  | n + 1, r => by rw [show n + 1 + m = (n + m) + 1 by omega]; exact iterR_add t w m n (hitR t w r)
/-- Some time it stops. -/
theorem stops {t : Bool} {w h : Int} {r0 : Rl} (g : goodR w h r0) : ∃ n, n < fuelR w h ∧ stopR w h r0 (iterR t w (n + 1) r0) = true := by
  by_cases hex : ∃ n, n < fuelR w h ∧ stopR w h r0 (iterR t w (n + 1) r0) = true
  · exact hex
  · exfalso
    have hno : ∀ n, n < fuelR w h → inR w h (iterR t w (n + 1) r0) = true ∧ iterR t w (n + 1) r0 ≠ r0 := fun n hn => by
      have : ¬ stopR w h r0 (iterR t w (n + 1) r0) = true := fun hs => hex ⟨n, hn, hs⟩
      unfold stopR at this
      simp only [Bool.or_eq_true, Bool.not_eq_true', decide_eq_true_eq, not_or] at this
      exact ⟨by simpa using this.1, this.2⟩
    have hg : ∀ i, i ≤ fuelR w h → goodR w h (iterR t w i r0) := by
      intro i
      induction i with
      | zero => intro _; exact g
      | succ i ih =>
        intro hi
        have h1 := ih (by omega)
        have h2 := (hno i (by omega)).1
        rw [iterR_succ] at h2 ⊢
        exact hit_good h1 h2
    obtain ⟨i, j, hij, hj, he⟩ := pigeonL (allR (w * h).toNat) (fun i => iterR t w i r0) fun i hi => allR_mem (hg i hi)
    have back : ∀ i j, i < j → j ≤ fuelR w h → iterR t w i r0 = iterR t w j r0 → iterR t w (j - i) r0 = r0 := by
      intro i
      induction i with
      | zero => intro j _ _ he; exact he.symm
      | succ i ih =>
        intro j hij hj he
        obtain ⟨j, rfl⟩ : ∃ k, j = k + 1 := ⟨j - 1, by omega⟩
        rw [iterR_succ, iterR_succ] at he
        have := ih j (by omega) (by omega) (hit_inj (hg i (by omega)) (hg j (by omega)) he)
        rwa [show j + 1 - (i + 1) = j - i by omega]
    have hb := back i j hij hj he
    have hn := (hno (j - i - 1) (by unfold fuelR at *; omega)).2
    rw [show j - i - 1 + 1 = j - i by omega] at hn
    exact hn hb
/-- It goes so many times until it stops. -/
def Stops (t : Bool) (w h : Int) (r0 r : Rl) (n : Nat) : Prop := stopR w h r0 (iterR t w (n + 1) r) = true ∧ ∀ i, i < n → stopR w h r0 (iterR t w (i + 1) r) = false
theorem stops_least {t : Bool} {w h : Int} {r0 : Rl} (g : goodR w h r0) : ∃ n, n < fuelR w h ∧ Stops t w h r0 r0 n := by
  obtain ⟨n, hn, hs⟩ := stops (t := t) g
  clear g
  have : ∀ m, m ≤ n → (∃ k, k < m ∧ Stops t w h r0 r0 k) ∨ ∀ i, i < m → stopR w h r0 (iterR t w (i + 1) r0) = false := by
    intro m
    induction m with
    | zero => intro _; exact .inr fun i hi => by omega
    | succ m ih =>
      intro hm
      rcases ih (by omega) with ⟨k, hk, hk2⟩ | hall
      · exact .inl ⟨k, by omega, hk2⟩
      · cases hc : stopR w h r0 (iterR t w (m + 1) r0) with
        | true => exact .inl ⟨m, by omega, hc, hall⟩
        | false =>
          refine .inr fun i hi => ?_
          rcases Nat.lt_or_eq_of_le (Nat.le_of_lt_succ hi) with h1 | rfl
          · exact hall i h1
          · exact hc
  rcases this n (Nat.le_refl _) with ⟨k, hk, hk2⟩ | hall
  · exact ⟨k, by omega, hk2⟩
  · exact ⟨n, hn, hs, hall⟩
theorem cntR_stops {t : Bool} {w h : Int} {r0 : Rl} : ∀ (n f : Nat) (r : Rl), n < f → Stops t w h r0 r n → cntR t w h r0 f r = n + 1
  | _, 0, _, hf, _ => by omega
  | 0, f + 1, r, _, hs => by
    have h1 : stopR w h r0 (hitR t w r) = true := hs.1
    simp [cntR, h1]
  | n + 1, f + 1, r, hf, hs => by
    have h1 : stopR w h r0 (hitR t w r) = false := hs.2 0 (by omega)
    have ih := cntR_stops n f (hitR t w r) (by omega) ⟨hs.1, fun i hi => hs.2 (i + 1) (by omega)⟩
    simp [cntR, h1, ih]
/-- On the way: good, and it stops some time. -/
def OnWay (t : Bool) (w h : Int) (r0 r : Rl) : Prop := goodR w h r ∧ ∃ n, n < fuelR w h ∧ Stops t w h r0 r n
theorem onWay_first {t : Bool} {w h : Int} {r0 : Rl} (g : goodR w h r0) : OnWay t w h r0 r0 := ⟨g, stops_least g⟩
theorem stopR_false {w h : Int} {r0 r : Rl} : stopR w h r0 r = false ↔ inR w h r = true ∧ r ≠ r0 := by
  unfold stopR; simp
theorem onWay_next {t : Bool} {w h : Int} {r0 r : Rl} (o : OnWay t w h r0 r) (hs : stopR w h r0 (hitR t w r) = false) : OnWay t w h r0 (hitR t w r) ∧ leftR t w h r0 r = leftR t w h r0 (hitR t w r) + 1 := by
  obtain ⟨g, n, hn, hst⟩ := o
  obtain ⟨n, rfl⟩ : ∃ k, n = k + 1 := by
    cases n with
    | zero => have := hst.1; rw [show iterR t w (0 + 1) r = hitR t w r from rfl, hs] at this; cases this
    | succ k => exact ⟨k, rfl⟩
  have hst' : Stops t w h r0 (hitR t w r) n := ⟨hst.1, fun i hi => hst.2 (i + 1) (by omega)⟩
  refine ⟨⟨hit_good g (stopR_false.1 hs).1, n, by omega, hst'⟩, ?_⟩
  unfold leftR
  rw [cntR_stops (n + 1) _ r hn hst, cntR_stops n _ _ (by omega) hst']
theorem onWay_last {t : Bool} {w h : Int} {r0 r : Rl} (o : OnWay t w h r0 r) (hs : stopR w h r0 (hitR t w r) = true) : leftR t w h r0 r = 1 := by
  obtain ⟨g, n, hn, hst⟩ := o
  have : Stops t w h r0 r 0 := ⟨hs, fun i hi => by omega⟩
  unfold leftR
  rw [cntR_stops 0 _ r (by omega) this]
theorem run_last {t : Bool} {w h : Int} {r0 : Rl} {s : Rn} (o : OnWay t w h r0 s.r) (hs : stopR w h r0 (hitR t w s.r) = true) : runR t w h r0 s = ⟨hitR t w s.r, inc s.e, hitsN w s.r s.k⟩ := by
  unfold runR; rw [onWay_last o hs]; rfl
theorem run_next {t : Bool} {w h : Int} {r0 : Rl} {s : Rn} (o : OnWay t w h r0 s.r) (hs : stopR w h r0 (hitR t w s.r) = false) : runR t w h r0 s = runR t w h r0 ⟨hitR t w s.r, inc s.e, hitsN w s.r s.k⟩ := by
  have := (onWay_next o hs).2
  unfold runR
  rw [this]
  rfl
/-- What holds at the end. -/
theorem run_ind {t : Bool} {w h : Int} {r0 : Rl} (p : Rn → Prop) (q : Rn → Prop) (step : ∀ s, OnWay t w h r0 s.r → p s → stopR w h r0 (hitR t w s.r) = false → p ⟨hitR t w s.r, inc s.e, hitsN w s.r s.k⟩)
    (last : ∀ s, OnWay t w h r0 s.r → p s → stopR w h r0 (hitR t w s.r) = true → q ⟨hitR t w s.r, inc s.e, hitsN w s.r s.k⟩) : ∀ (n : Nat) (s : Rn), leftR t w h r0 s.r = n → OnWay t w h r0 s.r → p s → q (runR t w h r0 s)
  | 0, s, hn, o, hp => by
    cases hc : stopR w h r0 (hitR t w s.r) with
    | true => have := onWay_last o hc; omega
    | false => have := (onWay_next o hc).2; omega
  | n + 1, s, hn, o, hp => by
    cases hc : stopR w h r0 (hitR t w s.r) with
    | true => rw [run_last o hc]; exact last s o hp hc
    | false =>
      obtain ⟨o', hl⟩ := onWay_next o hc
      rw [run_next o hc]
      exact run_ind p q step last n _ (by simp only; omega) o' (step s o hp hc)
end Go.Vi
