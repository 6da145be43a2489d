/- What clues tell of worlds: the conditions hold. -/
import Derived.Test.YtbdhilflnfllaabDoorPVVc
import Derived.Test.YtbdhilflnfllaabDoorPVSpec
namespace Go.Vi
theorem led_step {f : Wd → Wd} (hf : ∀ w, goodB w = true → goodB (f w) = true) {s0 : Int} {w0 : Wd} {a : Led} (h : ledInv f s0 w0 a) (ha : a.k ≤ a.s) :
    ledInv f s0 w0 ⟨a.s, IntKind.wrap .i64 (a.k + 1), f a.v⟩ ∧ (a.s - IntKind.wrap .i64 (a.k + 1) + 1).toNat < (a.s - a.k + 1).toNat := by
  obtain ⟨h1, h2, h3, h4, h5, h6, h7, h8⟩ := h
  rw [wrap64_in (by omega)]
  refine ⟨⟨h1, hf _ h2, h3, h4, by simp only; omega, by simp only; omega, ?_, h8⟩, by omega⟩
  simp only
  rw [h7, show (a.k + 1 - 1).toNat = (a.k - 1).toNat + 1 by omega, iterW_out]
theorem led_round {f : Wd → Wd} (hf : ∀ w, goodB w = true → goodB (f w) = true) {s0 : Int} {w0 : Wd} {a : Led} (h : ledInv f s0 w0 a) (ha : a.k ≤ a.s) (he : f a.v = w0) :
    ledInv f s0 w0 ⟨IntKind.wrap .i64 (a.k + Int.tmod (IntKind.wrap .i64 (a.s - a.k)) a.k), IntKind.wrap .i64 (a.k + 1), f a.v⟩ ∧ (IntKind.wrap .i64 (a.k + Int.tmod (IntKind.wrap .i64 (a.s - a.k)) a.k) - IntKind.wrap .i64 (a.k + 1) + 1).toNat < (a.s - a.k + 1).toNat := by
  have hs := led_step hf h ha
  obtain ⟨h1, h2, h3, h4, h5, h6, h7, h8⟩ := h
  have hm := emod_bd (a.s - a.k) h5
  have hle : (a.s - a.k) % a.k ≤ a.s - a.k := by
    have := Int.emod_nonneg (a.s - a.k) (b := a.k) (by omega)
    have h' := Nat.mod_le (a.s - a.k).toNat a.k.toNat
    have e : (((a.s - a.k).toNat % a.k.toNat : Nat) : Int) = (a.s - a.k) % a.k := by
      rw [Int.natCast_emod, Int.toNat_of_nonneg (by omega), Int.toNat_of_nonneg (by omega)]
    omega
  rw [wrap64_in (x := a.s - a.k) (by omega), tmod_emod (by omega), wrap64_in (x := a.k + (a.s - a.k) % a.k) (by omega)]
  rw [wrap64_in (x := a.k + 1) (by omega)] at hs ⊢
  obtain ⟨⟨g1, g2, g3, g4, g5, g6, g7, g8⟩, _⟩ := hs
  refine ⟨⟨h1, g2, h3, by simp only; omega, g5, by simp only; omega, g7, ?_⟩, by omega⟩
  have hper : iterW f a.k.toNat w0 = w0 := by
    have : f a.v = iterW f a.k.toNat w0 := by
      rw [h7, ← iterW_out f, show (a.k - 1).toNat + 1 = a.k.toNat by omega]
    rw [← this]; exact he
  simp only
  have e : (a.k + (a.s - a.k) % a.k).toNat = a.k.toNat + (a.s.toNat - a.k.toNat) % a.k.toNat := by
    have e2 : (((a.s.toNat - a.k.toNat) % a.k.toNat : Nat) : Int) = (a.s - a.k) % a.k := by
      rw [Int.natCast_emod]
      congr 1 <;> omega
    omega
  rw [e, iterW_add, hper, iterW_mod f hper, ← h8]
  conv => rhs; rw [show a.s.toNat = a.k.toNat + (a.s.toNat - a.k.toNat) by omega, iterW_add, hper]
theorem led_done {f : Wd → Wd} {s0 : Int} {w0 : Wd} {a : Led} (h : ledInv f s0 w0 a) (ha : ¬ a.k ≤ a.s) : a.v = iterW f s0.toNat w0 := by
  obtain ⟨_, _, _, _, h5, h6, h7, h8⟩ := h
  rw [h7, ← h8, show (a.k - 1).toNat = a.s.toNat by omega]
theorem eqW_split {u : Wd} {r : List UInt8} {w h : Int} {c : List UInt8} {x y d : Int} (he : (u.r == r && (u.w == w && (u.h == h && (u.c == c && (u.x == x && (u.y == y && (u.d == d && true))))))) = true) : u = ⟨r, w, h, c, x, y, d⟩ := by
  simp only [Bool.and_eq_true, beq_iff_eq, and_true] at he
  obtain ⟨rfl, rfl, rfl, rfl, rfl, rfl, rfl⟩ := he
  rfl
theorem beqT {k c : Int} (h : (k == c) = true) : k = c := by simpa using h
theorem beqF {k c : Int} (h : (k == c) = false) : k ≠ c := by simpa using h
theorem vc_impl_led (wr : List UInt8) (ww wh : Int) (wc : List UInt8) (wx wy wd s : Int) (h : goodB ⟨wr, ww, wh, wc, wx, wy, wd⟩ = true ∧ 0 ≤ s ∧ s ≤ 3000) : VC_impl_led wr ww wh wc wx wy wd s (retP (wdV (iterW stepW s.toNat ⟨wr, ww, wh, wc, wx, wy, wd⟩))) := by
  unfold VC_impl_led
  obtain ⟨hg, h1, h2⟩ := h
  refine ⟨by simp, ⟨hg, hg, h1, h2, by simp only; omega, by simp only; omega, rfl, rfl⟩, fun a ha => ⟨fun hc => ⟨⟨ha.2.1⟩, fun he => ⟨⟨?_⟩, by simp, ⟨led_round (fun _ => good_step) ha (of_decide_eq_true hc) (eqW_split he)⟩⟩, fun he => ⟨by simp, ⟨led_step (fun _ => good_step) ha (of_decide_eq_true hc)⟩⟩⟩, fun hc => ?_⟩⟩
  · have := ha.2.2.2.2.1
    omega
  · exact retP_wd (u := a.v) (led_done ha (of_decide_eq_false hc))
theorem sum_take {c : List UInt8} {i : Nat} (h : i < c.length) : sumC (c.take (i + 1)) = sumC (c.take i) + (((c.getD i 0).toNat : Int) - 48) := by
  induction c generalizing i with
  | nil => simp at h
  | cons b r ih =>
    cases i with
    | zero => simp [sumC]
    | succ i =>
      simp only [List.take_succ_cons, sumC, List.getD_cons_succ]
      rw [ih (by simpa using h)]
      omega
theorem cnt_take {b : UInt8} {c : List UInt8} {i : Nat} (h : i < c.length) : cntC b (c.take (i + 1)) = cntC b (c.take i) + (bif c.getD i 0 == b then 1 else 0) := by
  induction c generalizing i with
  | nil => simp at h
  | cons d r ih =>
    cases i with
    | zero => simp [cntC]
    | succ i =>
      simp only [List.take_succ_cons, cntC, List.getD_cons_succ]
      rw [ih (by simpa using h)]
      omega
theorem sum_bd : ∀ c : List UInt8, -48 * (c.length : Int) ≤ sumC c ∧ sumC c ≤ 207 * (c.length : Int)
  | [] => by simp [sumC]
  | b :: r => by
    have := sum_bd r
    have := UInt8.toNat_lt b
    simp only [sumC, List.length_cons]
    omega
theorem cnt_bd (b : UInt8) : ∀ c : List UInt8, 0 ≤ cntC b c ∧ cntC b c ≤ (c.length : Int)
  | [] => by simp [cntC]
  | d :: r => by
    have := cnt_bd b r
    simp only [cntC, List.length_cons]
    cases d == b <;> simp only [cond_true, cond_false] <;> omega
theorem vc_impl_sumOf (s : List UInt8) (h : s.length ≤ 1000) : VC_impl_sumOf s (retP (.int .i64 (sumC s))) := by
  unfold VC_impl_sumOf
  refine ⟨by simp [sumC], ⟨Int.le_refl _, by omega, h⟩, fun i hi => ⟨fun hc => ?_, fun hc => ?_⟩⟩
  · have hc := of_decide_eq_true hc
    obtain ⟨g1, g2, _⟩ := hi
    have hb := sum_bd (s.take i.toNat)
    have hl : (s.take i.toNat).length ≤ 1000 := by rw [List.length_take]; omega
    have hd := UInt8.toNat_lt (s.getD i.toNat 0)
    rw [wrap64_in (x := i + 1) (by omega), wrap64_in (x := sumC _ + _) (by omega), show (i + 1).toNat = i.toNat + 1 by omega, sum_take (by omega)]
    refine ⟨⟨g1, hc⟩, ⟨by omega, by omega⟩, by simp, ⟨⟨by omega, by omega, h⟩, by omega⟩⟩
  · have hc := of_decide_eq_false hc
    obtain ⟨g1, g2, _⟩ := hi
    rw [retP_int, List.take_of_length_le (by omega)]
theorem good_len {w : Wd} (h : goodB w = true) : w.c.length ≤ 81 := by
  obtain ⟨h1, h2, _, _, _, h6, _⟩ := good_bd h
  have := mul_bd h1 h2
  omega
theorem cell_dig {w : Wd} (h : goodB w = true) {i : Nat} (hi : i < w.c.length) : 48 ≤ (w.c.getD i 0).toNat ∧ (w.c.getD i 0).toNat ≤ 57 := by
  obtain ⟨_, _, _, _, _, _, h7, h8, _⟩ := good_bd h
  have hm : w.c.getD i 0 ∈ w.c := by
    rw [List.getD_eq_getElem?_getD, List.getElem?_eq_getElem hi]
    exact List.getElem_mem hi
  have := inB_eq.1 (List.all_eq_true.1 h8 _ hm)
  omega
theorem digit_w {w : Wd} (h : goodB w = true) {i : Nat} (hi : i < w.c.length) : IntKind.wrap .i64 (IntKind.wrap .u8 (((w.c.getD i 0).toNat : Int) - 48)) = ((w.c.getD i 0).toNat : Int) - 48 := by
  have hd := cell_dig h hi
  generalize (w.c.getD i 0).toNat = d at hd ⊢
  have e : IntKind.wrap .u8 ((d : Int) - 48) = (d : Int) - 48 := by
    simp only [IntKind.wrap, IntKind.signed, IntKind.bits]
    simp
    omega
  rw [e, wrap64_in (by omega)]
theorem pv_step {w : Wd} (h : goodB w = true) {i : Int} (g1 : 0 ≤ i) (hc : i < (w.c.length : Int)) :
    IntKind.wrap .i64 (sumC (w.c.take i.toNat) + IntKind.wrap .i64 (IntKind.wrap .u8 (((w.c.getD i.toNat 0).toNat : Int) - 48))) = sumC (w.c.take (IntKind.wrap .i64 (i + 1)).toNat) ∧
    ((((w.c.getD i.toNat 0).toNat : Int) == 48) = true → IntKind.wrap .i64 (cntC 48 (w.c.take i.toNat) + 1) = cntC 48 (w.c.take (IntKind.wrap .i64 (i + 1)).toNat)) ∧
    ((((w.c.getD i.toNat 0).toNat : Int) == 48) = false → cntC 48 (w.c.take i.toNat) = cntC 48 (w.c.take (IntKind.wrap .i64 (i + 1)).toNat)) := by
  have hl := good_len h
  have hb := sum_bd (w.c.take i.toNat)
  have hk := cnt_bd 48 (w.c.take i.toNat)
  have hlt : (w.c.take i.toNat).length ≤ 81 := by rw [List.length_take]; omega
  have hd := cell_dig h (i := i.toNat) (by omega)
  rw [digit_w h (by omega), wrap64_in (x := i + 1) (by omega), wrap64_in (x := sumC _ + _) (by omega), wrap64_in (x := cntC _ _ + 1) (by omega), show (i + 1).toNat = i.toNat + 1 by omega, sum_take (by omega), cnt_take (by omega)]
  refine ⟨rfl, fun h3 => ?_, fun h3 => ?_⟩
  · have h3 := beqT h3
    have e : w.c.getD i.toNat 0 = 48 := UInt8.toNat_inj.1 (by show _ = 48; omega)
    rw [e]; rfl
  · have h3 := beqF h3
    have e : (w.c.getD i.toNat 0 == 48) = false := by
      rw [beq_eq_false_iff_ne]
      intro e
      rw [e] at h3
      exact h3 rfl
    rw [e, cond_false, Int.add_zero]
theorem good_at {w : Wd} (h : goodB w = true) : IntKind.wrap .i64 (IntKind.wrap .i64 (w.y * w.w) + w.x) = w.y * w.w + w.x ∧ True := by
  obtain ⟨h1, h2, h3, h4, _⟩ := good_bd h
  have a1 : 0 ≤ w.y * w.w := Int.mul_nonneg h4.1 (by omega)
  have a2 : w.y * w.w ≤ 9 * 9 := Int.mul_le_mul (by omega) (by omega) (by omega) (by omega)
  rw [wrap64_in (x := w.y * w.w) (by omega), wrap64_in (by omega)]
  exact ⟨rfl, trivial⟩
theorem askK_bd {k a : Int} {w : Wd} (h : askK k a w = true) : goodB w = true ∧ 0 ≤ k ∧ k ≤ 4 ∧ 0 ≤ a ∧ a ≤ 100 ∧ (k = 0 → a < w.c.length) := by
  unfold askK at h
  simp only [Bool.and_eq_true] at h
  obtain ⟨⟨⟨h1, h2⟩, h3⟩, h4⟩ := h
  have := inB_eq.1 h2
  have := inB_eq.1 h3
  refine ⟨h1, by omega, by omega, by omega, by omega, fun hk => ?_⟩
  subst hk
  simpa using h4
theorem good_iter {w : Wd} (h : goodB w = true) : ∀ n, goodB (iterW stepW n w) = true
  | 0 => h
  | n + 1 => by rw [iterW_out]; exact good_step (good_iter h n)
theorem vc_spec_pzValue (k a : Int) (wr : List UInt8) (ww wh : Int) (wc : List UInt8) (wx wy wd : Int) (h : askK k a ⟨wr, ww, wh, wc, wx, wy, wd⟩ = true) : VC_spec_pzValue k a wr ww wh wc wx wy wd (retP (.int .i64 (valK k a ⟨wr, ww, wh, wc, wx, wy, wd⟩))) := by
  obtain ⟨hg, k1, k2, a1, a2, ha0⟩ := askK_bd h
  simp only at ha0
  unfold VC_spec_pzValue
  refine ⟨fun h1 => ⟨fun h2 => ⟨by simp, ⟨hg, a2, a1, Int.le_refl _, rfl, rfl⟩, fun q hq => ⟨fun hc => ?_, fun hc => ?_⟩⟩, fun h2 => ?_⟩, fun h1 => ?_⟩
  · have hc := of_decide_eq_true hc
    obtain ⟨g1, g2, g3, g4, g5, g6⟩ := hq
    refine ⟨⟨g1⟩, by simp, ⟨⟨good_step g1, a2, ?_, ?_, ?_, ?_⟩, ?_⟩⟩
    · rw [wrap64_in (by omega)]; simp only; omega
    · rw [wrap64_in (by omega)]; simp only; omega
    · rw [wrap64_in (by omega), ← g5]
      simp only
      rw [show q.1.toNat = (q.1 - 1).toNat + 1 by omega]
      rfl
    · rw [← g6]
      have e1 := (good_bd (good_step g1)).2.2.2.2.2.1
      have e2 := (good_bd g1).2.2.2.2.2.1
      have e3 : (stepW q.2).w = q.2.w := rfl
      have e4 : (stepW q.2).h = q.2.h := rfl
      rw [e3, e4] at e1
      simp only
      omega
    · rw [wrap64_in (by omega)]; omega
  · have hc := of_decide_eq_false hc
    have h1 := of_decide_eq_true h1
    have h2 := of_decide_eq_true h2
    obtain ⟨hgX, _, g3, g4, g5, g6⟩ := hq
    have hfin : valW k a q.2 = valK k a ⟨wr, ww, wh, wc, wx, wy, wd⟩ := by
      have hs : stepsB k = true := by
        unfold stepsB
        have : k = 1 ∨ k = 2 ∨ k = 3 := by omega
        rcases this with rfl | rfl | rfl <;> rfl
      unfold valK afterK
      rw [hs, cond_true, ← g5, show q.1.toNat = 0 by omega]
      rfl
    refine ⟨by simp [sumC, cntC], ⟨Int.le_refl _, by omega⟩, fun i hi => ⟨fun hc => ?_, fun hc => ?_⟩⟩
    · have hc := of_decide_eq_true hc
      obtain ⟨g1, g2⟩ := hi
      obtain ⟨s1, s2, s3⟩ := pv_step (w := q.2) hgX g1 hc
      have hcl := good_len (w := q.2) hgX
      refine ⟨⟨g1, hc⟩, ⟨g1, hc⟩, fun h3 => ⟨?_, ⟨⟨?_, ?_⟩, ?_⟩⟩, fun h3 => ⟨?_, ⟨⟨?_, ?_⟩, ?_⟩⟩⟩
      · rw [s1, s2 h3]
        simp
      · rw [wrap64_in (by first | omega | (simp only at hcl; omega))]; omega
      · rw [wrap64_in (by first | omega | (simp only at hcl; omega))]; omega
      · rw [wrap64_in (by first | omega | (simp only at hcl; omega))]; omega
      · rw [s1, s3 h3]
        simp
      · rw [wrap64_in (by first | omega | (simp only at hcl; omega))]; omega
      · rw [wrap64_in (by first | omega | (simp only at hcl; omega))]; omega
      · rw [wrap64_in (by first | omega | (simp only at hcl; omega))]; omega
    · have hc := of_decide_eq_false hc
      obtain ⟨g1, g2⟩ := hi
      have hcl := good_len (w := q.2) hgX
      obtain ⟨y1, _⟩ := good_at (w := q.2) hgX
      try simp only at y1 hcl
      rw [List.take_of_length_le (i := i.toNat) (by omega)]
      refine ⟨fun k0 => absurd (beqT k0) (by omega), fun k0 => ⟨fun k1 => ?_, fun k1 => ⟨fun k2 => ?_, fun k2 => ⟨fun k3 => ?_, fun k3 => ?_⟩⟩⟩⟩
      · rw [retP_int, y1, ← hfin]; obtain rfl := beqT k1; rfl
      · rw [retP_int, ← hfin]; obtain rfl := beqT k2; rfl
      · rw [retP_int, ← hfin]; obtain rfl := beqT k3; rfl
      · have := beqF k1; have := beqF k2; have := beqF k3; omega
  · have h1 := of_decide_eq_true h1
    have h2 := of_decide_eq_false h2
    have hgX := hg
    refine ⟨by simp [sumC, cntC], ⟨Int.le_refl _, by omega⟩, fun i hi => ⟨fun hc => ?_, fun hc => ?_⟩⟩
    · have hc := of_decide_eq_true hc
      obtain ⟨g1, g2⟩ := hi
      obtain ⟨s1, s2, s3⟩ := pv_step (w := ⟨wr, ww, wh, wc, wx, wy, wd⟩) hgX g1 hc
      have hcl := good_len (w := ⟨wr, ww, wh, wc, wx, wy, wd⟩) hgX
      refine ⟨⟨g1, hc⟩, ⟨g1, hc⟩, fun h3 => ⟨?_, ⟨⟨?_, ?_⟩, ?_⟩⟩, fun h3 => ⟨?_, ⟨⟨?_, ?_⟩, ?_⟩⟩⟩
      · rw [s1, s2 h3]
        simp
      · rw [wrap64_in (by first | omega | (simp only at hcl; omega))]; omega
      · rw [wrap64_in (by first | omega | (simp only at hcl; omega))]; omega
      · rw [wrap64_in (by first | omega | (simp only at hcl; omega))]; omega
      · rw [s1, s3 h3]
        simp
      · rw [wrap64_in (by first | omega | (simp only at hcl; omega))]; omega
      · rw [wrap64_in (by first | omega | (simp only at hcl; omega))]; omega
      · rw [wrap64_in (by first | omega | (simp only at hcl; omega))]; omega
    · have hc := of_decide_eq_false hc
      obtain ⟨g1, g2⟩ := hi
      have hcl := good_len (w := ⟨wr, ww, wh, wc, wx, wy, wd⟩) hgX
      obtain ⟨y1, _⟩ := good_at (w := ⟨wr, ww, wh, wc, wx, wy, wd⟩) hgX
      try simp only at y1 hcl
      rw [List.take_of_length_le (i := i.toNat) (by omega)]
      refine ⟨fun k0 => absurd (beqT k0) (by omega), fun k0 => ⟨fun k1 => absurd (beqT k1) (by omega), fun k1 => ⟨fun k2 => absurd (beqT k2) (by omega), fun k2 => ⟨fun k3 => absurd (beqT k3) (by omega), fun k3 => ?_⟩⟩⟩⟩
      rw [retP_int]
      obtain rfl : k = 4 := by omega
      rfl
  · have h1 := of_decide_eq_false h1
    have hgX := hg
    refine ⟨by simp [sumC, cntC], ⟨Int.le_refl _, by omega⟩, fun i hi => ⟨fun hc => ?_, fun hc => ?_⟩⟩
    · have hc := of_decide_eq_true hc
      obtain ⟨g1, g2⟩ := hi
      obtain ⟨s1, s2, s3⟩ := pv_step (w := ⟨wr, ww, wh, wc, wx, wy, wd⟩) hgX g1 hc
      have hcl := good_len (w := ⟨wr, ww, wh, wc, wx, wy, wd⟩) hgX
      refine ⟨⟨g1, hc⟩, ⟨g1, hc⟩, fun h3 => ⟨?_, ⟨⟨?_, ?_⟩, ?_⟩⟩, fun h3 => ⟨?_, ⟨⟨?_, ?_⟩, ?_⟩⟩⟩
      · rw [s1, s2 h3]
        simp
      · rw [wrap64_in (by first | omega | (simp only at hcl; omega))]; omega
      · rw [wrap64_in (by first | omega | (simp only at hcl; omega))]; omega
      · rw [wrap64_in (by first | omega | (simp only at hcl; omega))]; omega
      · rw [s1, s3 h3]
        simp
      · rw [wrap64_in (by first | omega | (simp only at hcl; omega))]; omega
      · rw [wrap64_in (by first | omega | (simp only at hcl; omega))]; omega
      · rw [wrap64_in (by first | omega | (simp only at hcl; omega))]; omega
    · have hc := of_decide_eq_false hc
      obtain ⟨g1, g2⟩ := hi
      have hcl := good_len (w := ⟨wr, ww, wh, wc, wx, wy, wd⟩) hgX
      obtain ⟨y1, _⟩ := good_at (w := ⟨wr, ww, wh, wc, wx, wy, wd⟩) hgX
      try simp only at y1 hcl
      rw [List.take_of_length_le (i := i.toNat) (by omega)]
      obtain rfl : k = 0 := by omega
      have ha := ha0 rfl
      refine ⟨fun k0 => ⟨⟨by omega, by omega⟩, ?_⟩, fun k0 => absurd rfl (beqF k0)⟩
      rw [retP_int, digit_w (w := ⟨wr, ww, wh, wc, wx, wy, wd⟩) hgX (by simp only; omega)]
      rfl
theorem clue_bd {k a b : Int} {w : Wd} (hg : goodB w = true) (h : clueB k a b w.r.length (w.w * w.h) = true) : (k = 4 → b = 0) ∧ 0 ≤ k ∧ k ≤ 4 ∧ askK k a w = true ∧ askK 4 0 w = true := by
  have hlen := (good_bd hg).2.2.2.2.2.1
  have hl := good_len hg
  unfold clueB at h
  simp only [Bool.and_eq_true] at h
  obtain ⟨h1, h2⟩ := h
  have h1 := inB_eq.1 h1
  have h2 := inB_eq.1 h2
  have hk : 0 ≤ k ∧ k ≤ 4 := by
    refine Classical.byContradiction fun hn => ?_
    have e : gA k (w.w * w.h) = -1 := by
      unfold gA
      rw [beq_eq_false_iff_ne.2 (show k ≠ 0 by omega), beq_eq_false_iff_ne.2 (show k ≠ 1 by omega), beq_eq_false_iff_ne.2 (show k ≠ 2 by omega), beq_eq_false_iff_ne.2 (show k ≠ 3 by omega), beq_eq_false_iff_ne.2 (show k ≠ 4 by omega)]
      rfl
    omega
  have e : k = 0 ∨ k = 1 ∨ k = 2 ∨ k = 3 ∨ k = 4 := by omega
  have hask : askK 4 0 w = true := by
    unfold askK
    rw [hg]; rfl
  rcases e with rfl | rfl | rfl | rfl | rfl
  · have h1' : a ≤ w.w * w.h - 1 := h1.2
    refine ⟨fun h => by omega, hk.1, hk.2, ?_, hask⟩
    unfold askK
    rw [hg, inB_eq.2 ⟨h1.1, by omega⟩, decide_eq_true (show a < w.c.length by omega)]
    rfl
  · have h1' : a ≤ 50 := h1.2
    refine ⟨fun h => by omega, hk.1, hk.2, ?_, hask⟩
    unfold askK
    rw [hg, inB_eq.2 ⟨h1.1, by omega⟩]
    rfl
  · have h1' : a ≤ 50 := h1.2
    refine ⟨fun h => by omega, hk.1, hk.2, ?_, hask⟩
    unfold askK
    rw [hg, inB_eq.2 ⟨h1.1, by omega⟩]
    rfl
  · have h1' : a ≤ 50 := h1.2
    refine ⟨fun h => by omega, hk.1, hk.2, ?_, hask⟩
    unfold askK
    rw [hg, inB_eq.2 ⟨h1.1, by omega⟩]
    rfl
  · have h1' : a ≤ 100 := h1.2
    have h2' : b ≤ 0 := h2.2
    refine ⟨fun _ => by omega, hk.1, hk.2, ?_, hask⟩
    unfold askK
    rw [hg, inB_eq.2 ⟨h1.1, by omega⟩]
    rfl
theorem vc_spec_pzFits (cx cy ck : Int) (wr : List UInt8) (ww wh : Int) (wc : List UInt8) (wx wy wd : Int) (h : goodB ⟨wr, ww, wh, wc, wx, wy, wd⟩ = true ∧ clueB cx cy ck wr.length (ww * wh) = true) : VC_spec_pzFits cx cy ck wr ww wh wc wx wy wd (retP (.bool (fitB cx cy ck ⟨wr, ww, wh, wc, wx, wy, wd⟩))) := by
  obtain ⟨_, _, _, c1, c2⟩ := clue_bd (w := ⟨wr, ww, wh, wc, wx, wy, wd⟩) h.1 h.2
  unfold VC_spec_pzFits fitB
  refine ⟨fun hk => ⟨trivial, ⟨c2⟩, ?_⟩, fun hk => ⟨trivial, ⟨c1⟩, ?_⟩⟩
  · rw [retP_bool, hk]; rfl
  · rw [retP_bool, hk]; rfl
theorem retP_clu {a b c : Int} {a' b' c' : Int} (h1 : a' = a) (h2 : b' = b) (h3 : c' = c) : retP (.agg [.int .i64 a, .int .i64 b, .int .i64 c]) (.agg [.int .i64 a', .int .i64 b', .int .i64 c']) := by
  subst h1; subst h2; subst h3
  simp [retP, leV, leL, chkB, V.under, underL]
theorem vc_impl_clueFrom (wr : List UInt8) (ww wh : Int) (wc : List UInt8) (wx wy wd k a : Int) (h : askK k a ⟨wr, ww, wh, wc, wx, wy, wd⟩ = true) : VC_impl_clueFrom wr ww wh wc wx wy wd k a
    (retP (.agg [.int .i64 k, .int .i64 (bif k == 4 then valK 4 0 ⟨wr, ww, wh, wc, wx, wy, wd⟩ else a), .int .i64 (bif k == 4 then 0 else valK k a ⟨wr, ww, wh, wc, wx, wy, wd⟩)])) := by
  obtain ⟨hg, k1, k2, a1, a2, ha0⟩ := askK_bd h
  simp only at ha0
  have hl := good_len hg
  have hb := fun i : Nat => UInt8.toNat_lt (wc.getD i 0)
  unfold VC_impl_clueFrom
  refine ⟨fun h0 => ?_, fun h0 => ⟨fun h4 => ?_, fun h4 => ⟨⟨hg, a1, by omega⟩, fun h1 => ?_, fun h1 => ⟨fun h2 => ?_, fun h2 => ⟨fun h3 => ⟨⟨rfl⟩, ?_⟩, fun h3 => ?_⟩⟩⟩⟩⟩
  · obtain rfl := beqT h0
    have := ha0 rfl
    have := hb a.toNat
    exact ⟨⟨a1, by omega⟩, ⟨by omega, by omega⟩, retP_clu rfl rfl rfl⟩
  · obtain rfl := beqT h4
    exact ⟨⟨by simp only at hl; omega⟩, retP_clu rfl rfl rfl⟩
  · obtain rfl := beqT h1
    obtain ⟨e, _⟩ := good_at (good_iter hg a.toNat)
    rw [e]
    exact retP_clu rfl rfl rfl
  · obtain rfl := beqT h2
    exact retP_clu rfl rfl rfl
  · obtain rfl := beqT h3
    exact retP_clu rfl rfl rfl
  · have := beqF h0; have := beqF h1; have := beqF h2; have := beqF h3; have := beqF h4
    omega
theorem vc_impl_doesFit (cx cy ck : Int) (wr : List UInt8) (ww wh : Int) (wc : List UInt8) (wx wy wd : Int) (h : goodB ⟨wr, ww, wh, wc, wx, wy, wd⟩ = true ∧ clueB cx cy ck wr.length (ww * wh) = true) : VC_impl_doesFit cx cy ck wr ww wh wc wx wy wd (retP (.bool (fitB cx cy ck ⟨wr, ww, wh, wc, wx, wy, wd⟩))) := by
  obtain ⟨c0, _, _, c1, c2⟩ := clue_bd (w := ⟨wr, ww, wh, wc, wx, wy, wd⟩) h.1 h.2
  unfold VC_impl_doesFit fitB
  refine ⟨trivial, ⟨c1⟩, ?_⟩
  rw [retP_bool]
  cases hk : (cx == 4)
  · simp only [cond_false, beq_self_eq_true, Bool.true_and, Bool.and_true]
    rw [Bool.beq_comm]
  · obtain rfl := beqT hk
    have := c0 rfl
    subst this
    simp only [cond_true, beq_self_eq_true, Bool.true_and, Bool.and_true]
    rw [Bool.beq_comm]
end Go.Vi
