/- Turtles: the conditions hold. -/
import Derived.Test.YtllocclgllappaaTUVc
import Derived.Test.YtllocclgllappaaTUSpec
namespace Go.Vi
set_option linter.unusedSimpArgs false
/-! ### lists by twos -/
abbrev z0 : Sc := ⟨0, []⟩
theorem sc_two {c : List Sc} {i n : Nat} (hn : c.length = n * 2) (h : i < n) : c.take ((i + 1) * 2) = c.take (i * 2) ++ [c.getD (i * 2) ⟨0, []⟩, c.getD (i * 2 + 1) ⟨0, []⟩] := by
  rw [show (i + 1) * 2 = (i * 2 + 1) + 1 by omega, List.take_succ_eq_append_getElem (show i * 2 + 1 < c.length by omega), List.take_succ_eq_append_getElem (show i * 2 < c.length by omega), List.append_assoc]
  simp [List.getD_eq_getElem?_getD, List.getElem?_eq_getElem (show i * 2 < c.length by omega), List.getElem?_eq_getElem (show i * 2 + 1 < c.length by omega)]
theorem sc_drop {c : List Sc} {i n : Nat} (hn : c.length = n * 2) (h : i < n) : c.drop (i * 2) = c.getD (i * 2) ⟨0, []⟩ :: c.getD (i * 2 + 1) ⟨0, []⟩ :: c.drop ((i + 1) * 2) := by
  rw [List.drop_eq_getElem_cons (show i * 2 < c.length by omega), List.drop_eq_getElem_cons (show i * 2 + 1 < c.length by omega), show (i + 1) * 2 = i * 2 + 1 + 1 by omega]
  simp [List.getD_eq_getElem?_getD, List.getElem?_eq_getElem (show i * 2 < c.length by omega), List.getElem?_eq_getElem (show i * 2 + 1 < c.length by omega)]
theorem goC_app : ∀ {l : List Sc} (r : List Sc) (t : Tt), l.length % 2 = 0 → goC (l ++ r) t = goC r (goC l t)
  | [], r, t, _ => by simp [goC]
  | [_], _, _, h => by simp at h
  | a :: b :: l, r, t, h => by
    have := goC_app (l := l) r (tnT b.i (goT a.i t)) (by simp only [List.length_cons] at h; omega)
    simp only [List.cons_append, goC, this]
theorem quC_app : ∀ {l : List Sc} (r : List Sc), l.length % 2 = 0 → quC (l ++ r) = quC l + quC r
  | [], r, _ => by simp [quC]
  | [_], _, h => by simp at h
  | a :: b :: l, r, h => by
    have := quC_app (l := l) r (by simp only [List.length_cons] at h; omega)
    simp only [List.cons_append, quC, this, Int.add_assoc]
theorem lenC_app : ∀ {l : List Sc} (r : List Sc), l.length % 2 = 0 → lenC (l ++ r) = lenC l + lenC r
  | [], r, _ => by simp [lenC]
  | [_], _, h => by simp at h
  | a :: b :: l, r, h => by
    have := lenC_app (l := l) r (by simp only [List.length_cons] at h; omega)
    simp only [List.cons_append, lenC, this, Int.add_assoc]
theorem okC_app : ∀ {l : List Sc} (r : List Sc), l.length % 2 = 0 → (okC (l ++ r) ↔ okC l ∧ okC r)
  | [], r, _ => by simp [okC]
  | [_], _, h => by simp at h
  | a :: b :: l, r, h => by
    have := okC_app (l := l) r (by simp only [List.length_cons] at h; omega)
    simp only [List.cons_append, okC, this, and_assoc]
theorem okC_cut {c : List Sc} {n i : Nat} (hn : c.length = n * 2) (h : okC c) (hi : i ≤ n) : okC (c.take (i * 2)) ∧ okC (c.drop (i * 2)) := by
  rw [← List.take_append_drop (i * 2) c, okC_app _ (by rw [List.length_take]; omega)] at h
  exact h
theorem okC_at {c : List Sc} {n i : Nat} (hn : c.length = n * 2) (h : okC c) (hi : i < n) : 0 ≤ (c.getD (i * 2) ⟨0, []⟩).i ∧ (c.getD (i * 2) ⟨0, []⟩).i ≤ 9 := by
  have := (okC_cut hn h (Nat.le_of_lt hi)).2
  rw [sc_drop hn hi] at this
  exact this.1
theorem okC_pt : ∀ {s : List UInt8}, okP s = true → okC (ptS s)
  | [], _ => trivial
  | [_], _ => by simp [ptS, okC]
  | a :: b :: r, h => by
    simp only [okP, Bool.and_eq_true] at h
    rw [inB_eq] at h
    simp only [ptS, okC]
    exact ⟨h.1.1, okC_pt h.2⟩
theorem prog_len {s : List UInt8} (h : progB s = true) : s.length % 2 = 0 ∧ 1 ≤ s.length / 2 ∧ s.length / 2 ≤ 9 ∧ okP s = true := by
  unfold progB at h
  simp only [Bool.and_eq_true, beq_iff_eq] at h
  rw [inB_eq] at h
  exact ⟨h.1.1, by omega, by omega, h.2⟩
theorem repC_len (c : List Sc) : ∀ k, (repC k c).length = k * c.length
  | 0 => by simp [repC]
  | k + 1 => by simp only [repC, List.length_append, repC_len c k, Nat.add_mul, Nat.one_mul]; omega
theorem repC_add (c : List Sc) (b : Nat) : ∀ a, repC (a + b) c = repC a c ++ repC b c
  | 0 => by simp [repC]
  | a + 1 => by rw [Nat.add_right_comm]; simp only [repC, repC_add c b a, List.append_assoc]
theorem repC_ok {c : List Sc} (hl : c.length % 2 = 0) (h : okC c) : ∀ k, okC (repC k c)
  | 0 => trivial
  | k + 1 => by
    simp only [repC]
    rw [okC_app _ hl]
    exact ⟨h, repC_ok hl h k⟩
/-! ### where turtles are -/
theorem way_dx {w : Int} (h0 : 0 ≤ w) (h3 : w ≤ 3) : (dxI w = 0 ∧ (dyI w = -1 ∨ dyI w = 1)) ∨ (dyI w = 0 ∧ (dxI w = -1 ∨ dxI w = 1)) := by
  have : w = 0 ∨ w = 1 ∨ w = 2 ∨ w = 3 := by omega
  rcases this with rfl | rfl | rfl | rfl
  · exact .inl ⟨rfl, .inl rfl⟩
  · exact .inr ⟨rfl, .inr rfl⟩
  · exact .inl ⟨rfl, .inr rfl⟩
  · exact .inr ⟨rfl, .inl rfl⟩
theorem way_mul {w a : Int} (h0 : 0 ≤ w) (h3 : w ≤ 3) : (a * dxI w = 0 ∧ (a * dyI w = -a ∨ a * dyI w = a)) ∨ (a * dyI w = 0 ∧ (a * dxI w = -a ∨ a * dxI w = a)) := by
  rcases way_dx h0 h3 with ⟨h, h1 | h1⟩ | ⟨h, h1 | h1⟩ <;> rw [h, h1] <;> simp
theorem qI_bd (b : Int) : 0 ≤ qI b ∧ qI b ≤ 3 := by
  unfold qI
  cases b == 82 <;> cases b == 85 <;> cases b == 76 <;> decide
theorem okT_go {b a : Int} {t : Tt} (h : okT b t) (h0 : 0 ≤ a) (h9 : a ≤ 9) : okT (b + 9) (goT a t) := by
  obtain ⟨hx, hy, hw0, hw3⟩ := h
  unfold okT goT
  rcases way_mul (a := a) hw0 hw3 with ⟨h1, h2 | h2⟩ | ⟨h1, h2 | h2⟩ <;> simp only [h1, h2] <;> omega
theorem okT_tn {b q : Int} {t : Tt} (h : okT b t) : okT b (tnT q t) := by
  obtain ⟨hx, hy, hw0, hw3⟩ := h
  have := qI_bd q
  refine ⟨hx, hy, ?_⟩
  unfold tnT
  dsimp only
  rw [Int.tmod_eq_emod_of_nonneg (by omega)]
  omega
theorem okT_mono {a b : Int} {t : Tt} (h : okT a t) (hab : a ≤ b) : okT b t := by
  obtain ⟨hx, hy, hw⟩ := h
  exact ⟨by omega, by omega, hw⟩
theorem okT_goC : ∀ {c : List Sc} {b : Int} {t : Tt}, okC c → okT b t → 0 ≤ b → okT (b + 9 * (c.length / 2 : Nat)) (goC c t)
  | [], b, t, _, h, _ => by simpa [goC] using h
  | [_], b, t, _, h, _ => by simpa [goC] using h
  | p :: q :: r, b, t, hc, h, hb => by
    simp only [okC] at hc
    simp only [goC]
    have := okT_goC (t := tnT q.i (goT p.i t)) hc.2 (okT_tn (q := q.i) (okT_go h hc.1.1 hc.1.2)) (by omega)
    refine okT_mono this ?_
    simp only [List.length_cons]
    omega
theorem okT_zero : okT 0 zeroT := ⟨by decide, by decide, by decide⟩
theorem lenC_bd : ∀ {c : List Sc}, okC c → 0 ≤ lenC c ∧ lenC c ≤ 9 * (c.length / 2 : Nat)
  | [], _ => by simp [lenC]
  | [_], _ => by simp [lenC]
  | p :: q :: r, h => by
    simp only [okC] at h
    have := lenC_bd h.2
    simp only [lenC, List.length_cons]
    omega
theorem quC_bd : ∀ {c : List Sc}, -((c.length / 2 : Nat) : Int) ≤ quC c ∧ quC c ≤ 3 * (c.length / 2 : Nat)
  | [] => by simp [quC]
  | [_] => by simp [quC]
  | p :: q :: r => by
    have := quC_bd (c := r)
    have hq := qI_bd q.i
    simp only [quC, List.length_cons]
    cases q.i == 76 <;> simp only [cond_true, cond_false] <;> omega
/-! ### small functions -/
theorem vc_spec_IsProgram (s : List UInt8) (h : (s.length : Int) ≤ 9223372036854775807) : VC_spec_IsProgram s (retP (.bool (progB s))) := ⟨⟨h⟩, (retP_bool _ _).2 rfl⟩
theorem vc_impl_IsProgram (s : List UInt8) (h : (s.length : Int) ≤ 9223372036854775807) : VC_impl_IsProgram s (retP (.bool (progB s))) := by
  unfold VC_impl_IsProgram
  simp only [at_iff, retP_bool, and_true]
  exact h
theorem vc_impl_quarters (b : Int) (_ : True) : VC_impl_quarters b (retP (.int .i64 (qI b))) := by
  unfold VC_impl_quarters qI
  simp only [retP_int]
  refine ⟨fun h => by simp [h], fun h1 => ⟨fun h => by simp [h1, h], fun h2 => ⟨fun h => by simp [h1, h2, h], fun h3 => by simp [h1, h2, h3]⟩⟩⟩
theorem vc_spec_woTurn (b : Int) (_ : True) : VC_spec_woTurn b (retP (.int .i64 (qI b))) := vc_impl_quarters b trivial
theorem vc_impl_direction (w : Int) (_ : True) : VC_impl_direction w (retP (.tup [.int .i64 (dxI w), .int .i64 (dyI w)])) := by
  have go : ∀ {a b : Int}, a = dxI w → b = dyI w → retP (.tup [.int .i64 (dxI w), .int .i64 (dyI w)]) (.tup [.int .i64 a, .int .i64 b]) := fun h1 h2 => by
    subst h1; subst h2; simp [retP, leV, leL, chkB, V.under, underL]
  unfold VC_impl_direction
  refine ⟨fun h => ?_, fun h1 => ⟨fun h => ?_, fun h2 => ⟨fun h => ?_, fun h3 => ?_⟩⟩⟩ <;> refine go ?_ ?_ <;> simp only [dxI, dyI, *, cond_true, cond_false]
theorem retP_ibn {a : Int} {b : Bool} (hb : b = false) (ha : a = 0) : retP (.tup [.int .i64 a, .bool b]) (.tup [.int .i64 0, .lit false]) := by
  subst hb; subst ha; simp [retP, leV, leL, chkB, V.under, underL]
theorem retP_iby {a a' : Int} {b : Bool} (hb : b = true) (ha : a' = a) : retP (.tup [.int .i64 a, .bool b]) (.tup [.int .i64 a', .lit true]) := by
  subst hb; subst ha; simp [retP, leV, leL, chkB, V.under, underL]
theorem retP_ibb {a a' : Int} {b b' : Bool} (hb : b' = b) (ha : a' = a) : retP (.tup [.int .i64 a, .bool b]) (.tup [.int .i64 a', .bool b']) := by
  subst hb; subst ha; simp [retP, leV, leL, chkB, V.under, underL]
theorem od_ev {s : List UInt8} {a : Int} (h : odInv s a) (hlt : a < s.length) : ∃ j : Nat, a = ((j + 1 : Nat) : Int) ∧ j % 2 = 0 ∧ j + 2 ≤ s.length ∧ s.length ≤ 19 ∧ IntKind.wrap .i64 (a + 2) = ((j + 2 + 1 : Nat) : Int) ∧ odInv s ((j + 2 + 1 : Nat) : Int) ∧ ((s.length : Int) + 1 - ((j + 2 + 1 : Nat) : Int)).toNat < ((s.length : Int) + 1 - a).toNat := by
  obtain ⟨hp, h0, h1, h2⟩ := h
  have hl := prog_len hp
  refine ⟨a.toNat - 1, by omega, by omega, by omega, by omega, ?_, ⟨hp, by omega, by omega, by omega⟩, by omega⟩
  rw [wrap64_in (by omega)]; omega
theorem quC_two {s : List UInt8} {i : Nat} (h : i + 2 ≤ s.length) (he : i % 2 = 0) : quC (ptS (s.take (i + 2))) = quC (ptS (s.take i)) + (bif ((s.getD (i + 1) 0).toNat : Int) == 76 then -1 else qI ((s.getD (i + 1) 0).toNat : Int)) := by
  rw [ptS_two h he, quC_app _ (by rw [ptS_len]; omega)]
  simp [quC]
theorem vc_spec_tuQuarters (s : List UInt8) (h : progB s = true) : VC_spec_tuQuarters s (retP (.int .i64 (quC (ptS s)))) := by
  unfold VC_spec_tuQuarters
  have hl := prog_len h
  simp only [at_iff, retP_int, and_true, true_and]
  refine ⟨by simp [ptS, quC], ⟨h, by omega, by omega, rfl⟩, fun a ha => ⟨fun hc => ?_, fun hc => ?_⟩⟩
  · have hc := of_decide_eq_true hc
    obtain ⟨j, hj, he, hjl, h19, e1, e2, e3⟩ := od_ev ha hc
    have hb := quC_bd (c := ptS (s.take j))
    rw [ptS_len, List.length_take] at hb
    have hq := quC_two hjl he
    have hj1 : a.toNat = j + 1 := by omega
    rw [e1, hj1]
    simp only [Int.toNat_natCast, Nat.add_sub_cancel]
    rw [hq]
    unfold qI
    generalize ((s.getD (j + 1) 0).toNat : Int) = d at *
    refine ⟨⟨by omega, hc⟩, fun h1 => ?_, fun h1 => ⟨fun h2 => ?_, fun h2 => ⟨fun h3 => ?_, fun h3 => ?_⟩⟩⟩
    · rw [h1, wrap64_in (by omega)]; exact ⟨rfl, e2, e3⟩
    · rw [h1, h2, wrap64_in (by omega)]; exact ⟨rfl, e2, e3⟩
    · rw [h1, h2, h3, wrap64_in (by omega)]; exact ⟨rfl, e2, e3⟩
    · rw [h1, h2, h3]; exact ⟨by simp, e2, e3⟩
  · have hc := of_decide_eq_false hc
    obtain ⟨_, h0, h1, h2⟩ := ha
    rw [show a.toNat - 1 = s.length by omega, List.take_length]
theorem vc_spec_QuartersOf (s : List UInt8) (h : (s.length : Int) ≤ 9223372036854775807) : VC_spec_QuartersOf s (retP (.tup [.int .i64 (bif progB s then quC (ptS s) else 0), .bool (progB s)])) := by
  unfold VC_spec_QuartersOf
  simp only [at_iff, Bool.not_eq_true', Bool.not_eq_false']
  exact ⟨h, fun h1 => retP_ibn h1 (by rw [h1]; rfl), fun h1 => ⟨h1, retP_iby h1 (by rw [h1]; rfl)⟩⟩
theorem quC_sc {c : List Sc} {n i : Nat} (hn : c.length = n * 2) (h : i < n) : quC (c.take ((i + 1) * 2)) = quC (c.take (i * 2)) + (bif (c.getD (i * 2 + 1) ⟨0, []⟩).i == 76 then -1 else qI (c.getD (i * 2 + 1) ⟨0, []⟩).i) := by
  rw [sc_two hn h, quC_app _ (by rw [List.length_take]; omega)]
  simp [quC]
theorem lenC_sc {c : List Sc} {n i : Nat} (hn : c.length = n * 2) (h : i < n) : lenC (c.take ((i + 1) * 2)) = lenC (c.take (i * 2)) + (c.getD (i * 2) ⟨0, []⟩).i := by
  rw [sc_two hn h, lenC_app _ (by rw [List.length_take]; omega)]
  simp [lenC]
theorem goC_sc {c : List Sc} {n i : Nat} {t : Tt} (hn : c.length = n * 2) (h : i < n) : goC (c.take ((i + 1) * 2)) t = tnT (c.getD (i * 2 + 1) ⟨0, []⟩).i (goT (c.getD (i * 2) ⟨0, []⟩).i (goC (c.take (i * 2)) t)) := by
  rw [sc_two hn h, goC_app _ _ (by rw [List.length_take]; omega)]
  simp [goC]
theorem ix_ev {n : Nat} {a : Int} (h : ixN n a) (hlt : a < n) (hn : n ≤ 900) : ∃ i : Nat, a = i ∧ i < n ∧ a.toNat = i ∧ IntKind.wrap .i64 (a + 1) = ((i + 1 : Nat) : Int) ∧ ixN n ((i + 1 : Nat) : Int) ∧ ((n : Int) - ((i + 1 : Nat) : Int)).toNat < ((n : Int) - a).toNat := by
  obtain ⟨h0, h1⟩ := h
  refine ⟨a.toNat, by omega, by omega, rfl, ?_, ⟨by omega, by omega⟩, by omega⟩
  rw [wrap64_in (by omega)]; omega
theorem vc_impl_QuartersOf (s : List UInt8) (h : (s.length : Int) ≤ 9223372036854775807) : VC_impl_QuartersOf s (retP (.tup [.int .i64 (bif progB s then quC (ptS s) else 0), .bool (progB s)])) := by
  unfold VC_impl_QuartersOf
  simp only [at_iff, Bool.not_eq_true', Bool.not_eq_false', true_and, and_true]
  refine ⟨h, fun h1 => retP_ibn h1 (by rw [h1]; rfl), fun h1 => ?_⟩
  have hl := prog_len h1
  have hn : (partsC s).length = partsN s * 2 := by rw [(parts_yes h1).2, (parts_yes h1).1, ptS_len]
  have hN : partsN s ≤ 9 := by rw [(parts_yes h1).1]; exact hl.2.2.1
  refine ⟨by simp [quC], ⟨Int.le_refl _, by omega⟩, fun a ha => ⟨fun hc => ?_, fun hc => ?_⟩⟩
  · have hc := of_decide_eq_true hc
    obtain ⟨i, hi, hil, hin, e1, e2, e3⟩ := ix_ev ha hc (by omega)
    have hb := quC_bd (c := (partsC s).take (i * 2))
    rw [List.length_take] at hb
    have hq := quC_sc hn hil
    rw [e1, hin]
    simp only [Int.toNat_natCast]
    rw [hq]
    have hqb := qI_bd ((partsC s).getD (i * 2 + 1) ⟨0, []⟩).i
    generalize ((partsC s).getD (i * 2 + 1) ⟨0, []⟩).i = d at *
    refine ⟨⟨by omega, hc⟩, ⟨by omega, by omega⟩, fun h1 => ?_, fun h1 => ?_⟩
    · rw [h1, wrap64_in (by omega)]; exact ⟨rfl, e2, e3⟩
    · rw [h1, wrap64_in (by omega)]; exact ⟨rfl, e2, e3⟩
  · have hc := of_decide_eq_false hc
    obtain ⟨h0, h2⟩ := ha
    have : a.toNat * 2 = (partsC s).length := by omega
    rw [this, List.take_length, (parts_yes h1).2]
    exact retP_iby h1 (by rw [h1]; rfl)
theorem ev_ev {s : List UInt8} {a : Int} (h : evInv s a) (hlt : a < s.length) : ∃ i : Nat, a = i ∧ i % 2 = 0 ∧ i + 2 ≤ s.length ∧ s.length ≤ 19 ∧ a.toNat = i ∧ IntKind.wrap .i64 (a + 2) = ((i + 2 : Nat) : Int) ∧ evInv s ((i + 2 : Nat) : Int) ∧ ((s.length : Int) - ((i + 2 : Nat) : Int)).toNat < ((s.length : Int) - a).toNat := by
  obtain ⟨hp, h0, h1, h2⟩ := h
  have hl := prog_len hp
  refine ⟨a.toNat, by omega, by omega, by omega, by omega, rfl, ?_, ⟨hp, by omega, by omega, by omega⟩, by omega⟩
  rw [wrap64_in (by omega)]; omega
theorem okP_at {s : List UInt8} {i : Nat} (h : okP s = true) (he : i % 2 = 0) (hi : i + 2 ≤ s.length) : inB (((s.getD i 0).toNat : Int) - 48) 0 9 = true ∧ okP (s.take i) = true := by
  have h1 : okP (s.take i) = true ∧ okP (s.drop i) = true := by
    rw [← List.take_append_drop i s, okP_app _ (by rw [List.length_take]; omega)] at h
    simpa using h
  refine ⟨?_, h1.1⟩
  have h2 : okP (s.take (i + 2)) = true := by
    have h3 := h
    rw [← List.take_append_drop (i + 2) s, okP_app _ (by rw [List.length_take]; omega)] at h3
    simp only [Bool.and_eq_true] at h3
    exact h3.1
  rw [okP_two hi he h1.1] at h2
  simp only [Bool.and_eq_true] at h2
  exact h2.1
theorem dig_wrap {c : UInt8} (h : inB ((c.toNat : Int) - 48) 0 9 = true) : IntKind.wrap .i64 (IntKind.wrap .u8 ((c.toNat : Int) - 48)) = (c.toNat : Int) - 48 := by
  rw [inB_eq] at h
  rw [IntWalk.u8_in _ (by omega), wrap64_in (by omega)]
theorem lenC_two {s : List UInt8} {i : Nat} (h : i + 2 ≤ s.length) (he : i % 2 = 0) : lenC (ptS (s.take (i + 2))) = lenC (ptS (s.take i)) + (((s.getD i 0).toNat : Int) - 48) := by
  rw [ptS_two h he, lenC_app _ (by rw [ptS_len]; omega)]
  simp [lenC]
theorem vc_spec_tuLength (s : List UInt8) (h : progB s = true) : VC_spec_tuLength s (retP (.int .i64 (lenC (ptS s)))) := by
  unfold VC_spec_tuLength
  have hl := prog_len h
  simp only [at_iff, retP_int, and_true, true_and]
  refine ⟨by simp [ptS, lenC], ⟨h, by omega, by omega, rfl⟩, fun a ha => ⟨fun hc => ?_, fun hc => ?_⟩⟩
  · have hc := of_decide_eq_true hc
    obtain ⟨i, hi, he, hil, h19, hin, e1, e2, e3⟩ := ev_ev ha hc
    obtain ⟨hd, ho⟩ := okP_at hl.2.2.2 he hil
    have hb := lenC_bd (okC_pt ho)
    rw [ptS_len, List.length_take] at hb
    rw [e1, hin]
    simp only [Int.toNat_natCast]
    rw [lenC_two hil he, dig_wrap hd]
    rw [inB_eq] at hd
    rw [wrap64_in (by omega)]
    exact ⟨⟨by omega, hc⟩, rfl, e2, e3⟩
  · have hc := of_decide_eq_false hc
    obtain ⟨_, h0, h1, h2⟩ := ha
    rw [show a.toNat = s.length by omega, List.take_length]
theorem retG_k1 {r r' : Int} {sh : List Sh} {c : List Sc} {e : TypeId} {k : Kind} (h : r' = r) : retG 1 (.int .i64 r) [⟨.recs sh c, e, k⟩] (.int .i64 r') [⟨.recs sh c, e, k⟩] := by
  subst h
  unfold retG leSel leSelBy autoSel
  simp [pairsL, pairsV, idPairs, pairsIn, selOf, lookN, findSel, selMem, chkB, nodupSel, hasSel, prefSel, leSt, leL, leV, nilToL, V.nilTo, isNilS, isGhost, selL, V.sel, Cells.selN, leMem, leCells, memUnder, underL, V.under]
theorem vc_impl_stepsOf (n : Nat) (c : List Sc) (k : Kind) (h : c.length = n * 2 ∧ n ≤ 900 ∧ okC c) : VC_impl_stepsOf n c k (retG 1 (.int .i64 (lenC c)) [⟨.recs [.int .i64, .int .u8] c, 57, k⟩]) := by
  unfold VC_impl_stepsOf
  obtain ⟨hn, h9, hc0⟩ := h
  simp only [at_iff, true_and, and_true, decide_true, Bool.and_true, Nat.beq_refl]
  refine ⟨by simp [lenC], ⟨Int.le_refl _, by omega⟩, fun a ha => ⟨fun hc => ?_, fun hc => ?_⟩⟩
  · have hc := of_decide_eq_true hc
    obtain ⟨i, hi, hil, hin, e1, e2, e3⟩ := ix_ev ha hc h9
    have hb := lenC_bd (okC_cut hn hc0 (Nat.le_of_lt hil)).1
    have hd := okC_at hn hc0 hil
    rw [List.length_take] at hb
    rw [e1, hin]
    simp only [Int.toNat_natCast]
    rw [lenC_sc hn hil, wrap64_in (by omega)]
    exact ⟨⟨by omega, hc⟩, ⟨by omega, by omega⟩, rfl, e2, e3⟩
  · have hc := of_decide_eq_false hc
    obtain ⟨h0, h2⟩ := ha
    rw [show a.toNat * 2 = c.length by omega, List.take_length]
    exact retG_k1 rfl
theorem vc_spec_tuAsked (s : List UInt8) (k : Int) (h : (s.length : Int) ≤ 9223372036854775807) : VC_spec_tuAsked s k (retP (.bool (askB s k))) := by
  unfold VC_spec_tuAsked askB
  simp only [at_iff, retP_lit, retP_bool, true_and]
  exact ⟨h, fun h1 => by rw [h1]; rfl, fun h1 => by rw [h1]; rfl⟩
/-! ### as many times -/
theorem wu_in {x : Int} (h : 0 ≤ x ∧ x ≤ 18446744073709551615) : IntKind.wrap .u64 x = x := IntWalk.u64_in _ h
theorem hi0 {x : Int} (h : 0 ≤ x ∧ x ≤ 4294967295) : Int.fdiv x ((2 : Int) ^ Int.toNat 32) = 0 := by
  have e : (2 : Int) ^ Int.toNat 32 = 4294967296 := by decide
  rw [e, Int.fdiv_eq_ediv_of_nonneg _ (by omega)]
  omega
theorem lo0 {x : Int} (h : 0 ≤ x ∧ x ≤ 4294967295) : ((x.toNat &&& Int.toNat 4294967295 : Nat) : Int) = x := by
  have e : x.toNat &&& Int.toNat 4294967295 = x.toNat % 2 ^ 32 := Nat.and_two_pow_sub_one_eq_mod x.toNat 32
  rw [e]; omega
theorem retP_u2 {a a' b b' : Int} (ha : a' = a) (hb : b' = b) : retP (.tup [.int .u64 a, .int .u64 b]) (.tup [.int .u64 a', .int .u64 b']) := by
  subst hb; subst ha; simp [retP, leV, leL, chkB, V.under, underL]
theorem vc_bits_Mul64 (x y : Int) (h : 0 ≤ x ∧ x ≤ 100 ∧ 0 ≤ y ∧ y ≤ 100) : VC_bits_Mul64 x y (retP (.tup [.int .u64 0, .int .u64 (x * y)])) := by
  unfold VC_bits_Mul64
  obtain ⟨h1, h2, h3, h4⟩ := h
  have hxy : 0 ≤ x * y ∧ x * y ≤ 10000 := ⟨Int.mul_nonneg h1 h3, by
    have := Int.mul_le_mul h2 h4 h3 (by omega : (0 : Int) ≤ 100)
    omega⟩
  simp only [at_iff, hi0 (x := x) (by omega), hi0 (x := y) (by omega), lo0 (x := x) (by omega), lo0 (x := y) (by omega), Int.mul_zero, Int.zero_mul, Int.add_zero, Int.zero_add, wu_in (x := x * y) (by omega), hi0 (x := x * y) (by omega), wu_in (x := 0) (by omega), hi0 (x := 0) (by omega), lo0 (x := 0) (by omega)]
  exact ⟨by omega, by omega, by omega, by omega, by omega, by omega, by omega, by omega, retP_u2 rfl rfl⟩
theorem vc_bits_Mul (x y : Int) (h : 0 ≤ x ∧ x ≤ 100 ∧ 0 ≤ y ∧ y ≤ 100) : VC_bits_Mul x y (retP (.tup [.int .u64 0, .int .u64 (x * y)])) := ⟨⟨h⟩, retP_u2 rfl rfl⟩
theorem repC_take {c : List Sc} {n j q a : Nat} (hn : c.length = n * 2) (ha : j ≤ a) (hq : q * 2 ≤ (a - j) * (n * 2)) : (repC a c).take ((n * j + q) * 2) = repC j c ++ (repC a c).take (q * 2) := by
  have e1 : repC a c = repC j c ++ repC (a - j) c := by rw [← repC_add]; congr 1; omega
  have e2 : repC a c = repC (a - j) c ++ repC j c := by rw [← repC_add]; congr 1; omega
  have hj : (repC j c).length = n * j * 2 := by rw [repC_len, hn, Nat.mul_comm n j, Nat.mul_assoc]
  have hl : (repC (a - j) c).length = (a - j) * (n * 2) := by rw [repC_len, hn]
  have h1 : (repC a c).take (q * 2) = (repC (a - j) c).take (q * 2) := by
    rw [e2, List.take_append_of_le_length (by omega)]
  rw [h1, e1, List.take_append, List.take_of_length_le (by omega), hj]
  congr 2
  omega
theorem repZ_len {c : List Sc} {n N m : Nat} (hn : c.length = n * 2) (hN : N ≤ 100 * n) (hm : m ≤ N) : (repZ c (N * 2) (m * 2)).length = N * 2 := by
  unfold repZ
  rw [List.length_append, List.length_take, List.length_replicate, repC_len, hn]
  omega
theorem retG_rp {sh : List Sh} {c d d' : List Sc} {e : TypeId} {u u' : Nat} (hu : u' = u) (hd : d' = d) :
    retG 1 (.row 1 u) [⟨.recs sh c, e, .rows 2⟩, ⟨.recs sh d, e, .rows 2⟩] (.row 1 u') [⟨.recs sh c, e, .rows 2⟩, ⟨.recs sh d', e, .rows 2⟩] := by
  subst hu; subst hd
  unfold retG leSel leSelBy autoSel
  simp [pairsL, pairsV, idPairs, pairsIn, selOf, lookN, findSel, selMem, chkB, nodupSel, hasSel, prefSel, leSt, leL, leV, nilToL, V.nilTo, isNilS, isGhost, selL, V.sel, Cells.selN, leMem, leCells, memUnder, underL, V.under]
  try trivial
theorem vc_impl_part (k : Int) (n : Nat) (c : List Sc) (h : c.length = n * 2 ∧ 1 ≤ n ∧ n ≤ 9 ∧ 0 ≤ k ∧ k ≤ 100) :
    VC_impl_part k n c (retG 1 (.row 1 (n * k.toNat)) [⟨.recs [.int .i64, .int .u8] c, 57, .rows 2⟩, ⟨.recs [.int .i64, .int .u8] (repC k.toNat c), 57, .rows 2⟩]) := by
  unfold VC_impl_part
  obtain ⟨hn, h1, h9, hk0, hk1⟩ := h
  obtain ⟨kk, rfl⟩ : ∃ kk : Nat, k = kk := ⟨k.toNat, by omega⟩
  have hNk : n * kk ≤ n * 100 := Nat.mul_le_mul_left n (by omega)
  have hN9 : n * kk ≤ 900 := Nat.le_trans hNk (by omega)
  have e1 : IntKind.wrap .u64 (n : Int) * IntKind.wrap .u64 (kk : Int) = ((n * kk : Nat) : Int) := by
    rw [wu_in (by omega), wu_in (by omega), Int.natCast_mul]
  have e3 : (n : Int) * (kk : Int) = ((n * kk : Nat) : Int) := by rw [Int.natCast_mul]
  have hk : n * kk = 0 → kk = 0 := fun h0 => by
    rcases Nat.mul_eq_zero.1 h0 with h | h <;> omega
  have hmod : n * kk % n = 0 := Nat.mul_mod_right n kk
  have hlt : n * kk < n → n * kk = 0 := fun hl => by
    rcases Nat.eq_zero_or_pos kk with h0 | h0
    · rw [h0, Nat.mul_zero]
    · have := Nat.mul_le_mul_left n h0
      omega
  have hrep : n * kk * 2 ≤ (repC 100 c).length := by rw [repC_len, hn]; omega
  have hend : (repC 100 c).take (n * kk * 2) = repC kk c := by
    have := repC_take (q := 0) hn (show kk ≤ 100 by omega) (by omega)
    rw [Nat.add_zero, Nat.zero_mul, List.take_zero, List.append_nil] at this
    exact this
  obtain ⟨N, hNN⟩ : ∃ N, n * kk = N := ⟨_, rfl⟩
  rw [hNN] at hNk hN9 hmod hlt hrep hend hk e1 e3
  have e2 : IntKind.wrap .i64 (N : Int) = N := wrap64_in (by omega)
  simp only [Int.toNat_natCast, e1, e3, e2, hNN, wu_in (x := (n : Int)) (by omega), wu_in (x := (kk : Int)) (by omega), at_iff, true_and, and_true]
  have hl0 : Nat.min n N ≤ N := Nat.min_le_right n N
  have hl1 : Nat.min n N ≤ n := Nat.min_le_left n N
  have hl2 : Nat.min n N = n ∨ Nat.min n N = N := by
    rcases Nat.le_total n N with h | h
    · exact .inl (Nat.min_eq_left h)
    · exact .inr (Nat.min_eq_right h)
  obtain ⟨m0, hm0⟩ : ∃ m0, Nat.min n N = m0 := ⟨_, rfl⟩
  rw [hm0] at hl0 hl1 hl2
  simp only [hm0, Int.toNat_natCast]
  refine ⟨fun h => absurd (of_decide_eq_true h) (by omega), fun _ => ⟨⟨by omega, by omega, by omega, by omega⟩, fun h => absurd (of_decide_eq_true h) (by omega), fun _ => ⟨fun h => absurd (of_decide_eq_true h) (by omega), fun _ => ?_⟩⟩⟩
  have first : (repC 100 c).take (m0 * 2) = c.take (m0 * 2) := by
    show (c ++ repC 99 c).take (m0 * 2) = _
    rw [List.take_append_of_le_length (by omega)]
  have step : ∀ {a : Int}, rpInv n kk a → a < N → ∀ q, q = Nat.min a.toNat (N - a.toNat) →
      (a.toNat * 2 ≤ (List.drop (0 * 2) (repZ c (N * 2) (a.toNat * 2))).length ∧ (a.toNat + q) * 2 ≤ (repZ c (N * 2) (a.toNat * 2)).length) ∧
      (List.take (a.toNat * 2) (repZ c (N * 2) (a.toNat * 2)) ++ List.take (q * 2) (List.drop (0 * 2) (repZ c (N * 2) (a.toNat * 2))) ++ List.drop ((a.toNat + q) * 2) (repZ c (N * 2) (a.toNat * 2)) = repZ c (N * 2) ((IntKind.wrap .i64 (a + (q : Int))).toNat * 2)) ∧
      rpInv n kk (IntKind.wrap .i64 (a + (q : Int))) ∧ ((N : Int) - IntKind.wrap .i64 (a + (q : Int))).toNat < ((N : Int) - a).toNat := by
    intro a ha hlt' q hq
    obtain ⟨g0, g1, g2, g3⟩ := ha
    rw [hNN] at g1
    have hm0 : 0 < a.toNat := by
      rcases Nat.eq_zero_or_pos a.toNat with h0 | h0
      · have := g2 (by omega)
        rw [this, Nat.mul_zero] at hNN
        omega
      · exact h0
    obtain ⟨m, rfl⟩ : ∃ m : Nat, a = m := ⟨a.toNat, by omega⟩
    simp only [Int.toNat_natCast] at *
    obtain ⟨j, rfl⟩ : ∃ j, m = n * j := ⟨m / n, by have := Nat.div_add_mod m n; omega⟩
    have hq1 : q ≤ n * j := by rw [hq]; exact Nat.min_le_left _ _
    have hq2 : q ≤ N - n * j := by rw [hq]; exact Nat.min_le_right _ _
    have hq3 : q = n * j ∨ q = N - n * j := by
      rw [hq]
      rcases Nat.le_total (n * j) (N - n * j) with h | h
      · exact .inl (Nat.min_eq_left h)
      · exact .inr (Nat.min_eq_right h)
    have hj100 : j ≤ 100 := by
      rcases Nat.lt_or_ge 100 j with h | h
      · have := Nat.mul_le_mul_left n (Nat.le_of_lt h); omega
      · exact h
    have hjn : (100 - j) * (n * 2) = n * 100 * 2 - n * j * 2 := by
      rw [Nat.mul_sub_right_distrib (n := 100) (m := j) (k := n * 2)]
      congr 1
      · omega
      · rw [Nat.mul_comm n j, Nat.mul_assoc]
    have hL : (repZ c (N * 2) (n * j * 2)).length = N * 2 := repZ_len hn (by omega) (by omega)
    have hrl : (repC 100 c).length = n * 100 * 2 := by rw [repC_len, hn]; omega
    have e5 : IntKind.wrap .i64 (((n * j : Nat) : Int) + (q : Int)) = ((n * j + q : Nat) : Int) := by rw [wrap64_in (by omega)]; omega
    rw [e5]
    simp only [Int.toNat_natCast]
    have hT1 : (repZ c (N * 2) (n * j * 2)).take (n * j * 2) = repC j c := by
      unfold repZ
      rw [List.take_append_of_le_length (by rw [List.length_take]; omega), List.take_take, Nat.min_self]
      have := repC_take (q := 0) hn hj100 (by omega)
      rw [Nat.add_zero, Nat.zero_mul, List.take_zero, List.append_nil] at this
      exact this
    have hT2 : (repZ c (N * 2) (n * j * 2)).take (q * 2) = (repC 100 c).take (q * 2) := by
      unfold repZ
      rw [List.take_append_of_le_length (by rw [List.length_take]; omega), List.take_take, Nat.min_eq_left (by omega)]
    have hT3 : (repZ c (N * 2) (n * j * 2)).drop ((n * j + q) * 2) = List.replicate (N * 2 - (n * j + q) * 2) ⟨0, []⟩ := by
      unfold repZ
      rw [List.drop_append, List.drop_of_length_le (by rw [List.length_take]; omega), List.length_take, List.nil_append, List.drop_replicate]
      congr 1
      omega
    have hmq : (n * j + q) % n = 0 := by
      rcases hq3 with h | h
      · rw [h, ← Nat.mul_add]; exact Nat.mul_mod_right _ _
      · rw [h, show n * j + (N - n * j) = N by omega]; exact hmod
    refine ⟨⟨by rw [Nat.zero_mul, List.drop_zero, hL]; omega, by rw [hL]; omega⟩, ?_, ⟨by omega, by rw [hNN]; omega, fun h => by omega, by rw [Int.toNat_natCast]; exact hmq⟩, by omega⟩
    rw [Nat.zero_mul, List.drop_zero, hT1, hT2, hT3]
    have := repC_take (q := q) hn hj100 (by omega)
    unfold repZ
    rw [this]
  refine ⟨⟨by omega, Int.le_refl _, by omega⟩, ⟨by omega, by rw [List.length_replicate, Nat.zero_add]; omega⟩, ?_, ⟨by omega, by rw [hNN]; omega, fun h0 => hk (by omega), ?_⟩, fun a ha => ⟨fun hc => ?_, fun hc => ?_⟩⟩
  · unfold repZ
    rw [first, Nat.zero_mul, List.take_zero, List.nil_append, Nat.zero_add, List.drop_replicate]
  · rw [Int.toNat_natCast]
    rcases hl2 with h | h
    · rw [h]; exact Nat.mod_self n
    · rw [h]; exact hmod
  · have hc := of_decide_eq_true hc
    have hs := step ha hc _ rfl
    obtain ⟨g0, g1, g2, g3⟩ := ha
    rw [hNN] at g1
    have hlen : N * 2 ≤ Cells.len (Cells.recs [Sh.int .i64, Sh.int .u8] (repZ c (N * 2) (a.toNat * 2))) := by
      show N * 2 ≤ (repZ c (N * 2) (a.toNat * 2)).length
      rw [repZ_len hn (by omega) (by omega)]
      exact Nat.le_refl _
    exact ⟨⟨⟨g0, g1, hlen⟩, ⟨g0, g1, hlen⟩, hs⟩, ⟨g0, g1, hlen⟩, ⟨g0, g1, hlen⟩, hs⟩
  · have hc := of_decide_eq_false hc
    obtain ⟨g0, g1, g2, g3⟩ := ha
    rw [hNN] at g1
    refine retG_rp rfl ?_
    unfold repZ
    rw [show a.toNat = N by omega, hend, Nat.sub_self, List.replicate_zero, List.append_nil]
theorem retG_py1 {sh : List Sh} {c c' : List Sc} {e : TypeId} {u u' : Nat} {b : Bool} {B : Blk} {J : List Blk} (hb : b = true) (hu : u' = u) (hc : c' = c) :
    retG 0 (.tup [.row 0 u, .bool b]) [⟨.recs sh c, e, .rows 2⟩] (.tup [.row 1 u', .lit true]) (B :: ⟨.recs sh c', e, .rows 2⟩ :: J) := by
  subst hb; subst hu; subst hc
  unfold retG leSel leSelBy autoSel
  simp [pairsL, pairsV, idPairs, pairsIn, selOf, lookN, findSel, selMem, chkB, nodupSel, hasSel, prefSel, leSt, leL, leV, nilToL, V.nilTo, isNilS, isGhost, selL, V.sel, Cells.selN, Cells.none0, Kind.isRow, Blk.isOwnMat, leMem, leCells, memUnder, underL, V.under]
  try trivial
theorem ask_n1 {s : List UInt8} {k : Int} (h : progB s = false) : askB s k = false := by unfold askB; rw [h]; rfl
theorem ask_n2 {s : List UInt8} {k : Int} (h : inB k 0 100 = false) : askB s k = false := by unfold askB; rw [h, Bool.and_false]
theorem ask_y {s : List UInt8} {k : Int} (h : progB s = true) (h2 : inB k 0 100 = true) : askB s k = true := by unfold askB; rw [h, h2]; rfl
theorem ask_of {s : List UInt8} {k : Int} (h : askB s k = true) : progB s = true ∧ 0 ≤ k ∧ k ≤ 100 := by
  unfold askB at h
  simp only [Bool.and_eq_true] at h
  rw [inB_eq] at h
  exact ⟨h.1, h.2⟩
theorem rep_no {s : List UInt8} {k : Int} (h : askB s k = false) : repN s k = 0 ∧ repS s k = [] := by unfold repN repS; rw [h]; exact ⟨rfl, rfl⟩
theorem rep_yes {s : List UInt8} {k : Int} (h : askB s k = true) : repN s k = s.length / 2 * k.toNat ∧ repS s k = repC k.toNat (ptS s) := by unfold repN repS; rw [h]; exact ⟨rfl, rfl⟩
theorem parts_ok {s : List UInt8} (h : progB s = true) : (partsC s).length = partsN s * 2 ∧ 1 ≤ partsN s ∧ partsN s ≤ 9 ∧ okC (partsC s) := by
  have hl := prog_len h
  obtain ⟨h1, h2⟩ := parts_yes h
  rw [h1, h2]
  exact ⟨ptS_len s, hl.2.1, hl.2.2.1, okC_pt hl.2.2.2⟩
theorem rep_ok {s : List UInt8} {k : Int} (h : askB s k = true) : (repS s k).length = repN s k * 2 ∧ repN s k ≤ 900 ∧ okC (repS s k) := by
  obtain ⟨hp, h0, h1⟩ := ask_of h
  have hl := prog_len hp
  obtain ⟨e1, e2⟩ := rep_yes h
  rw [e1, e2]
  refine ⟨?_, ?_, repC_ok (by rw [ptS_len]; omega) (okC_pt hl.2.2.2) _⟩
  · rw [repC_len, ptS_len, Nat.mul_comm k.toNat, Nat.mul_assoc, Nat.mul_comm 2, Nat.mul_assoc]
  · have := Nat.mul_le_mul hl.2.2.1 (show k.toNat ≤ 100 by omega)
    omega
theorem vc_impl_repeated (s : List UInt8) (k : Int) (h : (s.length : Int) ≤ 9223372036854775807) : VC_impl_repeated s k (retG 0 (.tup [.row 0 (repN s k), .bool (askB s k)]) [⟨.recs [.int .i64, .int .u8] (repS s k), 57, .rows 2⟩]) := by
  unfold VC_impl_repeated
  have no : askB s k = false → ∀ J, retG 0 (.tup [.row 0 (repN s k), .bool (askB s k)]) [⟨.recs [.int .i64, .int .u8] (repS s k), 57, .rows 2⟩] (.tup [.raw (.slice none 0 0), .lit false]) J := fun hn J => retG_pn hn (rep_no hn).1 (rep_no hn).2
  simp only [at_iff, Bool.not_eq_true', Bool.not_eq_false', true_and]
  refine ⟨h, fun h1 => no (ask_n1 h1) _, fun h1 => ⟨fun h2 => no (ask_n2 h2) _, fun h2 => ?_⟩⟩
  have hy := ask_y h1 h2
  rw [inB_eq] at h2
  obtain ⟨p1, p2, p3, _⟩ := parts_ok h1
  refine ⟨⟨p1, p2, p3, h2.1, h2.2⟩, retG_py1 hy ?_ ?_⟩
  · rw [(parts_yes h1).1, (rep_yes hy).1]
  · rw [(parts_yes h1).2, (rep_yes hy).2]
theorem lenC_rep {c : List Sc} (h : c.length % 2 = 0) : ∀ k : Nat, lenC (repC k c) = lenC c * k
  | 0 => by simp [repC, lenC]
  | k + 1 => by
    simp only [repC]
    rw [lenC_app _ h, lenC_rep h k, Int.natCast_add, Int.mul_add]
    omega
theorem len_bd {s : List UInt8} (h : progB s = true) : 0 ≤ lenC (ptS s) ∧ lenC (ptS s) ≤ 81 := by
  have hl := prog_len h
  have := lenC_bd (okC_pt hl.2.2.2)
  rw [ptS_len] at this
  omega
theorem vc_spec_LengthOf (s : List UInt8) (k : Int) (h : (s.length : Int) ≤ 9223372036854775807) : VC_spec_LengthOf s k (retP (.tup [.int .i64 (bif askB s k then lenC (ptS s) * k else 0), .bool (askB s k)])) := by
  unfold VC_spec_LengthOf
  simp only [at_iff, Bool.not_eq_true', Bool.not_eq_false']
  refine ⟨h, fun h1 => retP_ibn h1 (by rw [h1]; rfl), fun h1 => ⟨(ask_of h1).1, retP_iby h1 ?_⟩⟩
  obtain ⟨hp, h0, h2⟩ := ask_of h1
  have hb := len_bd hp
  have := Int.mul_le_mul hb.2 h2 h0 (by omega)
  have := Int.mul_nonneg hb.1 h0
  rw [h1, wrap64_in (by omega)]
  rfl
theorem vc_impl_LengthOf (s : List UInt8) (k : Int) (h : (s.length : Int) ≤ 9223372036854775807) : VC_impl_LengthOf s k (retP (.tup [.int .i64 (bif askB s k then lenC (ptS s) * k else 0), .bool (askB s k)])) := by
  unfold VC_impl_LengthOf
  simp only [at_iff, Bool.not_eq_true', Bool.not_eq_false']
  refine ⟨h, fun h1 => retP_ibn h1 (by rw [h1]; rfl), fun h1 => ⟨rep_ok h1, retP_iby h1 ?_⟩⟩
  obtain ⟨hp, h0, h2⟩ := ask_of h1
  rw [(rep_yes h1).2, lenC_rep (by rw [ptS_len]; omega), h1]
  show _ = lenC (ptS s) * k
  congr 1
  omega
/-! ### moves -/
theorem retG_mv {a b c a' b' c' : Int} {e : TypeId} (ha : a' = a) (hb : b' = b) (hc : c' = c) :
    retG 1 (.tup []) [⟨.vals [.int .i64 a, .int .i64 b, .int .i64 c], e, .box⟩] (.tup []) [⟨.vals [.int .i64 a', .int .i64 b', .int .i64 c'], e, .box⟩] := by
  subst ha; subst hb; subst hc
  unfold retG leSel leSelBy autoSel
  simp [pairsL, pairsV, idPairs, pairsIn, selOf, lookN, findSel, selMem, chkB, nodupSel, hasSel, prefSel, leSt, leL, leV, nilToL, V.nilTo, isNilS, isGhost, selL, V.sel, Cells.selN, leMem, leCells, memUnder, underL, V.under]
  try trivial
theorem vc_spec_tuTurtle_tuGo (a x y w : Int) (h : okT 9000 ⟨x, y, w⟩ ∧ 0 ≤ a ∧ a ≤ 9) :
    VC_spec_tuTurtle_tuGo a x y w (retG 1 (.tup []) [⟨.vals [.int .i64 (goT a ⟨x, y, w⟩).x, .int .i64 (goT a ⟨x, y, w⟩).y, .int .i64 (goT a ⟨x, y, w⟩).w], 45, .box⟩]) := by
  unfold VC_spec_tuTurtle_tuGo
  obtain ⟨⟨hx, hy, hw⟩, h0, h9⟩ := h
  dsimp only at hx hy hw
  refine ⟨fun h1 => ?_, fun h1 => ⟨fun h2 => ?_, fun h2 => ⟨fun h3 => ?_, fun h3 => ?_⟩⟩⟩ <;> refine retG_mv ?_ ?_ ?_ <;> simp only [goT, dxI, dyI, *, cond_true, cond_false] <;> first | omega | (rw [wrap64_in (by omega)]; omega)
theorem vc_spec_tuTurtle_tuPart (s : List UInt8) (i x y w : Int) (h : okT 9000 ⟨x, y, w⟩ ∧ 0 ≤ i ∧ i < s.length ∧ digU (s.getD i.toNat 0) = true) :
    VC_spec_tuTurtle_tuPart s i x y w (retG 1 (.tup []) [⟨.vals [.int .i64 (goT (((s.getD i.toNat 0).toNat : Int) - 48) ⟨x, y, w⟩).x, .int .i64 (goT (((s.getD i.toNat 0).toNat : Int) - 48) ⟨x, y, w⟩).y, .int .i64 (goT (((s.getD i.toNat 0).toNat : Int) - 48) ⟨x, y, w⟩).w], 45, .box⟩]) := by
  unfold VC_spec_tuTurtle_tuPart
  obtain ⟨ht, h0, h1, hd⟩ := h
  unfold digU at hd
  rw [dig_wrap hd]
  rw [inB_eq] at hd
  exact ⟨⟨h0, h1⟩, ⟨ht, hd.1, hd.2⟩, retG_mv rfl rfl rfl⟩
theorem vc_spec_tuTurtle_tuSign (s : List UInt8) (i x y w : Int) (h : okT 9000 ⟨x, y, w⟩ ∧ 0 ≤ i ∧ i + 1 < s.length ∧ s.length ≤ 100) :
    VC_spec_tuTurtle_tuSign s i x y w (retG 1 (.tup []) [⟨.vals [.int .i64 (tnT ((s.getD (i.toNat + 1) 0).toNat : Int) ⟨x, y, w⟩).x, .int .i64 (tnT ((s.getD (i.toNat + 1) 0).toNat : Int) ⟨x, y, w⟩).y, .int .i64 (tnT ((s.getD (i.toNat + 1) 0).toNat : Int) ⟨x, y, w⟩).w], 45, .box⟩]) := by
  unfold VC_spec_tuTurtle_tuSign
  obtain ⟨⟨hx, hy, hw⟩, h0, h1, h2⟩ := h
  dsimp only at hx hy hw
  have hq := qI_bd ((s.getD (i.toNat + 1) 0).toNat : Int)
  have e1 : IntKind.wrap .i64 (i + 1) = i + 1 := wrap64_in (by omega)
  have e2 : (i + 1).toNat = i.toNat + 1 := by omega
  rw [e1, e2, wrap64_in (by omega)]
  exact ⟨trivial, ⟨by omega, by omega⟩, ⟨trivial⟩, ⟨by omega⟩, retG_mv rfl rfl rfl⟩
theorem goC_two {s : List UInt8} {i : Nat} {t : Tt} (h : i + 2 ≤ s.length) (he : i % 2 = 0) : goC (ptS (s.take (i + 2))) t = tnT ((s.getD (i + 1) 0).toNat : Int) (goT (((s.getD i 0).toNat : Int) - 48) (goC (ptS (s.take i)) t)) := by
  rw [ptS_two h he, goC_app _ _ (by rw [ptS_len]; omega)]
  simp [goC]
theorem aft_bd {s : List UInt8} (h : progB s = true) {k : Nat} (hk : k ≤ 100) : okT 8100 (aftR s k) := by
  have hl := prog_len h
  have := okT_goC (t := zeroT) (repC_ok (by rw [ptS_len]; omega) (okC_pt hl.2.2.2) k) okT_zero (Int.le_refl _)
  refine okT_mono this ?_
  rw [repC_len, ptS_len]
  have := Nat.mul_le_mul hk (show s.length / 2 * 2 ≤ 18 by omega)
  omega
theorem go_bd {s : List UInt8} (h : progB s = true) {k i : Nat} (hk : k ≤ 100) (hi : i ≤ s.length) (he : i % 2 = 0) : okT 8181 (goC (ptS (s.take i)) (aftR s k)) := by
  have hl := prog_len h
  have ho : okP (s.take i) = true := by
    have h3 := hl.2.2.2
    rw [← List.take_append_drop i s, okP_app _ (by rw [List.length_take]; omega)] at h3
    simp only [Bool.and_eq_true] at h3
    exact h3.1
  have := okT_goC (okC_pt ho) (aft_bd h hk) (by omega)
  refine okT_mono this ?_
  rw [ptS_len, List.length_take]
  omega
theorem repC_succ' (c : List Sc) (k : Nat) : repC (k + 1) c = repC k c ++ c := by
  rw [repC_add]; simp [repC]
theorem aft_succ {s : List UInt8} (h : progB s = true) (k : Nat) : aftR s (k + 1) = goC (ptS s) (aftR s k) := by
  have hl := prog_len h
  unfold aftR
  rw [repC_succ', goC_app _ _ (by rw [repC_len, ptS_len, Nat.mul_comm, Nat.mul_assoc, Nat.mul_comm, Nat.mul_assoc]; exact Nat.mul_mod_right _ _)]
theorem retP_t3 {a b c a' b' c' : Int} (h1 : a' = a) (h2 : b' = b) (h3 : c' = c) : retP (.agg [.int .i64 a, .int .i64 b, .int .i64 c]) (.agg [.int .i64 a', .int .i64 b', .int .i64 c']) := by
  subst h1; subst h2; subst h3; simp [retP, leV, leL, chkB, V.under, underL]
theorem vc_spec_tuAfter (s : List UInt8) (k : Int) (h : askB s k = true) : VC_spec_tuAfter s k (retP (.agg [.int .i64 (aftR s k.toNat).x, .int .i64 (aftR s k.toNat).y, .int .i64 (aftR s k.toNat).w])) := by
  unfold VC_spec_tuAfter
  obtain ⟨hp, h0, h1⟩ := ask_of h
  have hl := prog_len hp
  have z0 : aftR s (k - k).toNat = zeroT := by rw [Int.sub_self]; rfl
  have pt0 : ptS (s.take (Int.toNat 0)) = [] := rfl
  simp only [at_iff, true_and, and_true, z0, pt0]
  refine ⟨by decide, ⟨h0, Int.le_refl _⟩, fun a ha => ⟨fun hc => ?_, fun hc => ?_⟩⟩
  · have hc := of_decide_eq_true hc
    refine ⟨⟨rfl, rfl, rfl⟩, ⟨hp, Int.le_refl _, by omega, rfl⟩, fun b hb => ⟨fun hd => ?_, fun hd => ?_⟩⟩
    · have hd := of_decide_eq_true hd
      obtain ⟨i, hi, he, hil, h19, hin, e1, e2, e3⟩ := ev_ev hb hd
      obtain ⟨hdg, ho⟩ := okP_at hl.2.2.2 he hil
      have hbd := go_bd hp (k := (k - a).toNat) (i := i) (by omega) (by omega) he
      have hg := inB_eq.1 hdg
      rw [e1, hin]
      simp only [Int.toNat_natCast]
      rw [goC_two hil he]
      exact ⟨⟨okT_mono hbd (by omega), by omega, hd, hdg⟩, ⟨okT_mono (okT_go hbd hg.1 hg.2) (by omega), by omega, by omega, by omega⟩, ⟨rfl, rfl, rfl⟩, e2, e3⟩
    · have hd := of_decide_eq_false hd
      obtain ⟨_, g0, g1, g2⟩ := hb
      have e1 : IntKind.wrap .i64 (a - 1) = a - 1 := wrap64_in (by omega)
      have e2 : (k - (a - 1)).toNat = (k - a).toNat + 1 := by omega
      rw [show b.toNat = s.length by omega, List.take_length, e1, e2, aft_succ hp]
      exact ⟨⟨rfl, rfl, rfl⟩, by omega, by omega⟩
  · have hc := of_decide_eq_false hc
    rw [show (k - a).toNat = k.toNat by omega]
    exact retP_t3 rfl rfl rfl
theorem retG_nt {sh : List Sh} {c0 : List Sc} {f e : TypeId} {kd : Kind} {a b c a' b' c' a2 b2 c2 : Int} {J : List Blk} (h1 : a' = a) (h2 : b' = b) (h3 : c' = c) (h4 : a2 = a) (h5 : b2 = b) (h6 : c2 = c) :
    retG 2 (.agg [.int .i64 a, .int .i64 b, .int .i64 c]) [⟨.recs sh c0, f, kd⟩, ⟨.vals [.int .i64 a, .int .i64 b, .int .i64 c], e, .box⟩] (.agg [.int .i64 a', .int .i64 b', .int .i64 c']) (⟨.recs sh c0, f, kd⟩ :: ⟨.vals [.int .i64 a2, .int .i64 b2, .int .i64 c2], e, .box⟩ :: J) := by
  subst h1; subst h2; subst h3; subst h4; subst h5; subst h6
  unfold retG leSel leSelBy autoSel
  simp [pairsL, pairsV, idPairs, pairsIn, selOf, lookN, findSel, selMem, chkB, nodupSel, hasSel, prefSel, leSt, leL, leV, nilToL, V.nilTo, isNilS, isGhost, selL, V.sel, Cells.selN, leMem, leCells, memUnder, underL, V.under]
  try trivial
theorem retG_nt0 {e : TypeId} {a b c : Int} {J : List Blk} :
    retG 1 (.agg [.int .i64 a, .int .i64 b, .int .i64 c]) [⟨.vals [.int .i64 a, .int .i64 b, .int .i64 c], e, .box⟩] (.agg [.int .i64 a, .int .i64 b, .int .i64 c]) (⟨.vals [.int .i64 a, .int .i64 b, .int .i64 c], e, .box⟩ :: J) := by
  unfold retG leSel leSelBy autoSel
  simp [pairsL, pairsV, idPairs, pairsIn, selOf, lookN, findSel, selMem, chkB, nodupSel, hasSel, prefSel, leSt, leL, leV, nilToL, V.nilTo, isNilS, isGhost, selL, V.sel, Cells.selN, leMem, leCells, memUnder, underL, V.under]
  try trivial
theorem vc_impl_newTurtle_1 (n : Nat) (c : List Sc) (x y w : Int) (h : c.length = n * 2 ∧ n ≤ 900 ∧ okC c ∧ okT (9 * (900 - n)) ⟨x, y, w⟩) :
    VC_impl_newTurtle_1 n c x y w (retG 2 (.agg [.int .i64 (goC c ⟨x, y, w⟩).x, .int .i64 (goC c ⟨x, y, w⟩).y, .int .i64 (goC c ⟨x, y, w⟩).w]) [⟨.recs [.int .i64, .int .u8] c, 57, .rows 2⟩, ⟨.vals [.int .i64 (goC c ⟨x, y, w⟩).x, .int .i64 (goC c ⟨x, y, w⟩).y, .int .i64 (goC c ⟨x, y, w⟩).w], 51, .box⟩]) := by
  unfold VC_impl_newTurtle_1
  obtain ⟨hn, h9, hc0, ht⟩ := h
  have hbd : ∀ i, i ≤ n → okT 8100 (goC (c.take (i * 2)) ⟨x, y, w⟩) := fun i hi => by
    have := okT_goC (okC_cut hn hc0 hi).1 ht (by omega)
    refine okT_mono this ?_
    rw [List.length_take]
    omega
  have e0 : goC (c.take (Int.toNat 0 * 2)) ⟨x, y, w⟩ = ⟨x, y, w⟩ := rfl
  simp only [at_iff, true_and, and_true, e0]
  refine ⟨by decide, ⟨Int.le_refl _, by omega⟩, fun a ha => ⟨fun hc => ?_, fun hc => ?_⟩⟩
  · have hc := of_decide_eq_true hc
    obtain ⟨i, hi, hil, hin, e1, e2, e3⟩ := ix_ev ha hc h9
    have hd := okC_at hn hc0 hil
    have hb := hbd i (Nat.le_of_lt hil)
    have hb2 := okT_go hb hd.1 hd.2
    have hq := qI_bd (c.getD (i * 2 + 1) ⟨0, []⟩).i
    rw [e1, hin]
    simp only [Int.toNat_natCast]
    rw [goC_sc hn hil]
    generalize goC (c.take (i * 2)) ⟨x, y, w⟩ = u at *
    generalize (c.getD (i * 2) ⟨0, []⟩).i = d at *
    generalize (c.getD (i * 2 + 1) ⟨0, []⟩).i = q at *
    obtain ⟨b1, b2, b3, b4⟩ := hb
    obtain ⟨d1, d2, _, _⟩ := hb2
    simp only [goT] at d1 d2
    have m1 : IntKind.wrap .i64 (d * dxI u.w) = d * dxI u.w := wrap64_in (by omega)
    have m2 : IntKind.wrap .i64 (d * dyI u.w) = d * dyI u.w := wrap64_in (by omega)
    rw [m1, m2, wrap64_in (by omega), wrap64_in (by omega), wrap64_in (by omega)]
    exact ⟨⟨by omega, hc⟩, ⟨by omega, by omega⟩, by omega, by omega, by omega, by omega, by omega, by omega, by omega, by omega, ⟨rfl, rfl, rfl⟩, e2, e3⟩
  · have hc := of_decide_eq_false hc
    obtain ⟨h0, h2⟩ := ha
    rw [show a.toNat * 2 = c.length by omega, List.take_length]
    exact retG_nt rfl rfl rfl rfl rfl rfl
theorem vc_impl_newTurtle_1_3 (n : Nat) (c : List Sc) (x y w : Int) (h : c.length = n * 2 ∧ n ≤ 900 ∧ okC c ∧ okT (9 * (900 - n)) ⟨x, y, w⟩) :
    VC_impl_newTurtle_1_3 n c x y w (retG 2 (.agg [.int .i64 (goC c ⟨x, y, w⟩).x, .int .i64 (goC c ⟨x, y, w⟩).y, .int .i64 (goC c ⟨x, y, w⟩).w]) [⟨.recs [.int .i64, .int .u8] c, 57, .arg 2⟩, ⟨.vals [.int .i64 (goC c ⟨x, y, w⟩).x, .int .i64 (goC c ⟨x, y, w⟩).y, .int .i64 (goC c ⟨x, y, w⟩).w], 51, .box⟩]) := by
  unfold VC_impl_newTurtle_1_3
  obtain ⟨hn, h9, hc0, ht⟩ := h
  have hbd : ∀ i, i ≤ n → okT 8100 (goC (c.take (i * 2)) ⟨x, y, w⟩) := fun i hi => by
    have := okT_goC (okC_cut hn hc0 hi).1 ht (by omega)
    refine okT_mono this ?_
    rw [List.length_take]
    omega
  have e0 : goC (c.take (Int.toNat 0 * 2)) ⟨x, y, w⟩ = ⟨x, y, w⟩ := rfl
  simp only [at_iff, true_and, and_true, e0]
  refine ⟨by decide, ⟨Int.le_refl _, by omega⟩, fun a ha => ⟨fun hc => ?_, fun hc => ?_⟩⟩
  · have hc := of_decide_eq_true hc
    obtain ⟨i, hi, hil, hin, e1, e2, e3⟩ := ix_ev ha hc h9
    have hd := okC_at hn hc0 hil
    have hb := hbd i (Nat.le_of_lt hil)
    have hb2 := okT_go hb hd.1 hd.2
    have hq := qI_bd (c.getD (i * 2 + 1) ⟨0, []⟩).i
    rw [e1, hin]
    simp only [Int.toNat_natCast]
    rw [goC_sc hn hil]
    generalize goC (c.take (i * 2)) ⟨x, y, w⟩ = u at *
    generalize (c.getD (i * 2) ⟨0, []⟩).i = d at *
    generalize (c.getD (i * 2 + 1) ⟨0, []⟩).i = q at *
    obtain ⟨b1, b2, b3, b4⟩ := hb
    obtain ⟨d1, d2, _, _⟩ := hb2
    simp only [goT] at d1 d2
    have m1 : IntKind.wrap .i64 (d * dxI u.w) = d * dxI u.w := wrap64_in (by omega)
    have m2 : IntKind.wrap .i64 (d * dyI u.w) = d * dyI u.w := wrap64_in (by omega)
    rw [m1, m2, wrap64_in (by omega), wrap64_in (by omega), wrap64_in (by omega)]
    exact ⟨⟨by omega, hc⟩, ⟨by omega, by omega⟩, by omega, by omega, by omega, by omega, by omega, by omega, by omega, by omega, ⟨rfl, rfl, rfl⟩, e2, e3⟩
  · have hc := of_decide_eq_false hc
    obtain ⟨h0, h2⟩ := ha
    rw [show a.toNat * 2 = c.length by omega, List.take_length]
    exact retG_nt rfl rfl rfl rfl rfl rfl
theorem vc_impl_newTurtle_1_2 (x y w : Int) (_ : True) :
    VC_impl_newTurtle_1_2 x y w (retG 1 (.agg [.int .i64 x, .int .i64 y, .int .i64 w]) [⟨.vals [.int .i64 x, .int .i64 y, .int .i64 w], 51, .box⟩]) := by
  unfold VC_impl_newTurtle_1_2
  simp only [at_iff, true_and, and_true]
  refine ⟨by decide, fun a ha => ⟨fun hc => ?_, fun _ => retG_nt0⟩⟩
  have hc := of_decide_eq_true hc
  subst ha
  exact absurd hc (by decide)
theorem plc_no {s : List UInt8} {k : Int} (h : askB s k = false) : plcF s k = zeroT := by unfold plcF; rw [h]; rfl
theorem plc_yes {s : List UInt8} {k : Int} (h : askB s k = true) : plcF s k = aftR s k.toNat := by unfold plcF; rw [h]; rfl
theorem retP_t3b {a b c a' b' c' : Int} {d d' : Bool} (h1 : a' = a) (h2 : b' = b) (h3 : c' = c) (h4 : d' = d) : retP (.tup [.int .i64 a, .int .i64 b, .int .i64 c, .bool d]) (.tup [.int .i64 a', .int .i64 b', .int .i64 c', .lit d']) := by
  subst h1; subst h2; subst h3; subst h4; simp [retP, leV, leL, chkB, V.under, underL]
theorem vc_spec_PlaceAfter (s : List UInt8) (k : Int) (h : (s.length : Int) ≤ 9223372036854775807) : VC_spec_PlaceAfter s k (retP (.tup [.int .i64 (plcF s k).x, .int .i64 (plcF s k).y, .int .i64 (plcF s k).w, .bool (askB s k)])) := by
  unfold VC_spec_PlaceAfter
  simp only [at_iff, Bool.not_eq_true', Bool.not_eq_false', true_and]
  refine ⟨h, fun h1 => ?_, fun h1 => ⟨h1, ?_⟩⟩
  · rw [plc_no h1]; exact retP_t3b rfl rfl rfl h1.symm
  · rw [plc_yes h1]; exact retP_t3b rfl rfl rfl h1.symm
theorem vc_impl_PlaceAfter (s : List UInt8) (k : Int) (h : (s.length : Int) ≤ 9223372036854775807) : VC_impl_PlaceAfter s k (retP (.tup [.int .i64 (plcF s k).x, .int .i64 (plcF s k).y, .int .i64 (plcF s k).w, .bool (askB s k)])) := by
  unfold VC_impl_PlaceAfter
  simp only [at_iff, Bool.not_eq_true', Bool.not_eq_false', true_and]
  refine ⟨h, fun h1 => ?_, fun h1 => ?_⟩
  · rw [plc_no h1]; exact retP_t3b rfl rfl rfl h1.symm
  · obtain ⟨r1, r2, r3⟩ := rep_ok h1
    rw [plc_yes h1]
    refine ⟨⟨r1, r2, r3, okT_mono okT_zero (by omega)⟩, by omega, by omega, by omega, ?_⟩
    unfold aftR zeroT
    rw [(rep_yes h1).2]
    exact retP_t3b rfl rfl rfl h1.symm
theorem cl_start (s : List UInt8) : clInv s 1 := ⟨by omega, by omega, fun j h1 h2 => by omega⟩
theorem cl_step {s : List UInt8} {a : Int} (h : clInv s a) (h4 : a ≤ 4) (hz : zT (aftR s a.toNat) = false) : clInv s (IntKind.wrap .i64 (a + 1)) ∧ (5 - IntKind.wrap .i64 (a + 1)).toNat < (5 - a).toNat := by
  obtain ⟨h0, h1, h2⟩ := h
  rw [wrap64_in (by omega)]
  refine ⟨⟨by omega, by omega, fun j g1 g2 => ?_⟩, by omega⟩
  by_cases hj : (j : Int) < a
  · exact h2 j g1 hj
  · rw [show j = a.toNat by omega]; exact hz
theorem cl_found {s : List UInt8} {a : Int} (h : clInv s a) (h4 : a ≤ 4) (hz : zT (aftR s a.toNat) = true) : clS s = a := by
  obtain ⟨h0, h1, h2⟩ := h
  have : a = 1 ∨ a = 2 ∨ a = 3 ∨ a = 4 := by omega
  unfold clS
  rcases this with rfl | rfl | rfl | rfl
  · rw [show (1 : Int).toNat = 1 from rfl] at hz; rw [hz]; rfl
  · rw [show (2 : Int).toNat = 2 from rfl] at hz; rw [h2 1 (by omega) (by omega), hz]; rfl
  · rw [show (3 : Int).toNat = 3 from rfl] at hz; rw [h2 1 (by omega) (by omega), h2 2 (by omega) (by omega), hz]; rfl
  · rw [show (4 : Int).toNat = 4 from rfl] at hz; rw [h2 1 (by omega) (by omega), h2 2 (by omega) (by omega), h2 3 (by omega) (by omega), hz]; rfl
theorem cl_none {s : List UInt8} {a : Int} (h : clInv s a) (h4 : ¬ a ≤ 4) : clS s = 0 := by
  obtain ⟨h0, h1, h2⟩ := h
  unfold clS
  rw [h2 1 (by omega) (by omega), h2 2 (by omega) (by omega), h2 3 (by omega) (by omega), h2 4 (by omega) (by omega)]
  rfl
theorem vc_spec_tuCloses (s : List UInt8) (h : progB s = true) : VC_spec_tuCloses s (retP (.int .i64 (clS s))) := by
  unfold VC_spec_tuCloses
  simp only [at_iff, retP_int, and_true, true_and, Bool.and_true]
  refine ⟨cl_start s, fun a ha => ⟨fun hc => ?_, fun hc => (cl_none ha (of_decide_eq_false hc)).symm⟩⟩
  have hc := of_decide_eq_true hc
  have h0 := ha.1
  exact ⟨ask_y h (inB_eq.2 (by omega)), fun hz => (cl_found ha hc hz).symm, fun hz => cl_step ha hc hz⟩
theorem cl_no {s : List UInt8} (h : progB s = false) : clF s = 0 ∧ clB s = false := by unfold clF clB; rw [h]; exact ⟨rfl, rfl⟩
theorem cl_yes {s : List UInt8} (h : progB s = true) : clF s = clS s ∧ clB s = decide (0 < clS s) := by unfold clF clB; rw [h]; exact ⟨rfl, rfl⟩
theorem vc_spec_ClosesAfter (s : List UInt8) (h : (s.length : Int) ≤ 9223372036854775807) : VC_spec_ClosesAfter s (retP (.tup [.int .i64 (clF s), .bool (clB s)])) := by
  unfold VC_spec_ClosesAfter
  simp only [at_iff, Bool.not_eq_true', Bool.not_eq_false']
  exact ⟨h, fun h1 => retP_ibn (cl_no h1).2 (cl_no h1).1, fun h1 => ⟨h1, retP_ibb (cl_yes h1).2.symm (cl_yes h1).1.symm⟩⟩
theorem hlC_succ (c : List Sc) (e m : Nat) : hlC c e (m + 1) = hlC c e m ++ tri (goC (c.take (e * m * 2)) zeroT) := by
  unfold hlC
  rw [List.range_succ, List.flatMap_append]
  simp
theorem hlC_len (c : List Sc) (e : Nat) : ∀ m, (hlC c e m).length = m * 3
  | 0 => rfl
  | m + 1 => by rw [hlC_succ, List.length_append, hlC_len c e m]; simp [tri]; omega
theorem hlC_get (c : List Sc) (e : Nat) : ∀ (m j r : Nat), j < m → r < 3 → (hlC c e m).getD (j * 3 + r) 0 = (tri (goC (c.take (e * j * 2)) zeroT)).getD r 0
  | 0, _, _, h, _ => by omega
  | m + 1, j, r, h, hr => by
    rw [hlC_succ, List.getD_eq_getElem?_getD]
    rcases Nat.lt_or_ge j m with hj | hj
    · rw [List.getElem?_append_left (by rw [hlC_len]; omega), ← List.getD_eq_getElem?_getD]
      exact hlC_get c e m j r hj hr
    · have : j = m := by omega
      subst this
      rw [List.getElem?_append_right (by rw [hlC_len]; omega), hlC_len, show j * 3 + r - j * 3 = r by omega, ← List.getD_eq_getElem?_getD]
theorem retG_hl {sh : List Sh} {c : List Sc} {f e : TypeId} {kd : Kind} {u u' : Nat} {d d' : List Int} {B : Blk} {J : List Blk} (hu : u' = u) (hd : d' = d) :
    retG 1 (.row 1 u) [⟨.recs sh c, f, kd⟩, ⟨.ints .i64 d, e, .rows 3⟩] (.row 2 u') (⟨.recs sh c, f, kd⟩ :: B :: ⟨.ints .i64 d', e, .rows 3⟩ :: J) := by
  subst hu; subst hd
  unfold retG leSel leSelBy autoSel
  simp [pairsL, pairsV, idPairs, pairsIn, selOf, lookN, findSel, selMem, chkB, nodupSel, hasSel, prefSel, leSt, leL, leV, nilToL, V.nilTo, isNilS, isGhost, selL, V.sel, Cells.selN, leMem, leCells, memUnder, underL, V.under]
  try trivial
theorem vc_impl_haltsOf (e : Int) (n : Nat) (c : List Sc) (h : c.length = n * 2 ∧ n ≤ 900 ∧ okC c ∧ 1 ≤ e ∧ e ≤ 9 ∧ n % e.toNat = 0) :
    VC_impl_haltsOf e n c (retG 1 (.row 1 (n / e.toNat + 1)) [⟨.recs [.int .i64, .int .u8] c, 57, .rows 2⟩, ⟨.ints .i64 (hlC c e.toNat (n / e.toNat + 1)), 51, .rows 3⟩]) := by
  unfold VC_impl_haltsOf
  obtain ⟨hn, h9, hc0, he1, he9, hmod⟩ := h
  obtain ⟨E, rfl⟩ : ∃ E : Nat, e = E := ⟨e.toNat, by omega⟩
  simp only [Int.toNat_natCast] at *
  have z1 : Int.toNat 0 / E + 1 = 1 := by rw [Int.toNat_zero, Nat.zero_div]
  have z2 : goC (c.take (Int.toNat 0 * 2)) zeroT = zeroT := rfl
  have z3 : hlC c E 1 = [0, 0, 0] := rfl
  simp only [at_iff, true_and, and_true, Int.toNat_zero, Nat.zero_mul, Nat.zero_div, Nat.zero_add, List.take_zero, z3, show goC [] zeroT = zeroT from rfl]
  refine ⟨by decide, ⟨Int.le_refl _, by omega, by rw [Int.toNat_zero]; exact Nat.zero_mod _⟩, fun a ha => ⟨fun hc => ?_, fun hc => ?_⟩⟩
  · have hc := of_decide_eq_true hc
    obtain ⟨g0, g1, g2⟩ := ha
    obtain ⟨m, rfl⟩ : ∃ m : Nat, a = m := ⟨a.toNat, by omega⟩
    simp only [Int.toNat_natCast] at *
    obtain ⟨j, rfl⟩ : ∃ j, m = E * j := ⟨m / E, by have := Nat.div_add_mod m E; omega⟩
    obtain ⟨N, rfl⟩ : ∃ N, n = E * N := ⟨n / E, by have := Nat.div_add_mod n E; omega⟩
    have hjN : j < N := by
      rcases Nat.lt_or_ge j N with h | h
      · exact h
      · have := Nat.mul_le_mul_left E h; omega
    have hle : E * j + E ≤ E * N := by have := Nat.mul_le_mul_left E hjN; rw [Nat.mul_succ] at this; exact this
    have e1 : IntKind.wrap .i64 (((E * j : Nat) : Int) + (E : Int)) = ((E * j + E : Nat) : Int) := by rw [wrap64_in (by omega)]; omega
    have hE : 0 < E := by omega
    have hj9 : j ≤ E * j := Nat.le_mul_of_pos_left j hE
    have d1 : E * j / E = j := Nat.mul_div_cancel_left j hE
    have d2 : (E * j + E) / E = j + 1 := by rw [show E * j + E = E * (j + 1) from rfl]; exact Nat.mul_div_cancel_left _ hE
    rw [e1]
    simp only [Int.toNat_natCast, d1, d2, show E * j + E - E * j = E by omega]
    have hcut := okC_cut hn hc0 (show E * j ≤ E * N by omega)
    have hdl : (c.drop (E * j * 2)).length = (E * N - E * j) * 2 := by rw [List.length_drop, hn]; omega
    have hcut2 := okC_cut hdl hcut.2 (show E ≤ E * N - E * j by omega)
    have hbd : okT (9 * (900 - (E : Int))) (goC (c.take (E * j * 2)) zeroT) := by
      have := okT_goC hcut.1 okT_zero (Int.le_refl _)
      refine okT_mono this ?_
      rw [List.length_take]
      omega
    have happ : goC ((c.drop (E * j * 2)).take (E * 2)) (goC (c.take (E * j * 2)) zeroT) = goC (c.take ((E * j + E) * 2)) zeroT := by
      rw [← goC_app _ _ (by rw [List.length_take]; omega)]
      congr 1
      rw [Nat.add_mul, List.take_add]
    rw [happ]
    have hs : hlC c E (j + 1 + 1) = hlC c E (j + 1) ++ tri (goC (c.take ((E * j + E) * 2)) zeroT) := by rw [hlC_succ]; rfl
    refine ⟨⟨by omega, by omega, by omega, by omega, ?_⟩, ⟨by rw [List.length_take, hdl]; omega, by omega, hcut2.1, hbd⟩, ⟨⟨hlC_len _ _ _, by simp⟩, by omega, by omega⟩, ⟨trivial, ⟨rfl, rfl, rfl⟩, ?_⟩, ⟨by omega, by omega, ?_⟩, by omega⟩
    · show E * N * 2 ≤ c.length
      omega
    · rw [hs]; rfl
    · rw [Int.toNat_natCast, show E * j + E = E * (j + 1) from rfl]; exact Nat.mul_mod_right _ _
  · have hc := of_decide_eq_false hc
    obtain ⟨g0, g1, g2⟩ := ha
    rw [show a.toNat = n by omega]
    exact retG_hl rfl rfl
theorem vc_impl_ClosesAfter (s : List UInt8) (h : (s.length : Int) ≤ 9223372036854775807) : VC_impl_ClosesAfter s (retP (.tup [.int .i64 (clF s), .bool (clB s)])) := by
  unfold VC_impl_ClosesAfter
  simp only [at_iff, Bool.not_eq_true', Bool.not_eq_false', true_and, and_true, Bool.and_true]
  refine ⟨h, fun h1 => retP_ibn (cl_no h1).2 (cl_no h1).1, fun h1 => ?_⟩
  obtain ⟨p1, p2, p3, p4⟩ := parts_ok h1
  have hrl : (repC 4 (partsC s)).length = partsN s * 4 * 2 := by rw [repC_len, p1]; omega
  have d4 : partsN s * 4 / partsN s + 1 = 5 := by rw [Nat.mul_div_cancel_left _ (by omega)]
  have t4 : Int.toNat 4 = 4 := rfl
  simp only [t4, Int.toNat_natCast, d4, hlC_len]
  have hget : ∀ j, j < 5 → ∀ r, r < 3 → (hlC (repC 4 (partsC s)) (partsN s) 5).getD (j * 3 + r) 0 = (tri (aftR s j)).getD r 0 := fun j hj r hr => by
    rw [hlC_get _ _ _ _ _ hj hr]
    have hcut : (repC 4 (partsC s)).take (partsN s * j * 2) = repC j (partsC s) := by
      have := repC_take (q := 0) p1 (show j ≤ 4 by omega) (by omega)
      rw [Nat.add_zero, Nat.zero_mul, List.take_zero, List.append_nil] at this
      exact this
    rw [hcut]
    unfold aftR
    rw [(parts_yes h1).2]
  refine ⟨⟨p1, p2, p3, by omega, by omega⟩, ⟨hrl, by omega, repC_ok (by rw [p1]; exact Nat.mul_mod_left _ _) p4 4, by omega, by omega, Nat.mul_mod_right _ _⟩, cl_start s, fun a ha => ⟨fun hc => ?_, fun hc => ?_⟩⟩
  · have hc := of_decide_eq_true hc
    have h0 := ha.1
    have hz : ((hlC (repC 4 (partsC s)) (partsN s) 5).getD (a.toNat * 3) 0 == (hlC (repC 4 (partsC s)) (partsN s) 5).getD (Int.toNat 0 * 3) 0 && ((hlC (repC 4 (partsC s)) (partsN s) 5).getD (a.toNat * 3 + 1) 0 == (hlC (repC 4 (partsC s)) (partsN s) 5).getD (Int.toNat 0 * 3 + 1) 0 && (hlC (repC 4 (partsC s)) (partsN s) 5).getD (a.toNat * 3 + 1 + 1) 0 == (hlC (repC 4 (partsC s)) (partsN s) 5).getD (Int.toNat 0 * 3 + 1 + 1) 0)) = zT (aftR s a.toNat) := by
      have g := fun j hj => hget j hj
      have a0 := g a.toNat (by omega) 0 (by omega)
      have a1 := g a.toNat (by omega) 1 (by omega)
      have a2 := g a.toNat (by omega) 2 (by omega)
      have b0 := g 0 (by omega) 0 (by omega)
      have b1 := g 0 (by omega) 1 (by omega)
      have b2 := g 0 (by omega) 2 (by omega)
      rw [Nat.add_zero] at a0 b0
      rw [Int.toNat_zero, a0, a1, show a.toNat * 3 + 1 + 1 = a.toNat * 3 + 2 by omega, a2, b0, b1, b2]
      rfl
    rw [hz]
    refine ⟨⟨by omega, by omega⟩, by omega, by omega, by rw [Int.toNat_zero]; omega, fun hy => ?_, fun hn => cl_step ha (by omega) hn⟩
    have hf := cl_found ha (by omega) hy
    exact retP_iby (by rw [(cl_yes h1).2, hf]; exact decide_eq_true (by omega)) (by rw [(cl_yes h1).1, hf])
  · have hc := of_decide_eq_false hc
    have hf := cl_none ha (by omega)
    exact retP_ibn (by rw [(cl_yes h1).2, hf]; rfl) (by rw [(cl_yes h1).1, hf])
end Go.Vi
