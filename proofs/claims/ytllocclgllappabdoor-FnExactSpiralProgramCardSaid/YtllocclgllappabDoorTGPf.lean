/- Programs turned back and grown: the conditions hold. -/
import Derived.Test.YtllocclgllappabDoorTGVc
import Derived.Test.YtllocclgllappabDoorTGSpec
namespace Go.Vi
set_option linter.unusedSimpArgs false
theorem sc_two {c : List Sc} {i n : Nat} (hn : c.length = n * 2) (h : i < n) : c.take ((i + 1) * 2) = c.take (i * 2) ++ [c.getD (i * 2) ⟨0, []⟩, c.getD (i * 2 + 1) ⟨0, []⟩] := by
  rw [show (i + 1) * 2 = (i * 2 + 1) + 1 by omega, List.take_succ_eq_append_getElem (show i * 2 + 1 < c.length by omega), List.take_succ_eq_append_getElem (show i * 2 < c.length by omega), List.append_assoc]
  simp [List.getD_eq_getElem?_getD, List.getElem?_eq_getElem (show i * 2 < c.length by omega), List.getElem?_eq_getElem (show i * 2 + 1 < c.length by omega)]
theorem sc_drop {c : List Sc} {i n : Nat} (hn : c.length = n * 2) (h : i < n) : c.drop (i * 2) = c.getD (i * 2) ⟨0, []⟩ :: c.getD (i * 2 + 1) ⟨0, []⟩ :: c.drop ((i + 1) * 2) := by
  rw [List.drop_eq_getElem_cons (show i * 2 < c.length by omega), List.drop_eq_getElem_cons (show i * 2 + 1 < c.length by omega), show (i + 1) * 2 = i * 2 + 1 + 1 by omega]
  simp [List.getD_eq_getElem?_getD, List.getElem?_eq_getElem (show i * 2 < c.length by omega), List.getElem?_eq_getElem (show i * 2 + 1 < c.length by omega)]
theorem okC_app : ∀ {l : List Sc} (r : List Sc), l.length % 2 = 0 → (okC (l ++ r) ↔ okC l ∧ okC r)
  | [], r, _ => by simp [okC]
  | [_], _, h => by simp at h
  | a :: b :: l, r, h => by
    have := okC_app (l := l) r (by simp only [List.length_cons] at h; omega)
    simp only [List.cons_append, okC, this, and_assoc]
theorem okC_cut {c : List Sc} {n i : Nat} (hn : c.length = n * 2) (h : okC c) (hi : i ≤ n) : okC (c.take (i * 2)) ∧ okC (c.drop (i * 2)) := by
  rw [← List.take_append_drop (i * 2) c, okC_app _ (by rw [List.length_take]; omega)] at h
  exact h
theorem okC_at {c : List Sc} {n i : Nat} (hn : c.length = n * 2) (h : okC c) (hi : i < n) : 0 ≤ (c.getD (i * 2) ⟨0, []⟩).i ∧ (c.getD (i * 2) ⟨0, []⟩).i ≤ 9 := by
  have := (okC_cut hn h (Nat.le_of_lt hi)).2
  rw [sc_drop hn hi] at this
  exact this.1
theorem okC_pt : ∀ {s : List UInt8}, okP s = true → okC (ptS s)
  | [], _ => trivial
  | [_], _ => by simp [ptS, okC]
  | a :: b :: r, h => by
    simp only [okP, Bool.and_eq_true] at h
    rw [inB_eq] at h
    simp only [ptS, okC]
    exact ⟨h.1.1, okC_pt h.2⟩
theorem prog_len {s : List UInt8} (h : progB s = true) : s.length % 2 = 0 ∧ 1 ≤ s.length / 2 ∧ s.length / 2 ≤ 9 ∧ okP s = true := by
  unfold progB at h
  simp only [Bool.and_eq_true, beq_iff_eq] at h
  rw [inB_eq] at h
  exact ⟨h.1.1, by omega, by omega, h.2⟩
theorem ix_ev {n : Nat} {a : Int} (h : ixN n a) (hlt : a < n) (hn : n ≤ 900) : ∃ i : Nat, a = i ∧ i < n ∧ a.toNat = i ∧ IntKind.wrap .i64 (a + 1) = ((i + 1 : Nat) : Int) ∧ ixN n ((i + 1 : Nat) : Int) ∧ ((n : Int) - ((i + 1 : Nat) : Int)).toNat < ((n : Int) - a).toNat := by
  obtain ⟨h0, h1⟩ := h
  refine ⟨a.toNat, by omega, by omega, rfl, ?_, ⟨by omega, by omega⟩, by omega⟩
  rw [wrap64_in (by omega)]; omega
theorem ev_ev {s : List UInt8} {a : Int} (h : evInv s a) (hlt : a < s.length) : ∃ i : Nat, a = i ∧ i % 2 = 0 ∧ i + 2 ≤ s.length ∧ s.length ≤ 19 ∧ a.toNat = i ∧ IntKind.wrap .i64 (a + 2) = ((i + 2 : Nat) : Int) ∧ evInv s ((i + 2 : Nat) : Int) ∧ ((s.length : Int) - ((i + 2 : Nat) : Int)).toNat < ((s.length : Int) - a).toNat := by
  obtain ⟨hp, h0, h1, h2⟩ := h
  have hl := prog_len hp
  refine ⟨a.toNat, by omega, by omega, by omega, by omega, rfl, ?_, ⟨hp, by omega, by omega, by omega⟩, by omega⟩
  rw [wrap64_in (by omega)]; omega
theorem okP_at {s : List UInt8} {i : Nat} (h : okP s = true) (he : i % 2 = 0) (hi : i + 2 ≤ s.length) : inB (((s.getD i 0).toNat : Int) - 48) 0 9 = true ∧ okP (s.take i) = true := by
  have h1 : okP (s.take i) = true ∧ okP (s.drop i) = true := by
    rw [← List.take_append_drop i s, okP_app _ (by rw [List.length_take]; omega)] at h
    simpa using h
  refine ⟨?_, h1.1⟩
  have h2 : okP (s.take (i + 2)) = true := by
    have h3 := h
    rw [← List.take_append_drop (i + 2) s, okP_app _ (by rw [List.length_take]; omega)] at h3
    simp only [Bool.and_eq_true] at h3
    exact h3.1
  rw [okP_two hi he h1.1] at h2
  simp only [Bool.and_eq_true] at h2
  exact h2.1
theorem dig_wrap {c : UInt8} (h : inB ((c.toNat : Int) - 48) 0 9 = true) : IntKind.wrap .i64 (IntKind.wrap .u8 ((c.toNat : Int) - 48)) = (c.toNat : Int) - 48 := by
  rw [inB_eq] at h
  rw [IntWalk.u8_in _ (by omega), wrap64_in (by omega)]
theorem parts_ok {s : List UInt8} (h : progB s = true) : (partsC s).length = partsN s * 2 ∧ 1 ≤ partsN s ∧ partsN s ≤ 9 ∧ okC (partsC s) := by
  have hl := prog_len h
  obtain ⟨h1, h2⟩ := parts_yes h
  rw [h1, h2]
  exact ⟨ptS_len s, hl.2.1, hl.2.2.1, okC_pt hl.2.2.2⟩
theorem prog_short {s : List UInt8} (h : progB s = true) : s.length ≤ 19 := by
  unfold progB at h
  simp only [Bool.and_eq_true, beq_iff_eq] at h
  rw [inB_eq] at h
  omega
theorem retP_sb {a a' : List UInt8} {b b' : Bool} (hb : b' = b) (ha : a' = a) : retP (.tup [.str a, .bool b]) (.tup [.str a', .lit b']) := by
  subst hb; subst ha; simp [retP, leV, leL, chkB, V.under, underL]
/-! ### texts of parts -/
theorem prS_app : ∀ {l : List Sc} (r : List Sc), l.length % 2 = 0 → prS (l ++ r) = prS l ++ prS r
  | [], r, _ => by simp [prS]
  | [_], _, h => by simp at h
  | a :: b :: l, r, h => by
    have := prS_app (l := l) r (by simp only [List.length_cons] at h; omega)
    simp only [List.cons_append, prS, this]
theorem gwC_app : ∀ {k : Int} {l : List Sc} (r : List Sc), l.length % 2 = 0 → gwC k (l ++ r) = gwC k l ++ gwC k r
  | _, [], r, _ => by simp [gwC]
  | _, [_], _, h => by simp at h
  | k, a :: b :: l, r, h => by
    have := gwC_app (k := k) (l := l) r (by simp only [List.length_cons] at h; omega)
    simp only [List.cons_append, gwC, this]
theorem gwOk_app : ∀ {k : Int} {l : List Sc} (r : List Sc), l.length % 2 = 0 → gwOk k (l ++ r) = (gwOk k l && gwOk k r)
  | _, [], r, _ => by simp [gwOk]
  | _, [_], _, h => by simp at h
  | k, a :: b :: l, r, h => by
    have := gwOk_app (k := k) (l := l) r (by simp only [List.length_cons] at h; omega)
    simp only [List.cons_append, gwOk, this, Bool.and_assoc]
theorem sgC_app : ∀ {l : List Sc} (r : List Sc), l.length % 2 = 0 → (sgC (l ++ r) ↔ sgC l ∧ sgC r)
  | [], r, _ => by simp [sgC]
  | [_], _, h => by simp at h
  | a :: b :: l, r, h => by
    have := sgC_app (l := l) r (by simp only [List.length_cons] at h; omega)
    simp only [List.cons_append, sgC, this, and_assoc]
theorem prS_len : ∀ c : List Sc, (prS c).length = c.length / 2 * 2
  | [] => rfl
  | [_] => by simp [prS]
  | _ :: _ :: r => by
    simp only [prS, List.length_cons, prS_len r]
    omega
theorem gwC_len (k : Int) : ∀ c : List Sc, (gwC k c).length = c.length / 2 * 2
  | [] => rfl
  | [_] => by simp [gwC]
  | _ :: _ :: r => by
    simp only [gwC, List.length_cons, gwC_len k r]
    omega
theorem sgC_pt : ∀ s : List UInt8, sgC (ptS s)
  | [] => trivial
  | [_] => by simp [ptS, sgC]
  | a :: b :: r => by
    simp only [ptS, sgC]
    have := b.toNat_lt
    exact ⟨by omega, sgC_pt r⟩
theorem zsC_pt : ∀ s : List UInt8, zsC (ptS s)
  | [] => fun x hx => by simp [ptS] at hx
  | [_] => fun x hx => by simp [ptS] at hx
  | a :: b :: r => fun x hx => by
    simp only [ptS, List.mem_cons] at hx
    rcases hx with rfl | rfl | hx
    · rfl
    · rfl
    · exact zsC_pt r x hx
theorem sgC_at {c : List Sc} {n i : Nat} (hn : c.length = n * 2) (h : sgC c) (hi : i < n) : 0 ≤ (c.getD (i * 2 + 1) ⟨0, []⟩).i ∧ (c.getD (i * 2 + 1) ⟨0, []⟩).i ≤ 255 := by
  rw [← List.take_append_drop (i * 2) c, sgC_app _ (by rw [List.length_take]; omega)] at h
  have h2 := h.2
  rw [sc_drop hn hi] at h2
  exact h2.1
theorem prS_sc {c : List Sc} {n i : Nat} (hn : c.length = n * 2) (h : i < n) : prS (c.take ((i + 1) * 2)) = prS (c.take (i * 2)) ++ [UInt8.ofNat (48 + (c.getD (i * 2) ⟨0, []⟩).i).toNat, UInt8.ofNat (c.getD (i * 2 + 1) ⟨0, []⟩).i.toNat] := by
  rw [sc_two hn h, prS_app _ (by rw [List.length_take]; omega)]
  rfl
/-! ### digits -/
theorem ten {n : Int} (h : 0 ≤ n ∧ n ≤ 9) : n = 0 ∨ n = 1 ∨ n = 2 ∨ n = 3 ∨ n = 4 ∨ n = 5 ∨ n = 6 ∨ n = 7 ∨ n = 8 ∨ n = 9 := by omega
theorem vc_spec_l1Num (n : Int) (h : 0 ≤ n ∧ n ≤ 9) : VC_spec_l1Num n (retP (.str (num1 n))) := by
  have e : IntKind.wrap IntKind.u8 (IntKind.wrap IntKind.i64 (48 + n)) = 48 + n := by
    rcases ten h with rfl | rfl | rfl | rfl | rfl | rfl | rfl | rfl | rfl | rfl <;> decide
  unfold VC_spec_l1Num
  rw [e]
  refine ⟨fun _ => ⟨⟨fun m hm => ?_⟩, ⟨by simp⟩, ?_⟩, fun hn => ?_⟩
  · rw [List.mem_singleton] at hm
    omega
  · rw [retP_str]; rfl
  · rw [decide_eq_false_iff_not] at hn
    omega
theorem vc_strconv_small (n : Int) (h : 0 ≤ n ∧ n ≤ 9) : VC_strconv_small n (retP (.str (num1 n))) := by
  unfold VC_strconv_small
  refine ⟨fun _ => ?_, fun hn => absurd (of_decide_eq_false hn) (by omega)⟩
  rw [wrap64_in (by omega)]
  simp only [retP_str]
  rcases ten h with rfl | rfl | rfl | rfl | rfl | rfl | rfl | rfl | rfl | rfl <;> exact ⟨⟨by decide⟩, rfl⟩
theorem retG_st {r r' : List UInt8} {sh : List Sh} {c : List Sc} {e : TypeId} {k : Kind} {J : List Blk} (h : r' = r) : retG 1 (.str r) [⟨.recs sh c, e, k⟩] (.str r') (⟨.recs sh c, e, k⟩ :: J) := by
  subst h
  unfold retG leSel leSelBy autoSel
  simp [pairsL, pairsV, idPairs, pairsIn, selOf, lookN, findSel, selMem, chkB, nodupSel, hasSel, prefSel, leSt, leL, leV, nilToL, V.nilTo, isNilS, isGhost, selL, V.sel, Cells.selN, leMem, leCells, memUnder, underL, V.under]
  try trivial
theorem u64_in {x : Int} (h : 0 ≤ x ∧ x ≤ 18446744073709551615) : IntKind.wrap .u64 x = x := IntWalk.u64_in _ h
theorem vc_impl_programOf (n : Nat) (c : List Sc) (h : c.length = n * 2 ∧ n ≤ 9 ∧ okC c ∧ sgC c) : VC_impl_programOf n c (retG 1 (.str (prS c)) [⟨.recs [.int .i64, .int .u8] c, 38, .rows 2⟩]) := by
  unfold VC_impl_programOf
  obtain ⟨hn, h9, hok, hsg⟩ := h
  simp only [at_iff, true_and, and_true]
  refine ⟨by rfl, ⟨Int.le_refl _, by omega⟩, fun a ha => ⟨fun hc => ?_, fun hc => ?_⟩⟩
  · have hc := of_decide_eq_true hc
    obtain ⟨i, hi, hil, hin, e1, e2, e3⟩ := ix_ev ha hc (by omega)
    have hd := okC_at hn hok hil
    have hs := sgC_at hn hsg hil
    have hl : (prS (c.take (i * 2))).length = 2 * i := by rw [prS_len, List.length_take]; omega
    rw [e1, hin]
    simp only [Int.toNat_natCast]
    rw [prS_sc hn hil]
    generalize (c.getD (i * 2) ⟨0, []⟩).i = d at *
    generalize (c.getD (i * 2 + 1) ⟨0, []⟩).i = q at *
    rw [u64_in (x := d) (by omega), wrap64_in (x := d) (by omega)]
    have hn1 : (num1 d).length = 1 := rfl
    refine ⟨⟨by omega, hc⟩, ⟨by omega, by omega⟩, fun hf => absurd (of_decide_eq_true hf) (by omega), fun _ => ⟨fun _ => ⟨fun _ => ⟨hd, ⟨hl, by rw [hn1]; omega, by rw [hn1]; omega⟩, ?_, ⟨⟨?_, ?_⟩, by omega, ?_⟩, ⟨?_, ?_⟩, e2, e3⟩, fun hf => absurd (of_decide_eq_false hf) (by omega)⟩, fun hf => absurd hf (by decide)⟩⟩
    · intro m hm
      rw [List.mem_singleton] at hm
      omega
    · rw [List.length_append, hl, hn1]; omega
    · simp
    · rw [hn1]; omega
    · rw [hn1]; omega
    · rw [List.append_assoc]; rfl
  · have hc := of_decide_eq_false hc
    obtain ⟨g0, g1⟩ := ha
    have hl : (prS c).length = 2 * n := by rw [prS_len]; omega
    rw [show a.toNat * 2 = c.length by omega, List.take_length, show 2 * a.toNat = (prS c).length by omega, List.take_length]
    exact ⟨Nat.le_refl _, retG_st rfl⟩
/-! ### parts turned around -/
theorem fl2_succ (n : Nat) (f : Nat → List Sc) : fl2 (n + 1) f = fl2 n f ++ f n := by
  unfold fl2
  rw [List.range_succ, List.flatMap_append]
  simp
theorem fl2_len {f : Nat → List Sc} (hf : ∀ t, (f t).length = 2) : ∀ n, (fl2 n f).length = n * 2
  | 0 => rfl
  | n + 1 => by rw [fl2_succ, List.length_append, fl2_len hf n, hf]; omega
theorem fl2_get {f : Nat → List Sc} (hf : ∀ t, (f t).length = 2) : ∀ (n j r : Nat), j < n → r < 2 → (fl2 n f).getD (j * 2 + r) ⟨0, []⟩ = (f j).getD r ⟨0, []⟩
  | 0, _, _, h, _ => by omega
  | n + 1, j, r, h, hr => by
    rw [fl2_succ, List.getD_eq_getElem?_getD]
    rcases Nat.lt_or_ge j n with hj | hj
    · rw [List.getElem?_append_left (by rw [fl2_len hf]; omega), ← List.getD_eq_getElem?_getD]
      exact fl2_get hf n j r hj hr
    · have : j = n := by omega
      subst this
      rw [List.getElem?_append_right (by rw [fl2_len hf]; omega), fl2_len hf, show j * 2 + r - j * 2 = r by omega, ← List.getD_eq_getElem?_getD]
theorem fl2_congr {f g : Nat → List Sc} : ∀ n, (∀ t, t < n → f t = g t) → fl2 n f = fl2 n g
  | 0, _ => rfl
  | n + 1, h => by rw [fl2_succ, fl2_succ, fl2_congr n fun t ht => h t (by omega), h n (by omega)]
theorem fl2_set {f : Nat → List Sc} (hf : ∀ t, (f t).length = 2) (a b : Sc) : ∀ (n i : Nat), i < n → setScs (fl2 n f) (i * 2) [a, b] = fl2 n fun t => if t = i then [a, b] else f t
  | 0, _, h => by omega
  | n + 1, i, h => by
    have e : ∀ L : List Sc, ∀ o, setScs L o [a, b] = (L.set o a).set (o + 1) b := fun _ _ => rfl
    rw [fl2_succ, fl2_succ]
    rcases Nat.lt_or_ge i n with hi | hi
    · have ih := fl2_set hf a b n i hi
      rw [e] at ih ⊢
      rw [List.set_append_left _ _ (by rw [fl2_len hf]; omega), List.set_append_left _ _ (by rw [List.length_set, fl2_len hf]; omega), ih, if_neg (by omega)]
    · have : i = n := by omega
      subst this
      rw [e, List.set_append_right _ _ (by rw [fl2_len hf]; omega), List.set_append_right _ _ (by rw [fl2_len hf]; omega), fl2_len hf, Nat.sub_self, show i * 2 + 1 - i * 2 = 1 by omega, if_pos rfl]
      congr 1
      · exact fl2_congr i fun t ht => (if_neg (by omega)).symm
      · obtain ⟨x, y, hxy⟩ : ∃ x y, f i = [x, y] := by
          have := hf i
          match hfi : f i, this with
          | [x, y], _ => exact ⟨x, y, rfl⟩
        rw [hxy]; rfl
theorem prt_len (c : List Sc) (t : Nat) : (prt c t).length = 2 := rfl
theorem fl2_prt {c : List Sc} {n : Nat} (hn : c.length = n * 2) : ∀ m, m ≤ n → fl2 m (prt c) = c.take (m * 2)
  | 0, _ => by simp [fl2]
  | m + 1, h => by rw [fl2_succ, fl2_prt hn m (by omega), sc_two hn h]; rfl
theorem fl2_self {c : List Sc} {n : Nat} (hn : c.length = n * 2) : fl2 n (prt c) = c := by
  rw [fl2_prt hn n (Nat.le_refl _), ← hn, List.take_length]
theorem prt_skip (p q : Sc) (r : List Sc) (k : Nat) : prt (p :: q :: r) (k + 1) = prt r k := by
  unfold prt
  rw [show (k + 1) * 2 = k * 2 + 1 + 1 by omega]
  rfl
theorem revC_fl : ∀ {c : List Sc} {n : Nat}, c.length = n * 2 → revC c = fl2 n fun t => prt c (n - 1 - t)
  | [], n, h => by
    have : n = 0 := by simp at h; omega
    subst this; rfl
  | [_], n, h => by simp at h; omega
  | p :: q :: r, n, h => by
    obtain ⟨m, rfl⟩ : ∃ m, n = m + 1 := ⟨n - 1, by simp only [List.length_cons] at h; omega⟩
    rw [fl2_succ]
    have ih := revC_fl (c := r) (n := m) (by simp only [List.length_cons] at h; omega)
    simp only [revC]
    rw [ih]
    congr 1
    · exact fl2_congr m fun t ht => by
        rw [show m + 1 - 1 - t = (m - 1 - t) + 1 by omega, prt_skip]
    · rw [show m + 1 - 1 - m = 0 by omega]; rfl
def swF (c : List Sc) (n i : Nat) : Nat → List Sc := fun t => if t < i ∨ n ≤ t + i then prt c (n - 1 - t) else prt c t
theorem swF_len (c : List Sc) (n i t : Nat) : (swF c n i t).length = 2 := by unfold swF; split <;> rfl
theorem swC_eq (c : List Sc) (n i : Nat) : swC c n i = fl2 n (swF c n i) := rfl
theorem sc_eta {c : List Sc} (hz : zsC c) (j : Nat) : (⟨(c.getD j ⟨0, []⟩).i, []⟩ : Sc) = c.getD j ⟨0, []⟩ := by
  have : (c.getD j ⟨0, []⟩).s = [] := by
    rw [List.getD_eq_getElem?_getD]
    cases h : c[j]? with
    | none => rfl
    | some x => exact hz x (List.mem_of_getElem? h)
  generalize c.getD j ⟨0, []⟩ = x at *
  obtain ⟨xi, xs⟩ := x
  simp only at this
  rw [this]
theorem swC_start {c : List Sc} {n : Nat} (hn : c.length = n * 2) : c = swC c n 0 := by
  rw [swC_eq]
  have : fl2 n (swF c n 0) = fl2 n (prt c) := fl2_congr n fun t ht => by unfold swF; rw [if_neg (by omega)]
  rw [this, fl2_self hn]
theorem swC_end {c : List Sc} {n i : Nat} (hn : c.length = n * 2) (h1 : 2 * i ≤ n) (h2 : n ≤ 2 * i + 1) : swC c n i = revC c := by
  rw [swC_eq, revC_fl hn]
  exact fl2_congr n fun t ht => by
    unfold swF
    split
    · rfl
    · congr 1
      omega
theorem swC_step {c : List Sc} {n i : Nat} (hz : zsC c) (h : 2 * i + 1 < n) :
    setScs (setScs (swC c n i) (i * 2) [⟨((swC c n i).getD ((n - 1 - i) * 2) ⟨0, []⟩).i, []⟩, ⟨((swC c n i).getD ((n - 1 - i) * 2 + 1) ⟨0, []⟩).i, []⟩]) ((n - 1 - i) * 2) [⟨((swC c n i).getD (i * 2) ⟨0, []⟩).i, []⟩, ⟨((swC c n i).getD (i * 2 + 1) ⟨0, []⟩).i, []⟩] = swC c n (i + 1) := by
  have hL := swF_len c n i
  have fj : swF c n i (n - 1 - i) = prt c (n - 1 - i) := by unfold swF; rw [if_neg (by omega)]
  have fi : swF c n i i = prt c i := by unfold swF; rw [if_neg (by omega)]
  have g0 : (swC c n i).getD ((n - 1 - i) * 2) ⟨0, []⟩ = c.getD ((n - 1 - i) * 2) ⟨0, []⟩ := (fl2_get hL n (n - 1 - i) 0 (by omega) (by omega)).trans (by rw [fj]; rfl)
  have g1 : (swC c n i).getD ((n - 1 - i) * 2 + 1) ⟨0, []⟩ = c.getD ((n - 1 - i) * 2 + 1) ⟨0, []⟩ := (fl2_get hL n (n - 1 - i) 1 (by omega) (by omega)).trans (by rw [fj]; rfl)
  have g2 : (swC c n i).getD (i * 2) ⟨0, []⟩ = c.getD (i * 2) ⟨0, []⟩ := (fl2_get hL n i 0 (by omega) (by omega)).trans (by rw [fi]; rfl)
  have g3 : (swC c n i).getD (i * 2 + 1) ⟨0, []⟩ = c.getD (i * 2 + 1) ⟨0, []⟩ := (fl2_get hL n i 1 (by omega) (by omega)).trans (by rw [fi]; rfl)
  rw [g0, g1, g2, g3, sc_eta hz, sc_eta hz, sc_eta hz, sc_eta hz, swC_eq, fl2_set hL _ _ n i (by omega), fl2_set (fun t => by split; rfl; exact hL t) _ _ n (n - 1 - i) (by omega), swC_eq]
  refine fl2_congr n fun t ht => ?_
  unfold swF
  by_cases hj : t = n - 1 - i
  · rw [if_pos hj, if_pos (by omega), show n - 1 - t = i by omega]; rfl
  · rw [if_neg hj]
    by_cases hi : t = i
    · rw [if_pos hi, if_pos (by omega), hi]; rfl
    · rw [if_neg hi]
      by_cases hh : t < i ∨ n ≤ t + i
      · rw [if_pos hh, if_pos (by omega)]
      · rw [if_neg hh, if_neg (by omega)]
theorem retG_rv {sh : List Sh} {c c' : List Sc} {e : TypeId} {k : Kind} (h : c' = c) : retG 1 (.tup []) [⟨.recs sh c, e, k⟩] (.tup []) [⟨.recs sh c', e, k⟩] := by
  subst h
  unfold retG leSel leSelBy autoSel
  simp [pairsL, pairsV, idPairs, pairsIn, selOf, lookN, findSel, selMem, chkB, nodupSel, hasSel, prefSel, leSt, leL, leV, nilToL, V.nilTo, isNilS, isGhost, selL, V.sel, Cells.selN, leMem, leCells, memUnder, underL, V.under]
  try trivial
theorem setScs_len : ∀ (xs l : List Sc) (o : Nat), (setScs l o xs).length = l.length
  | [], _, _ => rfl
  | x :: xs, l, o => by unfold setScs; rw [setScs_len xs, List.length_set]
theorem vc_impl_part (n : Nat) (c : List Sc) (h : c.length = n * 2 ∧ n ≤ 9 ∧ zsC c) : VC_impl_part n c (retG 1 (.tup []) [⟨.recs [.int .i64, .int .u8] (revC c), 38, .rows 2⟩]) := by
  unfold VC_impl_part
  obtain ⟨hn, h9, hz⟩ := h
  have e0 : IntKind.wrap .i64 ((n : Int) - 1) = (n : Int) - 1 := wrap64_in (by omega)
  simp only [at_iff, true_and, and_true, e0, Int.sub_zero]
  refine ⟨swC_start hn, ⟨Int.le_refl _, by omega⟩, fun a ha => ⟨fun hc => ?_, fun hc => ?_⟩⟩
  · have hc := of_decide_eq_true hc
    obtain ⟨g0, g1⟩ := ha
    obtain ⟨i, rfl⟩ : ∃ i : Nat, a = i := ⟨a.toNat, by omega⟩
    have ej : ((n : Int) - 1 - (i : Int)).toNat = n - 1 - i := by omega
    have e1 : IntKind.wrap .i64 ((i : Int) + 1) = ((i + 1 : Nat) : Int) := by rw [wrap64_in (by omega)]; omega
    have e2 : IntKind.wrap .i64 ((n : Int) - 1 - i - 1) = (n : Int) - 1 - i - 1 := wrap64_in (by omega)
    have hl : (swC c n i).length = n * 2 := fl2_len (swF_len c n i) n
    simp only [ej, e1, e2, Int.toNat_natCast, setScs_len, hl, swC_step hz (show 2 * i + 1 < n by omega)]
    unfold rvInv
    refine ⟨by omega, by omega, by omega, by omega, by omega, by omega, by omega, by omega, ⟨by omega, trivial⟩, by omega, by omega⟩
  · have hc := of_decide_eq_false hc
    obtain ⟨g0, g1⟩ := ha
    exact retG_rv (swC_end hn (by omega) (by omega))
theorem drop_two' {s : List UInt8} {i : Nat} (h : i + 2 ≤ s.length) : s.drop i = s.getD i 0 :: s.getD (i + 1) 0 :: s.drop (i + 2) := by
  rw [List.drop_eq_getElem_cons (show i < s.length by omega), List.drop_eq_getElem_cons (show i + 1 < s.length by omega)]
  simp [List.getD_eq_getElem?_getD, List.getElem?_eq_getElem (show i < s.length by omega), List.getElem?_eq_getElem (show i + 1 < s.length by omega)]
theorem cut_one {s : List UInt8} {i : Nat} (h : i < s.length) : (s.take (i + 1)).drop i = [s.getD i 0] := by
  rw [take_succ_getD h, List.drop_append_of_le_length (by rw [List.length_take]; omega), List.drop_of_length_le (by rw [List.length_take]; omega), List.nil_append]
theorem bk_len : ∀ s : List UInt8, (bk s).length = s.length / 2 * 2
  | [] => rfl
  | [_] => by simp [bk]
  | _ :: _ :: r => by
    simp only [bk, List.length_append, List.length_cons, List.length_nil, bk_len r]
    omega
theorem bkS_no {s : List UInt8} (h : progB s = false) : bkS s = [] := by unfold bkS; rw [h]; rfl
theorem bkS_yes {s : List UInt8} (h : progB s = true) : bkS s = bk s := by unfold bkS; rw [h]; rfl
theorem vc_spec_BackProgram (s : List UInt8) (h : (s.length : Int) ≤ 9223372036854775807) : VC_spec_BackProgram s (retP (.tup [.str (bkS s), .bool (progB s)])) := by
  unfold VC_spec_BackProgram
  simp only [at_iff, Bool.not_eq_true', Bool.not_eq_false', true_and, and_true]
  refine ⟨h, fun h1 => retP_sb h1.symm (bkS_no h1).symm, fun h1 => ?_⟩
  have hl := prog_len h1
  have e0 : IntKind.wrap .i64 ((s.length : Int) - 2) = (s.length : Int) - 2 := wrap64_in (by omega)
  rw [e0]
  refine ⟨?_, ⟨h1, by omega, by omega, by omega⟩, fun a ha => ⟨fun hc => ?_, fun hc => ?_⟩⟩
  · rw [List.drop_of_length_le (by omega)]; rfl
  · have hc := of_decide_eq_true hc
    obtain ⟨_, g0, g1, g2⟩ := ha
    obtain ⟨i, rfl⟩ : ∃ i : Nat, a = i := ⟨a.toNat, by omega⟩
    have e1 : IntKind.wrap .i64 ((i : Int) + 1) = ((i + 1 : Nat) : Int) := by rw [wrap64_in (by omega)]; omega
    have e2 : IntKind.wrap .i64 ((i : Int) + 2) = ((i + 2 : Nat) : Int) := by rw [wrap64_in (by omega)]; omega
    have e3 : IntKind.wrap .i64 ((i : Int) - 2) = (i : Int) - 2 := wrap64_in (by omega)
    have e4 : ((i : Int) + 2).toNat = i + 2 := by omega
    have e5 : ((i : Int) - 2 + 2).toNat = i := by omega
    rw [e1, e2, e3, e4, e5]
    simp only [Int.toNat_natCast, cut_one (show i < s.length by omega), drop_two (show i + 2 ≤ s.length by omega)]
    have hb := bk_len (s.drop (i + 2))
    rw [List.length_drop] at hb
    refine ⟨by omega, by omega, by simp, by simp [othR], ?_, ?_, ⟨h1, by omega, by omega, by omega⟩, by omega⟩
    · simp only [List.length_append, List.length_cons, List.length_nil, othR, List.length_map]; omega
    · rw [drop_two' (show i + 2 ≤ s.length by omega)]; rfl
  · have hc := of_decide_eq_false hc
    obtain ⟨_, g0, g1, g2⟩ := ha
    rw [show (a + 2).toNat = 0 by omega, List.drop_zero]
    exact retP_sb h1.symm (bkS_yes h1).symm
theorem revC_len : ∀ c : List Sc, (revC c).length = c.length / 2 * 2
  | [] => rfl
  | [_] => by simp [revC]
  | _ :: _ :: r => by
    simp only [revC, List.length_append, List.length_cons, List.length_nil, revC_len r]
    omega
theorem okC_rev : ∀ {c : List Sc}, okC c → okC (revC c)
  | [], _ => trivial
  | [_], _ => by simp [revC, okC]
  | p :: q :: r, h => by
    simp only [okC] at h
    simp only [revC]
    rw [okC_app _ (by rw [revC_len]; omega)]
    exact ⟨okC_rev h.2, h.1, trivial⟩
theorem sgC_rev : ∀ {c : List Sc}, sgC c → sgC (revC c)
  | [], _ => trivial
  | [_], _ => by simp [revC, sgC]
  | p :: q :: r, h => by
    simp only [sgC] at h
    simp only [revC]
    rw [sgC_app _ (by rw [revC_len]; omega)]
    exact ⟨sgC_rev h.2, h.1, trivial⟩
theorem ofNat_toNat' (c : UInt8) : UInt8.ofNat ((c.toNat : Int)).toNat = c := by
  rw [Int.toNat_natCast]; simp
theorem dig_back {c : UInt8} (h : inB ((c.toNat : Int) - 48) 0 9 = true) : UInt8.ofNat (48 + ((c.toNat : Int) - 48)).toNat = c ∧ oth c = c := by
  rw [inB_eq] at h
  constructor
  · rw [show 48 + ((c.toNat : Int) - 48) = (c.toNat : Int) by omega]; exact ofNat_toNat' c
  · refine oth_no ?_ ?_
    · rw [← byte76, beq_eq_false_iff_ne]; omega
    · rw [← byte82, beq_eq_false_iff_ne]; omega
theorem bk_eq : ∀ {s : List UInt8}, okP s = true → othR (prS (revC (ptS s))) = bk s
  | [], _ => rfl
  | [_], _ => by simp [ptS, revC, prS, othR, bk]
  | a :: b :: r, h => by
    simp only [okP, Bool.and_eq_true] at h
    have ih := bk_eq h.2
    simp only [ptS, revC, bk]
    rw [prS_app _ (by rw [revC_len, ptS_len]; omega), ← ih]
    simp only [prS, othR, List.map_append, List.map_cons, List.map_nil]
    rw [(dig_back h.1.1).1, (dig_back h.1.1).2, ofNat_toNat']
theorem vc_impl_BackProgram (s : List UInt8) (h : (s.length : Int) ≤ 9223372036854775807) : VC_impl_BackProgram s (retP (.tup [.str (bkS s), .bool (progB s)])) := by
  unfold VC_impl_BackProgram
  simp only [at_iff, Bool.not_eq_true', Bool.not_eq_false']
  refine ⟨h, fun h1 => retP_sb h1.symm (bkS_no h1).symm, fun h1 => ?_⟩
  obtain ⟨p1, p2, p3, p4⟩ := parts_ok h1
  have hl := prog_len h1
  have ep := (parts_yes h1).2
  have hr : (revC (partsC s)).length = partsN s * 2 := by rw [revC_len]; omega
  refine ⟨⟨p1, p3, by rw [ep]; exact zsC_pt s⟩, ⟨hr, p3, okC_rev p4, by rw [ep]; exact sgC_rev (sgC_pt s)⟩, by rw [prS_len, hr]; omega, retP_sb h1.symm ?_⟩
  rw [ep, bk_eq hl.2.2.2, bkS_yes h1]
/-! ### parts grown -/
theorem gw_no {s : List UInt8} {k : Int} (h : gwB s k = false) : gwS s k = [] := by unfold gwS; rw [h]; rfl
theorem gw_yes {s : List UInt8} {k : Int} (h : gwB s k = true) : gwS s k = prS (gwC k (ptS s)) := by unfold gwS; rw [h]; rfl
theorem gwOk_cut {k : Int} {c : List Sc} {i : Nat} (he : i % 2 = 0) (hi : i ≤ c.length) (h : gwOk k (c.take i) = false) : gwOk k c = false := by
  rw [← List.take_append_drop i c, gwOk_app _ (by rw [List.length_take]; omega), h]; rfl
theorem pt_take {s : List UInt8} {i : Nat} (he : i % 2 = 0) (hi : i ≤ s.length) : ptS (s.take i) = (ptS s).take i := by
  have h := ptS_app (l := s.take i) (s.drop i) (by rw [List.length_take]; omega)
  rw [List.take_append_drop] at h
  have hl : (ptS (s.take i)).length = i := by rw [ptS_len, List.length_take]; omega
  rw [h, List.take_append_of_le_length (by omega), List.take_of_length_le (l := ptS (s.take i)) (by omega)]
theorem gwOk_two {s : List UInt8} {k : Int} {i : Nat} (h : i + 2 ≤ s.length) (he : i % 2 = 0) : gwOk k (ptS (s.take (i + 2))) = (gwOk k (ptS (s.take i)) && decide ((((s.getD i 0).toNat : Int) - 48) * k ≤ 9)) := by
  rw [ptS_two h he, gwOk_app _ (by rw [ptS_len]; omega)]
  simp [gwOk]
theorem gwC_two {s : List UInt8} {k : Int} {i : Nat} (h : i + 2 ≤ s.length) (he : i % 2 = 0) : prS (gwC k (ptS (s.take (i + 2)))) = prS (gwC k (ptS (s.take i))) ++ (num1 ((((s.getD i 0).toNat : Int) - 48) * k) ++ [s.getD (i + 1) 0]) := by
  rw [ptS_two h he, gwC_app _ (by rw [ptS_len]; omega), prS_app _ (by rw [gwC_len]; omega)]
  simp only [gwC, prS, ofNat_toNat']
  rfl
theorem mul_k {d k : Int} (hd : 0 ≤ d ∧ d ≤ 9) (hk : 1 ≤ k ∧ k ≤ 9) : 0 ≤ d * k ∧ d * k ≤ 81 := by
  have h := Int.natAbs_mul d k
  have h2 := Nat.mul_le_mul (show d.natAbs ≤ 9 by omega) (show k.natAbs ≤ 9 by omega)
  have h3 := Int.mul_nonneg hd.1 (show 0 ≤ k by omega)
  omega
theorem vc_spec_GrowProgram (s : List UInt8) (k : Int) (h : (s.length : Int) ≤ 9223372036854775807) : VC_spec_GrowProgram s k (retP (.tup [.str (gwS s k), .bool (gwB s k)])) := by
  unfold VC_spec_GrowProgram
  have no : gwB s k = false → retP (.tup [.str (gwS s k), .bool (gwB s k)]) (.tup [.str (Array.toList #[]), .lit false]) := fun hn => retP_sb hn.symm (gw_no hn).symm
  simp only [at_iff, Bool.not_eq_true', Bool.not_eq_false', true_and, and_true]
  refine ⟨h, fun h1 => no (by unfold gwB; rw [h1]; rfl), fun h1 => ⟨fun h2 => no (by unfold gwB; rw [h1, h2]; rfl), fun h2 => ?_⟩⟩
  have hl := prog_len h1
  have hk := inB_eq.1 h2
  refine ⟨rfl, ⟨⟨h1, Int.le_refl _, by omega, rfl⟩, h2, rfl⟩, fun a ha => ⟨fun hc => ?_, fun hc => ?_⟩⟩
  · have hc := of_decide_eq_true hc
    obtain ⟨hev, _, hg⟩ := ha
    obtain ⟨i, hi, he, hil, h19, hin, e1, e2, e3⟩ := ev_ev hev hc
    obtain ⟨hdg, ho⟩ := okP_at hl.2.2.2 he hil
    have hd := inB_eq.1 hdg
    have hm := mul_k hd hk
    have e4 : IntKind.wrap .i64 (a + 1) = ((i + 1 : Nat) : Int) := by rw [wrap64_in (by omega)]; omega
    rw [hin] at hg
    rw [e1, e4, hin]
    simp only [Int.toNat_natCast, drop_two hil]
    rw [dig_wrap hdg, wrap64_in (by omega), gwC_two hil he]
    have hgo := gwOk_two (k := k) hil he
    rw [hg, Bool.true_and] at hgo
    have hpl : (prS (gwC k (ptS (s.take i)))).length ≤ 100 := by rw [prS_len, gwC_len, ptS_len, List.length_take]; omega
    refine ⟨⟨by omega, hc⟩, fun h3 => ?_, fun h3 => ?_⟩
    · have h3 := of_decide_eq_true h3
      have : gwOk k (ptS s) = false := by
        refine gwOk_cut (i := i + 2) (by omega) (by rw [ptS_len]; omega) ?_
        rw [← pt_take (by omega) hil, hgo]
        exact decide_eq_false (by omega)
      exact no (by unfold gwB; rw [this, Bool.and_false, Bool.and_false])
    · have h3 := of_decide_eq_false h3
      refine ⟨⟨hm.1, by omega⟩, ⟨by omega, by omega, by omega⟩, by simp [num1], ?_, rfl, ⟨e2, h2, ?_⟩, e3⟩
      · simp only [List.length_append, List.length_cons, List.length_nil, num1]; omega
      · rw [Int.toNat_natCast, hgo]
        exact decide_eq_true (by omega)
  · have hc := of_decide_eq_false hc
    obtain ⟨⟨_, g0, g1, g2⟩, _, hg⟩ := ha
    rw [show a.toNat = s.length by omega, List.take_length] at hg ⊢
    have hy : gwB s k = true := by unfold gwB; rw [h1, h2, hg]; rfl
    exact retP_sb hy.symm (gw_yes hy).symm
theorem okC_gw {k : Int} (hk : 1 ≤ k ∧ k ≤ 9) : ∀ {c : List Sc}, okC c → gwOk k c = true → okC (gwC k c)
  | [], _, _ => trivial
  | [_], _, _ => by simp [gwC, okC]
  | p :: q :: r, h, hg => by
    simp only [okC] at h
    simp only [gwOk, Bool.and_eq_true, decide_eq_true_eq] at hg
    simp only [gwC, okC]
    have := mul_k h.1 hk
    exact ⟨⟨this.1, hg.1⟩, okC_gw hk h.2 hg.2⟩
theorem sgC_gw {k : Int} : ∀ {c : List Sc}, sgC c → sgC (gwC k c)
  | [], _ => trivial
  | [_], _ => by simp [gwC, sgC]
  | p :: q :: r, h => by
    simp only [sgC] at h
    simp only [gwC, sgC]
    exact ⟨h.1, sgC_gw h.2⟩
theorem vc_impl_GrowProgram (s : List UInt8) (k : Int) (h : (s.length : Int) ≤ 9223372036854775807) : VC_impl_GrowProgram s k (retP (.tup [.str (gwS s k), .bool (gwB s k)])) := by
  unfold VC_impl_GrowProgram
  have no : gwB s k = false → retP (.tup [.str (gwS s k), .bool (gwB s k)]) (.tup [.str (Array.toList #[]), .lit false]) := fun hn => retP_sb hn.symm (gw_no hn).symm
  simp only [at_iff, Bool.not_eq_true', Bool.not_eq_false', true_and, and_true]
  refine ⟨h, fun h1 => no (by unfold gwB; rw [h1]; rfl), fun h1 => ⟨fun h2 => no (by unfold gwB; rw [h1, h2]; rfl), fun h2 => ?_⟩⟩
  obtain ⟨p1, p2, p3, p4⟩ := parts_ok h1
  have ep := (parts_yes h1).2
  have hk := inB_eq.1 h2
  refine ⟨rfl, ⟨⟨Int.le_refl _, by omega⟩, h2, rfl⟩, fun a ha => ⟨fun hc => ?_, fun hc => ?_⟩⟩
  · have hc := of_decide_eq_true hc
    obtain ⟨hix, _, hg⟩ := ha
    obtain ⟨i, hi, hil, hin, e1, e2, e3⟩ := ix_ev hix hc (by omega)
    have hd := okC_at p1 p4 hil
    have hm := mul_k hd hk
    rw [hin] at hg
    rw [e1, hin]
    simp only [Int.toNat_natCast, Nat.add_zero]
    have hgl : (gwC k ((partsC s).take (i * 2))).length = i * 2 := by rw [gwC_len, List.length_take]; omega
    have hsh : shAt [Sh.int .i64, Sh.int .u8] (i * 2) = Sh.int .i64 := by
      show ([Sh.int .i64, Sh.int .u8] : List Sh).getD (i * 2 % 2) .str = _
      rw [Nat.mul_mod_left]; rfl
    have hget : (gwC k ((partsC s).take (i * 2)) ++ (partsC s).drop (i * 2)).getD (i * 2) ⟨0, []⟩ = (partsC s).getD (i * 2) ⟨0, []⟩ := by
      rw [List.getD_eq_getElem?_getD, List.getElem?_append_right (by omega), hgl, Nat.sub_self, sc_drop p1 hil]; rfl
    have htot : (gwC k ((partsC s).take (i * 2)) ++ (partsC s).drop (i * 2)).length = partsN s * 2 := by
      rw [List.length_append, hgl, List.length_drop]; omega
    have hset : ∀ v : Sc, (gwC k ((partsC s).take (i * 2)) ++ (partsC s).drop (i * 2)).set (i * 2) v = gwC k ((partsC s).take (i * 2)) ++ (v :: (partsC s).getD (i * 2 + 1) ⟨0, []⟩ :: (partsC s).drop ((i + 1) * 2)) := fun v => by
      rw [List.set_append_right _ _ (by omega), hgl, Nat.sub_self, sc_drop p1 hil]; rfl
    have hgs : gwC k ((partsC s).take ((i + 1) * 2)) = gwC k ((partsC s).take (i * 2)) ++ [⟨((partsC s).getD (i * 2) ⟨0, []⟩).i * k, []⟩, (partsC s).getD (i * 2 + 1) ⟨0, []⟩] := by
      rw [sc_two p1 hil, gwC_app _ (by rw [List.length_take]; omega)]; rfl
    have hgo : gwOk k ((partsC s).take ((i + 1) * 2)) = decide (((partsC s).getD (i * 2) ⟨0, []⟩).i * k ≤ 9) := by
      rw [sc_two p1 hil, gwOk_app _ (by rw [List.length_take]; omega), hg]
      simp [gwOk]
    have hw : IntKind.wrap .i64 (((partsC s).getD (i * 2) ⟨0, []⟩).i * k) = ((partsC s).getD (i * 2) ⟨0, []⟩).i * k := wrap64_in (by omega)
    have hget2 : ∀ v : Sc, (gwC k ((partsC s).take (i * 2)) ++ (v :: (partsC s).getD (i * 2 + 1) ⟨0, []⟩ :: (partsC s).drop ((i + 1) * 2))).getD (i * 2) ⟨0, []⟩ = v := fun v => by
      rw [List.getD_eq_getElem?_getD, List.getElem?_append_right (by omega), hgl, Nat.sub_self]; rfl
    have hl2 : ∀ v : Sc, (gwC k ((partsC s).take (i * 2)) ++ (v :: (partsC s).getD (i * 2 + 1) ⟨0, []⟩ :: (partsC s).drop ((i + 1) * 2))).length = partsN s * 2 := fun v => by
      rw [List.length_append, hgl]; simp only [List.length_cons, List.length_drop]; omega
    simp only [hget, hw, hset, hget2, hl2, htot]
    refine ⟨⟨by omega, hc⟩, ⟨by omega, hsh⟩, ⟨by omega, hc⟩, ⟨by omega, hsh⟩, ⟨by omega, hc⟩, ⟨by omega, hsh⟩, fun h3 => ?_, fun h3 => ?_⟩
    · have h3 := of_decide_eq_true h3
      have : gwOk k (ptS s) = false := by
        rw [← ep]
        refine gwOk_cut (i := (i + 1) * 2) (Nat.mul_mod_left _ _) (by omega) ?_
        rw [hgo]
        exact decide_eq_false (by omega)
      exact no (by unfold gwB; rw [this, Bool.and_false, Bool.and_false])
    · have h3 := of_decide_eq_false h3
      refine ⟨by rw [hgs, List.append_assoc]; rfl, ⟨e2, h2, ?_⟩, e3⟩
      rw [Int.toNat_natCast, hgo]
      exact decide_eq_true (by omega)
  · have hc := of_decide_eq_false hc
    obtain ⟨⟨g0, g1⟩, _, hg⟩ := ha
    rw [show a.toNat * 2 = (partsC s).length by omega, List.take_length] at hg
    rw [show a.toNat * 2 = (partsC s).length by omega, List.take_length, List.drop_length, List.append_nil]
    have hy : gwB s k = true := by unfold gwB; rw [h1, h2, ← ep, hg]; rfl
    refine ⟨⟨by rw [gwC_len]; omega, p3, okC_gw hk p4 hg, by rw [ep]; exact sgC_gw (sgC_pt s)⟩, retP_sb hy.symm ?_⟩
    rw [gw_yes hy, ep]
end Go.Vi
