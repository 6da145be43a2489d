/- Walkers that fill a line: each one comes to an end of it. -/
import Derived.Test.YtdeppknmibhokabFASpec
import Derived.Test.YtdeppknmibhokabFAVc
namespace Go.Vi
theorem fuelW_eq : fuelW = 23000 := by unfold fuelW; rfl
theorem wrap64_in {x : Int} (h : -9223372036854775808 ≤ x ∧ x ≤ 9223372036854775807) : IntKind.wrap .i64 x = x := IntWalk.i64_in _ (by omega)
theorem inB_eq {n lo hi : Int} : inB n lo hi = true ↔ lo ≤ n ∧ n ≤ hi := by unfold inB; simp
theorem inB_no {n lo hi : Int} : inB n lo hi = false ↔ ¬ (lo ≤ n ∧ n ≤ hi) := by rw [← inB_eq]; simp
def phi : Int → List Bool → Int
  | _, [] => 0
  | x, b :: l => (bif b then 2 * x else 0) + phi (x + 1) l
theorem phi_set : ∀ {l : List Bool} {i : Nat} {x : Int} {v : Bool}, i < l.length → phi x (l.set i v) = phi x l - (bif l.getD i false then 2 * (x + i) else 0) + (bif v then 2 * (x + i) else 0)
  | [], _, _, _, h => absurd h (Nat.not_lt_zero _)
  | b :: l, 0, x, v, _ => by
    simp only [List.set_cons_zero, phi, List.getD_cons_zero, Int.natCast_zero, Int.add_zero]
    omega
  | b :: l, i + 1, x, v, h => by
    have ih := phi_set (l := l) (i := i) (x := x + 1) (v := v) (by simpa using h)
    simp only [List.set_cons_succ, phi, List.getD_cons_succ, ih]
    have e : x + 1 + (i : Int) = x + ((i + 1 : Nat) : Int) := by omega
    rw [e]
    omega
theorem phi_bd : ∀ {l : List Bool} {x : Int}, -50 ≤ x → x + (l.length : Nat) ≤ 51 → -100 * (l.length : Nat) ≤ phi x l ∧ phi x l ≤ 100 * (l.length : Nat)
  | [], _, _, _ => by simp [phi]
  | b :: l, x, h1, h2 => by
    simp only [List.length_cons] at h2 ⊢
    have ih := phi_bd (l := l) (x := x + 1) (by omega) (by omega)
    simp only [phi]
    cases b <;> simp only [cond_true, cond_false] <;> omega
def pot (q : Wk) : Int := (q.pos - 50) * (q.pos - 50) + phi (-50) q.right
/-- i cells are full, from lo on. -/
structure Full (full : List Bool) (lo : Int) (i : Nat) : Prop where
  len : full.length = 101
  at_ : ∀ p : Nat, full.getD p false = (decide (lo ≤ p) && decide ((p : Int) < lo + i))
  le : lo ≤ 50
  ge : 50 ≤ lo + i
  sm : i ≤ 40
structure In (lo : Int) (i : Nat) (q0 q : Wk) : Prop where
  len : q.right.length = 101
  ge : lo - 1 ≤ q.pos
  le : q.pos ≤ lo + i
  st : q0.steps ≤ q.steps
  pt : pot q - q.steps = pot q0 - q0.steps
theorem Full.lo_ge {full : List Bool} {lo : Int} {i : Nat} (h : Full full lo i) : 10 ≤ lo := by have := h.ge; have := h.sm; omega
theorem Full.iff {full : List Bool} {lo : Int} {i : Nat} (h : Full full lo i) {p : Int} (hp : 0 ≤ p) : full.getD p.toNat false = true ↔ lo ≤ p ∧ p < lo + i := by
  rw [h.at_]
  simp only [Bool.and_eq_true, decide_eq_true_eq]
  omega
theorem In.step {full : List Bool} {lo : Int} {i : Nat} {q0 q : Wk} (hf : Full full lo i) (h : In lo i q0 q) (hin : full.getD q.pos.toNat false = true) :
    In lo i q0 ⟨q.right.set q.pos.toNat (!q.right.getD q.pos.toNat false), q.pos + (bif q.right.getD q.pos.toNat false then 1 else -1), q.steps + 1⟩ := by
  have hlo := hf.lo_ge
  have hge := h.ge
  have hb := (hf.iff (p := q.pos) (by omega)).1 hin
  have hsm := hf.sm
  have hle := hf.le
  have hl := h.len
  have hps := phi_set (l := q.right) (i := q.pos.toNat) (x := -50) (v := !q.right.getD q.pos.toNat false) (by omega)
  refine ⟨by simp [hl], ?_, ?_, by have := h.st; show q0.steps ≤ q.steps + 1; omega, ?_⟩
  · show lo - 1 ≤ q.pos + _
    cases q.right.getD q.pos.toNat false <;> simp only [cond_true, cond_false] <;> omega
  · show q.pos + _ ≤ lo + i
    cases q.right.getD q.pos.toNat false <;> simp only [cond_true, cond_false] <;> omega
  · rw [← h.pt]
    unfold pot
    show (q.pos + _ - 50) * (q.pos + _ - 50) + phi (-50) (q.right.set q.pos.toNat _) - (q.steps + 1) = _
    rw [hps, show (-50 : Int) + (q.pos.toNat : Int) = q.pos - 50 by omega]
    generalize hyy : q.pos - 50 = y at *
    have hy : q.pos = y + 50 := by omega
    cases q.right.getD q.pos.toNat false <;> simp only [cond_true, cond_false, Bool.not_true, Bool.not_false, hy]
    · rw [show y + 50 + -1 - 50 = y - 1 by omega, show (y - 1) * (y - 1) = y * y - 2 * y + 1 by rw [Int.sub_mul, Int.mul_sub]; omega]
      omega
    · rw [show y + 50 + 1 - 50 = y + 1 by omega, show (y + 1) * (y + 1) = y * y + 2 * y + 1 by rw [Int.add_mul, Int.mul_add]; omega]
      omega
theorem In.bound {full : List Bool} {lo : Int} {i : Nat} {q0 q : Wk} (hf : Full full lo i) (h0 : q0.right.length = 101) (hp0 : q0.pos = 50) (h : In lo i q0 q) : q.steps - q0.steps < 22999 := by
  have h1 := phi_bd (l := q.right) (x := -50) (by omega) (by rw [h.len]; omega)
  have h2 := phi_bd (l := q0.right) (x := -50) (by omega) (by rw [h0]; omega)
  rw [h.len] at h1
  rw [h0] at h2
  have h3 := h.pt
  unfold pot at h3
  rw [hp0] at h3
  have hlo := hf.lo_ge
  have h4 := h.ge
  have h5 := h.le
  have h6 := hf.le
  have h7 := hf.sm
  have hsq : (q.pos - 50) * (q.pos - 50) ≤ 41 * 41 := by
    generalize hy : q.pos - 50 = y at *
    have a1 : -41 ≤ y := by omega
    have a2 : y ≤ 41 := by omega
    have : 0 ≤ (41 - y) * (41 + y) := Int.mul_nonneg (by omega) (by omega)
    have e : (41 - y) * (41 + y) = 41 * 41 - y * y := by
      rw [Int.sub_mul, Int.mul_add, Int.mul_add, Int.mul_comm y 41]; omega
    omega
  omega
theorem sAt_in {full : List Bool} {lo : Int} {i : Nat} {q0 : Wk} (hf : Full full lo i) (h0 : q0.right.length = 101) (hp0 : q0.pos = 50) : ∀ k, In lo i q0 (sAt full q0 k)
  | 0 => ⟨h0, by have := hf.le; show lo - 1 ≤ q0.pos; omega, by have := hf.ge; show q0.pos ≤ lo + i; omega, Int.le_refl _, rfl⟩
  | k + 1 => by
    have ih := sAt_in hf h0 hp0 k
    show In lo i q0 (sStep full (sAt full q0 k))
    unfold sStep
    cases hb : full.getD (sAt full q0 k).pos.toNat false with
    | false => exact ih
    | true => exact ih.step hf hb
theorem sAt_succ {full : List Bool} {q0 : Wk} {k : Nat} (h : full.getD (sAt full q0 k).pos.toNat false = true) : sAt full q0 (k + 1) = ⟨(sAt full q0 k).right.set (sAt full q0 k).pos.toNat (!(sAt full q0 k).right.getD (sAt full q0 k).pos.toNat false), (sAt full q0 k).pos + (bif (sAt full q0 k).right.getD (sAt full q0 k).pos.toNat false then 1 else -1), (sAt full q0 k).steps + 1⟩ := by
  show sStep full (sAt full q0 k) = _
  unfold sStep
  rw [h]
  rfl
theorem sAt_end {full : List Bool} {q0 : Wk} {k : Nat} (h : full.getD (sAt full q0 k).pos.toNat false = false) : ∀ j, sAt full q0 (k + j) = sAt full q0 k
  | 0 => rfl
  | j + 1 => by
    have ih := sAt_end h j
    show sStep full (sAt full q0 (k + j)) = _
    unfold sStep
    rw [ih, h]
    rfl
theorem sAt_real {full : List Bool} {q0 : Wk} : ∀ {k : Nat}, full.getD (sAt full q0 k).pos.toNat false = true → (sAt full q0 k).steps = q0.steps + (k : Int)
  | 0, _ => by show q0.steps = q0.steps + ((0 : Nat) : Int); omega
  | k + 1, h => by
    cases hb : full.getD (sAt full q0 k).pos.toNat false with
    | false =>
      have := sAt_end hb 1
      rw [this, hb] at h
      cases h
    | true =>
      have ih := sAt_real hb
      rw [sAt_succ hb]
      show (sAt full q0 k).steps + 1 = q0.steps + ((k + 1 : Nat) : Int)
      omega
theorem sAt_out {full : List Bool} {lo : Int} {i : Nat} {q0 : Wk} (hf : Full full lo i) (h0 : q0.right.length = 101) (hp0 : q0.pos = 50) : full.getD (sAt full q0 fuelW).pos.toNat false = false := by
  cases hb : full.getD (sAt full q0 fuelW).pos.toNat false with
  | false => rfl
  | true =>
    have h1 := sAt_real hb
    have h2 := In.bound hf h0 hp0 (sAt_in hf h0 hp0 fuelW)
    rw [fuelW_eq] at h1 h2
    omega
structure GoodL (o : Ln) (i : Nat) : Prop where
  full : Full o.full o.low i
  len : o.right.length = 101
  hi : (i = 0 ∧ o.low = 50 ∧ o.high = 50) ∨ (1 ≤ i ∧ o.high = o.low + i - 1)
  st : 0 ≤ o.steps ∧ o.steps ≤ 23000 * i
theorem getD_setT {l : List Bool} {a p : Nat} (h : a < l.length) : (l.set a true).getD p false = (decide (p = a) || l.getD p false) := by
  simp only [List.getD_eq_getElem?_getD, List.getElem?_set]
  by_cases hpa : a = p
  · subst hpa
    simp [h]
  · have : ¬ p = a := fun e => hpa e.symm
    simp [hpa, this]
theorem sNext_good {o : Ln} {i : Nat} (h : GoodL o i) (hi : i + 1 ≤ 40) : GoodL (sNext o) (i + 1) := by
  have hin := sAt_in (q0 := ⟨o.right, 50, o.steps⟩) h.full h.len rfl fuelW
  have hout := sAt_out (q0 := ⟨o.right, 50, o.steps⟩) h.full h.len rfl
  have hbd := In.bound h.full h.len rfl hin
  have hlo := h.full.lo_ge
  have hge := hin.ge
  have hle := hin.le
  have hl1 := h.full.le
  have hl2 := h.full.ge
  have hz : i = 0 → (sAt o.full ⟨o.right, 50, o.steps⟩ fuelW).pos = 50 := by
    intro hz
    have h0 : o.full.getD (50 : Int).toNat false = false := by
      rw [h.full.at_, hz]
      simp only [Bool.and_eq_false_iff, decide_eq_false_iff_not]
      omega
    have := sAt_end (full := o.full) (q0 := ⟨o.right, 50, o.steps⟩) (k := 0) h0 fuelW
    rw [Nat.zero_add] at this
    rw [this]
    rfl
  have hst := hin.st
  have hlen := hin.len
  unfold sNext
  generalize sAt o.full ⟨o.right, 50, o.steps⟩ fuelW = q at *
  have hnb : ¬ (o.low ≤ q.pos ∧ q.pos < o.low + i) := by
    intro hb
    rw [(h.full.iff (p := q.pos) (by omega)).2 hb] at hout
    cases hout
  have hsteps := h.st
  have hhi := h.hi
  have hfl := h.full.len
  refine ⟨⟨by simp [hfl], fun p => ?_, ?_, ?_, by omega⟩, hlen, .inr ⟨by omega, ?_⟩, ⟨?_, ?_⟩⟩
  · show (o.full.set q.pos.toNat true).getD p false = (decide (min o.low q.pos ≤ p) && decide ((p : Int) < min o.low q.pos + ((i + 1 : Nat) : Int)))
    rw [getD_setT (by omega), h.full.at_, Bool.eq_iff_iff]
    simp only [Bool.or_eq_true, Bool.and_eq_true, decide_eq_true_eq]
    omega
  · show min o.low q.pos ≤ 50
    omega
  · show 50 ≤ min o.low q.pos + ((i + 1 : Nat) : Int)
    omega
  · show max o.high q.pos = min o.low q.pos + ((i + 1 : Nat) : Int) - 1
    rcases hhi with ⟨z, h1, h2⟩ | ⟨h1, h2⟩
    · have := hz z
      omega
    · omega
  · show 0 ≤ q.steps
    simp only at hst
    omega
  · show q.steps ≤ 23000 * ((i + 1 : Nat) : Int)
    simp only at hbd
    omega
theorem sOut_good : ∀ i, i ≤ 40 → GoodL (sOut i) i
  | 0, _ => by
    refine ⟨⟨by simp [sOut], fun p => ?_, by simp [sOut], by simp [sOut], by omega⟩, by simp [sOut], .inl ⟨rfl, rfl, rfl⟩, by simp [sOut]⟩
    show (List.replicate 101 false).getD p false = (decide ((50 : Int) ≤ p) && decide ((p : Int) < 50 + ((0 : Nat) : Int)))
    have e : (decide ((50 : Int) ≤ p) && decide ((p : Int) < 50 + ((0 : Nat) : Int))) = false := by
      simp only [Bool.and_eq_false_iff, decide_eq_false_iff_not]
      omega
    rw [e, List.getD_eq_getElem?_getD, List.getElem?_replicate]
    split <;> rfl
  | i + 1, h => sNext_good (sOut_good i (by omega)) h
theorem retP_i3 {a b c a' b' c' : Int} (h1 : a' = a) (h2 : b' = b) (h3 : c' = c) : retP (.tup [.int .i64 a, .int .i64 b, .int .i64 c]) (.tup [.int .i64 a', .int .i64 b', .int .i64 c']) := by
  subst h1; subst h2; subst h3
  simp [retP, leV, leL, chkB, V.under, underL]
theorem vc_spec_l1In (n lo hi : Int) (_ : True) : VC_spec_l1In n lo hi (retP (.bool (inB n lo hi))) := by
  unfold VC_spec_l1In inB
  simp only [retP_bool, retP_lit]
  refine ⟨fun h => ?_, fun h => ?_⟩
  all_goals (simp_all; try omega)
theorem vc_impl_within (n lo hi : Int) (_ : True) : VC_impl_within n lo hi (retP (.bool (inB n lo hi))) := by
  unfold VC_impl_within inB
  simp only [retP_bool, retP_lit]
  refine ⟨fun h => ?_, fun h => ?_⟩
  all_goals (simp_all; try omega)
theorem vc_spec_l1Least (a b : Int) (_ : True) : VC_spec_l1Least a b (retP (.int .i64 (min a b))) := by
  unfold VC_spec_l1Least
  simp only [retP_int]
  exact ⟨fun h => by have := of_decide_eq_true h; omega, fun h => by have := of_decide_eq_false h; omega⟩
theorem vc_spec_l1Most (a b : Int) (_ : True) : VC_spec_l1Most a b (retP (.int .i64 (max a b))) := by
  unfold VC_spec_l1Most
  simp only [retP_int]
  exact ⟨fun h => by have := of_decide_eq_true h; omega, fun h => by have := of_decide_eq_false h; omega⟩
theorem vc_spec_roFill (walkers : Int) (h : 1 ≤ walkers ∧ walkers ≤ 40) : VC_spec_roFill walkers (retP (.tup [.int .i64 (fLo walkers), .int .i64 (fHi walkers), .int .i64 (fSt walkers)])) := by
  unfold VC_spec_roFill
  refine ⟨⟨by omega⟩, ⟨by omega⟩, ⟨by simp [sOut], by simp [sOut], trivial⟩, ⟨by omega, by omega⟩, fun a ⟨g1, g2⟩ => ⟨fun hc => ?_, fun hc => ?_⟩⟩
  · have hc := of_decide_eq_true hc
    have hg := sOut_good (walkers - a).toNat (by omega)
    have hnext : sOut (walkers - (a - 1)).toNat = sNext (sOut (walkers - a).toNat) := by
      rw [show (walkers - (a - 1)).toNat = (walkers - a).toNat + 1 by omega]
      rfl
    rw [wrap64_in (x := a - 1) (by omega), hnext]
    generalize hi : (walkers - a).toNat = i at *
    have hi40 : i ≤ 40 := by omega
    generalize sOut i = o at *
    have hfl := hg.full.len
    have hst := hg.st
    refine ⟨⟨by simp [sAt], by simp [sAt], trivial⟩, ⟨Int.le_refl _, by simp [sAt]⟩, fun s ⟨k1, k2⟩ => ?_⟩
    have hin := sAt_in (q0 := ⟨o.right, 50, o.steps⟩) hg.full hg.len rfl (s - o.steps).toNat
    have hbd := In.bound hg.full hg.len rfl hin
    have hlo := hg.full.lo_ge
    have hge := hin.ge
    have hle := hin.le
    have hl1 := hg.full.le
    have hrl := hin.len
    simp only at hbd
    rw [k2] at hbd
    have hs1 : (s + 1 - o.steps).toNat = (s - o.steps).toNat + 1 := by omega
    rw [wrap64_in (x := s + 1) (by omega), hs1]
    have hpos : 0 ≤ (sAt o.full ⟨o.right, 50, o.steps⟩ (s - o.steps).toNat).pos ∧ (sAt o.full ⟨o.right, 50, o.steps⟩ (s - o.steps).toNat).pos < 101 := by omega
    rw [wrap64_in (x := (sAt o.full ⟨o.right, 50, o.steps⟩ (s - o.steps).toNat).pos + 1) (by omega), wrap64_in (x := (sAt o.full ⟨o.right, 50, o.steps⟩ (s - o.steps).toNat).pos + -1) (by omega)]
    have hA : ((fuelW : Int) - (s + 1 - o.steps)).toNat < ((fuelW : Int) - (s - o.steps)).toNat := by rw [fuelW_eq]; omega
    have hpl : (sAt o.full ⟨o.right, 50, o.steps⟩ (s - o.steps).toNat).pos.toNat < 101 := by omega
    refine ⟨⟨hpos⟩, ⟨by omega⟩, fun hf => ⟨⟨hpos⟩, ⟨by omega⟩, fun hr => ⟨⟨hpos⟩, ⟨by omega⟩, ⟨hpos⟩, ⟨by omega⟩, ?_, ⟨⟨by omega, ?_⟩, hA⟩⟩, fun hr => ⟨⟨hpos⟩, ⟨by omega⟩, ⟨hpos⟩, ⟨by omega⟩, ?_, ⟨⟨by omega, ?_⟩, hA⟩⟩⟩, fun hf => ⟨⟨hpos⟩, ⟨by omega⟩, ⟨trivial⟩, ⟨trivial⟩, ?_, ⟨⟨by omega, by omega⟩, by omega⟩⟩⟩
    · rw [sAt_succ hf, hr]
      exact ⟨by simp, by simp, trivial⟩
    · rw [hs1, sAt_succ hf]
      show (sAt o.full ⟨o.right, 50, o.steps⟩ (s - o.steps).toNat).steps + 1 = s + 1
      rw [k2]
    · rw [sAt_succ hf, hr]
      exact ⟨by simp, by simp, trivial⟩
    · rw [hs1, sAt_succ hf]
      show (sAt o.full ⟨o.right, 50, o.steps⟩ (s - o.steps).toNat).steps + 1 = s + 1
      rw [k2]
    · have he := sAt_end hf (fuelW - (s - o.steps).toNat)
      rw [show (s - o.steps).toNat + (fuelW - (s - o.steps).toNat) = fuelW by rw [fuelW_eq]; omega] at he
      unfold sNext
      rw [he]
      simp [k2]
  · have hc := of_decide_eq_false hc
    have ha : a = 0 := by omega
    subst ha
    have hg := sOut_good (walkers - 0).toNat (by omega)
    have hlo := hg.full.lo_ge
    have hle := hg.full.le
    have hhi := hg.hi
    have hsm := hg.full.sm
    rw [wrap64_in (x := (sOut (walkers - 0).toNat).low - 50) (by omega), wrap64_in (x := (sOut (walkers - 0).toNat).high - 50) (by omega)]
    rw [show walkers - 0 = walkers by omega]
    exact retP_i3 rfl rfl rfl
/-! ### the map -/
def valB : V → Bool
  | .bool b => b
  | _ => false
theorem look_at {k : V} : ∀ {l : List (V × V)} {i j : Nat}, (match findK k l i with | some (_, .bool b) => b | _ => false) = (match findK k l j with | some (_, .bool b) => b | _ => false)
  | [], _, _ => rfl
  | (x, v) :: l, i, j => by
    unfold findK
    cases sameK k x with
    | true => cases v <;> rfl
    | false => exact look_at
theorem look_cons {k x v : V} {l : List (V × V)} : lookTF k ((x, v) :: l) = (bif sameK k x then valB v else lookTF k l) := by
  unfold lookTF
  conv => lhs; unfold findK
  cases sameK k x with
  | true => cases v <;> rfl
  | false => exact look_at
abbrev KI : List KS := [.plain, .int .i64]
theorem keysFit_put {c : Int} {v : V} : ∀ {m : List (V × V)}, keysFit KI m = true → keysFit KI (putK (.int .i64 c) v m) = true
  | [], _ => by simp [putK, keysFit, keyFits, plainFits]
  | (x, u) :: m, h => by
    simp only [keysFit, List.all_cons, Bool.and_eq_true] at h
    unfold putK
    cases sameK (.int .i64 c) x with
    | true =>
      simp only [keysFit, List.all_cons, Bool.and_eq_true]
      exact ⟨by simp [keyFits, plainFits], h.2⟩
    | false =>
      simp only [keysFit, List.all_cons, Bool.and_eq_true]
      exact ⟨h.1, keysFit_put h.2⟩
theorem valsBool_put {k : V} {b : Bool} : ∀ {m : List (V × V)}, valsBool m = true → valsBool (putK k (.bool b) m) = true
  | [], _ => by simp [putK, valsBool]
  | (x, u) :: m, h => by
    simp only [valsBool, List.all_cons, Bool.and_eq_true] at h
    unfold putK
    cases sameK k x with
    | true =>
      simp only [valsBool, List.all_cons, Bool.and_eq_true]
      exact ⟨trivial, h.2⟩
    | false =>
      simp only [valsBool, List.all_cons, Bool.and_eq_true]
      exact ⟨h.1, valsBool_put h.2⟩
theorem look_put {c c' : Int} {v : Bool} : ∀ {m : List (V × V)}, keysFit KI m = true → lookTF (.int .i64 c) (putK (.int .i64 c') (.bool v) m) = (bif c == c' then v else lookTF (.int .i64 c) m)
  | [], _ => by
    unfold putK
    rw [look_cons]
    rfl
  | (x, u) :: m, h => by
    simp only [keysFit, List.all_cons, Bool.and_eq_true] at h
    obtain ⟨y, rfl⟩ := fits_int h.1
    have ih := look_put (c := c) (c' := c') (v := v) (m := m) h.2
    unfold putK
    rw [look_cons (x := .int .i64 y)]
    show lookTF _ (match c' == y with | true => _ | false => _) = (bif c == c' then v else (bif c == y then _ else _))
    cases hs : c' == y with
    | true =>
      have e := eq_of_beq hs
      subst e
      dsimp only
      rw [look_cons]
      show (bif c == c' then v else _) = _
      cases c == c' <;> rfl
    | false =>
      dsimp only
      rw [look_cons, ih]
      show (bif c == y then _ else _) = _
      cases h1 : c == c' with
      | false => rfl
      | true =>
        have e := eq_of_beq h1
        subst e
        rw [hs]
        rfl
structure Sim (q : Wk) (z : Wm) : Prop where
  pos : q.pos = z.cell + 50
  st : q.steps = z.steps
  at_ : ∀ c : Int, -50 ≤ c → c ≤ 50 → q.right.getD (c + 50).toNat false = lookTF (.int .i64 c) z.m
  fit : keysFit KI z.m = true
  bool : valsBool z.m = true
theorem inside {full : List Bool} {lo lo' hi' : Int} {i : Nat} {q : Wk} {z : Wm} (hf : Full full lo i) (h1 : lo' = lo - 50) (h2 : hi' = lo' + i - 1) (hs : Sim q z) (hp : 0 ≤ q.pos) : full.getD q.pos.toNat false = inB z.cell lo' hi' := by
  have := hs.pos
  rw [Bool.eq_iff_iff, hf.iff hp, inB_eq]
  omega
theorem getD_set {l : List Bool} {a p : Nat} {v : Bool} (h : a < l.length) : (l.set a v).getD p false = (bif p == a then v else l.getD p false) := by
  simp only [List.getD_eq_getElem?_getD, List.getElem?_set]
  by_cases hpa : a = p
  · subst hpa
    simp [h]
  · have e : (p == a) = false := beq_eq_false_iff_ne.2 fun e => hpa e.symm
    rw [e]
    simp [hpa]
theorem Sim.step {q : Wk} {z : Wm} (hs : Sim q z) (hl : q.right.length = 101) (h1 : 0 ≤ q.pos) (h2 : q.pos ≤ 100) :
    Sim ⟨q.right.set q.pos.toNat (!q.right.getD q.pos.toNat false), q.pos + (bif q.right.getD q.pos.toNat false then 1 else -1), q.steps + 1⟩
      ⟨putK (.int .i64 z.cell) (.bool (!lookTF (.int .i64 z.cell) z.m)) z.m, z.cell + (bif lookTF (.int .i64 z.cell) z.m then 1 else -1), z.steps + 1⟩ := by
  have hp := hs.pos
  have he := hs.at_ z.cell (by omega) (by omega)
  rw [← hp] at he
  refine ⟨?_, by show q.steps + 1 = z.steps + 1; rw [hs.st], fun c g1 g2 => ?_, keysFit_put hs.fit, valsBool_put hs.bool⟩
  · show q.pos + _ = z.cell + _ + 50
    rw [he, hp]
    omega
  · show (q.right.set q.pos.toNat _).getD (c + 50).toNat false = lookTF (.int .i64 c) (putK _ _ z.m)
    rw [look_put hs.fit, getD_set (by omega), he, hs.at_ c g1 g2]
    have : ((c + 50).toNat == q.pos.toNat) = (c == z.cell) := by
      rw [Bool.eq_iff_iff, beq_iff_eq, beq_iff_eq]
      omega
    rw [this]
theorem sim_at {full : List Bool} {lo lo' hi' : Int} {i : Nat} {q0 : Wk} {z0 : Wm} (hf : Full full lo i) (h1 : lo' = lo - 50) (h2 : hi' = lo' + i - 1) (h0 : q0.right.length = 101) (hp0 : q0.pos = 50) (hs : Sim q0 z0) : ∀ k, Sim (sAt full q0 k) (mAt lo' hi' z0 k)
  | 0 => hs
  | k + 1 => by
    have ih := sim_at hf h1 h2 h0 hp0 hs k
    have hin := sAt_in hf h0 hp0 k
    have hlo := hf.lo_ge
    have hge := hin.ge
    have hle := hin.le
    have hl1 := hf.le
    have hsm := hf.sm
    show Sim (sStep full (sAt full q0 k)) (mStep lo' hi' (mAt lo' hi' z0 k))
    unfold sStep mStep
    rw [inside hf h1 h2 ih (by omega)]
    cases inB (mAt lo' hi' z0 k).cell lo' hi' with
    | false => exact ih
    | true => exact ih.step hin.len (by omega) (by omega)
theorem mAt_succ {lo hi : Int} {z0 : Wm} {k : Nat} (h : inB (mAt lo hi z0 k).cell lo hi = true) : mAt lo hi z0 (k + 1) = ⟨putK (.int .i64 (mAt lo hi z0 k).cell) (.bool (!lookTF (.int .i64 (mAt lo hi z0 k).cell) (mAt lo hi z0 k).m)) (mAt lo hi z0 k).m, (mAt lo hi z0 k).cell + (bif lookTF (.int .i64 (mAt lo hi z0 k).cell) (mAt lo hi z0 k).m then 1 else -1), (mAt lo hi z0 k).steps + 1⟩ := by
  show mStep lo hi (mAt lo hi z0 k) = _
  unfold mStep
  rw [h]
  rfl
theorem mAt_end {lo hi : Int} {z0 : Wm} {k : Nat} (h : inB (mAt lo hi z0 k).cell lo hi = false) : ∀ j, mAt lo hi z0 (k + j) = mAt lo hi z0 k
  | 0 => rfl
  | j + 1 => by
    have ih := mAt_end h j
    show mStep lo hi (mAt lo hi z0 (k + j)) = _
    unfold mStep
    rw [ih, h]
    rfl
structure SimO (o : Ln) (u : Lm) : Prop where
  lo : u.lo = o.low - 50
  hi : u.hi = o.high - 50
  sim : Sim ⟨o.right, 50, o.steps⟩ ⟨u.m, 0, u.steps⟩
theorem sOut_succ (i : Nat) : sOut (i + 1) = sNext (sOut i) := rfl
theorem mOut_succ (i : Nat) : mOut (i + 1) = mNext (mOut i) := rfl
theorem simO_0 : SimO (sOut 1) (mOut 0) := by
  have hg := sOut_good 0 (by omega)
  have h0 : (sOut 0).full.getD (50 : Int).toNat false = false := by
    rw [hg.full.at_]
    simp only [Bool.and_eq_false_iff, decide_eq_false_iff_not]
    omega
  have he := sAt_end (full := (sOut 0).full) (q0 := ⟨(sOut 0).right, 50, (sOut 0).steps⟩) (k := 0) h0 fuelW
  rw [Nat.zero_add] at he
  have e1 : sOut 1 = sNext (sOut 0) := rfl
  rw [e1]
  unfold sNext
  rw [he]
  refine ⟨rfl, rfl, ⟨rfl, rfl, fun c _ _ => ?_, rfl, rfl⟩⟩
  show (List.replicate 101 false).getD (c + 50).toNat false = false
  rw [List.getD_eq_getElem?_getD, List.getElem?_replicate]
  split <;> rfl
theorem simO_next {o : Ln} {u : Lm} {q : Wk} {z : Wm} (h : SimO o u) (hs : Sim q z) :
    SimO ⟨o.full.set q.pos.toNat true, q.right, min o.low q.pos, max o.high q.pos, q.steps⟩ ⟨z.m, min u.lo z.cell, max u.hi z.cell, z.steps⟩ := by
  have h1 := h.lo
  have h2 := h.hi
  have h3 := hs.pos
  refine ⟨?_, ?_, ⟨by show (50 : Int) = 0 + 50; omega, hs.st, hs.at_, hs.fit, hs.bool⟩⟩
  · show min u.lo z.cell = min o.low q.pos - 50
    omega
  · show max u.hi z.cell = max o.high q.pos - 50
    omega
theorem simO_sim {o : Ln} {u : Lm} {i : Nat} (hg : GoodL o (i + 1)) (h : SimO o u) (k : Nat) : Sim (sAt o.full ⟨o.right, 50, o.steps⟩ k) (mAt u.lo u.hi ⟨u.m, 0, u.steps⟩ k) := by
  have hhi : u.hi = u.lo + ((i + 1 : Nat) : Int) - 1 := by
    have h1 := h.lo
    have h2 := h.hi
    have h3 := hg.hi
    omega
  exact sim_at (q0 := ⟨o.right, 50, o.steps⟩) hg.full h.lo hhi hg.len rfl h.sim k
theorem simO_succ {i : Nat} (h : i + 1 + 1 ≤ 40) (ih : SimO (sOut (i + 1)) (mOut i)) : SimO (sOut (i + 1 + 1)) (mOut (i + 1)) := by
  rw [sOut_succ (i + 1), mOut_succ i]
  exact simO_next ih (simO_sim (sOut_good (i + 1) (by omega)) ih fuelW)
theorem simO (i : Nat) (h : i + 1 ≤ 40) : SimO (sOut (i + 1)) (mOut i) := by
  induction i with
  | zero => exact simO_0
  | succ i ih => exact simO_succ h (ih (by omega))
abbrev fldV (w : Int) : V := .tup [.agg [.int .i64 (bif inB w 1 40 then fLo w else 0), .int .i64 (bif inB w 1 40 then fHi w else 0), .int .i64 (bif inB w 1 40 then fSt w else 0)], .bool (inB w 1 40)]
theorem retP_fno {w : Int} (h : inB w 1 40 = false) : retP (fldV w) (.tup [.agg [.int .i64 0, .int .i64 0, .int .i64 0], .lit false]) := by
  unfold fldV
  rw [h]
  simp [retP, leV, leL, chkB, V.under, underL]
theorem retP_fyes {w a b c : Int} (h : inB w 1 40 = true) (h1 : a = fLo w) (h2 : b = fHi w) (h3 : c = fSt w) : retP (fldV w) (.tup [.agg [.int .i64 a, .int .i64 b, .int .i64 c], .lit true]) := by
  unfold fldV
  subst h1; subst h2; subst h3
  rw [h]
  simp [retP, leV, leL, chkB, V.under, underL]
theorem vc_impl_filledBy (walkers : Int) (_ : True) : VC_impl_filledBy walkers (retP (fldV walkers)) := by
  unfold VC_impl_filledBy
  refine ⟨⟨trivial⟩, fun hn => retP_fno (by simpa using hn), fun hy => ?_⟩
  simp only [Bool.not_eq_false'] at hy
  have hw := inB_eq.1 hy
  rw [wrap64_in (x := walkers - 1) (by omega)]
  refine ⟨⟨by simp, by simp [mOut], trivial⟩, ⟨by omega, by omega⟩, fun a ⟨g1, g2⟩ => ⟨fun hc => ?_, fun hc => ?_⟩⟩
  · have hc := of_decide_eq_true hc
    have hg := sOut_good (a.toNat + 1) (by omega)
    have ho := simO a.toNat (by omega)
    have hnext : mOut (a + 1).toNat = mNext (mOut a.toNat) := by
      rw [show (a + 1).toNat = a.toNat + 1 by omega]
      exact mOut_succ _
    rw [wrap64_in (x := a + 1) (by omega), hnext]
    generalize hu : mOut a.toNat = u at *
    generalize sOut (a.toNat + 1) = o at *
    have hst := hg.st
    have hsim := simO_sim hg ho
    have hos := ho.sim.st
    simp only at hos
    have hsm := hg.full.sm
    refine ⟨⟨by simp [mAt], by simp [mAt], trivial⟩, ⟨Int.le_refl _, by simp [mAt]⟩, fun s ⟨k1, k2⟩ => ?_⟩
    have hS := hsim (s - u.steps).toNat
    have hin := sAt_in (q0 := ⟨o.right, 50, o.steps⟩) hg.full hg.len rfl (s - u.steps).toNat
    have hbd := In.bound hg.full hg.len rfl hin
    have hlo := hg.full.lo_ge
    have hge := hin.ge
    have hle := hin.le
    have hl1 := hg.full.le
    have hp := hS.pos
    simp only at hbd
    rw [hS.st, k2] at hbd
    have hs1 : (s + 1 - u.steps).toNat = (s - u.steps).toNat + 1 := by omega
    rw [wrap64_in (x := s + 1) (by omega), hs1]
    rw [wrap64_in (x := (mAt u.lo u.hi ⟨u.m, 0, u.steps⟩ (s - u.steps).toNat).cell + 1) (by omega), wrap64_in (x := (mAt u.lo u.hi ⟨u.m, 0, u.steps⟩ (s - u.steps).toNat).cell + -1) (by omega)]
    have hA : ((fuelW : Int) - (s + 1 - u.steps)).toNat < ((fuelW : Int) - (s - u.steps)).toNat := by rw [fuelW_eq]; omega
    have hff := hS.fit
    have hfb := hS.bool
    refine ⟨⟨trivial⟩, fun hf => ⟨⟨hff, hfb⟩, fun hr => ⟨⟨hff, hfb⟩, ⟨hff⟩, ?_, ⟨⟨by omega, ?_⟩, hA⟩⟩, fun hr => ⟨⟨hff, hfb⟩, ⟨hff⟩, ?_, ⟨⟨by omega, ?_⟩, hA⟩⟩⟩, fun hf => ⟨?_, ⟨⟨by omega, by omega⟩, by omega⟩⟩⟩
    · rw [mAt_succ hf, hr]
      exact ⟨by simp, by simp, trivial⟩
    · rw [hs1, mAt_succ hf]
      show (mAt u.lo u.hi ⟨u.m, 0, u.steps⟩ (s - u.steps).toNat).steps + 1 = s + 1
      rw [k2]
    · rw [mAt_succ hf, hr]
      exact ⟨by simp, by simp, trivial⟩
    · rw [hs1, mAt_succ hf]
      show (mAt u.lo u.hi ⟨u.m, 0, u.steps⟩ (s - u.steps).toNat).steps + 1 = s + 1
      rw [k2]
    · have he := mAt_end hf (fuelW - (s - u.steps).toNat)
      rw [show (s - u.steps).toNat + (fuelW - (s - u.steps).toNat) = fuelW by rw [fuelW_eq]; omega] at he
      unfold mNext
      rw [he]
      have m1 : ∀ x y : Int, (if x < y then x else y) = min y x := fun x y => by split <;> omega
      have m2 : ∀ x y : Int, (if x < y then y else x) = max x y := fun x y => by split <;> omega
      refine ⟨by simp, ⟨by simp, ⟨trivial, ⟨trivial, m1 _ _⟩, ⟨trivial, m2 _ _⟩, ⟨trivial, k2.symm⟩, trivial⟩, ⟨trivial, rfl⟩, trivial⟩, trivial⟩
  · have hc := of_decide_eq_false hc
    have ha : a = walkers - 1 := by omega
    subst ha
    have ho := simO (walkers - 1).toNat (by omega)
    rw [show (walkers - 1).toNat + 1 = walkers.toNat by omega] at ho
    have hos := ho.sim.st
    exact retP_fyes hy ho.lo ho.hi hos.symm
theorem vc_spec_FillLine (walkers : Int) (_ : True) : VC_spec_FillLine walkers (retP (.tup [.int .i64 (bif inB walkers 1 40 then fLo walkers else 0), .int .i64 (bif inB walkers 1 40 then fHi walkers else 0), .bool (inB walkers 1 40)])) := by
  unfold VC_spec_FillLine
  refine ⟨⟨trivial⟩, fun hn => ?_, fun hy => ⟨⟨by simp only [Bool.not_eq_false'] at hy; exact inB_eq.1 hy⟩, ?_⟩⟩
  · simp only [Bool.not_eq_true'] at hn
    rw [hn]
    simp [retP, leV, leL, chkB, V.under, underL]
  · simp only [Bool.not_eq_false'] at hy
    rw [hy]
    simp [retP, leV, leL, chkB, V.under, underL]
theorem vc_spec_FillSteps (walkers : Int) (_ : True) : VC_spec_FillSteps walkers (retP (.tup [.int .i64 (bif inB walkers 1 40 then fSt walkers else 0), .bool (inB walkers 1 40)])) := by
  unfold VC_spec_FillSteps
  refine ⟨⟨trivial⟩, fun hn => ?_, fun hy => ⟨⟨by simp only [Bool.not_eq_false'] at hy; exact inB_eq.1 hy⟩, ?_⟩⟩
  · simp only [Bool.not_eq_true'] at hn
    rw [hn]
    simp [retP, leV, leL, chkB, V.under, underL]
  · simp only [Bool.not_eq_false'] at hy
    rw [hy]
    simp [retP, leV, leL, chkB, V.under, underL]
theorem vc_impl_FillLine (walkers : Int) (_ : True) : VC_impl_FillLine walkers (retP (.tup [.int .i64 (bif inB walkers 1 40 then fLo walkers else 0), .int .i64 (bif inB walkers 1 40 then fHi walkers else 0), .bool (inB walkers 1 40)])) := by
  unfold VC_impl_FillLine
  simp [retP, leV, leL, chkB, V.under, underL, at_iff]
theorem vc_impl_FillSteps (walkers : Int) (_ : True) : VC_impl_FillSteps walkers (retP (.tup [.int .i64 (bif inB walkers 1 40 then fSt walkers else 0), .bool (inB walkers 1 40)])) := by
  unfold VC_impl_FillSteps
  simp [retP, leV, leL, chkB, V.under, underL, at_iff]
end Go.Vi
