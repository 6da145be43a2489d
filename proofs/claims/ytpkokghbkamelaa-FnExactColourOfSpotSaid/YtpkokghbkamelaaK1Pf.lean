/- Spots found: by halves, and by a map. -/
import Derived.Test.YtpkokghbkamelaaK1Vc
import Derived.Test.YtpkokghbkamelaaK1Spec
namespace Go.Vi
set_option linter.unusedSimpArgs false
set_option linter.unusedVariables false
/-! ### order -/
theorem less_iff {ax ay bx by_ : Int} : lessS ax ay bx by_ = true ↔ ay < by_ \/ ay = by_ /\ ax < bx := by
 unfold lessS
 simp
theorem allS_at {k : Int} {a : List Int} {i : Nat} : ∀ {n : Nat}, allS k a n = true -> i < n -> oneS k a i = true
 | 0, _, h => absurd h (Nat.not_lt_zero _)
 | n + 1, h, hi => by
  simp only [allS, Bool.and_eq_true] at h
  by_cases he : i = n
  ·rw [he]; exact h.2
  ·exact allS_at h.1 (by omega)
theorem sorted_lt {k : Int} {a : List Int} {n i : Nat} (h : allS k a n = true) : ∀ {j : Nat}, i < j -> j < n -> lessS (spX a i) (spY a i) (spX a j) (spY a j) = true
 | 0, hi, _ => absurd hi (Nat.not_lt_zero _)
 | j + 1, hi, hj => by
  have h1 := allS_at h hj
  simp only [oneS, Bool.and_eq_true, Bool.or_eq_true, Nat.add_sub_cancel] at h1
  have h2 : lessS (spX a j) (spY a j) (spX a (j + 1)) (spY a (j + 1)) = true := by
   rcases h1.2 with hz | hz
   ·simp at hz
   ·exact hz
  by_cases he : i = j
  ·rw [he]; exact h2
  ·have h3 := sorted_lt h (i := i) (j := j) (by omega) (by omega)
   rw [less_iff] at h2 h3 ⊢
   omega
theorem cut_le (a : List Int) (x y : Int) : ∀ m, cutF a x y m <= m
 | 0 => Nat.le_refl _
 | m + 1 => by
  have := cut_le a x y m
  simp only [cutF]
  cases lessS (spX a m) (spY a m) x y <;> simp only [cond_true, cond_false] <;> omega
theorem cut_lt {k : Int} {a : List Int} {n i : Nat} {x y : Int} (h : allS k a n = true) : ∀ {m : Nat}, m <= n -> i < cutF a x y m -> lessS (spX a i) (spY a i) x y = true
 | 0, _, hi => absurd hi (Nat.not_lt_zero _)
 | m + 1, hm, hi => by
  simp only [cutF] at hi
  cases hl : lessS (spX a m) (spY a m) x y
  ·rw [hl] at hi
   exact cut_lt h (m := m) (by omega) hi
  ·rw [hl, cond_true] at hi
   by_cases he : i = m
   ·rw [he]; exact hl
   ·have h3 := sorted_lt h (i := i) (j := m) (by omega) (by omega)
    rw [less_iff] at hl h3 ⊢
    omega
theorem cut_ge {a : List Int} {i : Nat} {x y : Int} : ∀ {m : Nat}, cutF a x y m <= i -> i < m -> lessS (spX a i) (spY a i) x y = false
 | 0, _, hi => absurd hi (Nat.not_lt_zero _)
 | m + 1, hc, hi => by
  simp only [cutF] at hc
  cases hl : lessS (spX a m) (spY a m) x y
  ·rw [hl, cond_false] at hc
   by_cases he : i = m
   ·rw [he]; exact hl
   ·exact cut_ge hc (by omega)
  ·rw [hl, cond_true] at hc
   omega
theorem cut_is {k : Int} {a : List Int} {n i : Nat} (h : allS k a n = true) (hi : i < n) : cutF a (spX a i) (spY a i) n = i := by
 have h1 : ¬ i < cutF a (spX a i) (spY a i) n := fun hlt => by
  have := cut_lt h (Nat.le_refl n) hlt
  rw [less_iff] at this
  omega
 by_cases hz : cutF a (spX a i) (spY a i) n = i
 ·exact hz
 ·have h2 := cut_ge (a := a) (x := spX a i) (y := spY a i) (m := n) (i := i - 1) (by omega) (by omega)
  have h3 := sorted_lt h (i := i - 1) (j := i) (by omega) hi
  rw [h3] at h2
  exact absurd h2 (by decide)
theorem colS_no {a : List Int} {x y : Int} : ∀ {m : Nat}, (∀ i, i < m -> ¬ (x = spX a i /\ y = spY a i)) -> colS a x y m = 0
 | 0, _ => rfl
 | m + 1, h => by
  have h1 := h m (by omega)
  have h2 : (x == spX a m && y == spY a m) = false := by
   rw [<- Bool.not_eq_true, Bool.and_eq_true, beq_iff_eq, beq_iff_eq]
   exact h1
  simp only [colS, h2, cond_false]
  exact colS_no fun i hi => h i (by omega)
theorem colS_yes {k : Int} {a : List Int} {n i : Nat} (h : allS k a n = true) (hi : i < n) : ∀ {m : Nat}, m <= n -> i < m -> colS a (spX a i) (spY a i) m = spK a i
 | 0, _, hi => absurd hi (Nat.not_lt_zero _)
 | m + 1, hm, hlt => by
  by_cases he : i = m
  ·subst he
   simp only [colS, beq_self_eq_true, Bool.and_self, cond_true]
  ·have h3 := sorted_lt h (i := i) (j := m) (by omega) (by omega)
   have h2 : (spX a i == spX a m && spY a i == spY a m) = false := by
    rw [<- Bool.not_eq_true, Bool.and_eq_true, beq_iff_eq, beq_iff_eq]
    rw [less_iff] at h3
    omega
   simp only [colS, h2, cond_false]
   exact colS_yes h hi (by omega) (by omega)
/-- By halves as by the map. -/
theorem col_is {k : Int} {a : List Int} {n : Nat} {x y : Int} (h : allS k a n = true) : colS a x y n = bif isF a n x y then spK a (lowF a n x y).toNat else 0 := by
 unfold isF lowF
 simp only [Int.toNat_natCast]
 cases hb : decide (((cutF a x y n : Nat) : Int) < n) && spX a (cutF a x y n) == x && spY a (cutF a x y n) == y
 ·refine colS_no fun i hi he => ?_
  obtain ⟨rfl, rfl⟩ := he
  rw [cut_is h hi] at hb
  simp [hi] at hb
 ·simp only [Bool.and_eq_true, decide_eq_true_eq, beq_iff_eq] at hb
  obtain ⟨⟨h1, h2⟩, h3⟩ := hb
  have := colS_yes h (i := cutF a x y n) (by omega) (Nat.le_refl n) (by omega)
  rw [h2, h3] at this
  exact this
/-! ### the map -/
def pt (x y : Int) : V := .agg [.int .i64 x, .int .i64 y]
def valI (o : Option (Nat × V)) : Int :=
 match o with
 | some (_, .int _ n) => n
 | _ => 0
theorem same_pt {x y u v : Int} : sameK (pt x y) (pt u v) = (x == u && y == v) := by
 simp [sameK, sameCs, sameC, pt]
theorem val_shift {k : V} : ∀ {l : List (V × V)} {i : Nat}, valI (findK k l (i + 1)) = valI (findK k l i)
 | [], _ => rfl
 | (x, u) :: l, i => by
  unfold findK
  cases sameK k x
  ·exact val_shift
  ·cases u <;> rfl
theorem look_cons {x y u v : Int} {w : V} {l : List (V × V)} : lookI (pt x y) ((pt u v, w) :: l) = bif x == u && y == v then valI (some (0, w)) else lookI (pt x y) l := by
 have h : findK (pt x y) ((pt u v, w) :: l) 0 = (match x == u && y == v with | true => some (0, w) | false => findK (pt x y) l (0 + 1)) := by rw [findK, same_pt]; rfl
 show valI (findK (pt x y) ((pt u v, w) :: l) 0) = bif x == u && y == v then valI (some (0, w)) else valI (findK (pt x y) l 0)
 rw [h]
 cases x == u && y == v
 ·exact val_shift
 ·rfl
theorem look_put {x y p q n : Int} : ∀ {l : List (V × V)}, (∀ e ∈ l, ∃ u v, e.1 = pt u v) -> lookI (pt x y) (putK (pt p q) (.int .i64 n) l) = bif x == p && y == q then n else lookI (pt x y) l
 | [], _ => by
  unfold putK
  rw [look_cons]
  rfl
 | (k, w) :: l, hl => by
  obtain ⟨u, v, hk⟩ := hl (k, w) (List.mem_cons_self ..)
  simp only at hk
  subst hk
  have ih := look_put (x := x) (y := y) (p := p) (q := q) (n := n) (l := l) fun e he => hl e (List.mem_cons_of_mem _ he)
  unfold putK
  rw [same_pt]
  cases h1 : p == u && q == v
  ·rw [look_cons, look_cons, ih]
   cases h2 : x == u && y == v
   ·rfl
   ·have h3 : (x == p && y == q) = false := by
     rw [<- Bool.not_eq_true] at h1 ⊢
     simp only [Bool.and_eq_true, beq_iff_eq] at h1 h2 ⊢
     omega
    rw [h3]
    rfl
  ·simp only [look_cons]
   simp only [Bool.and_eq_true, beq_iff_eq] at h1
   rw [h1.1, h1.2]
   cases x == u && y == v <;> rfl
theorem keys_put {p q : Int} {w : V} : ∀ {l : List (V × V)}, (∀ e ∈ l, ∃ u v, e.1 = pt u v) -> ∀ e ∈ putK (pt p q) w l, ∃ u v, e.1 = pt u v
 | [], _, e, he => by
  rw [putK, List.mem_singleton] at he
  exact ⟨p, q, by rw [he]⟩
 | (k, z) :: l, hl, e, he => by
  unfold putK at he
  split at he
  ·rcases List.mem_cons.1 he with h | h
   ·exact ⟨p, q, by rw [h]⟩
   ·exact hl e (List.mem_cons_of_mem _ h)
  ·rcases List.mem_cons.1 he with h | h
   ·exact hl e (by rw [h]; exact List.mem_cons_self ..)
   ·exact keys_put (fun e he => hl e (List.mem_cons_of_mem _ he)) e h
theorem keys_map (a : List Int) : ∀ m, ∀ e ∈ mapOf a m, ∃ u v, e.1 = pt u v
 | 0, e, he => by simp [mapOf] at he
 | m + 1, e, he => keys_put (keys_map a m) e he
theorem look_map (a : List Int) (x y : Int) : ∀ m, lookI (pt x y) (mapOf a m) = colS a x y m
 | 0 => rfl
 | m + 1 => by
  show lookI (pt x y) (putK (pt (spX a m) (spY a m)) (.int .i64 (spK a m)) (mapOf a m)) = _
  rw [look_put (keys_map a m), look_map a x y m]
  rfl
/-! ### the conditions -/
theorem fits_put {p q : Int} {w : V} : ∀ {l : List (V × V)}, keysFit [KS.int IntKind.i64, KS.int IntKind.i64] l = true -> keysFit [KS.int IntKind.i64, KS.int IntKind.i64] (putK (pt p q) w l) = true
 | [], _ => rfl
 | (k, z) :: l, h => by
  simp only [keysFit, List.all_cons, Bool.and_eq_true] at h
  unfold putK
  cases sameK (pt p q) k
  ·have ih := fits_put (p := p) (q := q) (w := w) (l := l) h.2
   simp only [keysFit, List.all_cons, Bool.and_eq_true] at ih ⊢
   exact ⟨h.1, ih⟩
  ·simp only [keysFit, List.all_cons, Bool.and_eq_true]
   exact ⟨rfl, h.2⟩
theorem vals_put {p q n : Int} : ∀ {l : List (V × V)}, valsInt IntKind.i64 l = true -> valsInt IntKind.i64 (putK (pt p q) (.int .i64 n) l) = true
 | [], _ => rfl
 | (k, z) :: l, h => by
  simp only [valsInt, List.all_cons, Bool.and_eq_true] at h
  unfold putK
  cases sameK (pt p q) k
  ·have ih := vals_put (p := p) (q := q) (n := n) (l := l) h.2
   simp only [valsInt, List.all_cons, Bool.and_eq_true] at ih ⊢
   exact ⟨h.1, ih⟩
  ·simp only [valsInt, List.all_cons, Bool.and_eq_true]
   exact ⟨rfl, h.2⟩
theorem fits_map (a : List Int) : ∀ m, keysFit [KS.int IntKind.i64, KS.int IntKind.i64] (mapOf a m) = true
 | 0 => rfl
 | m + 1 => fits_put (fits_map a m)
theorem vals_map (a : List Int) : ∀ m, valsInt IntKind.i64 (mapOf a m) = true
 | 0 => rfl
 | m + 1 => vals_put (vals_map a m)
theorem retG_k1 {q r : Int} {b c : Bool} {v : V} {a : List Int} {e : TypeId} {k : Kind} {rest : List Blk} (h : q = r) (hv : v = .lit b \/ v = .bool b) (hb : b = c) : retG 1 (.tup [.int .i64 r, .bool c]) [⟨.ints .i64 a, e, k⟩] (.tup [.int .i64 q, v]) (⟨.ints .i64 a, e, k⟩ :: rest) := by
 subst h; subst hb
 unfold retG leSel leSelBy autoSel
 rcases hv with rfl | rfl <;> simp [pairsL, pairsV, idPairs, pairsIn, selOf, lookN, findSel, selMem, chkB, nodupSel, hasSel, prefSel, leSt, leL, leV, nilToL, V.nilTo, isNilS, isGhost, selL, V.sel, Cells.selN, leMem, leCells, memUnder, underL, V.under]
theorem vc_impl_isNearPlace (x y : Int) (_ : True) : VC_impl_isNearPlace x y (retP (.bool (farB x && farB y))) := by
 unfold VC_impl_isNearPlace
 simp [retP_lit, retP_bool, at_iff, farB]
 try (constructor <;> intro h <;> simp [h])
theorem vc_impl_endlessOf (pr : List UInt8) (n : Nat) (px py pd : Int) (a : List Int) (h : a.length = n * 3 /\ n <= 2000000) : VC_impl_endlessOf pr n px py pd a (retG 1 (.ptr 1 0) [⟨.ints .i64 a, 63, .rows 3⟩, ⟨.vals [.str pr, .mp 2, .int .i64 px, .int .i64 py, .int .i64 pd], 50, .box⟩, ⟨.map (mapOf a n), 44, .map⟩]) := by
 unfold VC_impl_endlessOf
 simp only [at_iff, and_true, true_and, and_self, decide_eq_true_eq, decide_eq_false_iff_not, show mapOf a (Int.toNat 0) = [] from rfl]
 refine ⟨⟨by omega, by omega, h.2, trivial⟩, fun i hi => ⟨fun hlt => ?_, fun hge => ?_⟩⟩
 ·rw [wrap64_in (x := i + 1) (by have := hi.1; omega)]
  have e : (i + 1).toNat = i.toNat + 1 := by have := hi.1; omega
  refine ⟨⟨hi.1, hlt⟩, by have := hi.1; omega, ⟨fits_map a _, rfl⟩, by rw [e], ⟨by have := hi.1; omega, by omega, h.2, trivial⟩, by omega⟩
 ·have e : i.toNat = n := by have := hi.1; have := hi.2.1; omega
  rw [e]
  unfold retG leSel leSelBy autoSel
  simp [pairsL, pairsV, idPairs, pairsIn, selOf, lookN, findSel, selMem, chkB, nodupSel, hasSel, prefSel, leSt, leL, leV, nilToL, V.nilTo, isNilS, isGhost, selL, V.sel, Cells.selN, leMem, leCells, memUnder, underL, V.under]
  try exact trivial
theorem half {p q : Int} (h0 : 0 <= p) (hq : p < q) (hn : q <= 2000000) : IntKind.wrap .i64 (Int.tdiv (IntKind.wrap .i64 (p + q)) 2) = (p + q) / 2 := by
 rw [wrap64_in (x := p + q) (by omega), Int.tdiv_eq_ediv_of_nonneg (by omega), wrap64_in (by omega)]
theorem vc_spec_enAt (x y : Int) (n : Nat) (a : List Int) (h : a.length = n * 3 /\ n <= 2000000 /\ srtd a n) : VC_spec_enAt x y n a (retG 1 (.tup [.int .i64 (lowF a n x y), .bool (isF a n x y)]) [⟨.ints .i64 a, 63, .rows 3⟩]) := by
 obtain ⟨hl, hn, c, hs⟩ := h
 have hc := cut_le a x y n
 unfold VC_spec_enAt
 simp only [at_iff, and_true, true_and, and_self, decide_eq_true_eq, decide_eq_false_iff_not]
 refine ⟨⟨by omega, by omega, by unfold lowF; omega, by unfold lowF; simp only; omega⟩, fun p hp => ⟨fun hlt => ?_, fun hge => ?_⟩⟩
 ·obtain ⟨p1, p2⟩ := p
  obtain ⟨h1, h2, h3, h4⟩ := hp
  simp only at h1 h2 h3 h4 hlt ⊢
  rw [half h1 hlt (by omega)]
  have hk : (p1 + p2) / 2 < p2 /\ p1 <= (p1 + p2) / 2 := by omega
  rw [wrap64_in (x := (p1 + p2) / 2 + 1) (by omega)]
  generalize hm : (p1 + p2) / 2 = m at hk ⊢
  refine ⟨by omega, ⟨by omega, by omega⟩, by omega, fun hy => ⟨⟨by omega, h2, ?_, h4⟩, by omega⟩, fun hy => ⟨⟨h1, by simp only; omega, h3, ?_⟩, by omega⟩⟩
  ·unfold lowF
   simp only
   rcases Nat.lt_or_ge m.toNat (cutF a x y n) with h5 | h5
   ·omega
   ·have := cut_ge (a := a) (x := x) (y := y) h5 (by omega)
    rw [show lessS (spX a m.toNat) (spY a m.toNat) x y = true from hy] at this
    cases this
  ·unfold lowF
   simp only
   rcases Nat.lt_or_ge m.toNat (cutF a x y n) with h5 | h5
   ·have := cut_lt hs (Nat.le_refl n) h5
    rw [show lessS (spX a m.toNat) (spY a m.toNat) x y = false from hy] at this
    cases this
   ·omega
 ·obtain ⟨h1, h2, h3, h4⟩ := hp
  have he : p.1 = lowF a n x y := by omega
  rw [he] at h1 ⊢
  refine ⟨fun h5 => ⟨⟨h1, h5⟩, by omega, fun h6 => ⟨⟨h1, h5⟩, by omega, retG_k1 rfl (.inr rfl) ?_⟩, fun h6 => retG_k1 rfl (.inl rfl) ?_⟩, fun h5 => retG_k1 rfl (.inl rfl) ?_⟩
  ·unfold isF
   rw [decide_eq_true h5, Bool.true_and, show (spX a (lowF a n x y).toNat == x) = true from h6, Bool.true_and]; rfl
  ·unfold isF
   rw [show (spX a (lowF a n x y).toNat == x) = false from h6, Bool.and_false, Bool.false_and]
  ·unfold isF
   rw [decide_eq_false h5, Bool.false_and, Bool.false_and]
theorem vc_spec_enColour (x y : Int) (pr : List UInt8) (n : Nat) (px py pd : Int) (a : List Int) (h : a.length = n * 3 /\ n <= 2000000 /\ srtd a n) : VC_spec_enColour x y pr n px py pd a (retG 1 (.int .i64 (bif isF a n x y then spK a (lowF a n x y).toNat else 0)) [⟨.ints .i64 a, 63, .rows 3⟩]) := by
 unfold VC_spec_enColour
 obtain ⟨hl, hn, hs⟩ := h
 refine ⟨⟨hl, hn, hs⟩, fun h1 => ?_, fun h1 => retG_arg (by rw [h1]; rfl)⟩
 have h2 : lowF a n x y < n := by
  unfold isF at h1
  simp only [Bool.and_eq_true, decide_eq_true_eq] at h1
  exact h1.1.1
 have h3 : 0 <= lowF a n x y := by unfold lowF; omega
 exact ⟨⟨h3, h2⟩, ⟨by omega⟩, retG_arg (by rw [h1]; rfl)⟩
theorem vc_spec_enCell (x y : Int) (pr : List UInt8) (n : Nat) (px py pd : Int) (a : List Int) (h : a.length = n * 3 /\ n <= 2000000) : VC_spec_enCell x y pr n px py pd a (retG 1 (.bool (goodP pr n a px py pd && (farB x && farB y))) [⟨.ints .i64 a, 63, .rows 3⟩]) := by
 unfold VC_spec_enCell
 refine ⟨⟨h⟩, fun h1 => ⟨⟨trivial⟩, fun h2 => ⟨⟨trivial⟩, retG_yes (.inr rfl) ?_⟩, fun h2 => retG_yes (.inl rfl) ?_⟩, fun h1 => retG_yes (.inl rfl) ?_⟩ <;> simp [farB, *]
theorem good_srtd {pr : List UInt8} {n : Nat} {px py pd : Int} {a : List Int} (h : goodP pr n a px py pd = true) : allS pr.length a n = true := by
 unfold goodP at h
 simp only [Bool.and_eq_true] at h
 exact h.2
theorem colP_no {g : Bool} {a : List Int} {n : Nat} {x y : Int} (h : g = false) : 0 = colP g a n x y := by rw [h]; rfl
theorem vc_spec_ColourOfSpot (x y : Int) (pr : List UInt8) (n : Nat) (px py pd : Int) (a : List Int) (h : a.length = n * 3 /\ n <= 2000000) : VC_spec_ColourOfSpot x y pr n px py pd a (retG 1 (.tup [.int .i64 (colP (goodP pr n a px py pd && (farB x && farB y)) a n x y), .bool (goodP pr n a px py pd && (farB x && farB y))]) [⟨.ints .i64 a, 63, .rows 3⟩]) := by
 unfold VC_spec_ColourOfSpot
 refine ⟨⟨h⟩, fun h1 => ?_, fun h1 => ?_⟩
 ·rw [Bool.not_eq_true'] at h1
  exact retG_k1 (colP_no h1) (.inl rfl) h1.symm
 ·rw [Bool.not_eq_false'] at h1
  have hg := h1
  simp only [Bool.and_eq_true] at hg
  refine ⟨⟨h.1, h.2, _, good_srtd hg.1⟩, retG_k1 ?_ (.inl rfl) h1.symm⟩
  rw [h1]
  exact (col_is (good_srtd hg.1)).symm
theorem vc_impl_ColourOfSpot (x y : Int) (pr : List UInt8) (n : Nat) (px py pd : Int) (a : List Int) (h : a.length = n * 3 /\ n <= 2000000) : VC_impl_ColourOfSpot x y pr n px py pd a (retG 1 (.tup [.int .i64 (colP (goodP pr n a px py pd && (farB x && farB y)) a n x y), .bool (goodP pr n a px py pd && (farB x && farB y))]) [⟨.ints .i64 a, 63, .rows 3⟩]) := by
 unfold VC_impl_ColourOfSpot
 refine ⟨⟨h⟩, fun h1 => ?_, fun h1 => ⟨⟨trivial⟩, fun h2 => ?_, fun h2 => ?_⟩⟩
 ·rw [Bool.not_eq_true'] at h1
  have h3 : (goodP pr n a px py pd && (farB x && farB y)) = false := by rw [h1]; rfl
  exact retG_k1 (colP_no h3) (.inl rfl) h3.symm
 ·rw [Bool.not_eq_true'] at h2
  have h3 : (goodP pr n a px py pd && (farB x && farB y)) = false := by rw [h2, Bool.and_false]
  exact retG_k1 (colP_no h3) (.inl rfl) h3.symm
 ·rw [Bool.not_eq_false'] at h1 h2
  have h3 : (goodP pr n a px py pd && (farB x && farB y)) = true := by rw [h1, h2]; rfl
  refine ⟨⟨h⟩, ⟨fits_map a n, vals_map a n⟩, retG_k1 ?_ (.inl rfl) h3.symm⟩
  rw [h3]
  exact look_map a x y n
end Go.Vi
