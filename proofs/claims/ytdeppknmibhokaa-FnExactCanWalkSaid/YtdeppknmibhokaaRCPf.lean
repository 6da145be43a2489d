/- Where one can walk: every place is in the queue once. -/
import Derived.Test.YtdeppknmibhokaaRCSpec
import Derived.Test.YtdeppknmibhokaaRCVc
namespace Go.Vi
theorem pigeon : ∀ (N : Nat) (g : Nat → Nat), (∀ i, i ≤ N → g i < N) → ∃ i j, i < j ∧ j ≤ N ∧ g i = g j
  | 0, g, h => absurd (h 0 (Nat.le_refl _)) (Nat.not_lt_zero _)
  | N + 1, g, h => by
    by_cases hv : ∃ i, i ≤ N ∧ g i = g (N + 1)
    · obtain ⟨i, hi, he⟩ := hv
      exact ⟨i, N + 1, by omega, Nat.le_refl _, he⟩
    · have hne : ∀ i, i ≤ N → g i ≠ g (N + 1) := fun i hi he => hv ⟨i, hi, he⟩
      have hl := h (N + 1) (Nat.le_refl _)
      obtain ⟨i, j, hij, hj, he⟩ := pigeon N (fun i => if g i < g (N + 1) then g i else g i - 1) (fun i hi => by
        have h1 := hne i hi
        have h2 := h i (by omega)
        split <;> omega)
      refine ⟨i, j, hij, by omega, ?_⟩
      have h1 := hne i (by omega)
      have h2 := hne j hj
      split at he <;> split at he <;> omega
theorem hasI_iff {x : Int} : ∀ {q : List Int}, hasI q x = true ↔ x ∈ q
  | [] => by simp [hasI]
  | y :: q => by
    simp only [hasI, Bool.or_eq_true, beq_iff_eq, hasI_iff, List.mem_cons]
    constructor
    · rintro (h | h)
      · exact .inl h.symm
      · exact .inr h
    · rintro (h | h)
      · exact .inl h.symm
      · exact .inr h
theorem hasI_append {x : Int} {a b : List Int} : hasI (a ++ b) x = (hasI a x || hasI b x) := by
  rw [Bool.eq_iff_iff]
  simp only [Bool.or_eq_true, hasI_iff, List.mem_append]
theorem idxI_no {x : Int} : ∀ {q : List Int}, hasI q x = false → idxI q x = -1
  | [], _ => rfl
  | y :: q, h => by
    simp only [hasI, Bool.or_eq_false_iff] at h
    simp only [idxI, h.1, h.2, cond_false]
theorem idxI_ge {x : Int} : ∀ {q : List Int}, hasI q x = true → 0 ≤ idxI q x
  | y :: q, h => by
    unfold idxI
    cases hy : y == x with
    | true => exact Int.le_refl _
    | false =>
      simp only [hasI, hy, Bool.false_or] at h
      have := idxI_ge h
      simp only [h, cond_false, cond_true]
      omega
theorem idxI_at {x : Int} : ∀ {q : List Int} {i : Nat}, i < q.length → hasI (q.take i) x = false → (q.getD i 0 == x) = true → idxI q x = (i : Int)
  | y :: q, 0, _, _, h => by
    simp only [List.getD_cons_zero] at h
    simp only [idxI, h, cond_true]; rfl
  | y :: q, i + 1, hi, hn, h => by
    simp only [List.take_succ_cons, hasI, Bool.or_eq_false_iff] at hn
    simp only [List.getD_cons_succ] at h
    simp only [List.length_cons] at hi
    have hi : i < q.length := by omega
    have hh : hasI q x = true := hasI_iff.2 (by rw [← eq_of_beq h]; exact getD_mem hi 0)
    simp only [idxI, hn.1, hh, cond_false, cond_true, idxI_at hi hn.2 h]
    omega
theorem has_step {a : List Int} {x i : Int} (h : hasInv a x i) (hi : i < a.length) (hn : (a.getD i.toNat 0 == x) = false) : hasInv a x (i + 1) := by
  obtain ⟨⟨g1, g2⟩, g3⟩ := h
  refine ⟨⟨by omega, by omega⟩, ?_⟩
  rw [show (i + 1).toNat = i.toNat + 1 by omega, take_snoc (by omega) 0, hasI_append, g3]
  simp only [hasI, hn, Bool.or_false]
theorem has_all {a : List Int} {x i : Int} (h : hasInv a x i) (hi : ¬ i < a.length) : hasI a x = false := by
  have h2 := h.2
  rw [List.take_of_length_le (by omega)] at h2
  exact h2
theorem has_mem {a : List Int} {x i : Int} (g : 0 ≤ i) (hi : i < a.length) (hy : (a.getD i.toNat 0 == x) = true) : hasI a x = true :=
  hasI_iff.2 (by rw [← eq_of_beq hy]; exact getD_mem (by omega) 0)
/-! ### the queue -/
def Good (n : Nat) (q : List Int) : Prop := (∀ x ∈ q, 0 ≤ x ∧ x < (n : Int)) ∧ q.Nodup
theorem good_len {n : Nat} {q : List Int} (h : Good n q) : q.length ≤ n := by
  apply Nat.le_of_not_lt
  intro hl
  have hg : ∀ i, i ≤ n → (q.getD i 0).toNat < n := fun i hi => by
    have := h.1 _ (getD_mem (show i < q.length by omega) 0)
    omega
  obtain ⟨i, j, hij, hj, he⟩ := pigeon n (fun i => (q.getD i 0).toNat) hg
  have hi' : i < q.length := by omega
  have hj' : j < q.length := by omega
  have hx := h.1 _ (getD_mem hi' 0)
  have hy := h.1 _ (getD_mem hj' 0)
  have := List.pairwise_iff_getElem.1 h.2 i j hi' hj' hij
  apply this
  simp only [List.getD_eq_getElem?_getD, List.getElem?_eq_getElem hi', List.getElem?_eq_getElem hj', Option.getD_some] at he hx hy
  omega
theorem good_add {n : Nat} {q : List Int} {x : Int} (h : Good n q) (hx : 0 ≤ x ∧ x < (n : Int)) : Good n (addI q x) := by
  unfold addI
  cases hb : hasI q x with
  | true => exact h
  | false =>
    have hn : x ∉ q := fun hm => by rw [hasI_iff.2 hm] at hb; cases hb
    refine ⟨fun y hy => ?_, ?_⟩
    · simp only [cond_false, List.mem_append, List.mem_singleton] at hy
      rcases hy with hy | rfl
      · exact h.1 y hy
      · exact hx
    · simp only [cond_false]
      rw [List.nodup_append]
      refine ⟨h.2, by simp, fun a ha b hb => ?_⟩
      simp only [List.mem_singleton] at hb
      subst hb
      intro e
      subst e
      exact hn ha
theorem good_all {n : Nat} : ∀ {r q : List Int}, Good n q → (∀ x ∈ r, 0 ≤ x ∧ x < (n : Int)) → Good n (addAll q r)
  | [], q, h, _ => h
  | x :: r, q, h, hr => good_all (r := r) (good_add h (hr x (by simp))) fun y hy => hr y (by simp [hy])
theorem addAll_step {q r : List Int} {j : Nat} (h : j < r.length) : addAll q (r.take (j + 1)) = addI (addAll q (r.take j)) (r.getD j 0) := by
  unfold addAll
  rw [take_snoc h 0, List.foldl_append]
  rfl
def RowsIn (l : List (List Int)) : Prop := ∀ r ∈ l, ∀ x ∈ r, 0 ≤ x ∧ x < (l.length : Int)
theorem getD_in {l : List (List Int)} (h : RowsIn l) (i : Nat) : ∀ x ∈ l.getD i [], 0 ≤ x ∧ x < (l.length : Int) := by
  intro x hx
  by_cases hi : i < l.length
  · exact h _ (getD_mem hi []) x hx
  · rw [List.getD_eq_getElem?_getD, List.getElem?_eq_none (by omega)] at hx
    cases hx
theorem rowsB_in {n : Nat} : ∀ {l : List (List Int)} {ro : List Int}, rowsB n l ro = true → ∀ r ∈ l, ∀ x ∈ r, 0 ≤ x ∧ x < (n : Int)
  | [], _, _, r, hr => by cases hr
  | a :: l, ro, h, r, hr => by
    simp only [rowsB, rowB, Bool.and_eq_true] at h
    intro x hx
    rcases List.mem_cons.1 hr with rfl | hr
    · have h2 := h.1.1.2
      unfold allB at h2
      have := inB_eq.1 (List.all_eq_true.1 h2 x hx)
      omega
    · exact rowsB_in h.2 r hr x hx
theorem route_in {l : List (List Int)} {ro : List Int} (h : routeB l ro = true) : RowsIn l := by
  simp only [routeB, Bool.and_eq_true] at h
  exact rowsB_in h.2
theorem qAt_good {l : List (List Int)} {x : Int} (h : RowsIn l) (hx : 0 ≤ x ∧ x < (l.length : Int)) : ∀ k, Good l.length (qAt l x k)
  | 0 => ⟨fun y hy => by simp only [qAt, List.mem_singleton] at hy; rw [hy]; exact hx, by simp [qAt]⟩
  | k + 1 => by
    have ih := qAt_good h hx k
    unfold qAt stepQ
    cases hk : decide (k < (qAt l x k).length) with
    | true => exact good_all ih (getD_in h _)
    | false => exact ih
theorem qAt_succ {l : List (List Int)} {x : Int} {k : Nat} (h : k < (qAt l x k).length) : qAt l x (k + 1) = addAll (qAt l x k) (l.getD ((qAt l x k).getD k 0).toNat []) := by
  show stepQ l (qAt l x k) k = _
  unfold stepQ
  rw [decide_eq_true h]
  rfl
theorem qAt_end {l : List (List Int)} {x : Int} {k : Nat} (h : (qAt l x k).length ≤ k) : ∀ j, qAt l x (k + j) = qAt l x k
  | 0 => rfl
  | j + 1 => by
    have ih := qAt_end h j
    show stepQ l (qAt l x (k + j)) (k + j) = _
    unfold stepQ
    rw [ih, decide_eq_false (by omega)]
    rfl
theorem addI_len {q : List Int} {x : Int} : q.length ≤ (addI q x).length := by
  unfold addI
  cases hasI q x with
  | true => exact Nat.le_refl _
  | false => simp
theorem addAll_len : ∀ {r q : List Int}, q.length ≤ (addAll q r).length
  | [], _ => Nat.le_refl _
  | x :: r, q => Nat.le_trans addI_len (addAll_len (r := r) (q := addI q x))
theorem addI_no {q : List Int} {x : Int} (h : (!hasI q x) = true) : addI q x = q ++ [x] := by
  simp only [Bool.not_eq_true'] at h
  unfold addI; rw [h]; rfl
theorem addI_yes {q : List Int} {x : Int} (h : (!hasI q x) = false) : addI q x = q := by
  simp only [Bool.not_eq_false'] at h
  unfold addI; rw [h]; rfl
theorem can_no {x : Bool} {p y : Bool} {l : List (List Int)} {ro : List Int} {d e f : TypeId} {k g : Kind} {J : List Blk} (h : y = false) (hx : x = (y && p)) :
    retG 2 (.tup [.bool x, .bool y]) [⟨.mat .i64 d l, e, k⟩, ⟨.ints .i64 ro, f, g⟩] (.tup [.lit false, .lit false]) (⟨.mat .i64 d l, e, k⟩ :: ⟨.ints .i64 ro, f, g⟩ :: J) := by
  subst h; subst hx
  unfold retG leSel leSelBy autoSel
  simp [pairsL, pairsV, idPairs, pairsIn, selOf, lookN, selMem, chkB, nodupSel, hasSel, prefSel, leSt, leL, leV, nilToL, V.nilTo, selL, V.sel, Cells.selN, leMem, leCells, memUnder, underL, V.under]
theorem can_yes {x y z : Bool} {l : List (List Int)} {ro : List Int} {d e f : TypeId} {k g : Kind} {J : List Blk} (h : y = true) (hx : z = x) :
    retG 2 (.tup [.bool x, .bool y]) [⟨.mat .i64 d l, e, k⟩, ⟨.ints .i64 ro, f, g⟩] (.tup [.bool z, .lit true]) (⟨.mat .i64 d l, e, k⟩ :: ⟨.ints .i64 ro, f, g⟩ :: J) := by
  subst h; subst hx
  unfold retG leSel leSelBy autoSel
  simp [pairsL, pairsV, idPairs, pairsIn, selOf, lookN, selMem, chkB, nodupSel, hasSel, prefSel, leSt, leL, leV, nilToL, V.nilTo, selL, V.sel, Cells.selN, leMem, leCells, memUnder, underL, V.under]
theorem retG_a1b {q r : Bool} {a : List Int} {e : TypeId} {k : Kind} {J : List Blk} (h : q = r) : retG 1 (.bool r) [⟨.ints .i64 a, e, k⟩] (.bool q) (⟨.ints .i64 a, e, k⟩ :: J) := by
  subst h
  unfold retG leSel leSelBy autoSel
  simp [pairsL, pairsV, idPairs, pairsIn, selOf, lookN, selMem, chkB, nodupSel, hasSel, prefSel, leSt, leL, leV, nilToL, V.nilTo, selL, V.sel, Cells.selN, leMem, leCells, memUnder, underL, V.under]
/-! ### the functions -/
theorem vc_spec_l1Has (v : Int) (n : Nat) (a : List Int) (e : TypeId) (k : Kind) (h : a.length = n ∧ n ≤ 2000000) : VC_spec_l1Has v n a e k (retG 1 (.bool (hasI a v)) [⟨.ints .i64 a, e, k⟩]) := by
  obtain ⟨rfl, h2⟩ := h
  unfold VC_spec_l1Has
  refine ⟨⟨by simp, ⟨⟨ek_refl e k, rfl, rfl⟩, trivial⟩, trivial⟩, ⟨⟨by omega, by omega⟩, rfl⟩, fun i hi => ⟨fun hc => ?_, fun hc => retG_a1l (has_all hi (of_decide_eq_false hc)).symm⟩⟩
  have hc := of_decide_eq_true hc
  have g1 := hi.1.1
  rw [wrap64_in (x := i + 1) (by omega)]
  exact ⟨⟨g1, hc⟩, ⟨by omega⟩, fun hy => retG_a1l (has_mem g1 hc hy).symm, fun hn => ⟨⟨by simp, ⟨⟨ek_refl e k, rfl, rfl⟩, trivial⟩, trivial⟩, ⟨has_step hi hc hn, by omega⟩⟩⟩
theorem vc_slices_Index_int_int (v : Int) (n : Nat) (a : List Int) (e : TypeId) (k : Kind) (h : a.length = n ∧ n ≤ 2000000) : VC_slices_Index_int_int v n a e k (retG 1 (.int .i64 (idxI a v)) [⟨.ints .i64 a, e, k⟩]) := by
  obtain ⟨rfl, h2⟩ := h
  unfold VC_slices_Index_int_int
  refine ⟨⟨by simp, ⟨⟨ek_refl e k, rfl, rfl⟩, trivial⟩, trivial⟩, ⟨⟨by omega, by omega⟩, rfl⟩, fun i hi => ⟨fun hc => ?_, fun hc => retG_a1 (idxI_no (has_all hi (of_decide_eq_false hc))).symm⟩⟩
  have hc := of_decide_eq_true hc
  have g1 := hi.1.1
  rw [wrap64_in (x := i + 1) (by omega), show (v == a.getD i.toNat 0) = (a.getD i.toNat 0 == v) from BEq.comm]
  refine ⟨⟨g1, hc⟩, ⟨by omega⟩, fun hy => retG_a1 ?_, fun hn => ⟨⟨by simp, ⟨⟨ek_refl e k, rfl, rfl⟩, trivial⟩, trivial⟩, ⟨has_step hi hc hn, by omega⟩⟩⟩
  rw [idxI_at (by omega) hi.2 hy]
  omega
theorem vc_slices_Contains_int_int (v : Int) (n : Nat) (a : List Int) (h : a.length = n ∧ n ≤ 2000000) : VC_slices_Contains_int_int v n a (retG 1 (.bool (hasI a v)) [⟨.ints .i64 a, 3, .row⟩]) := by
  unfold VC_slices_Contains_int_int
  refine ⟨⟨h⟩, retG_a1b ?_⟩
  cases hb : hasI a v with
  | true => exact decide_eq_true (idxI_ge hb)
  | false => rw [idxI_no hb]; rfl
theorem vc_spec_roNode (node : Int) (n m : Nat) (l : List (List Int)) (ro : List Int) (h : l.length = n ∧ ro.length = m ∧ smallM l ∧ m ≤ 2000000) :
    VC_spec_roNode node n m l ro (retG 2 (.bool (routeB l ro && inB node 0 ((n : Int) - 1))) [⟨.mat .i64 3 l, 23, .mat⟩, ⟨.ints .i64 ro, 3, .row⟩]) := by
  unfold VC_spec_roNode
  have hn := h.2.2.1.1
  have he := h.1
  rw [wrap64_in (x := (n : Int) - 1) (by omega)]
  exact ⟨⟨h⟩, fun hb => ⟨⟨trivial⟩, retG_r2b (by rw [hb]; rfl)⟩, fun hb => retG_r2l (by rw [hb]; rfl)⟩
theorem vc_spec_CanWalk (aat goal : Int) (n m : Nat) (l : List (List Int)) (ro : List Int) (h : l.length = n ∧ ro.length = m ∧ smallM l ∧ m ≤ 2000000) :
    VC_spec_CanWalk aat goal n m l ro (retG 2 (.tup [.bool (canB l ro n aat goal && hasI (qAt l aat l.length) goal), .bool (canB l ro n aat goal)]) [⟨.mat .i64 3 l, 23, .mat⟩, ⟨.ints .i64 ro, 3, .row⟩]) := by
  have hh := h
  obtain ⟨rfl, rfl, h3, h4⟩ := h
  have hsz := h3.1
  unfold VC_spec_CanWalk
  refine ⟨⟨hh⟩, fun hn => can_no (p := hasI (qAt l aat l.length) goal) ?_ rfl, fun h1 => ⟨⟨hh⟩, fun hn => can_no (p := hasI (qAt l aat l.length) goal) ?_ rfl, fun h2 => ?_⟩⟩
  · simp only [Bool.not_eq_true'] at hn
    unfold canB; rw [hn]; rfl
  · simp only [Bool.not_eq_true', Bool.not_eq_false', Bool.and_eq_true] at hn h1
    unfold canB; rw [h1.1, h1.2]; rw [h1.1] at hn; exact hn
  simp only [Bool.not_eq_false', Bool.and_eq_true] at h1 h2
  obtain ⟨b1, b2⟩ := h1
  have b3 := h2.2
  have hcan : canB l ro l.length aat goal = true := by unfold canB; rw [b1, b2, b3]; rfl
  have hx := inB_eq.1 b2
  have hri := route_in b1
  have hg := qAt_good hri (x := aat) (by omega)
  refine ⟨⟨trivial, by simp, ⟨by simp, by simp, by simp, ⟨trivial, rfl, rfl⟩, trivial⟩, trivial⟩, ⟨by omega, by simp [qAt]⟩, fun i ⟨g1, g2⟩ => ⟨fun hc => ?_, fun hc => ⟨⟨rfl, by have := good_len (hg i.toNat); omega⟩, can_yes hcan ?_⟩⟩⟩
  · have hc := of_decide_eq_true hc
    have hgi := hg i.toNat
    have hst := qAt_succ (l := l) (x := aat) (k := i.toNat) (by omega)
    have hle := good_len hgi
    rw [wrap64_in (x := i + 1) (by omega), show (i + 1).toNat = i.toNat + 1 by omega, hst]
    have hst2 : (i + 1).toNat ≤ (qAt l aat (i + 1).toNat).length := by
      rw [show (i + 1).toNat = i.toNat + 1 by omega, hst]
      exact Nat.le_trans (by omega) addAll_len
    generalize qAt l aat i.toNat = q at *
    have hx0 := hgi.1 _ (getD_mem (show i.toNat < q.length by omega) 0)
    generalize q.getD i.toNat 0 = y at *
    have hrow := getD_in hri y.toNat
    have hrl := h3.2 _ (getD_mem (show y.toNat < l.length by omega) [])
    generalize l.getD y.toNat [] = row at *
    refine ⟨trivial, ⟨g1, hc⟩, ⟨by omega⟩, ⟨hx0⟩, ⟨by omega⟩, ⟨trivial, by simp [addAll], ⟨by simp, by simp, by simp, ⟨trivial, rfl, by simp [addAll]⟩, trivial⟩, trivial⟩, ⟨by omega, by omega⟩, fun j ⟨k1, k2⟩ => ⟨fun hj => ?_, fun hj => ?_⟩⟩
    · have hj := of_decide_eq_true hj
      have hgj : Good l.length (addAll q (row.take j.toNat)) := good_all hgi fun x hx => hrow x (List.mem_of_mem_take hx)
      have hlj := good_len hgj
      have hsj := addAll_step (q := q) (r := row) (j := j.toNat) (by omega)
      rw [wrap64_in (x := j + 1) (by omega), show (j + 1).toNat = j.toNat + 1 by omega, hsj]
      generalize addAll q (row.take j.toNat) = p at *
      generalize row.getD j.toNat 0 = z at *
      refine ⟨⟨k1, hj⟩, ⟨by omega, by omega⟩, ⟨rfl, by omega⟩, fun hn => ?_, fun hn => ?_⟩
      · rw [addI_no hn]
        exact ⟨⟨⟨by omega, by simp⟩, by omega, by omega⟩, ⟨trivial, by simp, ⟨by simp, by simp, by simp, ⟨trivial, rfl, by simp⟩, trivial⟩, trivial⟩, ⟨⟨by omega, by omega⟩, by omega⟩⟩
      · rw [addI_yes hn]
        exact ⟨⟨trivial, by simp, ⟨by simp, by simp, by simp, ⟨trivial, rfl, rfl⟩, trivial⟩, trivial⟩, ⟨⟨by omega, by omega⟩, by omega⟩⟩
    · have hj := of_decide_eq_false hj
      rw [List.take_of_length_le (l := row) (by omega)]
      exact ⟨⟨trivial, by simp, ⟨by simp, by simp, by simp, ⟨trivial, rfl, rfl⟩, trivial⟩, trivial⟩, ⟨⟨by omega, by omega⟩, by omega⟩⟩
  · have hc := of_decide_eq_false hc
    have hle := good_len (hg i.toNat)
    have e := qAt_end (l := l) (x := aat) (k := i.toNat) (by omega) (l.length - i.toNat)
    rw [show i.toNat + (l.length - i.toNat) = l.length by omega] at e
    rw [hcan, e]; rfl
theorem vc_impl_CanWalk (aat goal : Int) (n m : Nat) (l : List (List Int)) (ro : List Int) (h : l.length = n ∧ ro.length = m ∧ smallM l ∧ m ≤ 2000000) :
    VC_impl_CanWalk aat goal n m l ro (retG 2 (.tup [.bool (canB l ro n aat goal && hasI (qAt l aat l.length) goal), .bool (canB l ro n aat goal)]) [⟨.mat .i64 3 l, 23, .mat⟩, ⟨.ints .i64 ro, 3, .row⟩]) := by
  have hh := h
  obtain ⟨rfl, rfl, h3, h4⟩ := h
  have hsz := h3.1
  unfold VC_impl_CanWalk
  refine ⟨⟨hh⟩, fun hn => can_no (p := hasI (qAt l aat l.length) goal) ?_ rfl, fun b1 => ⟨⟨hh⟩, fun hn => can_no (p := hasI (qAt l aat l.length) goal) ?_ rfl, fun b2 => ⟨⟨hh⟩, fun hn => can_no (p := hasI (qAt l aat l.length) goal) ?_ rfl, fun b3 => ?_⟩⟩⟩
  · simp only [Bool.not_eq_true'] at hn
    unfold canB; rw [hn]; rfl
  · simp only [Bool.not_eq_true'] at hn
    unfold canB; rw [hn, Bool.and_false]; rfl
  · simp only [Bool.not_eq_true'] at hn
    unfold canB; rw [hn, Bool.and_false]
  simp only [Bool.not_eq_false'] at b1 b2 b3
  have hcan : canB l ro l.length aat goal = true := by unfold canB; rw [b1, b2, b3]; rfl
  have hx := inB_eq.1 b2
  have hri := route_in b1
  have hg := qAt_good hri (x := aat) (by omega)
  refine ⟨⟨trivial, by simp, ⟨by simp, by simp, by simp, ⟨trivial, rfl, rfl⟩, trivial⟩, trivial⟩, ⟨by omega, by simp [qAt]⟩, fun i ⟨g1, g2⟩ => ⟨fun hc => ?_, fun hc => ⟨⟨rfl, by have := good_len (hg i.toNat); omega⟩, can_yes hcan ?_⟩⟩⟩
  · have hc := of_decide_eq_true hc
    have hgi := hg i.toNat
    have hst := qAt_succ (l := l) (x := aat) (k := i.toNat) (by omega)
    have hle := good_len hgi
    rw [wrap64_in (x := i + 1) (by omega), show (i + 1).toNat = i.toNat + 1 by omega, hst]
    have hst2 : (i + 1).toNat ≤ (qAt l aat (i + 1).toNat).length := by
      rw [show (i + 1).toNat = i.toNat + 1 by omega, hst]
      exact Nat.le_trans (by omega) addAll_len
    generalize qAt l aat i.toNat = q at *
    have hx0 := hgi.1 _ (getD_mem (show i.toNat < q.length by omega) 0)
    generalize q.getD i.toNat 0 = y at *
    have hrow := getD_in hri y.toNat
    have hrl := h3.2 _ (getD_mem (show y.toNat < l.length by omega) [])
    generalize l.getD y.toNat [] = row at *
    refine ⟨trivial, ⟨g1, hc⟩, ⟨by omega⟩, ⟨hx0⟩, ⟨by omega⟩, ⟨trivial, by simp [addAll], ⟨by simp, by simp, by simp, ⟨trivial, rfl, by simp [addAll]⟩, trivial⟩, trivial⟩, ⟨by omega, by omega⟩, fun j ⟨k1, k2⟩ => ⟨fun hj => ?_, fun hj => ?_⟩⟩
    · have hj := of_decide_eq_true hj
      have hgj : Good l.length (addAll q (row.take j.toNat)) := good_all hgi fun x hx => hrow x (List.mem_of_mem_take hx)
      have hlj := good_len hgj
      have hsj := addAll_step (q := q) (r := row) (j := j.toNat) (by omega)
      rw [wrap64_in (x := j + 1) (by omega), show (j + 1).toNat = j.toNat + 1 by omega, hsj]
      generalize addAll q (row.take j.toNat) = p at *
      generalize row.getD j.toNat 0 = z at *
      refine ⟨⟨k1, hj⟩, ⟨by omega, by omega⟩, ⟨rfl, by omega⟩, fun hn => ?_, fun hn => ?_⟩
      · rw [addI_no hn]
        exact ⟨⟨⟨by omega, by simp⟩, by omega, by omega⟩, ⟨trivial, by simp, ⟨by simp, by simp, by simp, ⟨trivial, rfl, by simp⟩, trivial⟩, trivial⟩, ⟨⟨by omega, by omega⟩, by omega⟩⟩
      · rw [addI_yes hn]
        exact ⟨⟨trivial, by simp, ⟨by simp, by simp, by simp, ⟨trivial, rfl, rfl⟩, trivial⟩, trivial⟩, ⟨⟨by omega, by omega⟩, by omega⟩⟩
    · have hj := of_decide_eq_false hj
      rw [List.take_of_length_le (l := row) (by omega)]
      exact ⟨⟨trivial, by simp, ⟨by simp, by simp, by simp, ⟨trivial, rfl, rfl⟩, trivial⟩, trivial⟩, ⟨⟨by omega, by omega⟩, by omega⟩⟩
  · have hc := of_decide_eq_false hc
    have hle := good_len (hg i.toNat)
    have e := qAt_end (l := l) (x := aat) (k := i.toNat) (by omega) (l.length - i.toNat)
    rw [show i.toNat + (l.length - i.toNat) = l.length by omega] at e
    rw [hcan, e]; rfl
end Go.Vi
