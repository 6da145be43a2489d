/- A region whose order is open: operations that only look come first, in whatever order; what acts comes behind them. For a class of worlds. -/
import Derived.WalkKit
import Derived.Deep.Quiet
import Derived.StillTail
namespace Go.Vi
section
variable {P : Program} {ops : Array Oper} {md : Region.Mode} {C : World → Prop}

/-- From here on only operations before number n come up, each of them quiet, till 'L' holds. -/
def Quietly (P : Program) (md : Region.Mode) (ops : Array Oper) (C : World → Prop) (n : Nat) (L : Array Bool → Act → Prop) : Nat → Array Bool → Act → Prop
  | 0, done, a => L done a
  | f + 1, done, a => (∃ i, i ∈ Region.ready md ops done) ∧ ∀ i, i ∈ Region.ready md ops done → i < n ∧ qOp P ops C i (Quietly P md ops C n L f (done.setIfInBounds i true)) a

theorem Quietly.any {n g : Nat} {L : Array Bool → Act → Prop} {Q : Exit → Act → World → Prop} (hL : ∀ done a w, C w → L done a → wpAny P md ops Q g done a w) :
    ∀ (f : Nat) (done : Array Bool) (a : Act) (w : World), C w → Quietly P md ops C n L f done a → wpAny P md ops Q (f + g) done a w
  | 0, done, a, w, hw, h => by rw [Nat.zero_add]; exact hL _ _ _ hw h
  | f + 1, done, a, w, hw, ⟨⟨j, hj⟩, h⟩ => by
    rw [Nat.add_right_comm]
    exact ⟨fun h0 => (by rw [h0] at hj; cases hj), fun i hi => wpOp_of_qOp hw (fun a' w' hw' h' => Quietly.any hL f _ a' w' hw' h') (h i hi).2⟩

/-- The operation whose turn it is in the text may be put first. -/
theorem Quietly.first {n i : Nat} {oi : Oper} {v : Value} {L : Array Bool → Act → Prop} (hi : ops[i]? = some oi) (hsel : Region.noSelect ops = true)
    (hs : Region.sinkB md ops n = true) (hc : Region.chainB md ops n = true) (hn : n < ops.size) (hin : i < n) (hL : ∀ done a, L done a → ∀ j, j ∈ Region.ready md ops done → n ≤ j) :
    ∀ (f : Nat) (done : Array Bool) (a : Act), HeadInv md ops n done →
      (∀ j oj, ops[j]? = some oj → j ≠ i → done.getD j true = false → (∀ e ∈ oj.after, Region.binds md e = true → e.on ≠ i) → oi.apart ops oj = true) →
      i ∈ Region.ready md ops done → YieldsIn P ops C oi v a → Quietly P md ops C n L f (done.setIfInBounds i true) (a.put oi.dst v) → Quietly P md ops C n L (f + 1) done a := by
  have early : ∀ (done : Array Bool), HeadInv md ops n done → i ∈ Region.ready md ops done → ∀ j, j ∈ Region.ready md ops done → j < n := by
    intro done inv hr j hj
    refine Nat.lt_of_not_le fun h => ?_
    exact tail_waits hs hc hn inv _ i rfl hin (mem_ready.1 hr).1 j h hj
  have sel := Region.noSelect_spec hsel
  intro f
  induction f with
  | zero =>
    intro done a inv _ hr hy H
    refine ⟨⟨i, hr⟩, fun j hj => ⟨early done inv hr j hj, ?_⟩⟩
    rcases Nat.decEq j i with hji | hji
    · have h1 := hL _ _ H j (ready_mono hj hji)
      have h2 := early done inv hr j hj
      omega
    · subst hji; exact hy.qOp hi H
  | succ f ih =>
    intro done a inv free hr hy H
    refine ⟨⟨i, hr⟩, fun j hj => ⟨early done inv hr j hj, ?_⟩⟩
    rcases Nat.decEq j i with hji | hji
    · obtain ⟨jun, oj, hoj, hall⟩ := mem_ready.1 hj
      have iun := getD_both (mem_ready.1 hr).1
      have apart := free j oj hoj hji jun fun e he hb heq => by
        have := hall e he hb
        rw [heq, iun] at this
        cases this
      refine qOp_mono (fun a' ⟨h1, h2⟩ => ?_) (qOp_put hoj apart (fun cs b => sel i oi cs b hi) (fun cs b => sel j oj cs b hoj) hy (H.2 j (ready_mono hj hji)).2)
      refine ih _ a' (inv.set hj (early done inv hr j hj)) (fun l ol hl hli lun hno => free l ol hl hli ?_ hno) (ready_mono hr (Ne.symm hji)) h1 ?_
      · rcases Nat.decEq j l with hjl | hjl
        · rwa [getD_set_ne true hjl] at lun
        · subst hjl; exact jun
      · rw [Array.setIfInBounds_comm _ _ hji]; exact h2
    · subst hji; exact hy.qOp hi H

theorem Quietly.lex {n g : Nat} {R : Act → Prop} (hsel : Region.noSelect ops = true) (hs : Region.sinkB md ops n = true) (hc : Region.chainB md ops n = true) (hn : n < ops.size) :
    ∀ (l : List Oper) (k : Nat) (done : Array Bool) (a : Act), (∀ j, j < l.length → l[j]? = ops[k + j]?) → k + l.length = n → HeadInv md ops n done →
    Region.lexHead md ops g l.length k done = true → wpQuiet P ops C R l a → Quietly P md ops C n (fun done' a' => Region.seqB md ops g n done' = true ∧ R a') l.length done a
  | [], k, done, a, _, hk, _, hB, h => by
    obtain rfl : k = n := hk
    exact ⟨hB, h⟩
  | o :: l, k, done, a, hl, hk, inv, hB, h => by
    simp only [List.length_cons] at hk
    have h0 : ops[k]? = some o := by
      have := hl 0 (by simp)
      simpa using this.symm
    unfold Region.lexHead at hB
    simp only [List.length_cons, Bool.and_eq_true, List.contains_iff_mem] at hB
    have hst : qOp P ops C k (wpQuiet P ops C R l) a := by
      unfold qOp
      rw [h0]
      exact h
    obtain ⟨v, hy, hK⟩ := yieldsIn_of_qOp h0 hst
    refine Quietly.first h0 hsel hs hc hn (by omega) (fun done' a' hL => seqB_ready hL.1) l.length done a inv (Region.free_spec h0 hB.1.2) hB.1.1 hy ?_
    refine Quietly.lex hsel hs hc hn l (k + 1) _ _ (fun j hj => ?_) (by omega) (inv.set hB.1.1 (by omega)) hB.2 hK
    have := hl (j + 1) (by simpa using hj)
    rw [List.getElem?_cons_succ] at this
    rw [this]
    congr 1
    omega

/-- **A region whose order is open**: its first n operations look, the others act, one behind the other. -/
theorem wp_region_acts {id : Nat} {Q : Exit → Act → World → Prop} {a : Act} {w : World} (n : Nat) (hm : P.follows .mixedOrders = true) (hB : Region.lexTailB .any ops n = true) (hC : C { w with drawn := w.drawn + 1 })
    (h : wpQuiet P ops C (fun a' => ∀ w', C w' → wpList P ops Q (ops.toList.drop n) a' w') (ops.toList.take n) a) : (Code.region id ops true).wp P Q a w := by
  unfold Region.lexTailB at hB
  simp only [Bool.and_eq_true, decide_eq_true_eq] at hB
  obtain ⟨⟨⟨⟨hsel, hn⟩, hs⟩, hc⟩, hlex⟩ := hB
  have hlen : (ops.toList.take n).length = n := by rw [List.length_take, Array.length_toList]; omega
  have inv0 : HeadInv .any ops n (Array.replicate ops.size false) :=
    ⟨Array.size_replicate, fun j oj _ hj => (by rw [getD_replicate_false] at hj; cases hj), fun t _ ht => getD_in (by rwa [Array.size_replicate]) (getD_replicate_false _ _)⟩
  have H := Quietly.lex (md := .any) (g := ops.size - n) hsel hs hc hn (ops.toList.take n) 0 _ a (fun j hj => by
    rw [hlen] at hj
    rw [List.getElem?_take, if_pos hj, Nat.zero_add, Array.getElem?_toList]) (by rw [hlen, Nat.zero_add]) inv0 (by rw [hlen]; exact hlex) h
  refine wp_region_any hm ?_
  have := Quietly.any (Q := Q) (g := ops.size - n) (fun done a' w' hw' hL => by
    have hsz : (ops.toList.drop n).length = ops.size - n := by rw [List.length_drop, Array.length_toList]
    have := wpAny_of_seq (md := .any) (Q' := Q) (ops.toList.drop n) n done a' w' (fun j => by rw [List.getElem?_drop, Array.getElem?_toList]) (by rw [hsz]; exact hL.1) (hL.2 w' hw')
    rwa [hsz] at this) _ _ _ _ hC H
  rwa [hlen, Nat.add_sub_cancel' (Nat.le_of_lt hn)] at this
end
end Go.Vi
