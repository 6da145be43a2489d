/- A region whose order is open: operations that only look come first, in whatever order; what acts comes behind them. For a class of worlds. -/
import Derived.WalkKit
import Derived.Deep.Quiet
import Derived.StillTail
import Derived.OrdersHeld
import Derived.Stop.Looks
namespace Go.Vi
section
variable {P : Program} {ops : Array Oper} {md : Region.Mode} {C : World -> Prop}

/-- From here on only operations before number n come up, each of them quiet, till 'L' holds. -/
def Quietly (P : Program) (md : Region.Mode) (ops : Array Oper) (C : World -> Prop) (n : Nat) (L : Array Bool -> Act -> Prop) : Nat -> Array Bool -> Act -> Prop
 | 0, done, a => L done a
 | f + 1, done, a => (∃ i, i ∈ Region.ready md ops done) /\ ∀ i, i ∈ Region.ready md ops done -> i < n /\ qOp P ops C i (Quietly P md ops C n L f (done.setIfInBounds i true)) a

theorem Quietly.any {n g : Nat} {L : Array Bool -> Act -> Prop} {Q : Exit -> Act -> World -> Prop} (hL : ∀ done a w, C w -> L done a -> wpAny P md ops Q g done a w) :
  ∀ (f : Nat) (done : Array Bool) (a : Act) (w : World), C w -> Quietly P md ops C n L f done a -> wpAny P md ops Q (f + g) done a w
 | 0, done, a, w, hw, h => by rw [Nat.zero_add]; exact hL _ _ _ hw h
 | f + 1, done, a, w, hw, ⟨⟨j, hj⟩, h⟩ => by
  rw [Nat.add_right_comm]
  exact ⟨fun h0 => (by rw [h0] at hj; cases hj), fun i hi => wpOp_of_qOp hw (fun a' w' hw' h' => Quietly.any hL f _ a' w' hw' h') (h i hi).2⟩

/-- The operation whose turn it is in the text may be put first. -/
theorem Quietly.first {n i : Nat} {oi : Oper} {v : Value} {L : Array Bool -> Act -> Prop} (hi : ops[i]? = some oi) (hsel : Region.noSelect ops = true)
  (hs : Region.sinkB md ops n = true) (hc : Region.chainB md ops n = true) (hn : n < ops.size) (hin : i < n) (hL : ∀ done a, L done a -> ∀ j, j ∈ Region.ready md ops done -> n <= j) :
  ∀ (f : Nat) (done : Array Bool) (a : Act), HeadInv md ops n done ->
   (∀ j oj, ops[j]? = some oj -> j ≠ i -> done.getD j true = false -> (∀ e ∈ oj.after, Region.binds md e = true -> e.on ≠ i) -> oi.apart ops oj = true) ->
   i ∈ Region.ready md ops done -> YieldsIn P ops C oi v a -> Quietly P md ops C n L f (done.setIfInBounds i true) (a.put oi.dst v) -> Quietly P md ops C n L (f + 1) done a := by
 have early : ∀ (done : Array Bool), HeadInv md ops n done -> i ∈ Region.ready md ops done -> ∀ j, j ∈ Region.ready md ops done -> j < n := by
  intro done inv hr j hj
  refine Nat.lt_of_not_le fun h => ?_
  exact tail_waits hs hc hn inv _ i rfl hin (mem_ready.1 hr).1 j h hj
 have sel := Region.noSelect_spec hsel
 intro f
 induction f with
 | zero =>
  intro done a inv _ hr hy H
  refine ⟨⟨i, hr⟩, fun j hj => ⟨early done inv hr j hj, ?_⟩⟩
  rcases Nat.decEq j i with hji | hji
  ·have h1 := hL _ _ H j (ready_mono hj hji)
   have h2 := early done inv hr j hj
   omega
  ·subst hji; exact hy.qOp hi H
 | succ f ih =>
  intro done a inv free hr hy H
  refine ⟨⟨i, hr⟩, fun j hj => ⟨early done inv hr j hj, ?_⟩⟩
  rcases Nat.decEq j i with hji | hji
  ·obtain ⟨jun, oj, hoj, hall⟩ := mem_ready.1 hj
   have iun := getD_both (mem_ready.1 hr).1
   have apart := free j oj hoj hji jun fun e he hb heq => by
    have := hall e he hb
    rw [heq, iun] at this
    cases this
   refine qOp_mono (fun a' ⟨h1, h2⟩ => ?_) (qOp_put hoj apart (fun cs b => sel i oi cs b hi) (fun cs b => sel j oj cs b hoj) hy (H.2 j (ready_mono hj hji)).2)
   refine ih _ a' (inv.set hj (early done inv hr j hj)) (fun l ol hl hli lun hno => free l ol hl hli ?_ hno) (ready_mono hr (Ne.symm hji)) h1 ?_
   ·rcases Nat.decEq j l with hjl | hjl
    ·rwa [getD_set_ne true hjl] at lun
    ·subst hjl; exact jun
   ·rw [Array.setIfInBounds_comm _ _ hji]; exact h2
  ·subst hji; exact hy.qOp hi H

theorem Quietly.lex {n g : Nat} {R : Act -> Prop} (hsel : Region.noSelect ops = true) (hs : Region.sinkB md ops n = true) (hc : Region.chainB md ops n = true) (hn : n < ops.size) :
  ∀ (l : List Oper) (k : Nat) (done : Array Bool) (a : Act), (∀ j, j < l.length -> l[j]? = ops[k + j]?) -> k + l.length = n -> HeadInv md ops n done ->
  Region.lexHead md ops g l.length k done = true -> wpQuiet P ops C R l a -> Quietly P md ops C n (fun done' a' => Region.seqB md ops g n done' = true /\ R a') l.length done a
 | [], k, done, a, _, hk, _, hB, h => by
  obtain rfl : k = n := hk
  exact ⟨hB, h⟩
 | o :: l, k, done, a, hl, hk, inv, hB, h => by
  simp only [List.length_cons] at hk
  have h0 : ops[k]? = some o := by
   have := hl 0 (by simp)
   simpa using this.symm
  unfold Region.lexHead at hB
  simp only [List.length_cons, Bool.and_eq_true, List.contains_iff_mem] at hB
  have hst : qOp P ops C k (wpQuiet P ops C R l) a := by
   unfold qOp
   rw [h0]
   exact h
  obtain ⟨v, hy, hK⟩ := yieldsIn_of_qOp h0 hst
  refine Quietly.first h0 hsel hs hc hn (by omega) (fun done' a' hL => seqB_ready hL.1) l.length done a inv (Region.free_spec h0 hB.1.2) hB.1.1 hy ?_
  refine Quietly.lex hsel hs hc hn l (k + 1) _ _ (fun j hj => ?_) (by omega) (inv.set hB.1.1 (by omega)) hB.2 hK
  have := hl (j + 1) (by simpa using hj)
  rw [List.getElem?_cons_succ] at this
  rw [this]
  congr 1
  omega

/-- **A region whose order is open**: its first n operations look, the others act, one behind the other. -/
theorem wp_region_acts {id : Nat} {Q : Exit -> Act -> World -> Prop} {a : Act} {w : World} (n : Nat) (hm : P.follows .mixedOrders = true) (hB : Region.lexTailB .any ops n = true) (hC : C { w with drawn := w.drawn + 1 })
  (h : wpQuiet P ops C (fun a' => ∀ w', C w' -> wpList P ops Q (ops.toList.drop n) a' w') (ops.toList.take n) a) : (Code.region id ops true).wp P Q a w := by
 unfold Region.lexTailB at hB
 simp only [Bool.and_eq_true, decide_eq_true_eq] at hB
 obtain ⟨⟨⟨⟨hsel, hn⟩, hs⟩, hc⟩, hlex⟩ := hB
 have hlen : (ops.toList.take n).length = n := by rw [List.length_take, Array.length_toList]; omega
 have inv0 : HeadInv .any ops n (Array.replicate ops.size false) :=
  ⟨Array.size_replicate, fun j oj _ hj => (by rw [getD_replicate_false] at hj; cases hj), fun t _ ht => getD_in (by rwa [Array.size_replicate]) (getD_replicate_false _ _)⟩
 have H := Quietly.lex (md := .any) (g := ops.size - n) hsel hs hc hn (ops.toList.take n) 0 _ a (fun j hj => by
  rw [hlen] at hj
  rw [List.getElem?_take, if_pos hj, Nat.zero_add, Array.getElem?_toList]) (by rw [hlen, Nat.zero_add]) inv0 (by rw [hlen]; exact hlex) h
 refine wp_region_any hm ?_
 have := Quietly.any (Q := Q) (g := ops.size - n) (fun done a' w' hw' hL => by
  have hsz : (ops.toList.drop n).length = ops.size - n := by rw [List.length_drop, Array.length_toList]
  have := wpAny_of_seq (md := .any) (Q' := Q) (ops.toList.drop n) n done a' w' (fun j => by rw [List.getElem?_drop, Array.getElem?_toList]) (by rw [hsz]; exact hL.1) (hL.2 w' hw')
  rwa [hsz] at this) _ _ _ _ hC H
 rwa [hlen, Nat.add_sub_cancel' (Nat.le_of_lt hn)] at this
end
/-! ### a load taken first, where whatever may come before it leaves the world as it is -/
section
variable {P : Program} {ops : Array Oper} {Q : Exit -> Act -> World -> Prop} {md : Region.Mode}
/-- Stores nowhere; it may draw, and make memory. -/
def Calm {α : Type} : Sem α -> Prop
 | .pure _ => True
 | .halt _ => True
 | .load _ _ k => ∀ v, Calm (k v)
 | .shape _ k => ∀ s, Calm (k s)
 | .frozen _ k => ∀ b, Calm (k b)
 | .getObj _ k => ∀ o, Calm (k o)
 | .program k => ∀ p, Calm (k p)
 | .mark _ k => Calm k
 | .choose _ k => ∀ n, Calm (k n)
 | .new _ k => ∀ n, Calm (k n)
 | .store _ _ _ _ => False
 | .freeze _ _ _ => False
 | .setObj _ _ _ => False
 | .sys _ _ => False
theorem Calm.ofLooks {α : Type} {x : Sem α} (hx : x.Looks) : Calm x := by
 induction x with
 | pure a => exact trivial
 | halt h => exact trivial
 | load m a k ih => exact fun v => ih v (hx v)
 | shape r k ih => exact fun s => ih s (hx s)
 | frozen a k ih => exact fun b => ih b (hx b)
 | getObj r k ih => exact fun o => ih o (hx o)
 | program k ih => exact fun p => ih p (hx p)
 | mark m k ih => exact ih hx
 | store m a v k _ => exact hx.elim
 | new o k _ => exact hx.elim
 | freeze a n k _ => exact hx.elim
 | setObj r o k _ => exact hx.elim
 | choose q k _ => exact hx.elim
 | sys c k _ => exact hx.elim
theorem Calm.bind {α β : Type} {x : Sem α} {f : α -> Sem β} (hx : Calm x) (hf : ∀ a, Calm (f a)) : Calm (x >>= f) := by
 show Calm (x.bind f)
 induction x with
 | pure a => exact hf a
 | halt h => exact trivial
 | load m a k ih => exact fun v => ih v (hx v)
 | shape r k ih => exact fun s => ih s (hx s)
 | frozen a k ih => exact fun b => ih b (hx b)
 | getObj r k ih => exact fun o => ih o (hx o)
 | program k ih => exact fun p => ih p (hx p)
 | mark m k ih => exact ih hx
 | choose q k ih => exact fun n => ih n (hx n)
 | new o k ih => exact fun n => ih n (hx n)
 | store m a v k _ => exact hx.elim
 | freeze a n k _ => exact hx.elim
 | setObj r o k _ => exact hx.elim
 | sys c k _ => exact hx.elim
/-- What was there is as it was. -/
def Grows (w w' : World) : Prop := w.heap.size <= w'.heap.size /\ ∀ k, k < w.heap.size -> w'.heap[k]? = w.heap[k]?
theorem Grows.refl (w : World) : Grows w w := ⟨Nat.le_refl _, fun _ _ => rfl⟩
theorem Grows.trans {a b c : World} (h : Grows a b) (g : Grows b c) : Grows a c :=
 ⟨Nat.le_trans h.1 g.1, fun k hk => (g.2 k (Nat.lt_of_lt_of_le hk h.1)).trans (h.2 k hk)⟩
theorem Calm.heap {α : Type} {x : Sem α} (hx : Calm x) (P : Program) (w : World) : Grows w (x.run P w).where := by
 induction x generalizing w with
 | pure a => exact Grows.refl w
 | halt h => exact Grows.refl w
 | load m a k ih =>
  simp only [Sem.run]
  split
  ·exact ih _ (hx _) w
  ·split
   ·exact ih _ (hx _) w
   ·exact Grows.refl w
 | shape r k ih => exact ih _ (hx _) w
 | frozen a k ih => exact ih _ (hx _) w
 | getObj r k ih =>
  simp only [Sem.run]
  split
  ·exact Grows.refl w
  ·exact ih _ (hx _) w
  ·exact Grows.refl w
 | program k ih => exact ih _ (hx _) w
 | mark m k ih => exact ih hx w
 | choose q k ih =>
  simp only [Sem.run]
  split
  ·exact ih _ (hx _) w
  ·exact Grows.trans ⟨Nat.le_refl _, fun _ _ => rfl⟩ (ih _ (hx _) { w with drawn := w.drawn + 1 })
 | new o k ih =>
  simp only [Sem.run]
  refine Grows.trans ?_ (ih _ (hx _) _)
  refine ⟨?_, fun j hj => ?_⟩
  ·simp
  ·simp [Array.getElem?_push, Nat.ne_of_lt hj]
 | store m a v k _ => exact hx.elim
 | freeze a n k _ => exact hx.elim
 | setObj r o k _ => exact hx.elim
 | sys c k _ => exact hx.elim
def StillOp (P : Program) (o : Oper) : Prop := ∀ (a : Act) (w : World), (∃ v w', (execOp a.eval o).run P w = .ok (.value v) w' /\ Grows w w') \/ ∃ h w', (execOp a.eval o).run P w = .halt h w'
theorem still_of_calm {o : Oper} (h : ∀ a : Act, ∃ s : Sem Value, Calm s /\ execOp a.eval o = (do pure (Next.value (<- s)))) : StillOp P o := by
 intro a w
 obtain ⟨s, hs, he⟩ := h a
 have hw := hs.heap P w
 rw [he]
 simp only [Sem.run_bind]
 cases hr : s.run P w with
 | ok v w' =>
  rw [hr] at hw
  exact .inl ⟨v, w', rfl, hw⟩
 | halt h w' => exact .inr ⟨h, w', rfl⟩
def stillKind : Op -> Bool
 | .move _ => true
 | .assign _ => true
 | .load _ _ => true
 | .makeMap _ _ => true
 | .box _ _ => true
 | .call c => (match c.callee with | .builtin .min => true | .builtin .max => true | _ => false)
 | _ => false
/-- More that only looks: taken for still where all orders are asked for. -/
def wideKind : Op -> Bool
 | .build _ _ => true
 | .call c => (match c.callee with | .builtin .len => true | _ => false)
 | _ => false
theorem loadVar_looks (t : TypeId) (a : Addr) : (loadVar t a).Looks := by
 unfold loadVar isAgg
 refine Sem.Looks.bind (Sem.Looks.bind (underlying_looks t) fun d => ?_) fun b => ?_
 ·split <;> exact trivial
 ·split
  ·exact (sizeOf_looks t).bind fun n => (loadCells_looks a n).bind fun _ => trivial
  ·exact load_looks _ _
theorem stringOp_calm (op : BinOp) (x y : ByteArray) : Calm (Op.stringOp op x y) := by
 unfold Op.stringOp
 cases op <;> (first | exact trivial | (dsimp only; split <;> exact trivial))
theorem asBool_calm (x : Value) : Calm (asBool x) := by
 unfold asBool
 split <;> exact trivial
theorem min2_calm (x y : Value) : Calm (Builtin.min2 x y) := by
 unfold Builtin.min2
 split
 ·exact trivial
 ·split <;> first | exact trivial | exact fun n => trivial
 ·exact (stringOp_calm _ _ _).bind fun v => (asBool_calm v).bind fun _ => trivial
 ·exact trivial
 ·exact trivial
 ·exact trivial
theorem max2_calm (x y : Value) : Calm (Builtin.max2 x y) := by
 unfold Builtin.max2
 split
 ·exact trivial
 ·split <;> first | exact trivial | exact fun n => trivial
 ·exact (stringOp_calm _ _ _).bind fun v => (asBool_calm v).bind fun _ => trivial
 ·exact trivial
 ·exact trivial
 ·exact trivial
theorem foldlM_calm {f : Value -> Value -> Sem Value} (hf : ∀ x y, Calm (f x y)) : ∀ (l : List Value) (x : Value), Calm (l.foldlM f x)
 | [], _ => trivial
 | y :: r, x => by
  simp only [List.foldlM_cons]
  exact (hf x y).bind fun z => foldlM_calm hf r z
theorem asInt_calm (x : Value) : Calm (asInt x) := by
 unfold asInt asIntOf
 refine Calm.bind ?_ fun _ => trivial
 split <;> exact trivial
theorem makeMap_calm (t : TypeId) (r : Option Value) : Calm (Instr.makeMap t r) := by
 unfold Instr.makeMap
 cases r with
 | none => exact fun _ => trivial
 | some x =>
  refine Calm.bind (Calm.ofLooks (underlying_looks t)) fun d => ?_
  split
  ·exact (asInt_calm x).bind fun _ => fun _ => trivial
  ·exact trivial
theorem stillKind_spec {o : Oper} (h : stillKind o.op = true) : StillOp P o := by
 unfold stillKind at h
 split at h
 ·rename_i x hop
  exact still_of_calm fun a => ⟨pure (a.eval x), trivial, by simp only [execOp, hop]; rfl⟩
 ·rename_i x hop
  exact still_of_calm fun a => ⟨pure (a.eval x), trivial, by simp only [execOp, hop]; rfl⟩
 ·rename_i t x hop
  refine still_of_calm fun a => ⟨Instr.loadAt t (a.eval x), Calm.ofLooks ?_, by simp only [execOp, hop]⟩
  unfold Instr.loadAt Instr.sureAddr
  refine Sem.Looks.bind ?_ fun b => loadVar_looks t b
  split <;> exact trivial
 ·rename_i t r hop
  refine still_of_calm fun a => ⟨Instr.makeMap t (r.map a.eval), ?_, by simp only [execOp, hop]⟩
  exact makeMap_calm t _
 ·rename_i t x hop
  exact still_of_calm fun a => ⟨Instr.box t (a.eval x), fun _ => trivial, by simp only [execOp, hop]⟩
 ·rename_i c hop
  split at h
  ·rename_i hcal
   refine still_of_calm fun a => ⟨Builtin.min_ c.argTypes o.type (c.args.map a.eval), ?_, ?_⟩
   ·unfold Builtin.min_
    split
    ·exact trivial
    ·exact foldlM_calm min2_calm _ _
   ·simp only [execOp, hop, resolve, hcal]
    rfl
  ·rename_i hcal
   refine still_of_calm fun a => ⟨Builtin.max_ c.argTypes o.type (c.args.map a.eval), ?_, ?_⟩
   ·unfold Builtin.max_
    split
    ·exact trivial
    ·exact foldlM_calm max2_calm _ _
   ·simp only [execOp, hop, resolve, hcal]
    rfl
  ·cases h
 ·cases h
theorem zeroValue_looks (t : TypeId) : (zeroValue t).Looks := by
 unfold zeroValue
 refine (typeInfo_looks t).bind fun i => ?_
 split <;> exact trivial
theorem getObj_looks (r : Nat) : (getObj r).Looks := fun _ => trivial
theorem build_looks (t : TypeId) (l : Array (Nat × Value)) : (Instr.build t l).Looks := by
 unfold Instr.build
 refine Sem.Looks.bind (zeroValue_looks t) fun z => Sem.Looks.bind (underlying_looks t) fun d => ?_
 split
 ·rename_i fields
  refine Sem.Looks.bind ?_ fun p => ?_
  ·rw [Array.mapM_eq_mapM_toList]
   refine Sem.Looks.bind (mapM_looks _ ?_ _) fun n => trivial
   intro f
   exact (sizeOf_looks _).bind fun n => trivial
  ·split <;> exact trivial
 ·refine Sem.Looks.bind (sizeOf_looks _) fun n => ?_
  split <;> exact trivial
 ·exact trivial
theorem len_looks (a : Array TypeId) (t : TypeId) (l : Array Value) : (Builtin.len_ a t l).Looks := by
 unfold Builtin.len_
 split
 ·refine Sem.Looks.bind (underlying_looks _) fun d => ?_
  split
  all_goals first
   | exact trivial
   | (refine Sem.Looks.bind (underlying_looks _) fun e => ?_; split <;> exact trivial)
   | (refine Sem.Looks.bind (getObj_looks _) fun e => ?_; split <;> exact trivial)
 ·exact trivial
theorem wideKind_spec {o : Oper} (h : wideKind o.op = true) : StillOp P o := by
 unfold wideKind at h
 split at h
 ·rename_i t parts hop
  exact still_of_calm fun a => ⟨Instr.build t (parts.map fun (i, x) => (i, a.eval x)), Calm.ofLooks (build_looks _ _), by simp only [execOp, hop]⟩
 ·rename_i c hop
  split at h
  ·rename_i hcal
   refine still_of_calm fun a => ⟨Builtin.len_ c.argTypes o.type (c.args.map a.eval), Calm.ofLooks (len_looks _ _ _), ?_⟩
   simp only [execOp, hop, resolve, hcal]
   rfl
  ·exact absurd h (by decide)
 ·exact absurd h (by decide)
theorem wpOp_still {j : Nat} {oj : Oper} (hj : ops[j]? = some oj) (hs : StillOp P oj) {K : Act -> World -> Prop} {a : Act} {w : World} (h : wpOp P ops Q j K a w) : wpOp P ops Q j (fun a' w' => Grows w w' /\ K a' w') a w := by
 unfold wpOp at *
 simp only [hj] at *
 split
 ·rename_i hw
  simp only [hw, if_true] at h
  rcases h with h | h
  ·refine .inl ?_
   unfold Oper.wp at *
   rcases hs a w with ⟨v, w', hv, hh⟩ | ⟨x, w', hv⟩
   ·rw [hv] at h ⊢
    rw [Oper.upon_value] at h ⊢
    exact ⟨hh, h⟩
   ·rw [hv] at h ⊢
    cases x <;> exact h
  ·exact .inr h
 ·rename_i hw
  simp only [hw] at h
  exact ⟨Grows.refl w, h⟩
theorem wpAny_load {w0 : World} {i : Nat} {oi : Oper} {v : Value} (hi : ops[i]? = some oi) (hsel : ∀ (j : Nat) (o : Oper) cs b, ops[j]? = some o -> o.op ≠ .select cs b)
  (hQ : ∀ c a w, Q (.panic c) (a.put oi.dst v) w -> Q (.panic c) a w) :
  ∀ (fuel : Nat) (listed : Array Bool) (a : Act) (w : World),
   (∀ j oj, ops[j]? = some oj -> j ≠ i -> listed.getD j true = false -> (∀ e ∈ oj.after, Region.binds md e = true -> e.on ≠ i) -> oi.apart ops oj = true /\ StillOp P oj) ->
   i ∈ Region.ready md ops listed -> Grows w0 w -> YieldsIf P ops (fun w' => Grows w0 w') oi v a ->
   wpAny P md ops Q fuel (listed.setIfInBounds i true) (a.put oi.dst v) w -> wpAny P md ops Q (fuel + 1) listed a w := by
 intro fuel
 induction fuel with
 | zero =>
  intro listed a w _ hr hw0 hy H
  refine ⟨fun h => (by rw [h] at hr; cases hr), fun j hj => ?_⟩
  by_cases hji : j = i
  ·subst hji; exact hy.wpOp hi hw0 H
  ·have := ready_mono hj hji
   rw [H.1] at this
   cases this
 | succ fuel ih =>
  intro listed a w hfree hr hw0 hy H
  refine ⟨fun h => (by rw [h] at hr; cases hr), fun j hj => ?_⟩
  by_cases hji : j = i
  ·subst hji; exact hy.wpOp hi hw0 H
  ·have h1 := H.2 j (ready_mono hj hji)
   obtain ⟨hjun, oj, hoj, hall⟩ := mem_ready.1 hj
   have hnot : ∀ e ∈ oj.after, Region.binds md e = true -> e.on ≠ i := fun e he hb heq => by
    have h1 := hall e he hb
    have h0 := (mem_ready.1 hr).1
    rw [heq] at h1
    rcases Nat.lt_or_ge i listed.size with h' | h'
    ·simp [h'] at h0 h1; rw [h0] at h1; cases h1
    ·simp [Array.getElem?_eq_none h'] at h1
   obtain ⟨hap, hst⟩ := hfree j oj hoj hji hjun hnot
   have h2 := wpOp_putIf hoj hap (fun cs b => hsel i oi cs b hi) (fun cs b => hsel j oj cs b hoj) hQ hy (wpOp_still hoj hst h1)
   have hfree' : ∀ k ok, ops[k]? = some ok -> k ≠ i -> (listed.setIfInBounds j true).getD k true = false ->
     (∀ e ∈ ok.after, Region.binds md e = true -> e.on ≠ i) -> oi.apart ops ok = true /\ StillOp P ok := fun k ok hk hki hun hno => by
    refine hfree k ok hk hki ?_ hno
    by_cases hjk : j = k
    ·subst hjk; exact hjun
    ·rw [getD_set_ne true hjk] at hun; exact hun
   refine wpOp_mono (fun a' w' h3 => ?_) h2
   obtain ⟨hyi, hww, hK⟩ := h3
   refine ih (listed.setIfInBounds j true) a' w' hfree' (ready_mono hr (Ne.symm hji)) (hw0.trans hww) hyi ?_
   rw [Array.setIfInBounds_comm _ _ hji]
   exact hK
/-- Nobody who could come before it writes. -/
def stillFree (wd : Bool) (md : Region.Mode) (ops : Array Oper) (listed : Array Bool) (i : Nat) : Bool :=
 match ops[i]? with
 | none => false
 | some oi => (List.range ops.size).all fun j => j == i || listed.getD j true || match ops[j]? with
   | some oj => oj.after.any (fun e => Region.binds md e && e.on == i) || (oi.apart ops oj && (stillKind oj.op || (wd && wideKind oj.op)))
   | none => true
theorem stillFree_spec {wd : Bool} {listed : Array Bool} {i : Nat} {oi : Oper} (hi : ops[i]? = some oi) (h : stillFree wd md ops listed i = true) (j : Nat) (oj : Oper) (hj : ops[j]? = some oj) (hne : j ≠ i) (hun : listed.getD j true = false)
  (hno : ∀ e ∈ oj.after, Region.binds md e = true -> e.on ≠ i) : oi.apart ops oj = true /\ StillOp P oj := by
 unfold stillFree at h
 simp only [hi, List.all_eq_true, List.mem_range] at h
 have := h j (Array.getElem?_eq_some_iff.1 hj).1
 simp only [hj, hun, Bool.or_false, Bool.or_eq_true, beq_iff_eq, hne, false_or, Bool.and_eq_true] at this
 rcases this with h1 | h1
 ·obtain ⟨e, he, hb⟩ := Array.any_eq_true'.1 h1
  simp only [Bool.and_eq_true, beq_iff_eq] at hb
  exact absurd hb.2 (hno e he hb.1)
 ·exact ⟨h1.1, h1.2.elim stillKind_spec fun h => wideKind_spec h.2⟩
end
end Go.Vi
