/- Rows of rows: what is stored into them and appended to them; parts of rows that are handed over. -/
import Derived.Test.YtpkokghbkamelaaDoorVid
namespace Go.Vi
open Go.RowKit
section
variable {P : Program} {ρ : List Place}

/-! ### the blocks of the rows -/
theorem subFoot_tail {a : Sub} {l : List Sub} (h : (subFoot (a :: l)).Nodup) : (subFoot l).Nodup := by
 unfold subFoot at h
 split at h
 ·exact h
 ·exact (List.nodup_cons.1 h).2
theorem subFoot_head {a : Sub} {l : List Sub} (h : (subFoot (a :: l)).Nodup) (hg : a.ghost = false) : a.blk ∉ subFoot l := by
 unfold subFoot at h
 rw [hg] at h
 exact (List.nodup_cons.1 h).1
theorem subFoot_ne : ∀ {l : List Sub} {i j : Nat} {s u : Sub}, (subFoot l).Nodup -> l[i]? = some s -> l[j]? = some u -> i ≠ j -> s.ghost = false -> u.ghost = false -> s.blk ≠ u.blk
 | [], i, _, _, _, _, h, _, _, _, _ => by simp at h
 | a :: l, i, j, s, u, hn, hs, hu, hij, gs, gu => by
  cases i with
  | zero =>
   cases j with
   | zero => exact absurd rfl hij
   | succ j =>
    simp only [List.getElem?_cons_zero, Option.some.injEq, List.getElem?_cons_succ] at hs hu
    subst hs
    exact fun e => subFoot_head hn gs (mem_subFoot.2 ⟨j, u, hu, gu, e.symm⟩)
  | succ i =>
   cases j with
   | zero =>
    simp only [List.getElem?_cons_zero, Option.some.injEq, List.getElem?_cons_succ] at hs hu
    subst hu
    exact fun e => subFoot_head hn gu (mem_subFoot.2 ⟨i, s, hs, gs, e⟩)
   | succ j =>
    simp only [List.getElem?_cons_succ] at hs hu
    exact subFoot_ne (subFoot_tail hn) hs hu (fun e => hij (by rw [e])) gs gu
theorem mem_subFoot_set {l : List Sub} {i : Nat} {u : Sub} {k : Nat} (h : k ∈ subFoot (l.set i u)) : k ∈ subFoot l \/ (u.ghost = false /\ k = u.blk) := by
 obtain ⟨j, s, h1, h2, h3⟩ := mem_subFoot.1 h
 rw [List.getElem?_set] at h1
 split at h1
 ·split at h1
  ·injection h1 with h1
   subst h1
   exact .inr ⟨h2, h3.symm⟩
  ·cases h1
 ·exact .inl (mem_subFoot.2 ⟨j, s, h1, h2, h3⟩)
theorem nodup_subFoot_set : ∀ {l : List Sub} {i : Nat} {u : Sub}, (subFoot l).Nodup -> (u.ghost = false -> u.blk ∉ subFoot l) -> (subFoot (l.set i u)).Nodup
 | [], _, _, h, _ => h
 | a :: l, 0, u, h, hu => by
  have ht := subFoot_tail h
  simp only [List.set_cons_zero]
  unfold subFoot
  split
  ·exact ht
  ·rename_i hg
   refine List.nodup_cons.2 ⟨fun hm => hu hg ?_, ht⟩
   unfold subFoot
   split
   ·exact hm
   ·exact List.mem_cons_of_mem _ hm
 | a :: l, i + 1, u, h, hu => by
  have hu' : u.ghost = false -> u.blk ∉ subFoot l := fun hg hm => hu hg (by
   unfold subFoot
   split
   ·exact hm
   ·exact List.mem_cons_of_mem _ hm)
  have ih := nodup_subFoot_set (i := i) (subFoot_tail h) hu'
  simp only [List.set_cons_succ]
  unfold subFoot
  split
  ·exact ih
  ·rename_i hg
   refine List.nodup_cons.2 ⟨fun hm => ?_, ih⟩
   rcases mem_subFoot_set hm with hm | ⟨hug, hm⟩
   ·exact subFoot_head h hg hm
   ·refine hu hug ?_
    unfold subFoot
    rw [hg]
    exact hm ▸ List.mem_cons_self
theorem mem_subFoot_snoc {l : List Sub} {u : Sub} {k : Nat} (h : k ∈ subFoot (l ++ [u])) : k ∈ subFoot l \/ (u.ghost = false /\ k = u.blk) := by
 obtain ⟨j, s, h1, h2, h3⟩ := mem_subFoot.1 h
 by_cases hj : j < l.length
 ·rw [List.getElem?_append_left hj] at h1
  exact .inl (mem_subFoot.2 ⟨j, s, h1, h2, h3⟩)
 ·have hjl : j = l.length := by
   have := (List.getElem?_eq_some_iff.1 h1).1
   simp at this; omega
  subst hjl
  rw [List.getElem?_concat_length] at h1
  injection h1 with h1
  subst h1
  exact .inr ⟨h2, h3.symm⟩
theorem nodup_subFoot_snoc : ∀ {l : List Sub} {u : Sub}, (subFoot l).Nodup -> (u.ghost = false -> u.blk ∉ subFoot l) -> (subFoot (l ++ [u])).Nodup
 | [], u, _, _ => by
  simp only [List.nil_append]
  unfold subFoot
  split
  ·exact List.nodup_nil
  ·exact List.nodup_cons.2 ⟨List.not_mem_nil, List.nodup_nil⟩
 | a :: l, u, h, hu => by
  have hu' : u.ghost = false -> u.blk ∉ subFoot l := fun hg hm => hu hg (by
   unfold subFoot
   split
   ·exact hm
   ·exact List.mem_cons_of_mem _ hm)
  have ih := nodup_subFoot_snoc (subFoot_tail h) hu'
  simp only [List.cons_append]
  unfold subFoot
  split
  ·exact ih
  ·rename_i hg
   refine List.nodup_cons.2 ⟨fun hm => ?_, ih⟩
   rcases mem_subFoot_snoc hm with hm | ⟨hug, hm⟩
   ·exact subFoot_head h hg hm
   ·refine hu hug ?_
    unfold subFoot
    rw [hg]
    exact hm ▸ List.mem_cons_self

/-! ### a row of its own, and a row of a row of rows -/
theorem repL_ints {kd : IntKind} : ∀ {row : List Int} {xs : List Value}, RepL ρ (row.map (V.int kd)) xs -> xs = row.map (Value.int kd)
 | [], xs, h => by simpa [RepL] using h
 | n :: row, xs, h => by
  simp only [List.map_cons, RepL] at h
  obtain ⟨x, r, rfl, hx, hr⟩ := h
  simp only [Rep] at hx
  rw [hx, repL_ints hr]
  rfl
theorem ints_repL (kd : IntKind) : ∀ row : List Int, RepL ρ (row.map (V.int kd)) (row.map (Value.int kd))
 | [] => by simp [RepL]
 | n :: row => by simp only [List.map_cons, RepL]; exact ⟨_, _, rfl, by simp [Rep], ints_repL kd row⟩
theorem BRel.toSub {p : Place} {kd : IntKind} {row : List Int} {e : TypeId} {w : World} (h : BRel ρ p ⟨.ints kd row, e, .row⟩ w) : SubOf true kd e p.sub row w := by
 rcases h with h | ⟨hg, _, h1, h2⟩ | ⟨hg, cur, hc, hr, hs, ho, _⟩ | ⟨_, h, _⟩ | ⟨_, h, _⟩ | ⟨h, _⟩
 ·cases h
 ·refine .inl ⟨hg, ?_, fun _ => h2 rfl⟩
  simpa [Cells.toVs] using h1
 ·have hr' := repL_ints (by simpa only [Cells.toVs] using hr)
  simp only [List.length_map] at hr'
  have hle : row.length <= cur.length := by
   have := congrArg List.length hr'
   simp only [List.length_take, List.length_map] at this
   omega
  simp only at hs
  refine .inr ⟨hg, cur, e, (0, 0), hc, ?_, by show row.length <= p.cap; omega, fun _ => ⟨rfl, rfl, hs.1, hs.2, ho⟩⟩
  show (cur.drop p.off).take row.length = _
  rw [ho]
  exact hr'
 ·exact absurd h.1 (by simp [Kind.isArg])
 ·cases h
 ·cases h
theorem SubOf.toRow {s : Sub} {kd : IntKind} {row : List Int} {e : TypeId} {w : World} (h : SubOf true kd e s row w) : BRel ρ s.place ⟨.ints kd row, e, .row⟩ w := by
 rcases h with ⟨hg, h1, h2⟩ | ⟨hg, cur, e', fz, hc, hr, hle, ho⟩
 ·subst h1
  exact .inr (.inl ⟨hg, rfl, rfl, fun _ => h2 rfl⟩)
 ·obtain ⟨rfl, rfl, h3, h4, h5⟩ := ho rfl
  rw [h5, List.drop_zero] at hr
  refine .inr (.inr (.inl ⟨hg, cur, hc, ?_, ⟨h3, h4⟩, h5, rfl⟩))
  simp only [Cells.toVs, List.length_map, hr]
  exact ints_repL kd row
theorem SubOf.toArg {own : Bool} {s : Sub} {kd : IntKind} {row : List Int} {e e2 : TypeId} {w : World} (h : SubOf own kd e s row w) : BRel ρ s.place ⟨.ints kd row, e2, .arg 1⟩ w := by
 rcases h with ⟨hg, h1, h2⟩ | ⟨hg, cur, e', fz, hc, hr, hle, ho⟩
 ·subst h1
  exact .inr (.inl ⟨hg, rfl, rfl, fun h => by cases h⟩)
 ·refine .inr (.inr (.inr (.inl ⟨hg, ⟨rfl, rfl⟩, cur, e', fz, hc, ?_, ?_⟩)))
  ·simp only [Cells.toVs, List.length_map]
   show RepL ρ _ ((cur.drop s.off).take row.length)
   rw [hr]
   exact ints_repL kd row
  ·show (row.map (V.int kd)).length <= s.cap * 1
   rw [List.length_map, Nat.mul_one]; exact hle
/-- One block said anew; the world is as it was but for what this lies in. -/
theorem MRel.update {m : List Blk} {w w' : World} (h : MRel ρ m w) {b : Nat} {blk0 blk' : Blk} {p : Place} (hm : m[b]? = some blk0) (hp : ρ[b]? = some p) (hd : blk0.cs.isDead = false) (hg : p.ghost = false) (ha : blk0.kind.isArg = false) (hk : blk'.kind = blk0.kind)
  (hother : ∀ k, k ∉ blk0.foot p -> w'.heap[k]? = w.heap[k]?) (hB : BRel ρ p blk' w') : MRel ρ (m.set b blk') w' := by
 have hbl : b < m.length := (List.getElem?_eq_some_iff.1 hm).1
 have old : ∀ {c : Nat} {blk : Blk}, (m.set b blk')[c]? = some blk -> ∃ blk1, m[c]? = some blk1 /\ (blk.cs.isDead = false -> blk1.cs.isDead = false) /\ (c ≠ b -> blk1 = blk) /\ (c = b -> blk = blk') /\ blk.kind = blk1.kind := by
  intro c blk hc
  rw [List.getElem?_set] at hc
  by_cases hbc : b = c
  ·subst hbc
   simp [hbl] at hc
   exact ⟨_, hm, fun _ => hd, fun h => absurd rfl h, fun _ => hc.symm, by rw [<- hc]; exact hk⟩
  ·simp only [hbc, if_false] at hc
   exact ⟨blk, hc, fun h => h, fun _ => rfl, fun h => absurd h.symm hbc, rfl⟩
 refine ⟨by simp [h.len], fun c blk q hc hq => ?_, fun c c' blk blk1 q q' hc hc' hq hq' hne hdc hdc' hgc hgc' haa => ?_⟩
 ·obtain ⟨b1, h0, hdd, hne, heq, _⟩ := old hc
  by_cases hcb : c = b
  ·subst hcb
   rw [heq rfl]
   have hqp : q = p := by rw [hp] at hq; injection hq with hq; exact hq.symm
   rw [hqp]
   exact hB
  ·have hblk := hne hcb
   subst hblk
   exact (h.blks c _ q h0 hq).keep fun hdc hgc j hj => hother j (h.inj c b _ _ q p h0 hm hq hp hcb hdc hd hgc hg (by simp [ha]) j hj)
 ·obtain ⟨b0, h0, hd0, _, _, hk0⟩ := old hc
  obtain ⟨b0', h0', hd0', _, _, hk0'⟩ := old hc'
  rw [foot_kind q hk0, foot_kind q' hk0']
  exact h.inj c c' b0 b0' q q' h0 h0' hq hq' hne (hd0 hdc) (hd0' hdc') hgc hgc' (by rw [<- hk0, <- hk0']; exact haa)
theorem getD_set_self {α : Type} {l : List α} {i : Nat} (h : i < l.length) (x d : α) : (l.set i x).getD i d = x := by
 simp [List.getD_eq_getElem?_getD, h]
theorem getD_set_other {α : Type} {l : List α} {i j : Nat} (h : i ≠ j) (x d : α) : (l.set i x).getD j d = l.getD j d := by
 simp [List.getD_eq_getElem?_getD, h]

/-! ### a number stored -/
theorem vstoreInr_sound {D : List Deferred} {W : Nat -> Prop} {w0 : World} {ρ0 : List Place} {st : St} {a : Act} {w : World} (hs : SRel D W w0 ρ0 ρ st a w) {t : TypeId} {b i j : Nat} {ax x : Value} {v : V} {k : List Blk -> Prop} (ha : Rep ρ (.iptr b i j) ax) (hx : Rep ρ v x)
  (h : vstoreInr P st.mem t b i j v k) : ∃ m w', k m /\ (Instr.storeAt t ax x).run P w = .ok () w' /\ SRel D W w0 ρ0 ρ { st with mem := m } a w' := by
 simp only [Rep] at ha
 obtain ⟨p, s, hp, hsub, hsg, rfl⟩ := ha
 unfold vstoreInr at h
 split at h
 ·exact h.elim
 ·rename_i blk hb
  obtain ⟨cs, e, r⟩ := blk
  split at h
  ·rename_i kd et l kd' y hr hcs
   simp only at hr hcs
   subst hr; subst hcs
   split at h
   ·exact h.elim
   ·rename_i inf hinf
    split at h
    ·rename_i hc
     obtain ⟨hsz, rfl⟩ := hc
     obtain ⟨⟨hi, hj⟩, h⟩ := h
     simp only [Rep] at hx
     subst hx
     obtain ⟨hlen, hrows, hrow⟩ := hs.mem.matAt hb rfl hp
     obtain ⟨_, hcell, hfz⟩ := (hrows i s hsub).cellAt hj
     have hfz := hfz rfl
     have hg : p.ghost = false := by
      rcases hrow with ⟨_, rfl, _⟩ | ⟨hg, _⟩
      ·simp at hi
      ·exact hg
     obtain ⟨cur, e', fz, hheap, hcur, hown⟩ : ∃ (cur : List Value) (e' : TypeId) (fz : Nat × Nat), w.heap[p.blk]? = some (.cells cur.toArray e' fz) /\ (∀ (i : Nat) (s : Sub), p.subs[i]? = some s -> cur[p.off + i]? = some (s.val (l.getD i []).length)) /\
       (Kind.mat.isArg = false -> e' = e /\ fz = (0, 0) /\ cur.length = p.cap /\ p.cap <= maxLen /\ p.off = 0 /\ (p.blk :: subFoot p.subs).Nodup) := by
      rcases hrow with ⟨h0, _⟩ | ⟨_, h0⟩
      ·rw [hg] at h0; cases h0
      ·exact h0
     obtain ⟨o1, o2, o3, o4, o5, o6⟩ := hown rfl
     have hnd := List.nodup_cons.1 o6
     have hsm : s.blk ∈ subFoot p.subs := mem_subFoot.2 ⟨i, s, hsub, hsg, rfl⟩
     have hother : ∀ k, k ≠ s.blk -> (w.setCell (addrOf s.place j) (.int kd y)).heap[k]? = w.heap[k]? := fun k hk => heap_setCell_other w (addrOf s.place j) k _ hk
     refine ⟨_, w.setCell (addrOf s.place j) (.int kd y), h, ?_, ⟨hs.slots, hs.nodefer, ?_, ?_, fun q hq => hs.own q (names_set hb (fun _ => rfl) (by rfl) hq), hs.pre⟩⟩
     ·have hcells : (Value.int kd y).cells = #[.int kd y] := rfl
      simp only [Instr.storeAt, Instr.sureAddr, Sem.run_bind, Sem.run_pure, Result.andThen_ok, storeVar, sizeOf, run_info hinf, hsz, hcells, List.size_toArray, List.length_cons, List.length_nil, Nat.zero_add, ne_eq, not_true_eq_false, if_false, storeCells, add_addrOf, Nat.add_zero]
      rw [run_store P w _ (.int kd y) _ rfl]
      simp only [hcell, hfz, Bool.false_eq_true, if_false, Result.andThen_ok]
     ·refine hs.mem.update hb hp rfl hg rfl rfl (fun k hk => hother k fun e => hk (by rw [foot_mat rfl, e]; exact List.mem_cons_of_mem _ hsm)) ?_
      refine .inr (.inr (.inr (.inr (.inr ⟨rfl, kd, et, _, rfl, by rw [List.length_set]; exact hlen, fun i' s' hs' => ?_, .inr ⟨hg, cur, e', fz, (hother _ fun e => hnd.1 (by rw [e]; exact hsm)).trans hheap, fun i' s' hs' => ?_, hown⟩⟩))))
      ·by_cases hii : i = i'
       ·subst hii
        rw [hsub] at hs'
        injection hs' with hs'
        subst hs'
        rw [getD_set_self hi]
        rcases hrows i s hsub with ⟨h1, _⟩ | ⟨_, cu, e2, f2, g1, g2, g3, g4⟩
        ·rw [hsg] at h1; cases h1
        ·refine .inr ⟨hsg, cu.set (s.off + j) (.int kd y), e2, f2, ?_, ?_, by rw [List.length_set]; exact g3, fun h => by rw [List.length_set]; exact g4 h⟩
         ·have := heap_set_any (w := w) (g := s.blk) (i := s.off + j) (v := .int kd y) g1
          show (w.setCell (addrOf s.place j) (.int kd y)).heap[s.blk]? = _
          rw [show addrOf s.place j = ⟨s.blk, s.off + j, none⟩ from rfl, this]
          simp
         ·rw [List.length_set, List.map_set, <- g2, List.drop_set, if_neg (by omega), Nat.add_sub_cancel_left, List.take_set]
       ·rw [getD_set_other hii]
        exact (hrows i' s' hs').keep fun hg' => hother _ (subFoot_ne hnd.2 hs' hsub (Ne.symm hii) hg' hsg)
      ·rw [hcur i' s' hs']
       congr 2
       by_cases hii : i = i'
       ·subst hii; rw [getD_set_self hi, List.length_set]
       ·rw [getD_set_other hii]
     ·refine hs.keep.trans ((Keep.setCell (p := s.place) w).mono fun k _ hkp => ?_)
      subst hkp
      exact hs.own _ ⟨b, _, p, hb, hp, rfl, hg, rfl, by rw [foot_mat rfl]; exact List.mem_cons_of_mem _ hsm⟩
    ·exact h.elim
  ·exact h.elim
/-! ### a row stored: the row of rows gets a new name -/
/-- Two places that are told by the same address. -/
structure Like (p q : Place) : Prop where
 blk : p.blk = q.blk
 cap : p.cap = q.cap
 ghost : p.ghost = q.ghost
 off : p.off = q.off
 nil : p.nil = q.nil
theorem Like.addr {p q : Place} (h : Like p q) (o : Nat) : addrOf p o = addrOf q o := by unfold addrOf; rw [h.blk, h.off]
mutual
theorem ren_rep {b N : Nat} {p q : Place} (hb : ρ[b]? = some p) (hN : ρ[N]? = some q) (hl : Like p q) : ∀ {v : V} {x : Value}, Rep ρ v x -> Rep ρ (v.ren b N) x
 | .ptr a o, x, h => by
  simp only [V.ren]
  split
  ·rename_i e
   have e := Nat.eq_of_beq_eq_true e
   subst e
   simp only [Rep] at h ⊢
   obtain ⟨p', h1, h2⟩ := h
   rw [hb] at h1
   injection h1 with h1
   subst h1
   exact ⟨q, hN, by rw [h2, hl.addr]⟩
  ·exact h
 | .row a n, x, h => by
  simp only [V.ren]
  split
  ·rename_i e
   have e := Nat.eq_of_beq_eq_true e
   subst e
   simp only [Rep] at h ⊢
   obtain ⟨p', h1, h2⟩ := h
   rw [hb] at h1
   injection h1 with h1
   subst h1
   refine ⟨q, hN, ?_⟩
   rw [<- hl.ghost, <- hl.nil, <- hl.cap, <- hl.addr]
   exact h2
  ·exact h
 | .agg cs, x, h => by
  simp only [Rep, V.ren] at h ⊢
  obtain ⟨xs, h1, h2⟩ := h
  exact ⟨xs, h1, renL_rep hb hN hl h2⟩
 | .tup cs, x, h => by
  simp only [Rep, V.ren] at h ⊢
  obtain ⟨xs, h1, h2⟩ := h
  exact ⟨xs, h1, renL_rep hb hN hl h2⟩
 | .undef, x, h | .int _ _, x, h | .bool _, x, h | .lit _, x, h | .str _, x, h | .nilp, x, h | .raw _, x, h | .fn _ _, x, h | .mp _, x, h | .arr _ _, x, h | .emp, x, h | .gp _ _, x, h | .elt _ _ _ _, x, h | .sub _ _ _ _, x, h | .inr _ _ _, x, h | .iptr _ _ _, x, h | .view _ _ _ _ _, x, h => h
theorem renL_rep {b N : Nat} {p q : Place} (hb : ρ[b]? = some p) (hN : ρ[N]? = some q) (hl : Like p q) : ∀ {vs : List V} {xs : List Value}, RepL ρ vs xs -> RepL ρ (renL b N vs) xs
 | [], xs, h => h
 | v :: vs, xs, h => by
  simp only [RepL, renL] at h ⊢
  obtain ⟨x, r, h1, h2, h3⟩ := h
  exact ⟨x, r, h1, ren_rep hb hN hl h2, renL_rep hb hN hl h3⟩
end
theorem renL_length (b N : Nat) : ∀ vs : List V, (renL b N vs).length = vs.length
 | [] => rfl
 | v :: vs => by simp [renL, renL_length b N vs]
theorem renCs_len (b N : Nat) (c : Cells) : (c.ren b N).toVs.length = c.toVs.length := by
 cases c <;> simp [Cells.ren, Cells.toVs, renL_length]
theorem renCs_dead (b N : Nat) (c : Cells) : (c.ren b N).isDead = c.isDead := by cases c <;> rfl
theorem renCs_rep {b N : Nat} {p q : Place} (hb : ρ[b]? = some p) (hN : ρ[N]? = some q) (hl : Like p q) {c : Cells} {xs : List Value} (h : RepL ρ c.toVs xs) : RepL ρ (c.ren b N).toVs xs := by
 cases c with
 | vals vs => exact renL_rep hb hN hl h
 | _ => exact h
theorem BRel.ren {b N : Nat} {p q : Place} (hb : ρ[b]? = some p) (hN : ρ[N]? = some q) (hl : Like p q) {u : Place} {blk : Blk} {w : World} (h : BRel ρ u blk w) : BRel ρ u ⟨blk.cs.ren b N, blk.elem, blk.kind⟩ w := by
 rcases h with h | ⟨h1, h2, h3⟩ | ⟨h1, cur, hc, hr, hs, ho⟩ | ⟨h1, ha, cur, e, fz, hc, hr, hroom⟩ | ⟨h1, ha, h0, l, o, hl', hc⟩ | ⟨h1, kd, et, l, hl', h2⟩
 ·exact .inl ((renCs_dead b N _).trans h)
 ·exact .inr (.inl ⟨h1, h2, List.eq_nil_of_length_eq_zero (by show (blk.cs.ren b N).toVs.length = 0; rw [renCs_len, h3.1]; rfl), h3.2⟩)
 ·refine .inr (.inr (.inl ⟨h1, cur, hc, ?_, ?_, ho⟩))
  ·show RepL ρ (blk.cs.ren b N).toVs (cur.take (blk.cs.ren b N).toVs.length)
   rw [renCs_len]
   exact renCs_rep hb hN hl hr
  ·simp only [renCs_len]
   exact hs
 ·refine .inr (.inr (.inr (.inl ⟨h1, ha, cur, e, fz, hc, ?_, ?_⟩)))
  ·show RepL ρ (blk.cs.ren b N).toVs ((cur.drop u.off).take (blk.cs.ren b N).toVs.length)
   rw [renCs_len]
   exact renCs_rep hb hN hl hr
  ·show blk.kind.room u (blk.cs.ren b N).toVs.length
   rw [renCs_len]
   exact hroom
 ·exact .inr (.inr (.inr (.inr (.inl ⟨h1, ha, h0, l, o, by show blk.cs.ren b N = _; rw [hl']; rfl, hc⟩))))
 ·exact .inr (.inr (.inr (.inr (.inr ⟨h1, kd, et, l, by show blk.cs.ren b N = _; rw [hl']; rfl, h2⟩))))
theorem renM_get (b N : Nat) : ∀ (m : List Blk) (i : Nat), (renM b N m)[i]? = (m[i]?).map fun x => ⟨x.cs.ren b N, x.elem, x.kind⟩
 | [], i => by simp [renM]
 | x :: r, 0 => by simp [renM]
 | x :: r, i + 1 => by simpa [renM] using renM_get b N r i
theorem renM_length (b N : Nat) : ∀ m : List Blk, (renM b N m).length = m.length
 | [] => rfl
 | x :: r => by simp [renM, renM_length b N r]
theorem renM_append (b N : Nat) : ∀ m m' : List Blk, renM b N (m ++ m') = renM b N m ++ renM b N m'
 | [], m' => rfl
 | x :: r, m' => by simp [renM, renM_append b N r m']
theorem renM_some {b N : Nat} {m : List Blk} {i : Nat} {blk : Blk} (h : (renM b N m)[i]? = some blk) : ∃ b0, m[i]? = some b0 /\ blk = ⟨b0.cs.ren b N, b0.elem, b0.kind⟩ := by
 rw [renM_get] at h
 cases hm : m[i]? with
 | none => rw [hm] at h; cases h
 | some b0 => rw [hm] at h; injection h with h; exact ⟨b0, rfl, h.symm⟩
theorem MRel.ren {b N : Nat} {p q : Place} (hb : ρ[b]? = some p) (hN : ρ[N]? = some q) (hl : Like p q) {m : List Blk} {w : World} (h : MRel ρ m w) : MRel ρ (renM b N m) w := by
 refine ⟨by rw [renM_length]; exact h.len, fun c blk u hc hu => ?_, fun c c' blk blk' u u' hc hc' hu hu' hne hd hd' hg hg' ha => ?_⟩
 ·obtain ⟨b0, h0, rfl⟩ := renM_some hc
  exact (h.blks c b0 u h0 hu).ren hb hN hl
 ·obtain ⟨b0, h0, rfl⟩ := renM_some hc
  obtain ⟨b0', h0', rfl⟩ := renM_some hc'
  exact h.inj c c' b0 b0' u u' h0 h0' hu hu' hne ((renCs_dead b N _).symm.trans hd) ((renCs_dead b N _).symm.trans hd') hg hg' ha
theorem names_ren {b N : Nat} {m : List Blk} {j : Nat} (h : Names ρ (renM b N m) j) : Names ρ m j := by
 obtain ⟨c, blk, u, hc, hu, hd, hg, hq, hj⟩ := h
 obtain ⟨b0, h0, rfl⟩ := renM_some hc
 exact ⟨c, b0, u, h0, hu, (renCs_dead b N _).symm.trans hd, hg, hq, hj⟩
theorem names_kill2 {Q : Blk -> Prop} {m : List Blk} {b : Nat} {e : TypeId} {kd : Kind} {k : Nat} (h : NamesP Q ρ (m.set b ⟨.dead, e, kd⟩) k) : NamesP Q ρ m k := by
 obtain ⟨c, bl, q, hc, hq, hdc, hg, hQ, hkf⟩ := h
 rw [List.getElem?_set] at hc
 split at hc
 ·split at hc
  ·injection hc with hc; subst hc; cases hdc
  ·cases hc
 ·exact ⟨c, bl, q, hc, hq, hdc, hg, hQ, hkf⟩
theorem Sub.val_row {p : Place} {c n : Nat} {x : Value} (hp : ρ[c]? = some p) (h : Rep ρ (.row c n) x) : x = p.sub.val n /\ (p.ghost = true -> n = 0) := by
 obtain ⟨q, hq, hf⟩ := row_form h
 rw [hp] at hq
 injection hq with hq
 subst hq
 unfold Sub.val
 rcases hf with ⟨hg, hn, rfl⟩ | ⟨hg, rfl⟩
 ·have : p.sub.ghost = true := hg
  rw [this]
  exact ⟨rfl, fun _ => hn⟩
 ·have : p.sub.ghost = false := hg
  rw [this]
  exact ⟨rfl, fun h => by rw [hg] at h; cases h⟩
theorem vstoreRow_sound {D : List Deferred} {W : Nat -> Prop} {w0 : World} {ρ0 : List Place} {st : St} {a : Act} {w : World} (hs : SRel D W w0 ρ0 ρ st a w) {t : TypeId} {b i : Nat} {ax x : Value} {v : V} {k : St -> Prop} (ha : Rep ρ (.ptr b i) ax) (hx : Rep ρ v x)
  (h : vstoreRow P st t b i v k) : ∃ st' w' ρ', k st' /\ (Instr.storeAt t ax x).run P w = .ok () w' /\ SRel D W w0 ρ0 ρ' st' a w' := by
 obtain ⟨p, hp, rfl⟩ := ptr_at b i ha
 unfold vstoreRow at h
 split at h
 ·rename_i c n
  split at h
  ·rename_i kd et l e kd' row e' inf hb hc hinf
   split at h
   ·rename_i hcond
    obtain ⟨rfl, rfl, hsz⟩ := hcond
    obtain ⟨⟨hi, hn⟩, h⟩ := h
    obtain ⟨hlen, hrows, hrow⟩ := hs.mem.matAt hb rfl hp
    have hcl : c < ρ.length := by rw [hs.mem.len]; exact (List.getElem?_eq_some_iff.1 hc).1
    have hpc : ρ[c]? = some ρ[c] := List.getElem?_eq_getElem hcl
    generalize ρ[c] = pc at hpc
    obtain ⟨rfl, hcg⟩ := Sub.val_row hpc hx
    have hcB := hs.mem.blks c _ pc hc hpc
    have hsubc := hcB.toSub
    have hbc : b ≠ c := fun e0 => by rw [e0, hc] at hb; cases hb
    have hg : p.ghost = false := by
     rcases hrow with ⟨_, rfl, _⟩ | ⟨hg, _⟩
     ·simp at hi
     ·exact hg
    obtain ⟨cur, e2, fz, hheap, hcur, hown⟩ : ∃ (cur : List Value) (e' : TypeId) (fz : Nat × Nat), w.heap[p.blk]? = some (.cells cur.toArray e' fz) /\ (∀ (i : Nat) (s : Sub), p.subs[i]? = some s -> cur[p.off + i]? = some (s.val (l.getD i []).length)) /\
      (Kind.mat.isArg = false -> e' = e /\ fz = (0, 0) /\ cur.length = p.cap /\ p.cap <= maxLen /\ p.off = 0 /\ (p.blk :: subFoot p.subs).Nodup) := by
     rcases hrow with ⟨h0, _⟩ | ⟨_, h0⟩
     ·rw [hg] at h0; cases h0
     ·exact h0
    obtain ⟨o1, o2, o3, o4, o5, o6⟩ := hown rfl
    rw [o1, o2] at hheap
    have hnd := List.nodup_cons.1 o6
    -- the row's block is no block of the row of rows
    have hapart : pc.ghost = false -> pc.blk ∉ p.blk :: subFoot p.subs := fun hpg => by
     have := hs.mem.inj c b _ _ pc p hc hb hpc hp (Ne.symm hbc) rfl rfl hpg hg rfl pc.blk (foot_head _ _)
     rwa [foot_mat rfl] at this
    have hother : ∀ q, q ≠ p.blk -> (w.setCell (addrOf p i) (pc.sub.val n)).heap[q]? = w.heap[q]? := fun q hq => heap_setCell_other w (addrOf p i) q _ hq
    have hone : (pc.sub.val n).oneCell' = true := by unfold Sub.val; split <;> rfl
    have hcells : (pc.sub.val n).cells = #[pc.sub.val n] := by unfold Sub.val; split <;> rfl
    have hsi : p.subs[i]? = some (p.subs[i]'(by omega)) := List.getElem?_eq_getElem _
    have hat := hcur i _ hsi
    rw [o5, Nat.zero_add] at hat
    -- the memory without both
    let m1 := (st.mem.set b ⟨.dead, e, .mat⟩).set c ⟨.dead, et, .row⟩
    have hm1 : MRel ρ m1 w := (hs.mem.kill b e .mat).kill c et .row
    have hr1 : ∀ q, Reads ρ m1 q -> q ≠ p.blk /\ q ∉ p.blk :: subFoot p.subs /\ (pc.ghost = false -> q ≠ pc.blk) := fun q hq => by
     have h1 := names_kill2 hq
     have h2 := (names_kill hs.mem hb hp rfl rfl h1).2 hg
     rw [foot_mat rfl] at h2
     refine ⟨fun e0 => h2 (by rw [e0]; exact List.mem_cons_self), h2, fun hpg e0 => ?_⟩
     have hm' : (st.mem.set b ⟨.dead, e, .mat⟩)[c]? = some ⟨.ints kd row, et, .row⟩ := by rw [List.getElem?_set_ne hbc]; exact hc
     have h3 := (names_kill (hs.mem.kill b e .mat) hm' hpc rfl rfl hq).2 hpg
     exact h3 (by rw [e0]; exact foot_head _ _)
    let p' : Place := ⟨p.blk, p.cap, false, 0, p.nil, p.subs.set i pc.sub⟩
    have hlike : Like p p' := ⟨rfl, rfl, hg, o5, rfl⟩
    have hfoot : ∀ q, q ∈ p'.blk :: subFoot p'.subs -> q ∈ p.blk :: subFoot p.subs \/ (pc.ghost = false /\ q = pc.blk) := fun q hq => by
     rcases List.mem_cons.1 hq with rfl | hq
     ·exact .inl List.mem_cons_self
     ·rcases mem_subFoot_set hq with hq | ⟨h1, h2⟩
      ·exact .inl (List.mem_cons_of_mem _ hq)
      ·exact .inr ⟨h1, h2⟩
    have hnd' : (p'.blk :: subFoot p'.subs).Nodup := by
     refine List.nodup_cons.2 ⟨fun hm => ?_, nodup_subFoot_set hnd.2 fun hpg hm => hapart hpg (List.mem_cons_of_mem _ hm)⟩
     rcases mem_subFoot_set hm with hm | ⟨h1, h2⟩
     ·exact hnd.1 hm
     ·have h2' : p.blk = pc.blk := h2
      exact hapart h1 (by rw [<- h2']; exact List.mem_cons_self)
    let w' := w.setCell (addrOf p i) (pc.sub.val n)
    have hB : BRel (ρ ++ [p']) p' ⟨.mat kd et (l.set i row), e, .mat⟩ w' := by
     refine .inr (.inr (.inr (.inr (.inr ⟨rfl, kd, et, _, rfl, by show (p.subs.set i pc.sub).length = _; rw [List.length_set, List.length_set]; exact hlen, fun i' s' hs' => ?_, .inr ⟨rfl, cur.set i (pc.sub.val n), e, (0, 0), ?_, fun i' s' hs' => ?_, fun _ => ⟨rfl, rfl, by rw [List.length_set]; exact o3, o4, rfl, hnd'⟩⟩⟩))))
     ·replace hs' : (p.subs.set i pc.sub)[i']? = some s' := hs'
      by_cases hii : i = i'
      ·subst hii
       rw [List.getElem?_set_self (by omega)] at hs'
       injection hs' with hs'
       subst hs'
       rw [getD_set_self hi]
       exact hsubc.keep fun hpg => hother _ fun e0 => hapart hpg (by show pc.sub.blk ∈ _; exact e0 ▸ List.mem_cons_self)
      ·rw [List.getElem?_set_ne hii] at hs'
       rw [getD_set_other hii]
       exact (hrows i' s' hs').keep fun hg' => hother _ fun e0 => hnd.1 (by rw [<- e0]; exact mem_subFoot.2 ⟨i', s', hs', hg', rfl⟩)
     ·have := heap_set_any (w := w) (g := p.blk) (i := i) (v := pc.sub.val n) hheap
      show (w.setCell (addrOf p i) (pc.sub.val n)).heap[p.blk]? = _
      rw [addrOf_own o5, this]
      simp
     ·replace hs' : (p.subs.set i pc.sub)[i']? = some s' := hs'
      show (cur.set i (pc.sub.val n))[0 + i']? = _
      rw [Nat.zero_add]
      by_cases hii : i = i'
      ·subst hii
       rw [List.getElem?_set_self (by omega)] at hs'
       injection hs' with hs'
       subst hs'
       rw [List.getElem?_set_self (List.getElem?_eq_some_iff.1 hat).1, getD_set_self hi, hn]
      ·rw [List.getElem?_set_ne hii] at hs'
       rw [List.getElem?_set_ne hii, getD_set_other hii]
       have := hcur i' s' hs'
       rwa [o5, Nat.zero_add] at this
    have hadd := hm1.add (w' := w') (fun q hq => hother q (hr1 q hq).1) (p := p') (blk := ⟨.mat kd et (l.set i row), e, .mat⟩) (fun _ q hq hN => by
     rw [foot_mat rfl] at hq
     rcases hfoot q hq with h1 | ⟨h1, h2⟩
     ·exact (hr1 q hN).2.1 h1
     ·exact (hr1 q hN).2.2 h1 h2) hB
    have hm1l : m1.length = st.mem.length := by simp [m1]
    have hpre : ρ <+: ρ ++ [p'] := List.prefix_append _ _
    have hbρ : (ρ ++ [p'])[b]? = some p := getElem?_pre hpre hp
    have hNρ : (ρ ++ [p'])[st.mem.length]? = some p' := by rw [<- hs.mem.len, List.getElem?_concat_length]
    have hren := hadd.ren hbρ hNρ hlike
    rw [renM_append] at hren
    refine ⟨_, w', ρ ++ [p'], h, ?_, ⟨renL_rep hbρ hNρ hlike (hs.slots.mono hpre), hs.nodefer, hren, ?_, fun q hq => ?_, hs.pre.trans hpre⟩⟩
    ·have hfz : w.frozen? (addrOf p i) = false := by
      rw [addrOf_own o5]
      exact frozen_frz (k := .box) hheap (List.getElem?_eq_some_iff.1 hat).1
     have hcell : w.cell? (addrOf p i) = some ((p.subs[i]'(by omega)).val (l.getD i []).length) := by
      rw [addrOf_own o5, cell_of_row w p.blk i cur.toArray e _ hheap]
      simpa using hat
     simp only [Instr.storeAt, Instr.sureAddr, Sem.run_bind, Sem.run_pure, Result.andThen_ok, storeVar, sizeOf, run_info hinf, hsz, hcells, List.size_toArray, List.length_cons, List.length_nil, Nat.zero_add, ne_eq, not_true_eq_false, if_false, storeCells, add_addrOf, Nat.add_zero]
     rw [run_store P w _ _ _ hone]
     simp only [hcell, hfz, Bool.false_eq_true, if_false, Result.andThen_ok]
     rfl
    ·refine hs.keep.trans ((Keep.setCell (p := p) w).mono fun q _ hq => ?_)
     subst hq
     exact hs.own _ ⟨b, _, p, hb, hp, rfl, hg, rfl, foot_head _ _⟩
    ·have hq' : Names (ρ ++ [p']) (renM b st.mem.length (m1 ++ [⟨.mat kd et (l.set i row), e, .mat⟩])) q := by rw [renM_append]; exact hq
     obtain ⟨c', bl, u, h1, h2, h3, h4, h5, h6⟩ := names_ren hq'
     by_cases hlt : c' < m1.length
     ·rw [List.getElem?_append_left hlt] at h1
      rw [List.getElem?_append_left (by rw [hs.mem.len, <- hm1l]; exact hlt)] at h2
      exact hs.own _ (names_kill2 (names_kill2 ⟨c', bl, u, h1, h2, h3, h4, h5, h6⟩))
     ·have hcl' : c' = m1.length := by
       have := (List.getElem?_eq_some_iff.1 h1).1
       simp at this; omega
      subst hcl'
      rw [List.getElem?_concat_length] at h1
      rw [hm1l, hNρ] at h2
      injection h1 with h1
      injection h2 with h2
      subst h1; subst h2
      rw [foot_mat rfl] at h6
      rcases hfoot q h6 with h7 | ⟨h7, rfl⟩
      ·exact hs.own _ ⟨b, _, p, hb, hp, rfl, hg, rfl, by rw [foot_mat rfl]; exact h7⟩
      ·exact hs.own _ ⟨c, _, pc, hc, hpc, rfl, h7, rfl, foot_head _ _⟩
   ·exact h.elim
  ·exact h.elim
 ·exact h.elim
/-! ### a row appended -/
theorem matAppend {D : List Deferred} {W : Nat -> Prop} {w0 : World} {ρ0 : List Place} {st : St} {a : Act} {w : World} (hs : SRel D W w0 ρ0 ρ st a w) {t ty e et : TypeId} {i : TypeInfo} {z : Value} (ht : P.underlying t = some (.slice e)) (hi : P.info? e = some i) (hz : i.zero = some z)
  (hzs : z.cells.size = 1) (hsz : i.size = 1) (hby : i.bytes <= 64) {sv xv : Value} {n c m b1 : Nat} {e1 : TypeId} {kd : IntKind} {row : List Int} {pc : Place} (hx : Rep ρ (.row b1 1) xv) (hb1 : st.mem[b1]? = some ⟨.vals [.row c m], e1, .row⟩)
  (hc : st.mem[c]? = some ⟨.ints kd row, et, .row⟩) (hpc : ρ[c]? = some pc) (hm : row.length = m)
  {mem1 : List Blk} (hm1 : MRel ρ mem1 w) (hn1 : ∀ k, Names ρ mem1 k -> Names ρ st.mem k) {xs : List Value} {subs : List Sub} {l : List (List Int)} (hown : w.ownsRow 0 e 1 sv n xs) (hl1 : subs.length = n) (hl2 : l.length = n) (hsmall : n + 1 <= 1000000000)
  (hrows : ∀ (i : Nat) (s : Sub), subs[i]? = some s -> SubOf true kd et s (l.getD i []) w) (hxs : ∀ (i : Nat) (s : Sub), subs[i]? = some s -> xs[i]? = some (s.val (l.getD i []).length))
  (hF1 : ∀ q, (sv.ownBlock = some q \/ q ∈ subFoot subs \/ (pc.ghost = false /\ q = pc.blk)) -> Names ρ st.mem q /\ ¬ Reads ρ mem1 q) (hD1 : ∀ q, sv.ownBlock = some q -> q ∉ subFoot subs /\ (pc.ghost = false -> q ≠ pc.blk)) (hD2 : pc.ghost = false -> pc.blk ∉ subFoot subs) (hD3 : (subFoot subs).Nodup) (d : Option Tmp) :
  ∃ v' w' ρ', (Builtin.append_ #[t, t] ty #[sv, xv]).run P w = .ok v' w' /\ SRel D W w0 ρ0 ρ' (St.put { st with mem := mem1 ++ [⟨.mat kd et (l ++ [row]), e, .mat⟩] } d (.row mem1.length (n + 1))) (a.put d v') w' := by
 obtain ⟨p1, hp1, hf1⟩ := row_form hx
 rcases hf1 with ⟨_, h0, _⟩ | ⟨hg1, rfl⟩
 ·cases h0
 obtain ⟨y, hy, hry, _⟩ := hs.mem.cell hb1 hp1 (i := 0) (v := .row c m) rfl
 obtain ⟨rfl, hcg⟩ := Sub.val_row hpc hry
 have hsubc := (hs.mem.blks c _ pc hc hpc).toSub
 have hone : (pc.sub.val m).oneCell' = true := by unfold Sub.val; split <;> rfl
 obtain ⟨v', w', hrun, hown', hgrow, hnil, hat⟩ := run_append_own_at (P := P) w 0 t ty e i z i.size i.bytes ht hi hz rfl rfl (by rw [hzs, hsz]) (by omega) sv n xs (by rw [hsz]; exact hown) (addrOf p1 0) 1 p1.cap [pc.sub.val m] (by rw [hsz]; rfl)
  (fun j u hu => by
   cases j with
   | zero =>
    simp only [List.getElem?_cons_zero, Option.some.injEq] at hu
    rw [add_addrOf, <- hu]
    exact hy
   | succ j => simp at hu)
  (fun u hu => by
   rw [List.mem_singleton] at hu
   rw [hu]; exact hone)
  (by unfold maxLen; omega) (by
   have : (n + 1) * i.bytes <= 1000000000 * 64 := Nat.mul_le_mul hsmall hby
   omega) (Nat.zero_le _)
 have hv' : v' ≠ .slice none 0 0 := fun h => by have := (hnil.1 h).2; omega
 rcases hown'.2 with ⟨h, _⟩ | ⟨g, cap, cur, rfl, _, hheap, hncap, hcap, hsize, htake⟩
 ·exact absurd h hv'
 rw [hsz, Nat.mul_one] at hsize htake
 have hgat : sv.ownBlock = some g \/ g = w.heap.size := by
  rcases hat with h | h
  ·exact .inl (h.symm.trans rfl)
  ·exact .inr (by simpa [Value.ownBlock] using h)
 have hsame : ∀ q, Names ρ st.mem q -> (sv.ownBlock = some q -> False) -> w'.heap[q]? = w.heap[q]? := fun q hq hno => hgrow.block q (hs.mem.ltP hq) fun h => hno h.symm
 have hkeepW : Keep (fun k => sv.ownBlock = some k) w w' := ⟨hgrow.os, hgrow.tape, hgrow.output, hgrow.size, fun k hk hn => hgrow.block k hk (fun h => hn h.symm)⟩
 let p' : Place := ⟨g, cap, false, 0, none, subs ++ [pc.sub]⟩
 have hpre : ρ <+: ρ ++ [p'] := List.prefix_append _ _
 have hfresh : ∀ q, Names ρ st.mem q -> q ≠ w.heap.size := fun q hq e0 => by
  have := hs.mem.ltP hq
  omega
 have hfoot : ∀ q, q ∈ g :: subFoot (subs ++ [pc.sub]) -> q = w.heap.size \/ (sv.ownBlock = some q \/ q ∈ subFoot subs \/ (pc.ghost = false /\ q = pc.blk)) := fun q hq => by
  rcases List.mem_cons.1 hq with rfl | hq
  ·rcases hgat with h | h
   ·exact .inr (.inl h)
   ·exact .inl h
  ·rcases mem_subFoot_snoc hq with h | ⟨h1, h2⟩
   ·exact .inr (.inr (.inl h))
   ·exact .inr (.inr (.inr ⟨h1, h2⟩))
 have hnd' : (g :: subFoot (subs ++ [pc.sub])).Nodup := by
  refine List.nodup_cons.2 ⟨fun hm => ?_, nodup_subFoot_snoc hD3 hD2⟩
  rcases mem_subFoot_snoc hm with hm | ⟨h1, h2⟩
  ·rcases hgat with h | h
   ·exact (hD1 g h).1 hm
   ·exact hfresh g (hF1 g (.inr (.inl hm))).1 h
  ·replace h2 : g = pc.blk := h2
   rcases hgat with h | h
   ·exact (hD1 g h).2 h1 h2
   ·exact hfresh g (hF1 g (.inr (.inr ⟨h1, h2⟩))).1 h
 have hgetl : ∀ j, j < n -> (l ++ [row]).getD j [] = l.getD j [] := fun j hj => by
  simp only [List.getD_eq_getElem?_getD]
  rw [List.getElem?_append_left (by omega)]
 have hgetn : (l ++ [row]).getD n [] = row := by
  simp only [List.getD_eq_getElem?_getD]
  rw [<- hl2, List.getElem?_concat_length]
  rfl
 have hxl : xs.length = n := by have := hown.1; omega
 have hB : BRel (ρ ++ [p']) p' ⟨.mat kd et (l ++ [row]), e, .mat⟩ w' := by
  refine .inr (.inr (.inr (.inr (.inr ⟨rfl, kd, et, _, rfl, by show (subs ++ [pc.sub]).length = (l ++ [row]).length; simp [hl1, hl2], fun j s hsj => ?_, .inr ⟨rfl, cur.toList, e, (0, 0), by show w'.heap[g]? = _; rw [Array.toArray_toList]; exact hheap, fun j s hsj => ?_, fun _ => ⟨rfl, rfl, by simpa using hsize, hcap, rfl, hnd'⟩⟩⟩))))
  ·replace hsj : (subs ++ [pc.sub])[j]? = some s := hsj
   by_cases hj : j < n
   ·rw [List.getElem?_append_left (by omega)] at hsj
    rw [hgetl j hj]
    exact (hrows j s hsj).keep fun hg => hsame _ (hF1 _ (.inr (.inl (mem_subFoot.2 ⟨j, s, hsj, hg, rfl⟩)))).1 fun h => (hD1 _ h).1 (mem_subFoot.2 ⟨j, s, hsj, hg, rfl⟩)
   ·have hjn : j = n := by
     have := (List.getElem?_eq_some_iff.1 hsj).1
     simp at this; omega
    subst hjn
    rw [<- hl1, List.getElem?_concat_length] at hsj
    injection hsj with hsj
    subst hsj
    rw [hgetn]
    exact hsubc.keep fun hg => hsame _ (hF1 _ (.inr (.inr ⟨hg, rfl⟩))).1 fun h => (hD1 _ h).2 hg rfl
  ·replace hsj : (subs ++ [pc.sub])[j]? = some s := hsj
   show cur.toList[0 + j]? = _
   rw [Nat.zero_add]
   have hjl : j < n + 1 := by
    have := (List.getElem?_eq_some_iff.1 hsj).1
    simp at this; omega
   have hcj : cur.toList[j]? = (xs ++ [pc.sub.val m])[j]? := by
    rw [<- htake, List.getElem?_take, if_pos hjl]
   rw [hcj]
   by_cases hj : j < n
   ·rw [List.getElem?_append_left (by omega)] at hsj
    rw [List.getElem?_append_left (by omega), hgetl j hj]
    exact hxs j s hsj
   ·have hjn : j = n := by omega
    subst hjn
    rw [<- hl1, List.getElem?_concat_length] at hsj
    injection hsj with hsj
    subst hsj
    rw [hgetn, hm]
    rw [<- hxl, List.getElem?_concat_length]
 have hmem := hm1.add (w' := w') (p := p') (blk := ⟨.mat kd et (l ++ [row]), e, .mat⟩) (fun q hq => hgrow.block q (hm1.lt hq) (fun h => (hF1 q (.inl h.symm)).2 hq)) (fun _ q hq hN => by
   rw [foot_mat rfl] at hq
   rcases hfoot q hq with h | h
   ·have := hm1.lt hN; omega
   ·exact (hF1 q h).2 hN) hB
 refine ⟨_, w', ρ ++ [p'], hrun, ?_⟩
 refine SRel.put (st := { st with mem := mem1 ++ [⟨.mat kd et (l ++ [row]), e, .mat⟩] }) ⟨hs.slots.mono hpre, hs.nodefer, hmem, hs.keep.trans (hkeepW.mono fun q _ hq => hs.own q (hF1 q (.inl hq)).1), fun j hj => ?_, hs.pre.trans hpre⟩ _ ?_
 ·obtain ⟨c', bl, q, h1, hq, hd, hg, hQ, hjf⟩ := hj
  by_cases hlt : c' < mem1.length
  ·rw [List.getElem?_append_left hlt] at h1
   rw [List.getElem?_append_left (by rw [hm1.len]; exact hlt)] at hq
   exact hs.own _ (hn1 _ ⟨c', bl, q, h1, hq, hd, hg, hQ, hjf⟩)
  ·have hcl : c' = mem1.length := by
    have := (List.getElem?_eq_some_iff.1 h1).1
    simp at this; omega
   subst hcl
   rw [List.getElem?_concat_length] at h1
   rw [<- hm1.len, List.getElem?_concat_length] at hq
   injection hq with hq
   injection h1 with h1
   subst hq; subst h1
   rw [foot_mat rfl] at hjf
   rcases hfoot j hjf with h | h
   ·exact .inr (by rw [h]; exact hs.keep.size)
   ·exact hs.own _ (hF1 j h).1
 ·simp only [Rep]
  exact ⟨p', by rw [<- hm1.len, List.getElem?_concat_length], .inr ⟨rfl, rfl⟩⟩
theorem matArg_spec {mem : List Blk} {x : V} {c m : Nat} (h : matArg mem x = some (c, m)) : ∃ b1 e1, x = .row b1 1 /\ mem[b1]? = some ⟨.vals [.row c m], e1, .row⟩ := by
 unfold matArg at h
 split at h
 ·rename_i b n
  split at h
  ·rename_i c' m' e hb
   split at h
   ·rename_i hn
    have hn := Nat.eq_of_beq_eq_true hn
    subst hn
    injection h with h
    injection h with h1 h2
    subst h1; subst h2
    exact ⟨b, e, rfl, hb⟩
   ·cases h
  ·cases h
 ·cases h
theorem vappendMat_sound {D : List Deferred} {W : Nat -> Prop} {w0 : World} {ρ0 : List Place} {st : St} {a : Act} {w : World} (hs : SRel D W w0 ρ0 ρ st a w) {t ty : TypeId} {s x : V} {c m : Nat} {sv xv : Value} (hs1 : Rep ρ s sv) (hx : Rep ρ x xv) (hma : matArg st.mem x = some (c, m)) {k : Nat -> List Blk -> Prop}
  (h : vappendMat P t st.mem s c m k) (d : Option Tmp) :
  ∃ n mem v' w' ρ', k n mem /\ (Builtin.append_ #[t, t] ty #[sv, xv]).run P w = .ok v' w' /\ SRel D W w0 ρ0 ρ' (St.put { st with mem := mem } d (.row st.mem.length n)) (a.put d v') w' := by
 obtain ⟨b1, e1, rfl, hb1⟩ := matArg_spec hma
 unfold vappendMat at h
 split at h
 ·rename_i kd row e' e hc ht
  have hcl : c < ρ.length := by rw [hs.mem.len]; exact (List.getElem?_eq_some_iff.1 hc).1
  have hpc : ρ[c]? = some ρ[c] := List.getElem?_eq_getElem hcl
  generalize ρ[c] = pc at hpc
  split at h
  ·rename_i i et hi he
   split at h
   ·rename_i z hz
    split at h
    ·rename_i b n
     split at h
     ·rename_i kd' et' l eb hb
      split at h
      ·rename_i hcond
       obtain ⟨rfl, rfl, rfl, rfl, hsz, hby, hzs⟩ := hcond
       obtain ⟨⟨hm, hl, hsmall⟩, h⟩ := h
       have hbc : b ≠ c := fun e0 => by rw [e0, hc] at hb; cases hb
       obtain ⟨p, hp, hf⟩ := row_form hs1
       obtain ⟨hlen, hrows, hrow⟩ := hs.mem.matAt hb rfl hp
       let m1 := (st.mem.set b ⟨.dead, eb, .mat⟩).set c ⟨.dead, e', .row⟩
       have hm1 : MRel ρ m1 w := (hs.mem.kill b eb .mat).kill c e' .row
       have hm1l : m1.length = st.mem.length := by simp [m1]
       have hcr : ∀ q, Reads ρ m1 q -> pc.ghost = false -> q ≠ pc.blk := fun q hq hpg e0 => by
        have hm' : (st.mem.set b ⟨.dead, eb, .mat⟩)[c]? = some ⟨.ints kd row, e', .row⟩ := by rw [List.getElem?_set_ne hbc]; exact hc
        have h3 := (names_kill (hs.mem.kill b eb .mat) hm' hpc rfl rfl hq).2 hpg
        exact h3 (by rw [e0]; exact foot_head _ _)
       have hNc : pc.ghost = false -> Names ρ st.mem pc.blk := fun hpg => ⟨c, _, pc, hc, hpc, rfl, hpg, rfl, foot_head _ _⟩
       have fin : ∀ (xs : List Value), w.ownsRow 0 eb 1 sv n xs -> (∀ (i : Nat) (s : Sub), p.subs[i]? = some s -> xs[i]? = some (s.val (l.getD i []).length)) -> (∀ q, (sv.ownBlock = some q \/ q ∈ subFoot p.subs) -> q ∈ p.blk :: subFoot p.subs /\ p.ghost = false) ->
         (∀ q, sv.ownBlock = some q -> q ∉ subFoot p.subs) -> (subFoot p.subs).Nodup -> ∃ n mem v' w' ρ', k n mem /\ (Builtin.append_ #[t, t] ty #[sv, xv]).run P w = .ok v' w' /\ SRel D W w0 ρ0 ρ' (St.put { st with mem := mem } d (.row st.mem.length n)) (a.put d v') w' := fun xs hown hxs hin hD hnd => by
        have hFb : ∀ q, (sv.ownBlock = some q \/ q ∈ subFoot p.subs) -> Names ρ st.mem q /\ ¬ Reads ρ m1 q /\ (pc.ghost = false -> q ≠ pc.blk) := fun q hq => by
         obtain ⟨h1, h2⟩ := hin q hq
         have hqf : q ∈ (⟨.mat kd e' l, eb, .mat⟩ : Blk).foot p := by rw [foot_mat rfl]; exact h1
         refine ⟨⟨b, _, p, hb, hp, rfl, h2, rfl, hqf⟩, fun hN => (names_kill hs.mem hb hp rfl rfl (names_kill2 hN)).2 h2 hqf, fun hpg e0 => ?_⟩
         exact hs.mem.inj b c _ _ p pc hb hc hp hpc hbc rfl rfl h2 hpg rfl q hqf (by rw [e0]; exact foot_head _ _)
        obtain ⟨v', w', ρ', r1, r2⟩ := matAppend (P := P) (ty := ty) hs ht hi hz hzs hsz hby hx hb1 hc hpc hm hm1 (fun q hq => names_kill2 (names_kill2 hq)) hown (by omega) hl (by omega) hrows hxs
         (fun q hq => by
          rcases hq with hq | hq | ⟨h1, rfl⟩
          ·exact ⟨(hFb q (.inl hq)).1, (hFb q (.inl hq)).2.1⟩
          ·exact ⟨(hFb q (.inr hq)).1, (hFb q (.inr hq)).2.1⟩
          ·exact ⟨hNc h1, fun hN => hcr _ hN h1 rfl⟩)
         (fun q hq => ⟨hD q hq, (hFb q (.inl hq)).2.2⟩) (fun hpg hm => (hFb _ (.inr hm)).2.2 hpg rfl) hnd d
        rw [hm1l] at r2
        exact ⟨_, _, v', w', ρ', h, r1, r2⟩
       rcases hrow with ⟨hg, hl0, hnn⟩ | ⟨hg, cur, e2, fz, hheap, hcur, hown⟩
       ·subst hl0
        rcases hf with ⟨_, hn0, hsv⟩ | ⟨h1, _⟩
        ·subst hn0
         obtain ⟨z1, z2⟩ := hnn rfl
         rw [z1, z2] at hsv
         subst hsv
         have hsubs : p.subs = [] := List.eq_nil_of_length_eq_zero hlen
         exact fin [] (World.ownsRow_nil w 0 eb 1) (fun i s hs => by rw [hsubs] at hs; simp at hs) (fun q hq => by rw [hsubs] at hq; simp [Value.ownBlock, subFoot] at hq) (fun q hq => by simp [Value.ownBlock] at hq) (by rw [hsubs]; exact List.nodup_nil)
        ·rw [hg] at h1; cases h1
       ·rcases hf with ⟨h1, _⟩ | ⟨_, rfl⟩
        ·rw [hg] at h1; cases h1
        ·obtain ⟨o1, o2, o3, o4, o5, o6⟩ := hown rfl
         rw [o1, o2] at hheap
         have hnd := List.nodup_cons.1 o6
         have hcl : n <= cur.length := by
          rcases Nat.eq_zero_or_pos n with h0 | h0
          ·omega
          ·have hs' := List.getElem?_eq_getElem (show n - 1 < p.subs.length by omega)
           have := hcur _ _ hs'
           rw [o5, Nat.zero_add] at this
           have := (List.getElem?_eq_some_iff.1 this).1
           omega
         refine fin (cur.take n) ⟨by rw [List.length_take]; omega, .inr ⟨p.blk, p.cap, cur.toArray, by rw [addrOf_own o5], Nat.zero_le _, hheap, by omega, o4, by simpa using o3, by simp⟩⟩ (fun i s hs' => ?_) (fun q hq => ?_) (fun q hq => ?_) hnd.2
         ·have hin : i < n := by have := (List.getElem?_eq_some_iff.1 hs').1; omega
          have := hcur i s hs'
          rw [o5, Nat.zero_add] at this
          rw [List.getElem?_take, if_pos hin]
          exact this
         ·refine ⟨?_, hg⟩
          rcases hq with hq | hq
          ·simp only [Value.ownBlock, addrOf, Option.some.injEq] at hq
           rw [<- hq]; exact List.mem_cons_self
          ·exact List.mem_cons_of_mem _ hq
         ·simp only [Value.ownBlock, addrOf, Option.some.injEq] at hq
          rw [<- hq]; exact hnd.1
      ·exact h.elim
     ·exact h.elim
    ·split at h
     ·rename_i hcond
      obtain ⟨rfl, hsz, hby, hzs⟩ := hcond
      obtain ⟨⟨hm⟩, h⟩ := h
      simp only [Rep] at hs1
      subst hs1
      have hm1 : MRel ρ (st.mem.set c ⟨.dead, e', .row⟩) w := hs.mem.kill c e' .row
      obtain ⟨v', w', ρ', r1, r2⟩ := matAppend (P := P) (ty := ty) hs ht hi hz hzs hsz hby hx hb1 hc hpc hm hm1 (fun q hq => names_kill2 hq) (subs := []) (l := []) (World.ownsRow_nil w 0 e 1) rfl rfl (by omega) (fun i s hs => by simp at hs) (fun i s hs => by simp at hs)
       (fun q hq => by
        rcases hq with hq | hq | ⟨h1, rfl⟩
        ·simp [Value.ownBlock] at hq
        ·simp [subFoot] at hq
        ·exact ⟨⟨c, _, pc, hc, hpc, rfl, h1, rfl, foot_head _ _⟩, fun hN => (names_kill hs.mem hc hpc rfl rfl hN).2 h1 (foot_head _ _)⟩)
       (fun q hq => by simp [Value.ownBlock] at hq) (fun _ => by simp [subFoot]) List.nodup_nil d
      rw [List.length_set] at r2
      exact ⟨_, _, v', w', ρ', h, r1, r2⟩
     ·exact h.elim
    ·exact h.elim
   ·exact h.elim
  ·exact h.elim
 ·exact h.elim
/-- A literal of one row, assigned. -/
theorem SRel.toMat {D : List Deferred} {W : Nat -> Prop} {w0 : World} {ρ0 : List Place} {st : St} {a : Act} {w : World} (hs : SRel D W w0 ρ0 ρ st a w) {b c m n : Nat} {e et : TypeId} {kd : IntKind} {row : List Int} {x : Value}
  (hx : Rep ρ (.row b n) x) (hn : n = 1) (hb : st.mem[b]? = some ⟨.vals [.row c m], e, .row⟩) (hc : st.mem[c]? = some ⟨.ints kd row, et, .row⟩) (hm : row.length = m) (d : Option Tmp) :
  ∃ ρ', SRel D W w0 ρ0 ρ' (St.put { st with mem := (st.mem.set b ⟨.dead, e, .row⟩).set c ⟨.dead, et, .row⟩ ++ [⟨.mat kd et [row], e, .mat⟩] } d (.row st.mem.length 1)) (a.put d x) w := by
 subst hn
 have hbl : b < ρ.length := by rw [hs.mem.len]; exact (List.getElem?_eq_some_iff.1 hb).1
 have hcl : c < ρ.length := by rw [hs.mem.len]; exact (List.getElem?_eq_some_iff.1 hc).1
 have hbc : b ≠ c := fun e0 => by rw [e0, hc] at hb; cases hb
 obtain ⟨pb, hpb, hf⟩ := row_form hx
 have hpc : ρ[c]? = some ρ[c] := List.getElem?_eq_getElem hcl
 generalize ρ[c] = pc at hpc
 rcases hf with ⟨_, h0, _⟩ | ⟨hg, rfl⟩
 ·cases h0
 have hrow := (hs.mem.blks c _ pc hc hpc).toSub
 obtain ⟨cur, hheap, hrep, hfit, hoff⟩ : ∃ cur : List Value, w.heap[pb.blk]? = some (.cells cur.toArray e (0, 0)) /\ RepL ρ [V.row c m] (cur.take 1) /\ (cur.length = pb.cap /\ pb.cap <= maxLen) /\ pb.off = 0 := by
  rcases hs.mem.blks b _ pb hb hpb with h | ⟨h, _⟩ | ⟨_, cur, h1, h2, h3, h4, _⟩ | ⟨_, h, _⟩ | ⟨_, h, _⟩ | ⟨h, _⟩
  ·cases h
  ·rw [hg] at h; cases h
  ·exact ⟨cur, h1, h2, h3, h4⟩
  ·exact absurd h.1 (by simp [Kind.isArg])
  ·cases h
  ·cases h
 simp only [RepL] at hrep
 obtain ⟨y, r, hcur, hry, _⟩ := hrep
 obtain ⟨rfl, hcg⟩ := Sub.val_row hpc hry
 have hcur0 : cur[0]? = some (pc.sub.val m) := by
  have h1 : (cur.take 1)[0]? = some (pc.sub.val m) := by rw [hcur]; rfl
  rw [List.getElem?_take, if_pos (by omega)] at h1
  exact h1
 have hm1 : MRel ρ ((st.mem.set b ⟨.dead, e, .row⟩).set c ⟨.dead, et, .row⟩) w := (hs.mem.kill b e .row).kill c et .row
 have hne : pc.ghost = false -> pb.blk ≠ pc.blk := fun hpg e0 => by
  refine hs.mem.inj b c _ _ pb pc hb hc hpb hpc hbc rfl rfl hg hpg rfl pb.blk (foot_head _ _) ?_
  rw [e0]; exact foot_head _ _
 have hc' : (st.mem.set b ⟨.dead, e, .row⟩)[c]? = some ⟨.ints kd row, et, .row⟩ := by rw [List.getElem?_set_ne hbc]; exact hc
 have hfoot : ∀ k, k ∈ (⟨.mat kd et [row], e, .mat⟩ : Blk).foot ⟨pb.blk, pb.cap, false, 0, none, [pc.sub]⟩ -> k = pb.blk \/ (pc.ghost = false /\ k = pc.blk) := fun k hk => by
  rw [foot_mat rfl] at hk
  rcases List.mem_cons.1 hk with h | h
  ·exact .inl h
  ·obtain ⟨i, s, h1, h2, h3⟩ := mem_subFoot.1 h
   cases i with
   | zero =>
    simp at h1
    subst h1
    exact .inr ⟨h2, h3.symm⟩
   | succ i => simp at h1
 have hN : ∀ k, k ∈ (⟨.mat kd et [row], e, .mat⟩ : Blk).foot ⟨pb.blk, pb.cap, false, 0, none, [pc.sub]⟩ -> Names ρ st.mem k := fun k hk => by
  rcases hfoot k hk with rfl | ⟨h1, rfl⟩
  ·exact ⟨b, _, pb, hb, hpb, rfl, hg, rfl, foot_head _ _⟩
  ·exact ⟨c, _, pc, hc, hpc, rfl, h1, rfl, foot_head _ _⟩
 have hadd := hm1.add (w' := w) (p := ⟨pb.blk, pb.cap, false, 0, none, [pc.sub]⟩) (blk := ⟨.mat kd et [row], e, .mat⟩) (fun _ _ => rfl) (fun _ k hk hr => by
  rcases hfoot k hk with rfl | ⟨h1, rfl⟩
  ·exact (names_kill hs.mem hb hpb rfl rfl (names_kill2 hr)).2 hg (foot_head _ _)
  ·exact (names_kill (hs.mem.kill b e .row) hc' hpc rfl rfl hr).2 h1 (foot_head _ _))
  (.inr (.inr (.inr (.inr (.inr ⟨rfl, kd, et, [row], rfl, rfl, fun i s his => by
   cases i with
   | zero => simp at his; subst his; exact hrow
   | succ i => simp at his,
   .inr ⟨rfl, cur, e, (0, 0), hheap, fun i s his => by
    cases i with
    | zero =>
     simp at his; subst his
     show cur[0 + 0]? = some (pc.sub.val row.length)
     rw [hm]; exact hcur0
    | succ i => simp at his,
    fun _ => ⟨rfl, rfl, hfit.1, hfit.2, rfl, List.nodup_cons.2 ⟨fun h => by
     obtain ⟨i, s, h1, h2, h3⟩ := mem_subFoot.1 h
     cases i with
     | zero => simp at h1; subst h1; exact hne h2 h3.symm
     | succ i => simp at h1, by
     show (subFoot [pc.sub]).Nodup
     unfold subFoot
     split
     ·exact List.nodup_nil
     ·simp [subFoot]⟩⟩⟩⟩)))))
 have hpre : ρ <+: ρ ++ [(⟨pb.blk, pb.cap, false, 0, none, [pc.sub]⟩ : Place)] := List.prefix_append _ _
 have hlen : ((st.mem.set b ⟨.dead, e, .row⟩).set c ⟨.dead, et, .row⟩).length = st.mem.length := by simp
 refine ⟨_, SRel.put (st := { st with mem := (st.mem.set b ⟨.dead, e, .row⟩).set c ⟨.dead, et, .row⟩ ++ [⟨.mat kd et [row], e, .mat⟩] }) (ρ := ρ ++ [⟨pb.blk, pb.cap, false, 0, none, [pc.sub]⟩]) ⟨hs.slots.mono hpre, hs.nodefer, hadd, hs.keep, fun j hj => ?_, hs.pre.trans hpre⟩ d ?_⟩
 ·obtain ⟨b1, blk1, p1, q1, q2, q3, q4, q5, q6⟩ := hj
  by_cases hlt : b1 < st.mem.length
  ·rw [List.getElem?_append_left (by rw [hlen]; exact hlt)] at q1
   rw [List.getElem?_append_left (by rw [hs.mem.len]; exact hlt)] at q2
   exact hs.own j (names_kill2 (names_kill2 ⟨b1, blk1, p1, q1, q2, q3, q4, q5, q6⟩))
  ·have hb1 : b1 = st.mem.length := by
    have := (List.getElem?_eq_some_iff.1 q1).1
    simp at this; omega
   subst hb1
   rw [<- hlen, List.getElem?_concat_length] at q1
   rw [<- hs.mem.len, List.getElem?_concat_length] at q2
   injection q1 with q1
   injection q2 with q2
   subst q1; subst q2
   exact hs.own j (hN j q6)
 ·show ∃ p, _
  refine ⟨_, by rw [<- hs.mem.len, List.getElem?_concat_length], .inr ⟨rfl, ?_⟩⟩
  show Value.slice (some (addrOf pb 0)) 1 pb.cap = _
  unfold addrOf
  rw [hoff]
theorem litMat_spec {mem : List Blk} {v : V} {b c m : Nat} (h : litMat mem v = some (b, c, m)) : v = .row b 1 /\ ∃ e, mem[b]? = some ⟨.vals [.row c m], e, .row⟩ := by
 unfold litMat at h
 split at h
 ·split at h
  ·rename_i b' n c' m' hma
   injection h with h; injection h with h1 h; injection h with h2 h3
   subst h1; subst h2; subst h3
   obtain ⟨b1, e1, h1, h2⟩ := matArg_spec hma
   injection h1 with h1 h3
   subst h1; subst h3
   exact ⟨rfl, _, h2⟩
  ·cases h
 ·cases h
end
end Go.Vi
