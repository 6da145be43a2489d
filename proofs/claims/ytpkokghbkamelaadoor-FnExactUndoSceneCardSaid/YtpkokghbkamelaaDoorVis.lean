/- Parts of rows that are handed over. -/
import Derived.Test.YtpkokghbkamelaaDoorVir
namespace Go.Vi
open Go.RowKit
section
variable {P : Program} {ρ : List Place}

/-- A part, as a block at a place of its own. -/
structure ViewAt (ρ : List Place) (mem : List Blk) (w : World) (b : Nat) (blk : Blk) (own : Bool × Nat) (q : Place) : Prop where
 of : ∃ (blk0 : Blk) (p : Place), mem[b]? = some blk0 /\ ρ[b]? = some p /\ blk0.cs.isDead = false /\ own.1 = !blk0.kind.isArg /\ (q.ghost = false -> p.ghost = false /\ q.blk ∈ blk0.foot p)
 rel : ∀ ρ' : List Place, BRel ρ' q blk w
 live : blk.cs.isDead = false
 notMat : blk.kind.isMat = false
 row : blk.kind = .row -> ∃ (p : Place) (s : Sub) (kd : IntKind) (et : TypeId) (l : List (List Int)) (e2 : TypeId), ρ[b]? = some p /\ mem[b]? = some ⟨.mat kd et l, e2, .mat⟩ /\ p.subs[own.2]? = some s /\ q = s.place /\ blk = ⟨.ints kd (l.getD own.2 []), et, .row⟩

theorem part_list {α : Type} (X : List α) (L o m : Nat) : ((X.take L).drop o).take m = (X.drop o).take (min m (L - o)) := by
 rw [List.drop_take, List.take_take]
/-- A part of a row, read alone. -/
theorem BRel.part {p : Place} {cs cs' : Cells} {e : TypeId} {r : Kind} {w : World} (h : BRel ρ p ⟨cs, e, r⟩ w) (hd : cs.isDead = false) (hg : p.ghost = false) {s c o m : Nat} (hr : r = .row \/ r = .rows s \/ r = .arg s) (hcs : cs'.toVs = (cs.toVs.drop o).take m) (hcl : underL 0 cs'.toVs = true)
  (hroom : m <= c * s) (ρ' : List Place) : BRel ρ' ⟨p.blk, c, false, p.off + o, none, []⟩ ⟨cs', e, .arg s⟩ w := by
 have fin : ∀ (cur : List Value) (e2 : TypeId) (fz : Nat × Nat), w.heap[p.blk]? = some (.cells cur.toArray e2 fz) -> RepL ρ cs.toVs ((cur.drop p.off).take cs.toVs.length) -> BRel ρ' ⟨p.blk, c, false, p.off + o, none, []⟩ ⟨cs', e, .arg s⟩ w := by
  intro cur e2 fz hc hrep
  have hlen : cs'.toVs.length = min m (cs.toVs.length - o) := by rw [hcs, List.length_take, List.length_drop]
  refine .inr (.inr (.inr (.inl ⟨rfl, ⟨rfl, rfl⟩, cur, e2, fz, hc, ?_, ?_⟩)))
  ·have h1 := hrep.sub o m
   rw [part_list, List.drop_drop] at h1
   rw [<- hcs] at h1
   show RepL ρ' cs'.toVs ((cur.drop (p.off + o)).take cs'.toVs.length)
   rw [hlen]
   exact h1.closed hcl
  ·show cs'.toVs.length <= c * s
   omega
 rcases h with h | ⟨h, _⟩ | ⟨_, cur, hc, hrep, _, hoff, _⟩ | ⟨_, _, cur, e2, fz, hc, hrep, _⟩ | ⟨_, h, _⟩ | ⟨h, _⟩
 ·rw [hd] at h; cases h
 ·rw [hg] at h; cases h
 ·exact fin cur _ _ hc (by rw [hoff]; exact hrep)
 ·exact fin cur e2 fz hc hrep
 ·simp only at h; subst h; rcases hr with hr | hr | hr <;> cases hr
 ·simp only at h; rcases hr with hr | hr | hr <;> subst hr <;> cases h
theorem arg_ghost {c : Nat} {a : Option Addr} {cs : Cells} {e : TypeId} {s : Nat} {w : World} (h : cs.toVs = []) (ρ' : List Place) : BRel ρ' ⟨0, c, true, 0, a, []⟩ ⟨cs, e, .arg s⟩ w :=
 .inr (.inl ⟨rfl, rfl, h, fun h => by cases h⟩)
theorem viewOf_spec {mem : List Blk} {w : World} (hw : MRel ρ mem w) {v : V} {x : Value} (hx : Rep ρ v x) {wr : Bool} {b n : Nat} {blk : Blk} {own : Bool × Nat} (h : viewOf mem wr v = some (b, n, blk, own)) :
  ∃ q, ViewAt ρ mem w b blk own q /\ ∀ (ρ' : List Place) (N : Nat), ρ'[N]? = some q -> Rep ρ' (.row N n) x := by
 unfold viewOf at h
 split at h
 ·rename_i b' i n'
  simp only [Rep] at hx
  obtain ⟨p, s, hp, hs, hsg, rfl⟩ := hx
  split at h
  ·rename_i kd et l e r hb
   have key : r.isMat = true -> SubOf (!r.isArg) kd et s (l.getD i []) w /\ (s.ghost = false -> p.ghost = false /\ s.blk ∈ (⟨.mat kd et l, e, r⟩ : Blk).foot p) := fun hr => by
    obtain ⟨hlen, hrows, hrow⟩ := hw.matAt hb hr hp
    refine ⟨hrows i s hs, fun hg => ⟨?_, by rw [foot_mat hr]; exact List.mem_cons_of_mem _ (mem_subFoot.2 ⟨i, s, hs, hg, rfl⟩)⟩⟩
    rcases hrow with ⟨_, rfl, _⟩ | ⟨hg, _⟩
    ·have := (List.getElem?_eq_some_iff.1 hs).1
     simp at hlen
     rw [hlen] at this
     simp at this
    ·exact hg
   have hrep : ∀ (ρ' : List Place) (N : Nat), ρ'[N]? = some s.place -> Rep ρ' (.row N n') (s.val n') := fun ρ' N hN => by
    simp only [Rep]
    refine ⟨s.place, hN, ?_⟩
    unfold Sub.val
    cases hg : s.ghost with
    | true => exact .inl ⟨hg, hsg hg, by rw [hsg hg]; rfl⟩
    | false => exact .inr ⟨hg, rfl⟩
   split at h
   ·rename_i hr hwr
    injection h with h; injection h with h1 h; injection h with h2 h; injection h with h3 h4
    subst h1; subst h2; subst h3; subst h4
    obtain ⟨k1, k2⟩ := key hr
    have hra : r.isArg = false := by
     simp only [Bool.and_eq_true, Bool.not_eq_true'] at hwr
     exact hwr.2
    rw [hra] at k1
    exact ⟨s.place, ⟨⟨_, p, hb, hp, rfl, by simp [hra], k2⟩, fun ρ' => k1.toRow, rfl, rfl, fun _ => ⟨p, s, kd, et, l, e, hp, by rw [hb]; cases r <;> first | rfl | (cases hr; done) | (cases hra; done), hs, rfl, rfl⟩⟩, hrep⟩
   ·rename_i hr hwr
    injection h with h; injection h with h1 h; injection h with h2 h; injection h with h3 h4
    subst h1; subst h2; subst h3; subst h4
    obtain ⟨k1, k2⟩ := key hr
    exact ⟨s.place, ⟨⟨_, p, hb, hp, rfl, rfl, k2⟩, fun ρ' => k1.toArg, rfl, rfl, fun h => by cases h⟩, hrep⟩
   ·cases h
  ·cases h
 ·rename_i b' o sz n' qv
  simp only [Rep] at hx
  obtain ⟨p, hp, hpg, hcap, rfl⟩ := hx
  have key : ∀ (cs cs' : Cells) (e : TypeId) (r : Kind), mem[b']? = some ⟨cs, e, r⟩ -> cs.isDead = false -> cs'.isDead = false -> (r = .row \/ r = .rows sz \/ r = .arg sz) -> cs'.toVs = (cs.toVs.drop (o * sz)).take (n' * sz) -> underL 0 cs'.toVs = true -> r.isArg = !own.1 ->
    ∃ q, ViewAt ρ mem w b' ⟨cs', e, .arg sz⟩ own q /\ ∀ (ρ' : List Place) (N : Nat), ρ'[N]? = some q -> Rep ρ' (.row N n') (.slice (match Nat.beq (vcap p.cap o qv) 0 with | true => p.base | false => p.base.map (·.add (o * sz))) n' (vcap p.cap o qv)) := by
   intro cs cs' e r hb hd hd' hr hcs hcl hown
   by_cases hn : n' = 0
   ·subst hn
    refine ⟨⟨0, vcap p.cap o qv, true, 0, (match Nat.beq (vcap p.cap o qv) 0 with | true => p.base | false => p.base.map (·.add (o * sz))), []⟩, ⟨⟨_, p, hb, hp, hd, by simp [hown], fun h => by cases h⟩, arg_ghost (by rw [hcs]; simp), hd', rfl, fun h => by cases h⟩, fun ρ' N hN => ?_⟩
    show ∃ p, _
    exact ⟨_, hN, .inl ⟨rfl, rfl, rfl⟩⟩
   ·have hg : p.ghost = false := by
     cases hgg : p.ghost with
     | false => rfl
     | true => exact absurd (hpg hgg) hn
    have hne : Nat.beq (vcap p.cap o qv) 0 = false := by
     cases hb : Nat.beq (vcap p.cap o qv) 0 with
     | false => rfl
     | true => have := Nat.eq_of_beq_eq_true hb; omega
    have hbase : p.base = some (addrOf p 0) := by unfold Place.base; rw [hg]; rfl
    refine ⟨⟨p.blk, vcap p.cap o qv, false, p.off + o * sz, none, []⟩, ⟨⟨_, p, hb, hp, hd, by simp [hown], fun _ => ⟨hg, foot_head _ _⟩⟩, (hw.blks b' _ p hb hp).part hd hg hr hcs hcl (Nat.mul_le_mul_right sz (by omega)), hd', rfl, fun h => by cases h⟩, fun ρ' N hN => ?_⟩
    show ∃ p, _
    refine ⟨_, hN, .inr ⟨rfl, ?_⟩⟩
    rw [hne, hbase]
    simp only [Option.map_some, add_addrOf, Nat.zero_add]
    rfl
  split at h
  ·rename_i kd l e r hb
   split at h
   ·rename_i hro
    injection h with h; injection h with h1 h; injection h with h2 h; injection h with h3 h4
    subst h1; subst h2; subst h3; subst h4
    refine key _ _ e r hb rfl rfl ?_ (by simp [Cells.toVs, List.map_take, List.map_drop]) (underL_map _ (fun _ => rfl) _) (by simp)
    cases r <;> simp only [Kind.rowish, Bool.false_eq_true] at hro
    ·exact .inl rfl
    ·rw [Nat.eq_of_beq_eq_true hro]; exact .inr (.inl rfl)
    ·rw [Nat.eq_of_beq_eq_true hro]; exact .inr (.inr rfl)
   ·cases h
  ·rename_i sh l e r hb
   split at h
   ·rename_i hro
    simp only [Bool.and_eq_true] at hro
    obtain ⟨hro, hshl⟩ := hro
    have hshl := Nat.eq_of_beq_eq_true hshl
    injection h with h; injection h with h1 h; injection h with h2 h; injection h with h3 h4
    subst h1; subst h2; subst h3; subst h4
    refine key _ (.recs sh ((l.drop (o * sz)).take (n' * sz))) e r hb rfl rfl ?_ (by
     simp only [Cells.toVs]
     rw [recV_take, <- recV_drop, Nat.zero_add]
     rw [recV_mod sh _ (j := o * sz) (j' := 0) (by rw [hshl, Nat.mul_mod_left, Nat.zero_mod])]) (recV_under sh _ 0) (by simp)
    cases r <;> simp only [Kind.rowish, Bool.false_eq_true] at hro
    ·exact .inl rfl
    ·rw [Nat.eq_of_beq_eq_true hro]; exact .inr (.inl rfl)
    ·rw [Nat.eq_of_beq_eq_true hro]; exact .inr (.inr rfl)
   ·cases h
  ·rename_i l e hb
   split at h
   ·injection h with h; injection h with h1 h; injection h with h2 h; injection h with h3 h4
    subst h1; subst h2; subst h3; subst h4
    exact key _ _ e .row hb rfl rfl (.inl rfl) (by simp [Cells.toVs, List.map_take, List.map_drop]) (underL_map _ (fun _ => rfl) _) rfl
   ·cases h
  ·cases h
 ·cases h
/-- What is said of the parts that are handed over. -/
def ViewsAt (ρ : List Place) (mem : List Blk) (w : World) (l : List (Nat × Blk × Bool × Nat)) (qs : List Place) : Prop :=
 ∀ (j b : Nat) (blk : Blk) (own : Bool × Nat) (q : Place), l[j]? = some (b, blk, own) -> qs[j]? = some q -> ViewAt ρ mem w b blk own q
theorem viewV_one {mem : List Blk} {w : Bool} {N : Nat} : ∀ {v : V}, (∀ cs, v ≠ .agg cs) -> viewV mem w N v = viewOne mem w N v := by
 intro v h
 cases v <;> first | rfl | exact absurd rfl (h _)
theorem viewOne_spec {mem : List Blk} {w : World} (hw : MRel ρ mem w) (wr : Bool) {v : V} {x : Value} (hne : ∀ cs, v ≠ .agg cs) (pre : List Place) (hx : Rep ρ v x) :
  ∃ qs : List Place, qs.length = (viewV mem wr (ρ.length + pre.length) v).2.length /\ Rep (ρ ++ (pre ++ qs)) (viewV mem wr (ρ.length + pre.length) v).1 x /\ ViewsAt ρ mem w (viewV mem wr (ρ.length + pre.length) v).2 qs := by
 rw [viewV_one hne]
 unfold viewOne
 cases hvo : viewOf mem wr v with
 | none => exact ⟨[], rfl, hx.mono (List.prefix_append _ _), fun j b blk own q h => by simp at h⟩
 | some y =>
  obtain ⟨b, n, blk, own⟩ := y
  obtain ⟨q, hq, hrep⟩ := viewOf_spec hw hx hvo
  refine ⟨[q], rfl, hrep _ _ ?_, fun j b' blk' own' q' hj hq' => ?_⟩
  ·rw [<- List.append_assoc, show ρ.length + pre.length = (ρ ++ pre).length by simp, List.getElem?_append_right (Nat.le_refl _)]
   simp
  ·cases j with
   | zero =>
    simp only [List.getElem?_cons_zero, Option.some.injEq, Prod.mk.injEq] at hj hq'
    obtain ⟨rfl, rfl, rfl⟩ := hj
    subst hq'
    exact hq
   | succ j => simp at hj
mutual
theorem viewV_spec {mem : List Blk} {w : World} (hw : MRel ρ mem w) (wr : Bool) : ∀ (v : V) (x : Value) (pre : List Place), Rep ρ v x ->
  ∃ qs : List Place, qs.length = (viewV mem wr (ρ.length + pre.length) v).2.length /\ Rep (ρ ++ (pre ++ qs)) (viewV mem wr (ρ.length + pre.length) v).1 x /\ ViewsAt ρ mem w (viewV mem wr (ρ.length + pre.length) v).2 qs
 | .agg cs, x, pre, hx => by
  simp only [Rep] at hx
  obtain ⟨xs, rfl, hxs⟩ := hx
  obtain ⟨qs, h1, h2, h3⟩ := viewAll_spec hw wr cs xs pre hxs
  refine ⟨qs, h1, ?_, h3⟩
  show Rep _ (.agg (viewAll mem wr (ρ.length + pre.length) cs).1) _
  simp only [Rep]
  exact ⟨xs, rfl, h2⟩
 | .undef, _, pre, hx => viewOne_spec hw wr (fun _ h => by cases h) pre hx
 | .int _ _, _, pre, hx => viewOne_spec hw wr (fun _ h => by cases h) pre hx
 | .bool _, _, pre, hx => viewOne_spec hw wr (fun _ h => by cases h) pre hx
 | .lit _, _, pre, hx => viewOne_spec hw wr (fun _ h => by cases h) pre hx
 | .str _, _, pre, hx => viewOne_spec hw wr (fun _ h => by cases h) pre hx
 | .ptr _ _, _, pre, hx => viewOne_spec hw wr (fun _ h => by cases h) pre hx
 | .nilp, _, pre, hx => viewOne_spec hw wr (fun _ h => by cases h) pre hx
 | .raw _, _, pre, hx => viewOne_spec hw wr (fun _ h => by cases h) pre hx
 | .row _ _, _, pre, hx => viewOne_spec hw wr (fun _ h => by cases h) pre hx
 | .fn _ _, _, pre, hx => viewOne_spec hw wr (fun _ h => by cases h) pre hx
 | .mp _, _, pre, hx => viewOne_spec hw wr (fun _ h => by cases h) pre hx
 | .arr _ _, _, pre, hx => viewOne_spec hw wr (fun _ h => by cases h) pre hx
 | .elt _ _ _ _, _, pre, hx => viewOne_spec hw wr (fun _ h => by cases h) pre hx
 | .sub _ _ _ _, _, pre, hx => viewOne_spec hw wr (fun _ h => by cases h) pre hx
 | .inr _ _ _, _, pre, hx => viewOne_spec hw wr (fun _ h => by cases h) pre hx
 | .iptr _ _ _, _, pre, hx => viewOne_spec hw wr (fun _ h => by cases h) pre hx
 | .view _ _ _ _ _, _, pre, hx => viewOne_spec hw wr (fun _ h => by cases h) pre hx
 | .emp, _, pre, hx => viewOne_spec hw wr (fun _ h => by cases h) pre hx
 | .gp _ _, _, pre, hx => viewOne_spec hw wr (fun _ h => by cases h) pre hx
 | .tup _, _, pre, hx => viewOne_spec hw wr (fun _ h => by cases h) pre hx
theorem viewAll_spec {mem : List Blk} {w : World} (hw : MRel ρ mem w) (wr : Bool) : ∀ (args : List V) (xs : List Value) (pre : List Place), RepL ρ args xs ->
  ∃ qs : List Place, qs.length = (viewAll mem wr (ρ.length + pre.length) args).2.length /\ RepL (ρ ++ (pre ++ qs)) (viewAll mem wr (ρ.length + pre.length) args).1 xs /\ ViewsAt ρ mem w (viewAll mem wr (ρ.length + pre.length) args).2 qs
 | [], xs, pre, hx => ⟨[], rfl, by simpa [viewAll, RepL] using hx, fun j b blk own q h => by simp [viewAll] at h⟩
 | v :: r, xs, pre, hx => by
  simp only [RepL] at hx
  obtain ⟨x, xs', rfl, hv, hr⟩ := hx
  obtain ⟨q1, a1, a2, a3⟩ := viewV_spec hw wr v x pre hv
  obtain ⟨q2, b1, b2, b3⟩ := viewAll_spec hw wr r xs' (pre ++ q1) hr
  have hN : ρ.length + (pre ++ q1).length = ρ.length + pre.length + (viewV mem wr (ρ.length + pre.length) v).2.length := by simp [a1]; omega
  rw [hN] at b1 b2 b3
  have hu : viewAll mem wr (ρ.length + pre.length) (v :: r) = viewTwo (viewV mem wr (ρ.length + pre.length) v) (fun M => viewAll mem wr M r) (ρ.length + pre.length) := rfl
  rw [hu, viewTwo_eq]
  refine ⟨q1 ++ q2, by simp [a1, b1], ?_, fun j b blk own q hj hq => ?_⟩
  ·simp only [RepL]
   refine ⟨x, xs', rfl, a2.mono ⟨q2, by simp⟩, ?_⟩
   have e : ρ ++ (pre ++ (q1 ++ q2)) = ρ ++ ((pre ++ q1) ++ q2) := by simp
   rw [e]
   exact b2
  ·by_cases hlt : j < q1.length
   ·rw [List.getElem?_append_left (by rw [<- a1]; exact hlt)] at hj
    rw [List.getElem?_append_left hlt] at hq
    exact a3 j b blk own q hj hq
   ·rw [List.getElem?_append_right (by rw [<- a1]; omega)] at hj
    rw [List.getElem?_append_right (by omega)] at hq
    rw [a1] at hq
    exact b3 _ b blk own q hj hq
end
/-! ### what they are of is out of reach -/
theorem killB_length (mem : List Blk) (b : Nat) : (killB mem b).length = mem.length := by
 unfold killB
 split <;> simp
theorem killB_get {mem : List Blk} {b c : Nat} {blk : Blk} (h : (killB mem b)[c]? = some blk) : ∃ blk0, mem[c]? = some blk0 /\ blk.kind = blk0.kind /\ (blk.cs.isDead = false -> blk = blk0 /\ c ≠ b) := by
 unfold killB at h
 split at h
 ·rename_i hb
  refine ⟨blk, h, rfl, fun _ => ⟨rfl, fun e => ?_⟩⟩
  rw [e, hb] at h; cases h
 ·rename_i blk1 hb
  rw [List.getElem?_set] at h
  split at h
  ·rename_i e
   subst e
   split at h
   ·injection h with h
    subst h
    exact ⟨blk1, hb, rfl, fun h => by cases h⟩
   ·cases h
  ·rename_i e
   exact ⟨blk, h, rfl, fun _ => ⟨rfl, fun e' => e e'.symm⟩⟩
theorem MRel.killB {mem : List Blk} {w : World} (h : MRel ρ mem w) (b : Nat) : MRel ρ (killB mem b) w := by
 unfold Go.Vi.killB
 split
 ·exact h
 ·exact h.kill b _ _
theorem killL_length : ∀ (vs : List (Nat × Blk × Bool × Nat)) (mem : List Blk), (killL mem vs).length = mem.length
 | [], mem => rfl
 | (b, blk, own) :: r, mem => by
  unfold killL
  split
  ·rw [killL_length r, killB_length]
  ·exact killL_length r mem
theorem killL_get : ∀ {vs : List (Nat × Blk × Bool × Nat)} {mem : List Blk} {c : Nat} {blk : Blk}, (killL mem vs)[c]? = some blk ->
  ∃ blk0, mem[c]? = some blk0 /\ blk.kind = blk0.kind /\ (blk.cs.isDead = false -> blk = blk0 /\ ∀ (j : Nat) (b : Nat) (bl : Blk) (own : Bool × Nat), vs[j]? = some (b, bl, own) -> own.1 = true -> c ≠ b)
 | [], mem, c, blk, h => ⟨blk, h, rfl, fun _ => ⟨rfl, fun j b bl own hj => by simp at hj⟩⟩
 | (b, bk, own) :: r, mem, c, blk, h => by
  unfold killL at h
  split at h
  ·obtain ⟨blk1, h1, h2, h3⟩ := killL_get h
   obtain ⟨blk0, g1, g2, g3⟩ := killB_get h1
   refine ⟨blk0, g1, h2.trans g2, fun hd => ?_⟩
   obtain ⟨e1, e2⟩ := h3 hd
   subst e1
   obtain ⟨e3, e4⟩ := g3 hd
   refine ⟨e3, fun j b' bl ow hj how => ?_⟩
   cases j with
   | zero =>
    simp only [List.getElem?_cons_zero, Option.some.injEq, Prod.mk.injEq] at hj
    rw [<- hj.1]; exact e4
   | succ j => exact e2 j b' bl ow (by simpa using hj) how
  ·rename_i hno
   obtain ⟨blk1, h1, h2, h3⟩ := killL_get h
   refine ⟨blk1, h1, h2, fun hd => ?_⟩
   obtain ⟨e1, e2⟩ := h3 hd
   refine ⟨e1, fun j b' bl ow hj how => ?_⟩
   cases j with
   | zero =>
    simp only [List.getElem?_cons_zero, Option.some.injEq, Prod.mk.injEq] at hj
    rw [<- hj.2.2, hno] at how
    cases how
   | succ j => exact e2 j b' bl ow (by simpa using hj) how
theorem MRel.killL {w : World} : ∀ (vs : List (Nat × Blk × Bool × Nat)) {mem : List Blk}, MRel ρ mem w -> MRel ρ (killL mem vs) w
 | [], mem, h => h
 | (b, blk, own) :: r, mem, h => by
  unfold Go.Vi.killL
  split
  ·exact MRel.killL r (h.killB b)
  ·exact MRel.killL r h
theorem viewBlks_get : ∀ (vs : List (Nat × Blk × Bool × Nat)) (j : Nat), (viewBlks vs)[j]? = (vs[j]?).map fun x => x.2.1
 | [], j => by simp [viewBlks]
 | (b, blk, own) :: r, 0 => by simp [viewBlks]
 | (b, blk, own) :: r, j + 1 => by simpa [viewBlks] using viewBlks_get r j
theorem viewBlks_length : ∀ vs : List (Nat × Blk × Bool × Nat), (viewBlks vs).length = vs.length
 | [] => rfl
 | (b, blk, own) :: r => by simp [viewBlks, viewBlks_length r]
theorem allArgs_spec : ∀ {vs : List (Nat × Blk × Bool × Nat)}, allArgs vs = true -> ∀ (j b : Nat) (blk : Blk) (own : Bool × Nat), vs[j]? = some (b, blk, own) -> blk.kind.isArg = true
 | [], _, j, b, blk, own, h => by simp at h
 | (b0, blk0, own0) :: r, ha, j, b, blk, own, h => by
  simp only [allArgs, Bool.and_eq_true] at ha
  cases j with
  | zero =>
   simp only [List.getElem?_cons_zero, Option.some.injEq, Prod.mk.injEq] at h
   rw [<- h.2.1]; exact ha.1
  | succ j => exact allArgs_spec ha.2 j b blk own (by simpa using h)
theorem lentOne_spec {vs : List (Nat × Blk × Bool × Nat)} {b i : Nat} (h : lentOne vs = some (b, i)) : ∃ kd l e, vs = [(b, ⟨.ints kd l, e, .row⟩, true, i)] := by
 unfold lentOne at h
 split at h
 ·injection h with h
  injection h with h1 h2
  subst h1; subst h2
  exact ⟨_, _, _, rfl⟩
 ·cases h
section
variable {mem : List Blk} {w : World} {vs : List (Nat × Blk × Bool × Nat)} {qs : List Place}
/-- The memory that is handed over. -/
theorem views_get (hm : ρ.length = mem.length) {c : Nat} {blk : Blk} {p : Place} (hc : (killL mem vs ++ viewBlks vs)[c]? = some blk) (hp : (ρ ++ qs)[c]? = some p) :
  (c < mem.length /\ (killL mem vs)[c]? = some blk /\ ρ[c]? = some p) \/ (∃ j b own, c = mem.length + j /\ vs[j]? = some (b, blk, own) /\ qs[j]? = some p) := by
 by_cases hlt : c < mem.length
 ·rw [List.getElem?_append_left (by rw [killL_length]; exact hlt)] at hc
  rw [List.getElem?_append_left (by rw [hm]; exact hlt)] at hp
  exact .inl ⟨hlt, hc, hp⟩
 ·rw [List.getElem?_append_right (by rw [killL_length]; omega), killL_length, viewBlks_get] at hc
  rw [List.getElem?_append_right (by omega), hm] at hp
  cases hv : vs[c - mem.length]? with
  | none => rw [hv] at hc; cases hc
  | some y =>
   obtain ⟨b, bl, own⟩ := y
   rw [hv] at hc
   injection hc with hc
   subst hc
   exact .inr ⟨c - mem.length, b, own, by omega, hv, hp⟩
/-- Of an old block that is there still, and a part. -/
theorem views_apart (hw : MRel ρ mem w) (hone : allArgs vs = true \/ ∃ y, lentOne vs = some y) {c j b : Nat} {bo bv : Blk} {own : Bool × Nat} {p q : Place} (hc : (killL mem vs)[c]? = some bo) (hp : ρ[c]? = some p) (hj : vs[j]? = some (b, bv, own)) (hv : ViewAt ρ mem w b bv own q)
  (hd : bo.cs.isDead = false) (hg : p.ghost = false) (hgq : q.ghost = false) (haa : (bo.kind.isArg && bv.kind.isArg) = false) : q.blk ∉ bo.foot p := by
 obtain ⟨blk0, pb, hb, hpb, hdb, hown, hin⟩ := hv.of
 obtain ⟨hgb, hmem⟩ := hin hgq
 obtain ⟨blk1, h1, _, h3⟩ := killL_get hc
 obtain ⟨e1, e2⟩ := h3 hd
 subst e1
 have hlent : (∃ y, lentOne vs = some y) -> own.1 = true := fun ⟨(b', i'), h⟩ => by
  obtain ⟨kd, l, e, rfl⟩ := lentOne_spec h
  cases j with
  | zero => simp only [List.getElem?_cons_zero, Option.some.injEq, Prod.mk.injEq] at hj; rw [<- hj.2.2]
  | succ j => simp at hj
 have hcb : c ≠ b := fun e => by
  subst e
  rw [h1] at hb
  injection hb with hb
  subst hb
  cases hbo : bo.kind.isArg with
  | false =>
   rw [hbo] at hown
   exact e2 j c bv own hj hown rfl
  | true =>
   rw [hbo] at hown haa
   rcases hone with h | h
   ·rw [allArgs_spec h j c bv own hj] at haa; cases haa
   ·have := hlent h
    rw [hown] at this; cases this
 intro hmm
 refine hw.inj c b bo blk0 p pb h1 hb hp hpb hcb hd hdb hg hgb ?_ q.blk hmm hmem
 cases hbo : bo.kind.isArg with
 | false => rfl
 | true =>
  rw [hbo] at haa
  rcases hone with h | h
  ·rw [allArgs_spec h j b bv own hj] at haa; cases haa
  ·rw [hlent h] at hown
   cases hb0 : blk0.kind.isArg with
   | false => rfl
   | true => rw [hb0] at hown; cases hown
theorem views_rel (hw : MRel ρ mem w) (hl : qs.length = vs.length) (hat : ∀ (j b : Nat) (blk : Blk) (own : Bool × Nat) (q : Place), vs[j]? = some (b, blk, own) -> qs[j]? = some q -> ViewAt ρ mem w b blk own q) (hone : allArgs vs = true \/ ∃ y, lentOne vs = some y) :
  MRel (ρ ++ qs) (killL mem vs ++ viewBlks vs) w := by
 have hk := hw.killL vs
 refine ⟨by simp [killL_length, viewBlks_length, hl, hw.len], fun c blk p hc hp => ?_, fun c c' blk blk' p p' hc hc' hp hp' hne hd hd' hg hg' haa => ?_⟩
 ·rcases views_get hw.len hc hp with ⟨_, h1, h2⟩ | ⟨j, b, own, _, h1, h2⟩
  ·exact (hk.blks c blk p h1 h2).mono (List.prefix_append _ _)
  ·exact (hat j b blk own p h1 h2).rel _
 ·rcases views_get hw.len hc hp with ⟨_, h1, h2⟩ | ⟨j, b, own, e, h1, h2⟩ <;> rcases views_get hw.len hc' hp' with ⟨_, k1, k2⟩ | ⟨j', b', own', e', k1, k2⟩
  ·exact hk.inj c c' blk blk' p p' h1 k1 h2 k2 hne hd hd' hg hg' haa
  ·have hv := hat j' b' blk' own' p' k1 k2
   intro k hk1 hk2
   rw [foot_one hv.notMat, List.mem_singleton] at hk2
   subst hk2
   exact views_apart hw hone h1 h2 k1 hv hd hg hg' haa hk1
  ·have hv := hat j b blk own p h1 h2
   intro k hk1 hk2
   rw [foot_one hv.notMat, List.mem_singleton] at hk1
   subst hk1
   exact views_apart hw hone k1 k2 h1 hv hd' hg' hg (by rw [Bool.and_comm]; exact haa) hk2
  ·exfalso
   rcases hone with h | h
   ·rw [allArgs_spec h j b blk own h1, allArgs_spec h j' b' blk' own' k1] at haa; cases haa
   ·obtain ⟨⟨b2, i2⟩, h⟩ := h
    obtain ⟨kd, l, e2, rfl⟩ := lentOne_spec h
    have hj := (List.getElem?_eq_some_iff.1 h1).1
    have hj' := (List.getElem?_eq_some_iff.1 k1).1
    simp at hj hj'
    omega
/-- What may be written of it. -/
theorem views_names (hw : MRel ρ mem w) (hat : ∀ (j b : Nat) (blk : Blk) (own : Bool × Nat) (q : Place), vs[j]? = some (b, blk, own) -> qs[j]? = some q -> ViewAt ρ mem w b blk own q) {k : Nat} (h : Names (ρ ++ qs) (killL mem vs ++ viewBlks vs) k) :
  Names ρ (killL mem vs) k \/ ∃ (j b : Nat) (blk : Blk) (own : Bool × Nat) (q : Place), vs[j]? = some (b, blk, own) /\ qs[j]? = some q /\ blk.kind.isArg = false /\ q.ghost = false /\ k = q.blk := by
 obtain ⟨c, blk, p, hc, hp, hd, hg, hq, hk⟩ := h
 rcases views_get hw.len hc hp with ⟨_, h1, h2⟩ | ⟨j, b, own, _, h1, h2⟩
 ·exact .inl ⟨c, blk, p, h1, h2, hd, hg, hq, hk⟩
 ·have hv := hat j b blk own p h1 h2
  rw [foot_one hv.notMat, List.mem_singleton] at hk
  exact .inr ⟨j, b, blk, own, p, h1, h2, hq, hg, hk⟩
theorem killL_names {k : Nat} (h : Names ρ (killL mem vs) k) : Names ρ mem k := by
 obtain ⟨c, blk, p, hc, hp, hd, hg, hq, hk⟩ := h
 obtain ⟨blk0, h1, _, h3⟩ := killL_get hc
 obtain ⟨e1, _⟩ := h3 hd
 subst e1
 exact ⟨c, blk, p, h1, hp, hd, hg, hq, hk⟩
/-- What is out of reach is not written. -/
theorem killL_apart (hw : MRel ρ mem w) {j b : Nat} {bv : Blk} {own : Bool × Nat} (hj : vs[j]? = some (b, bv, own)) (how : own.1 = true) {blk0 : Blk} {p : Place} (hb : mem[b]? = some blk0) (hp : ρ[b]? = some p) (hd : blk0.cs.isDead = false) (hg : p.ghost = false) {k : Nat} (hk : k ∈ blk0.foot p) : ¬ Names ρ (killL mem vs) k := by
 rintro ⟨c, blk, pc, hc, hpc, hdc, hgc, hq, hkc⟩
 obtain ⟨blk1, h1, _, h3⟩ := killL_get hc
 obtain ⟨e1, e2⟩ := h3 hdc
 subst e1
 have hq : blk.kind.isArg = false := hq
 exact hw.inj c b blk blk0 pc p h1 hb hpc hp (e2 j b bv own hj how) hdc hd hgc hg (by rw [hq]; rfl) k hkc hk
end
theorem sameView_spec : ∀ {m m' : List Blk}, sameView m m' = true -> m.length <= m'.length /\ (∀ (i : Nat) (b c : Blk), m[i]? = some b -> m'[i]? = some c -> b.kind.isArg = c.kind.isArg /\ b.kind.isMat = c.kind.isMat /\ (c.cs.isDead = false -> b.cs.isDead = false)) /\
  ∀ (i : Nat) (c : Blk), m.length <= i -> m'[i]? = some c -> c.kind.isArg = false
 | [], m', h => ⟨Nat.zero_le _, fun i b c hb => by simp at hb, fun i c _ hc => noArgs_spec h i c hc⟩
 | a :: r, [], h => by simp [sameView] at h
 | a :: r, d :: s, h => by
  simp only [sameView, Bool.and_eq_true, beq_iff_eq, Bool.or_eq_true, Bool.not_eq_true'] at h
  obtain ⟨⟨⟨h1, h2⟩, h3⟩, h4⟩ := h
  obtain ⟨g1, g2, g3⟩ := sameView_spec h4
  refine ⟨by simpa using g1, fun i b c hb hc => ?_, fun i c hi hc => ?_⟩
  ·cases i with
   | zero =>
    simp only [List.getElem?_cons_zero, Option.some.injEq] at hb hc
    subst hb; subst hc
    refine ⟨h1, h2, fun hd => ?_⟩
    rcases h3 with h3 | h3
    ·exact h3
    ·rw [hd] at h3; cases h3
   | succ i => exact g2 i b c (by simpa using hb) (by simpa using hc)
  ·cases i with
   | zero => simp at hi
   | succ i => exact g3 i c (by simpa using hi) (by simpa using hc)
theorem killFrom_length : ∀ (n N : Nat) (m : List Blk), (killFrom N n m).length = m.length
 | 0, N, m => rfl
 | n + 1, N, m => by simp only [killFrom]; rw [killFrom_length n, killB_length]
theorem killFrom_get : ∀ {n N : Nat} {m : List Blk} {c : Nat} {blk : Blk}, (killFrom N n m)[c]? = some blk -> blk.cs.isDead = false -> m[c]? = some blk /\ ¬ (N <= c /\ c < N + n)
 | 0, N, m, c, blk, h, _ => ⟨h, by omega⟩
 | n + 1, N, m, c, blk, h, hd => by
  simp only [killFrom] at h
  obtain ⟨h1, h2⟩ := killFrom_get h hd
  obtain ⟨blk0, g1, _, g3⟩ := killB_get h1
  obtain ⟨e1, e2⟩ := g3 hd
  subst e1
  exact ⟨g1, by omega⟩
theorem MRel.killFrom {w : World} : ∀ (n N : Nat) {m : List Blk}, MRel ρ m w -> MRel ρ (killFrom N n m) w
 | 0, N, m, h => h
 | n + 1, N, m, h => by
  simp only [Go.Vi.killFrom]
  exact MRel.killFrom n (N + 1) (h.killB N)
/-- What lies in the memory behind a call, while what was out of reach comes back. -/
structure Back (ρ : List Place) (mem : List Blk) (ρ3 : List Place) (w w' : World) (F : Nat -> Prop) (M : List Blk) : Prop where
 rel : MRel ρ3 M w'
 at_ : ∀ (c : Nat) (blk : Blk), M[c]? = some blk -> blk.cs.isDead = false ->
  (blk.kind.isArg = false /\ ∀ p, ρ3[c]? = some p -> p.ghost = false -> ∀ k, k ∈ blk.foot p -> F k \/ w.heap.size <= k) \/ (∃ blk1 : Blk, mem[c]? = some blk1 /\ blk1.cs.isDead = false /\ blk.kind.isArg = blk1.kind.isArg /\ blk.kind.isMat = blk1.kind.isMat)
/-- One comes back. -/
theorem Back.restore {mem : List Blk} {ρ3 : List Place} {w w' : World} {F : Nat -> Prop} {M : List Blk} (h : Back ρ mem ρ3 w w' F M) (hw : MRel ρ mem w) (hpre : ρ <+: ρ3) {b : Nat} {blk0 blk' : Blk} {p : Place} (hb : mem[b]? = some blk0) (hp : ρ[b]? = some p) (hd : blk0.cs.isDead = false) (ha : blk0.kind.isArg = false)
  (hk : blk'.kind = blk0.kind) (hdis : p.ghost = false -> ∀ (c : Nat) (blk : Blk) (pc : Place), M[c]? = some blk -> c ≠ b -> blk.cs.isDead = false -> blk.kind.isArg = false -> ρ3[c]? = some pc -> pc.ghost = false -> ∀ k, k ∈ blk0.foot p -> k ∈ blk.foot pc -> F k -> False) (hB : BRel ρ3 p blk' w') (hbl : b < M.length) : Back ρ mem ρ3 w w' F (M.set b blk') := by
 have hp3 : ρ3[b]? = some p := getElem?_pre hpre hp
 have old : ∀ {c : Nat} {blk : Blk}, (M.set b blk')[c]? = some blk -> (c = b /\ blk = blk') \/ (c ≠ b /\ M[c]? = some blk) := by
  intro c blk hc
  rw [List.getElem?_set] at hc
  by_cases e : b = c
  ·subst e
   simp [hbl] at hc
   exact .inl ⟨rfl, hc.symm⟩
  ·simp only [e, if_false] at hc
   exact .inr ⟨fun e' => e e'.symm, hc⟩
 have hfoot : blk'.foot p = blk0.foot p := foot_kind p hk
 -- another block
 have apart : ∀ {c : Nat} {blk : Blk} {pc : Place}, M[c]? = some blk -> c ≠ b -> blk.cs.isDead = false -> ρ3[c]? = some pc -> pc.ghost = false -> p.ghost = false -> ∀ k, k ∈ blk0.foot p -> k ∉ blk.foot pc := by
  intro c blk pc hc hne hdc hpc hgc hg k hk1 hk2
  rcases h.at_ c blk hc hdc with ⟨h1, h2⟩ | ⟨blk1, h1, h2, h3, h4⟩
  ·rcases h2 pc hpc hgc k hk2 with h5 | h5
   ·exact hdis hg c blk pc hc hne hdc h1 hpc hgc k hk1 hk2 h5
   ·have := (hw.blks b blk0 p hb hp).lt hd hg hk1
    omega
  ·have hcl : c < ρ.length := by rw [hw.len]; exact (List.getElem?_eq_some_iff.1 h1).1
   have hρc : ρ[c]? = some pc := by
    have := getElem?_pre hpre (List.getElem?_eq_getElem hcl)
    rw [hpc] at this
    injection this with this
    rw [List.getElem?_eq_getElem hcl, this]
   rw [foot_same pc h4] at hk2
   exact hw.inj b c blk0 blk1 p pc hb h1 hp hρc (Ne.symm hne) hd h2 hg hgc (by rw [ha]; rfl) k hk1 hk2
 refine ⟨⟨by rw [List.length_set]; exact h.rel.len, fun c blk pc hc hpc => ?_, fun c c' blk blk1 pc pc' hc hc' hpc hpc' hne hdc hdc' hgc hgc' haa => ?_⟩, fun c blk hc hdc => ?_⟩
 ·rcases old hc with ⟨rfl, rfl⟩ | ⟨_, h1⟩
  ·rw [hp3] at hpc
   injection hpc with hpc
   subst hpc
   exact hB
  ·exact h.rel.blks c blk pc h1 hpc
 ·rcases old hc with ⟨rfl, rfl⟩ | ⟨hcb, h1⟩ <;> rcases old hc' with ⟨rfl, rfl⟩ | ⟨hcb', h1'⟩
  ·exact absurd rfl hne
  ·rw [hp3] at hpc
   injection hpc with hpc
   subst hpc
   rw [hfoot]
   exact apart h1' hcb' hdc' hpc' hgc' hgc
  ·rw [hp3] at hpc'
   injection hpc' with hpc'
   subst hpc'
   rw [hfoot]
   exact fun k k1 k2 => apart h1 hcb hdc hpc hgc hgc' k k2 k1
  ·exact h.rel.inj c c' blk blk1 pc pc' h1 h1' hpc hpc' hne hdc hdc' hgc hgc' haa
 ·rcases old hc with ⟨rfl, rfl⟩ | ⟨_, h1⟩
  ·exact .inr ⟨blk0, hb, hd, by rw [hk], by rw [hk]⟩
  ·exact h.at_ c blk h1 hdc
theorem Back.names {mem : List Blk} {ρ3 : List Place} {w w' : World} {F : Nat -> Prop} {M : List Blk} (h : Back ρ mem ρ3 w w' F M) (hw : MRel ρ mem w) (hpre : ρ <+: ρ3) (hF : ∀ k, F k -> Names ρ mem k) {j : Nat} (hj : Names ρ3 M j) : Names ρ mem j \/ w.heap.size <= j := by
 obtain ⟨c, blk, p, hc, hp, hd, hg, hq, hk⟩ := hj
 have hq : blk.kind.isArg = false := hq
 rcases h.at_ c blk hc hd with ⟨_, h2⟩ | ⟨blk1, h1, h2, h3, h4⟩
 ·rcases h2 p hp hg j hk with h5 | h5
  ·exact .inl (hF j h5)
  ·exact .inr h5
 ·have hcl : c < ρ.length := by rw [hw.len]; exact (List.getElem?_eq_some_iff.1 h1).1
  have hρc : ρ[c]? = some p := by
   have := getElem?_pre hpre (List.getElem?_eq_getElem hcl)
   rw [hp] at this
   injection this with this
   rw [List.getElem?_eq_getElem hcl, this]
  exact .inl ⟨c, blk1, p, h1, hρc, h2, hg, (by show blk1.kind.isArg = false; rw [<- h3]; exact hq), by rw [<- foot_same p h4]; exact hk⟩
theorem Back.all {mem : List Blk} {ρ3 : List Place} {w w' : World} {F : Nat -> Prop} (hw : MRel ρ mem w) (hpre : ρ <+: ρ3) (hsame : ∀ k, k < w.heap.size -> ¬ F k -> w'.heap[k]? = w.heap[k]?) :
  ∀ (vs : List (Nat × Blk × Bool × Nat)) {M : List Blk}, Back ρ mem ρ3 w w' F M -> mem.length <= M.length -> (∀ (j b : Nat) (bv : Blk) (own : Bool × Nat), vs[j]? = some (b, bv, own) -> own.1 = true -> ∃ blk0 p, mem[b]? = some blk0 /\ ρ[b]? = some p /\ blk0.cs.isDead = false /\ blk0.kind.isArg = false /\ (p.ghost = false -> ∀ k, k ∈ blk0.foot p -> ¬ F k)) -> Back ρ mem ρ3 w w' F (backL mem vs M)
 | [], M, h, _, _ => h
 | (b, bv, own) :: r, M, h, hl, hv => by
  have hr : ∀ (j b : Nat) (bv : Blk) (own : Bool × Nat), r[j]? = some (b, bv, own) -> own.1 = true -> ∃ blk0 p, mem[b]? = some blk0 /\ ρ[b]? = some p /\ blk0.cs.isDead = false /\ blk0.kind.isArg = false /\ (p.ghost = false -> ∀ k, k ∈ blk0.foot p -> ¬ F k) := fun j b bv ow hj how => hv (j + 1) b bv ow (by simpa using hj) how
  unfold backL
  split
  ·rename_i blk how hb
   obtain ⟨blk0, p, h1, h2, h3, h4, h5⟩ := hv 0 b bv own rfl how
   rw [hb] at h1
   injection h1 with h1
   subst h1
   refine Back.all hw hpre hsame r (h.restore hw hpre hb h2 h3 h4 rfl (fun hg c bl pc _ _ _ _ _ _ k hk1 _ hF => h5 hg k hk1 hF) ?_ (Nat.lt_of_lt_of_le (List.getElem?_eq_some_iff.1 hb).1 hl)) (by rw [List.length_set]; exact hl) hr
   exact ((hw.blks b blk p hb h2).keep fun hd hg k hk => hsame k ((hw.blks b blk p hb h2).lt hd hg hk) (h5 hg k hk)).mono hpre
  ·exact Back.all hw hpre hsame r h hl hr
theorem vcallV_sound {ex : List Nat} {f : FuncId} {S : VSpec} (hok : OK P f S) {wr : Bool} {args : List V} {mem : List Blk} {k : V -> List Blk -> Prop} (h : vcallV ex wr S args mem k) {w : World} {xs : List Value} (hm : MRel ρ mem w) (hx : RepL ρ args xs) :
  (∀ ys w, (callFunc f ys).run P w = .ok (.enter f ys) w) /\
  Calls P f xs.toArray w fun e w' => ∃ v mem' ρ2 x, e = .returned x /\ k v mem' /\ ρ <+: ρ2 /\ Rep ρ2 v x /\ MRel ρ2 mem' w' /\ Keep (Names ρ mem) w w' /\ ∀ j, Names ρ2 mem' j -> Names ρ mem j \/ w.heap.size <= j := by
 unfold vcallV at h
 split at h
 ·exact vcall_sound hok h hm hx
 rename_i v0 vr hv0
 clear hv0
 obtain ⟨qs, hl, hrep, hat⟩ := viewAll_spec hm wr args xs [] hx
 have hN : ρ.length + ([] : List Place).length = mem.length := by simp [hm.len]
 rw [hN] at hl hrep hat
 rw [List.nil_append] at hrep
 have hone : allArgs (viewAll mem wr mem.length args).2 = true \/ ∃ y, lentOne (viewAll mem wr mem.length args).2 = some y := by
  cases ha : allArgs (viewAll mem wr mem.length args).2 with
  | true => exact .inl rfl
  | false =>
   rw [ha] at h
   simp only at h
   split at h
   ·rename_i hlo
    exact .inr ⟨_, hlo⟩
   ·exact h.elim
 have hrel := views_rel hm hl hat hone
 have hpre0 : ρ <+: ρ ++ qs := List.prefix_append _ _
 -- what may be written belongs to what there was
 have hF : ∀ q, Names (ρ ++ qs) (killL mem (viewAll mem wr mem.length args).2 ++ viewBlks (viewAll mem wr mem.length args).2) q -> Names ρ mem q := fun q hq => by
  rcases views_names hm hat hq with h1 | ⟨j, b, blk, own, u, h1, h2, h3, h4, rfl⟩
  ·exact killL_names h1
  ·obtain ⟨blk0, p, g1, g2, g3, g4, g5⟩ := (hat j b blk own u h1 h2).of
   obtain ⟨g6, g7⟩ := g5 h4
   refine ⟨b, blk0, p, g1, g2, g3, g6, ?_, g7⟩
   rcases hone with ho | ho
   ·rw [allArgs_spec ho j b blk own h1] at h3; cases h3
   ·obtain ⟨⟨b', i'⟩, ho⟩ := ho
    obtain ⟨kd, l, e, he⟩ := lentOne_spec ho
    rw [he] at h1
    cases j with
    | zero =>
     simp only [List.getElem?_cons_zero, Option.some.injEq, Prod.mk.injEq] at h1
     rw [<- h1.2.2] at g4
     show blk0.kind.isArg = false
     cases hb0 : blk0.kind.isArg with
     | false => rfl
     | true => rw [hb0] at g4; cases g4
    | succ j => simp at h1
 have hown : ∀ (j b : Nat) (bv : Blk) (own : Bool × Nat), (viewAll mem wr mem.length args).2[j]? = some (b, bv, own) -> own.1 = true -> ∃ blk0 p, mem[b]? = some blk0 /\ ρ[b]? = some p /\ blk0.cs.isDead = false /\ blk0.kind.isArg = false /\ (p.ghost = false -> ∀ q, q ∈ blk0.foot p -> ¬ Names ρ (killL mem (viewAll mem wr mem.length args).2) q) := fun j b bv own hj how => by
  have hjl : j < qs.length := by rw [hl]; exact (List.getElem?_eq_some_iff.1 hj).1
  obtain ⟨blk0, p, g1, g2, g3, g4, _⟩ := (hat j b bv own _ hj (List.getElem?_eq_getElem hjl)).of
  refine ⟨blk0, p, g1, g2, g3, ?_, fun hg q hq => killL_apart hm hj how g1 g2 g3 hg hq⟩
  cases hb0 : blk0.kind.isArg with
  | false => rfl
  | true => rw [hb0, how] at g4; cases g4
 -- behind the call
 have start : ∀ {ρ3 : List Place} {m : List Blk} {w' : World}, ρ ++ qs <+: ρ3 -> MRel ρ3 m w' -> (∀ q, Names ρ3 m q -> Names (ρ ++ qs) (killL mem (viewAll mem wr mem.length args).2 ++ viewBlks (viewAll mem wr mem.length args).2) q \/ w.heap.size <= q) ->
   sameView (killL mem (viewAll mem wr mem.length args).2 ++ viewBlks (viewAll mem wr mem.length args).2) m = true ->
   Back ρ mem ρ3 w w' (Names (ρ ++ qs) (killL mem (viewAll mem wr mem.length args).2 ++ viewBlks (viewAll mem wr mem.length args).2)) (killFrom mem.length (viewAll mem wr mem.length args).2.length m) /\ mem.length <= (killFrom mem.length (viewAll mem wr mem.length args).2.length m).length := by
  intro ρ3 m w' hpre hmr hnm hsv
  obtain ⟨s1, s2, s3⟩ := sameView_spec hsv
  simp only [List.length_append, killL_length, viewBlks_length] at s1 s3
  refine ⟨⟨hmr.killFrom _ _, fun c blk hc hd => ?_⟩, by rw [killFrom_length]; omega⟩
  obtain ⟨h1, h2⟩ := killFrom_get hc hd
  by_cases hka : blk.kind.isArg = false
  ·exact .inl ⟨hka, fun p hp hg q hq => hnm q ⟨c, blk, p, h1, hp, hd, hg, hka, hq⟩⟩
  ·have hcl : c < mem.length := by
    rcases Nat.lt_or_ge c (mem.length + (viewAll mem wr mem.length args).2.length) with h3 | h3
    ·omega
    ·exact absurd (s3 c blk h3 h1) hka
   have hcl' : c < (killL mem (viewAll mem wr mem.length args).2).length := by rw [killL_length]; exact hcl
   have hb2 := List.getElem?_eq_getElem hcl'
   obtain ⟨k1, k2, k3⟩ := s2 c _ blk (by rw [List.getElem?_append_left hcl']; exact hb2) h1
   obtain ⟨blk0, g1, g2, g3⟩ := killL_get hb2
   obtain ⟨e1, _⟩ := g3 (k3 hd)
   exact .inr ⟨blk0, g1, by rw [<- e1]; exact k3 hd, by rw [<- k1, e1], by rw [<- k2, e1]⟩
 have hpre3 : ∀ {ρ3 : List Place}, ρ ++ qs <+: ρ3 -> ρ <+: ρ3 := fun h => hpre0.trans h
 split at h
 ·rename_i hall
  obtain ⟨hent, hcall⟩ := vcall_sound hok h hrel hrep
  refine ⟨hent, hcall.mono fun e w' hE => ?_⟩
  obtain ⟨v, m, ρ3, x, rfl, hk, hpre, hv, hmr, hkeep, hnm⟩ := hE
  split at hk
  ·rename_i hsv
   obtain ⟨hB, hBl⟩ := start hpre hmr hnm hsv
   have hB' := Back.all hm (hpre3 hpre) (fun q hq hno => hkeep.block q hq hno) (viewAll mem wr mem.length args).2 hB hBl fun j b bv own hj how => by
    obtain ⟨blk0, p, g1, g2, g3, g4, g5⟩ := hown j b bv own hj how
    refine ⟨blk0, p, g1, g2, g3, g4, fun hg q hq hN => ?_⟩
    rcases views_names hm hat hN with h1 | ⟨j', b', blk', own', u, h1, h2, h3, _, _⟩
    ·exact g5 hg q hq h1
    ·rw [allArgs_spec hall j' b' blk' own' h1] at h3; cases h3
   exact ⟨v, _, ρ3, x, rfl, hk, hpre3 hpre, hv, hB'.rel, hkeep.mono fun q _ hq => hF q hq, fun j hj => hB'.names hm (hpre3 hpre) hF hj⟩
  ·exact hk.elim
 ·rename_i hall
  split at h
  ·rename_i b i hlo
   obtain ⟨kd, row, e, hvs⟩ := lentOne_spec hlo
   have hv0 : (viewAll mem wr mem.length args).2[0]? = some (b, ⟨.ints kd row, e, .row⟩, true, i) := by rw [hvs]; rfl
   have hq0 : qs[0]? = some (qs[0]'(by rw [hl, hvs]; simp)) := List.getElem?_eq_getElem _
   have hV := hat 0 b _ _ _ hv0 hq0
   obtain ⟨p, s, kd2, et, l, e2, hp, hbm, hs, hqs, hblk⟩ := hV.row rfl
   simp only [Blk.mk.injEq, Cells.ints.injEq, and_true] at hblk
   obtain ⟨⟨rfl, rfl⟩, rfl⟩ := hblk
   generalize qs[0]'(by rw [hl, hvs]; simp) = q at hq0 hqs hV
   subst hqs
   obtain ⟨hent, hcall⟩ := vcall_sound hok h hrel hrep
   refine ⟨hent, hcall.mono fun e' w' hE => ?_⟩
   obtain ⟨v, m, ρ3, x, rfl, hk, hpre, hv, hmr, hkeep, hnm⟩ := hE
   split at hk
   ·rename_i hsv
    obtain ⟨hB, hBl⟩ := start hpre hmr hnm hsv
    have hlen1 : (viewAll mem wr mem.length args).2.length = 1 := by rw [hvs]; rfl
    rw [hlen1] at hB hBl
    unfold backRow at hk
    rw [hbm] at hk
    split at hk
    ·rename_i kd' et' l0 e0 kd'' l' et'' hb0 hmN
     simp only [Option.some.injEq, Blk.mk.injEq, Cells.mat.injEq, and_true] at hb0
     obtain ⟨⟨rfl, rfl, rfl⟩, rfl⟩ := hb0
     split at hk
     ·rename_i hcond
      simp only [Bool.and_eq_true, decide_eq_true_eq] at hcond
      obtain ⟨rfl, hbe⟩ := hcond
      have hbe := Nat.eq_of_beq_eq_true hbe
      subst hbe
      obtain ⟨⟨hl'⟩, hk⟩ := hk
      obtain ⟨hlen, hrows, hrow⟩ := hm.matAt hbm rfl hp
      have hNρ : ρ3[mem.length]? = some s.place := by
       have : (ρ ++ qs)[mem.length]? = some s.place := by
        rw [<- hm.len, List.getElem?_append_right (Nat.le_refl _), Nat.sub_self]
        exact hq0
       exact getElem?_pre hpre this
      have hsub' := (hmr.blks mem.length _ _ hmN hNρ).toSub
      replace hsub' : SubOf true kd e s l' w' := hsub'
      -- the parts of the row of rows that were out of reach
      have hfar : p.ghost = false -> ∀ q, q ∈ (⟨.mat kd e l, e2, .mat⟩ : Blk).foot p -> Names (ρ ++ qs) (killL mem (viewAll mem wr mem.length args).2 ++ viewBlks (viewAll mem wr mem.length args).2) q -> s.ghost = false /\ q = s.blk := fun hg q hq hN => by
       rcases views_names hm hat hN with h1 | ⟨j, b', blk', own', u, h1, h2, _, h4, h5⟩
       ·exact absurd h1 (killL_apart hm hv0 rfl hbm hp rfl hg hq)
       ·cases j with
        | succ j =>
         have := (List.getElem?_eq_some_iff.1 h1).1
         rw [hlen1] at this
         omega
        | zero =>
         rw [hq0] at h2
         injection h2 with h2
         subst h2
         exact ⟨h4, h5⟩
      have hsame : p.ghost = false -> ∀ q, q ∈ (⟨.mat kd e l, e2, .mat⟩ : Blk).foot p -> (s.ghost = false -> q ≠ s.blk) -> w'.heap[q]? = w.heap[q]? := fun hg q hq hne =>
       hkeep.block q ((hm.blks b _ p hbm hp).lt rfl hg hq) fun hN => by
        obtain ⟨h1, h2⟩ := hfar hg q hq hN
        exact hne h1 h2
      have hpg : p.ghost = false := by
       rcases hrow with ⟨_, rfl, _⟩ | ⟨hg, _⟩
       ·have := (List.getElem?_eq_some_iff.1 hs).1
        rw [hlen] at this
        simp at this
       ·exact hg
      obtain ⟨cur, e3, fz, hheap, hcur, hown3⟩ : ∃ (cur : List Value) (e' : TypeId) (fz : Nat × Nat), w.heap[p.blk]? = some (.cells cur.toArray e' fz) /\ (∀ (i : Nat) (s : Sub), p.subs[i]? = some s -> cur[p.off + i]? = some (s.val (l.getD i []).length)) /\
        (Kind.mat.isArg = false -> e' = e2 /\ fz = (0, 0) /\ cur.length = p.cap /\ p.cap <= maxLen /\ p.off = 0 /\ (p.blk :: subFoot p.subs).Nodup) := by
       rcases hrow with ⟨h0, _⟩ | ⟨_, h0⟩
       ·rw [hpg] at h0; cases h0
       ·exact h0
      obtain ⟨o1, o2, o3, o4, o5, o6⟩ := hown3 rfl
      have hnd := List.nodup_cons.1 o6
      have hil : i < l.length := by rw [<- hlen]; exact (List.getElem?_eq_some_iff.1 hs).1
      have hsm : s.ghost = false -> s.blk ∈ subFoot p.subs := fun hg => mem_subFoot.2 ⟨i, s, hs, hg, rfl⟩
      have hmat : BRel ρ3 p ⟨.mat kd e (l.set i l'), e2, .mat⟩ w' := by
       refine .inr (.inr (.inr (.inr (.inr ⟨rfl, kd, e, _, rfl, by rw [List.length_set]; exact hlen, fun i' s' hs' => ?_, .inr ⟨hpg, cur, e3, fz, (hsame hpg p.blk (foot_head _ _) fun hg e0 => hnd.1 (by rw [e0]; exact hsm hg)).trans hheap, fun i' s' hs' => ?_, hown3⟩⟩))))
       ·by_cases hii : i = i'
        ·subst hii
         rw [hs] at hs'
         injection hs' with hs'
         subst hs'
         rw [getD_set_self hil]
         exact hsub'
        ·rw [getD_set_other hii]
         refine (hrows i' s' hs').keep fun hg' => hsame hpg _ (by rw [foot_mat rfl]; exact List.mem_cons_of_mem _ (mem_subFoot.2 ⟨i', s', hs', hg', rfl⟩)) fun hg => ?_
         exact subFoot_ne hnd.2 hs' hs (Ne.symm hii) hg' hg
       ·rw [hcur i' s' hs']
        congr 2
        by_cases hii : i = i'
        ·subst hii; rw [getD_set_self hil, hl']
        ·rw [getD_set_other hii]
      have hkf : killFrom mem.length 1 m = killB m mem.length := rfl
      rw [hkf] at hB hBl
      have hB' := hB.restore hm (hpre3 hpre) hbm hp rfl rfl (blk' := ⟨.mat kd e (l.set i l'), e2, .mat⟩) rfl (fun hg c bl pc hc hcb hd _ hpc hgc q hq1 hq2 hFq => by
       obtain ⟨hsg, rfl⟩ := hfar hg q hq1 hFq
       obtain ⟨bl0, g1, _, g3⟩ := killB_get hc
       obtain ⟨e0, hcN⟩ := g3 hd
       subst e0
       exact hmr.inj c mem.length bl _ pc s.place g1 hmN hpc hNρ hcN hd rfl hgc hsg (by simp [Kind.isArg]) s.blk hq2 (foot_head _ _)) hmat (Nat.lt_of_lt_of_le (List.getElem?_eq_some_iff.1 hbm).1 hBl)
      exact ⟨v, _, ρ3, x, rfl, hk, hpre3 hpre, hv, hB'.rel, hkeep.mono fun q _ hq => hF q hq, fun j hj => hB'.names hm (hpre3 hpre) hF hj⟩
     ·exact hk.elim
    ·exact hk.elim
   ·exact hk.elim
  ·exact h.elim
end
end Go.Vi
