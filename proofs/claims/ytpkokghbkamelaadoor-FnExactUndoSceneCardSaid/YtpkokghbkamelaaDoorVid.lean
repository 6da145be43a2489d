/- What the conditions are worth: a call whose conditions hold returns, with a value that they let through. -/
import Derived.Test.YtpkokghbkamelaaDoorVin
import Derived.Maps.AppendAt
import Derived.Lib.AppendStr
import Derived.ArgAppend
namespace Go.Vi
open Go.RowKit

section
variable {P : Program}

structure SRel (D : List Deferred) (W : Nat -> Prop) (w0 : World) (ρ0 : List Place) (ρ : List Place) (st : St) (a : Act) (w : World) : Prop where
 slots : RepL ρ st.slots a.tmps.toList
 nodefer : a.defers = D
 mem : MRel ρ st.mem w
 keep : Keep W w0 w
 own : ∀ j, Names ρ st.mem j -> W j \/ w0.heap.size <= j
 pre : ρ0 <+: ρ

/-- How a call ends. -/
def Ends (ρ : List Place) (m : List Blk) (w : World) (k : V -> List Blk -> Prop) (e : Ending) (w' : World) : Prop :=
 ∃ v m' ρ' x, e = .returned x /\ k v m' /\ ρ <+: ρ' /\ Rep ρ' v x /\ MRel ρ' m' w' /\ Keep (Names ρ m) w w' /\ ∀ j, Names ρ' m' j -> Names ρ m j \/ w.heap.size <= j

structure OK (P : Program) (f : FuncId) (S : VSpec) : Prop where
 enter : ∀ args m k, S args m k -> ∀ xs w, (callFunc f xs).run P w = .ok (.enter f xs) w
 calls : ∀ args m k, S args m k -> ∀ ρ w (xs : List Value), MRel ρ m w -> RepL ρ args xs -> Calls P f xs.toArray w (Ends ρ m w k)

theorem SRel.put {D : List Deferred} {W : Nat -> Prop} {w0 : World} {ρ0 : List Place} {ρ : List Place} {st : St} {a : Act} {w : World} (h : SRel D W w0 ρ0 ρ st a w) (d : Option Tmp) {v : V} {x : Value} (hx : Rep ρ v x) : SRel D W w0 ρ0 ρ (st.put d v) (a.put d x) w := by
 cases d with
 | none => exact h
 | some d =>
  refine ⟨?_, h.nodefer, h.mem, h.keep, h.own, h.pre⟩
  simp only [St.put, St.set, Act.put, Array.toList_setIfInBounds]
  exact h.slots.set d hx

theorem SRel.setSlot {D : List Deferred} {W : Nat -> Prop} {w0 : World} {ρ0 : List Place} {ρ : List Place} {st : St} {a : Act} {w : World} (h : SRel D W w0 ρ0 ρ st a w) {d : Nat} {v : V} (hx : ∀ x, a.tmps[d]? = some x -> Rep ρ v x) : SRel D W w0 ρ0 ρ (st.set d v) a w := by
 refine ⟨?_, h.nodefer, h.mem, h.keep, h.own, h.pre⟩
 simp only [St.set]
 have hl := h.slots.length
 refine RepL.of (by simpa using hl) fun j u y hu hy => ?_
 rw [List.getElem?_set] at hu
 by_cases hdj : d = j
 ·subst hdj
  by_cases hlt : d < st.slots.length
  ·simp [hlt] at hu
   subst hu
   exact hx y (by simpa using hy)
  ·simp [hlt] at hu
 ·simp only [hdj, if_false] at hu
  exact h.slots.get2 hu hy

theorem isCell_one {ρ : List Place} {v : V} {x : Value} (h : isCell v = true) (hr : Rep ρ v x) : x.oneCell' = true := by
 cases v
 case raw y =>
  simp only [Rep] at hr
  subst hr
  cases x <;> first | rfl | (simp [isCell] at h)
 all_goals simp only [isCell, reduceCtorEq] at h
 all_goals simp only [Rep] at hr
 all_goals first
  | (subst hr; rfl)
  | (obtain ⟨p, _, rfl⟩ := hr; rfl)
  | (obtain ⟨p, _, (⟨_, _, rfl⟩ | ⟨_, rfl⟩)⟩ := hr <;> rfl)
  | (obtain ⟨_, p, _, rfl⟩ := hr; rfl)
  | (obtain ⟨p, s, _, _, _, rfl⟩ := hr; obtain ⟨_, _, g, _, _⟩ := s; cases g <;> rfl)
  | (obtain ⟨p, _, _, _, rfl⟩ := hr; rfl)
  | (obtain ⟨a, rfl⟩ := hr; rfl)
  | (exact absurd h (by decide))

theorem SRel.newC {D : List Deferred} {W : Nat -> Prop} {w0 : World} {ρ0 : List Place} {ρ : List Place} {st : St} {a : Act} {w : World} (h : SRel D W w0 ρ0 ρ st a w) (d : Option Tmp) {c : Cells} {cs : List V} {xs : Array Value} (hc : c.toVs = cs) (hx : RepL ρ cs xs.toList) (e : TypeId) :
  ∃ ρ', ρ <+: ρ' /\ SRel D W w0 ρ0 ρ' (st.newC d c e) (a.put d (.pointer (some ⟨w.heap.size, 0, none⟩))) (w.alloc (.cells xs e)) := by
 have hm : MRel (ρ ++ [⟨w.heap.size, 0, false, 0, none, []⟩]) (st.mem ++ [⟨c, e, .box⟩]) (w.alloc (.cells xs e)) := by
  refine h.mem.add (fun k hk => Below.heap_alloc w _ k (h.mem.lt hk)) (fun _ k hk hn => by have := h.mem.lt hn; simp [Blk.foot] at hk; omega) (.inr (.inr (.inl ⟨rfl, xs.toList, by rw [heap_alloc_new w _]; rfl, ?_, ?_, rfl, rfl⟩)))
  ·simp only [hc]
   rw [List.take_of_length_le (by rw [hx.length]; exact Nat.le_refl _)]
   exact hx.mono (List.prefix_append _ _)
  ·simp [hc, hx.length]
 have hpre : ρ <+: ρ ++ [(⟨w.heap.size, 0, false, 0, none, []⟩ : Place)] := List.prefix_append _ _
 refine ⟨_, hpre, ?_⟩
 have hs : SRel D W w0 ρ0 (ρ ++ [⟨w.heap.size, 0, false, 0, none, []⟩]) { st with mem := st.mem ++ [⟨c, e, .box⟩] } a (w.alloc (.cells xs e)) := by
  refine ⟨h.slots.mono hpre, h.nodefer, hm, h.keep.trans (Keep.alloc _ _ _), fun j hj => ?_, h.pre.trans hpre⟩
  obtain ⟨b, blk, p, hb, hp, hd, hg, hq, hjf⟩ := hj
  by_cases hlt : b < st.mem.length
  ·rw [List.getElem?_append_left hlt] at hb
   rw [List.getElem?_append_left (by rw [h.mem.len]; exact hlt)] at hp
   exact h.own _ ⟨b, blk, p, hb, hp, hd, hg, hq, hjf⟩
  ·have hbl : b = st.mem.length := by
    have := (List.getElem?_eq_some_iff.1 hb).1
    simp at this; omega
   subst hbl
   rw [List.getElem?_concat_length] at hb
   rw [<- h.mem.len, List.getElem?_concat_length] at hp
   injection hp with hp
   injection hb with hb
   subst hp; subst hb
   rw [foot_one (by first | rfl | exact hnm)] at hjf
   simp only [List.mem_singleton] at hjf
   subst hjf
   exact .inr h.keep.size
 refine hs.put d ?_
 simp only [Rep]
 exact ⟨⟨w.heap.size, 0, false, 0, none, []⟩, by rw [<- h.mem.len, List.getElem?_concat_length], rfl⟩
theorem isZ8_spec {v : V} (h : isZ8 v = true) : v = byV 0 := by
 unfold isZ8 at h
 split at h
 ·split at h
  ·rfl
  ·cases h
 ·cases h
theorem dropN_eq : ∀ (n : Nat) (l : List V), dropN n l = l.drop n
 | 0, l => rfl
 | n + 1, [] => rfl
 | n + 1, _ :: r => by simp [dropN, dropN_eq n r]
theorem zerosPre_spec : ∀ cs : List V, zerosPre cs ++ dropN (zerosPre cs).length cs = cs
 | [] => rfl
 | v :: r => by
  unfold zerosPre
  split
  ·rfl
  ·simp only [List.length_cons, dropN, List.cons_append, zerosPre_spec r]
theorem zerosRun_spec : ∀ cs : List V, List.replicate (zerosRun cs) (byV 0) ++ dropN (zerosRun cs) cs = cs
 | [] => rfl
 | v :: r => by
  unfold zerosRun
  split
  ·rename_i h
   rw [isZ8_spec h]
   simp only [List.replicate_succ, dropN, List.cons_append, zerosRun_spec r]
  ·rfl
theorem smallN_spec : ∀ {f n : Nat} {k : Nat -> Prop}, smallN f n k -> k n
 | 0, n, k, h => by unfold smallN at h; exact h
 | f + 1, n, k, h => by
  unfold smallN at h
  split at h
  ·rename_i e
   rw [Nat.eq_of_beq_eq_true e]; exact h
  ·unfold smallN at h; exact h
theorem mixOf_spec {cs : List V} {k : Cells -> Prop} (h : mixOf cs k) : ∃ c, k c /\ c.toVs = cs := by
 unfold mixOf at h
 split at h
 ·refine ⟨_, smallN_spec h, ?_⟩
  simp only [Cells.toVs]
  have e : (padB (zerosRun (dropN (zerosPre cs).length cs)) []).map byV = List.replicate (zerosRun (dropN (zerosPre cs).length cs)) (byV 0) := by
   simp [padB]
  rw [e, List.append_assoc, zerosRun_spec, zerosPre_spec]
 ·exact ⟨_, h, rfl⟩
theorem takeN_eq : ∀ (n : Nat) (l : List V), takeN n l = l.take n
 | 0, l => by simp [takeN]
 | n + 1, [] => rfl
 | n + 1, _ :: r => by simp [takeN, takeN_eq n r]
theorem intsOf_toVs {kd : IntKind} : ∀ {vs : List V} {l : List Int}, intsOf kd vs = some l -> l.map (V.int kd) = vs
 | [], l, h => by simp only [intsOf, Option.some.injEq] at h; subst h; rfl
 | v :: r, l, h => by
  unfold intsOf at h
  split at h
  ·rename_i k n
   split at h
   ·rename_i hk hl
    have hk := of_decide_eq_true hk
    injection h with h
    subst h
    subst hk
    rw [List.map_cons, intsOf_toVs hl]
   ·cases h
  ·cases h
theorem mixOfT_spec {P : Program} {e : TypeId} {cs : List V} {k : Cells -> Prop} (h : mixOfT P e cs k) : ∃ c, k c /\ c.toVs = cs := by
 unfold mixOfT at h
 split at h
 ·exact mixOf_spec h
 ·rename_i o n _
  split at h
  ·rename_i l hl
   replace h := lit16_spec h
   split at h
   ·rename_i hlen
    simp only [Bool.and_eq_true] at hlen
    have h1 := Nat.eq_of_beq_eq_true hlen.1
    have h2 := Nat.eq_of_beq_eq_true hlen.2
    refine ⟨_, h, ?_⟩
    simp only [Cells.toVs]
    rw [padI_self h1, intsOf_toVs hl, takeN_eq, takeN_eq, dropN_eq, dropN_eq, List.append_assoc, List.take_append_drop, List.take_append_drop]
   ·exact h.elim
  ·exact h.elim
theorem SRel.new {D : List Deferred} {W : Nat -> Prop} {w0 : World} {ρ0 : List Place} {ρ : List Place} {st : St} {a : Act} {w : World} (h : SRel D W w0 ρ0 ρ st a w) (d : Option Tmp) {cs : List V} {xs : Array Value} (hx : RepL ρ cs xs.toList) (e : TypeId) :
  ∃ ρ', ρ <+: ρ' /\ SRel D W w0 ρ0 ρ' (st.new d cs e) (a.put d (.pointer (some ⟨w.heap.size, 0, none⟩))) (w.alloc (.cells xs e)) := by
 have hm := h.mem.new hx e
 rw [Array.toArray_toList] at hm
 have hpre : ρ <+: ρ ++ [(⟨w.heap.size, 0, false, 0, none, []⟩ : Place)] := List.prefix_append _ _
 refine ⟨_, hpre, ?_⟩
 have hs : SRel D W w0 ρ0 (ρ ++ [⟨w.heap.size, 0, false, 0, none, []⟩]) { st with mem := st.mem ++ [⟨.vals cs, e, .box⟩] } a (w.alloc (.cells xs e)) := by
  refine ⟨h.slots.mono hpre, h.nodefer, hm, h.keep.trans (Keep.alloc _ _ _), fun j hj => ?_, h.pre.trans hpre⟩
  obtain ⟨b, blk, p, hb, hp, hd, hg, hq, hjf⟩ := hj
  by_cases hlt : b < st.mem.length
  ·rw [List.getElem?_append_left hlt] at hb
   rw [List.getElem?_append_left (by rw [h.mem.len]; exact hlt)] at hp
   exact h.own _ ⟨b, blk, p, hb, hp, hd, hg, hq, hjf⟩
  ·have hbl : b = st.mem.length := by
    have := (List.getElem?_eq_some_iff.1 hb).1
    simp at this; omega
   subst hbl
   rw [List.getElem?_concat_length] at hb
   rw [<- h.mem.len, List.getElem?_concat_length] at hp
   injection hp with hp
   injection hb with hb
   subst hp; subst hb
   rw [foot_one (by first | rfl | exact hnm)] at hjf
   simp only [List.mem_singleton] at hjf
   subst hjf
   exact .inr h.keep.size
 refine hs.put d ?_
 simp only [Rep]
 exact ⟨⟨w.heap.size, 0, false, 0, none, []⟩, by rw [<- h.mem.len, List.getElem?_concat_length], rfl⟩

/-- One cell stored. -/
theorem MRel.setCell {ρ : List Place} {m : List Blk} {w : World} (h : MRel ρ m w) {b : Nat} {p : Place} {cs cs' : Cells} {e : TypeId} {r : Kind} {i : Nat} {v : V} {x : Value} (hm : m[b]? = some ⟨cs, e, r⟩) (hp : ρ[b]? = some p)
  (har : r.isArg = false) (hd : cs.isDead = false) (hi : i < cs.toVs.length) (hr : Rep ρ v x) (hcs : cs'.toVs = cs.toVs.set i v) :
  MRel ρ (m.set b ⟨cs', e, r⟩) (w.setCell (addrOf p i) x) /\ p.ghost = false := by
 have hg : p.ghost = false := by
  rcases h.blks b _ p hm hp with h1 | ⟨_, _, h1, _⟩ | ⟨h1, _⟩ | ⟨h1, _⟩ | ⟨h1, _⟩ | ⟨_, _, _, _, h1, _⟩
  ·rw [hd] at h1; cases h1
  ·simp only at h1; rw [h1] at hi; simp at hi
  ·exact h1
  ·exact h1
  ·exact h1
  ·simp only at h1; rw [h1] at hi; simp [Cells.toVs] at hi
 have hbl : b < m.length := (List.getElem?_eq_some_iff.1 hm).1
 have old : ∀ {c : Nat} {blk : Blk}, (m.set b ⟨cs', e, r⟩)[c]? = some blk -> ∃ blk0, m[c]? = some blk0 /\ (blk.cs.isDead = false -> blk0.cs.isDead = false) /\ (c ≠ b -> blk0 = blk) /\ (c = b -> blk = ⟨cs', e, r⟩) /\ blk.kind = blk0.kind := by
  intro c blk hc
  rw [List.getElem?_set] at hc
  by_cases hbc : b = c
  ·subst hbc
   simp [hbl] at hc
   exact ⟨_, hm, fun _ => hd, fun h => absurd rfl h, fun _ => hc.symm, by rw [<- hc]⟩
  ·simp only [hbc, if_false] at hc
   exact ⟨blk, hc, fun h => h, fun _ => rfl, fun h => absurd h.symm hbc, rfl⟩
 refine ⟨⟨by simp [h.len], fun c blk q hc hq => ?_, fun c c' blk blk' q q' hc hc' hq hq' hne hdc hdc' hgc hgc' haa => ?_⟩, hg⟩
 ·obtain ⟨blk0, h0, hdd, hne, heq, _⟩ := old hc
  by_cases hcb : c = b
  ·subst hcb
   have hblk := heq rfl
   subst hblk
   have hqp : q = p := by rw [hp] at hq; injection hq with hq; exact hq.symm
   subst hqp
   rcases h.blks c _ q hm hp with h1 | ⟨h1, _, _⟩ | ⟨_, cur, hcur, hrep, hsz, hoff, hka⟩ | ⟨_, h1, _⟩ | ⟨_, _, _, l, _, hl, _⟩ | ⟨_, _, _, _, hl, _⟩
   ·rw [hd] at h1; cases h1
   ·rw [hg] at h1; cases h1
   ·have hl := hrep.length
    have hcl : cs.toVs.length <= cur.length := by rw [hl, List.length_take]; omega
    refine .inr (.inr (.inl ⟨hg, cur.set i x, ?_, ?_, ?_, hoff, hka⟩))
    ·simp only at hcur ⊢
     rw [addrOf_own hoff, heap_set_any hcur]
     simp
    ·simp only [hcs, List.length_set]
     rw [List.take_set]
     exact hrep.set i hr
    ·simp only [hcs, List.length_set] at hsz ⊢
     exact hsz
   ·have h1 := h1.1; simp only at h1; rw [har] at h1; cases h1
   ·simp only at hl; rw [hl] at hi; simp [Cells.toVs] at hi
   ·simp only at hl; rw [hl] at hi; simp [Cells.toVs] at hi
  ·have hblk := hne hcb
   subst hblk
   refine (h.blks c _ q h0 hq).keep fun hdc hgc j hj => ?_
   refine heap_setCell_other w (addrOf p i) j x ?_
   have := h.inj c b _ _ q p h0 hm hq hp hcb hdc hd hgc hg (by simp [har]) j hj
   exact fun e => this (e ▸ foot_head _ p)
 ·obtain ⟨b0, h0, hd0, _, _, hk0⟩ := old hc
  obtain ⟨b0', h0', hd0', _, _, hk0'⟩ := old hc'
  rw [foot_kind q hk0, foot_kind q' hk0']
  exact h.inj c c' b0 b0' q q' h0 h0' hq hq' hne (hd0 hdc) (hd0' hdc') hgc hgc' (by rw [<- hk0, <- hk0']; exact haa)

theorem names_set {ρ : List Place} {m : List Blk} {b : Nat} {blk blk' : Blk} (hm : m[b]? = some blk) (hd : blk'.cs.isDead = false -> blk.cs.isDead = false) (hk : blk'.kind = blk.kind) {j : Nat} (h : Names ρ (m.set b blk') j) : Names ρ m j := by
 obtain ⟨c, bl, p, hc, hp, hdc, hg, hq, hjf⟩ := h
 have hbl : b < m.length := (List.getElem?_eq_some_iff.1 hm).1
 rw [List.getElem?_set] at hc
 by_cases hbc : b = c
 ·subst hbc
  simp [hbl] at hc
  subst hc
  exact ⟨b, blk, p, hm, hp, hd hdc, hg, by show blk.kind.isArg = false; rw [<- hk]; exact hq, by rw [<- foot_kind p hk]; exact hjf⟩
 ·simp only [hbc, if_false] at hc
  exact ⟨c, bl, p, hc, hp, hdc, hg, hq, hjf⟩

theorem Keep.setCell {p : Place} {i : Nat} {x : Value} (w : World) : Keep (· = p.blk) w (w.setCell (addrOf p i) x) :=
 ⟨rfl, rfl, rfl, by simp [World.setCell], fun k _ hn => heap_setCell_other w (addrOf p i) k x hn⟩

theorem storeCells_run {ρ : List Place} {p : Place} {b : Nat} {e : TypeId} {r : Kind} (har : r.isArg = false) (hp : ρ[b]? = some p) : ∀ (vs : List V) (xs : List Value) (o i : Nat) (old : List V) (m : List Blk) (w : World), RepL ρ vs xs -> allCells vs = true -> MRel ρ m w ->
  m[b]? = some ⟨.vals old, e, r⟩ -> o + i + vs.length <= old.length ->
  ∃ w', (storeCells (addrOf p o) xs i).run P w = .ok () w' /\ MRel ρ (m.set b ⟨.vals (setCells old (o + i) vs), e, r⟩) w' /\ Keep (· = p.blk) w w' /\ (vs ≠ [] -> p.ghost = false)
 | [], xs, o, i, old, m, w, hx, _, hm, hb, _ => by
  simp only [RepL] at hx
  subst hx
  refine ⟨w, rfl, ?_, Keep.refl _ _, fun h => absurd rfl h⟩
  simp only [setCells]
  have : m.set b ⟨.vals old, e, r⟩ = m := by
   apply List.ext_getElem?
   intro c
   rw [List.getElem?_set]
   by_cases hbc : b = c
   ·subst hbc
    have hbl : b < m.length := (List.getElem?_eq_some_iff.1 hb).1
    simp only [hbl, if_true]
    exact hb.symm
   ·simp [hbc]
  rw [this]
  exact hm
 | v :: vs, xs, o, i, old, m, w, hx, hc, hm, hb, hl => by
  simp only [RepL] at hx
  obtain ⟨x, xs', rfl, hvx, hx⟩ := hx
  simp only [allCells, Bool.and_eq_true] at hc
  simp only [List.length_cons] at hl
  have hlt : o + i < (Cells.vals old).toVs.length := by simp only [Cells.toVs]; omega
  have hold := getD_some (d := V.undef) hlt
  obtain ⟨y, hy, _, hf⟩ := hm.cell hb hp hold
  replace hf := hf har
  obtain ⟨hm1, hg⟩ := hm.setCell (cs' := .vals (old.set (o + i) v)) hb hp har rfl hlt hvx rfl
  have hb1 : (m.set b ⟨.vals (old.set (o + i) v), e, r⟩)[b]? = some ⟨.vals (old.set (o + i) v), e, r⟩ := by
   have hbl : b < m.length := (List.getElem?_eq_some_iff.1 hb).1
   simp [hbl]
  obtain ⟨w', hrun, hm2, hk, _⟩ := storeCells_run har hp vs xs' o (i + 1) (old.set (o + i) v) _ _ hx hc.2 hm1 hb1 (by simp; omega)
  refine ⟨w', ?_, ?_, (Keep.setCell w).trans (hk.mono fun k _ hk => .inl hk), fun _ => hg⟩
  ·simp only [storeCells, Sem.run_bind, add_addrOf]
   rw [run_store P w _ x _ (isCell_one hc.1 hvx)]
   simp only [hy, hf, Bool.false_eq_true, if_false, Result.andThen_ok]
   exact hrun
  ·rw [List.set_set] at hm2
   simpa only [setCells, Nat.add_assoc] using hm2

theorem intsOf_cells {kd : IntKind} : ∀ {vs : List V} {l : List Int}, intsOf kd vs = some l -> allCells vs = true
 | [], l, _ => rfl
 | v :: r, l, h => by
  unfold intsOf at h
  split at h
  ·split at h
   ·rename_i hl
    simp only [allCells, isCell, Bool.true_and]
    exact intsOf_cells hl
   ·cases h
  ·cases h
theorem setInts_toVs (kd : IntKind) : ∀ (l' l : List Int) (o : Nat), (setInts l o l').map (V.int kd) = setCells (l.map (V.int kd)) o (l'.map (V.int kd))
 | [], _, _ => rfl
 | n :: ns, l, o => by
  simp only [setInts, List.map_cons, setCells]
  rw [setInts_toVs kd ns (l.set o n) (o + 1), List.map_set]
theorem scOf_spec {sh : Sh} {v : V} {c : Sc} (h : scOf sh v = some c) : v = sh.v c := by
 unfold scOf at h
 split at h
 ·split at h
  ·rename_i hk
   injection h with h
   have hk := of_decide_eq_true hk
   subst h; subst hk; rfl
  ·cases h
 ·injection h with h; subst h; rfl
 ·cases h
theorem shv_cell (sh : Sh) (c : Sc) : isCell (sh.v c) = true := by cases sh <;> rfl
theorem shv_under (sh : Sh) (c : Sc) : (sh.v c).under 0 = true := by cases sh <;> rfl
theorem recV_cell (sh : List Sh) : ∀ (l : List Sc) (j : Nat), ∀ v ∈ recV sh j l, isCell v = true
 | [], _, v, h => by simp [recV] at h
 | c :: r, j, v, h => by
  simp only [recV, List.mem_cons] at h
  rcases h with rfl | h
  ·exact shv_cell _ _
  ·exact recV_cell sh r (j + 1) v h
theorem recV_under (sh : List Sh) : ∀ (l : List Sc) (j : Nat), underL 0 (recV sh j l) = true
 | [], _ => rfl
 | c :: r, j => by simp only [recV, underL, shv_under, recV_under sh r (j + 1), Bool.and_self]
theorem scsOf_recV {sh : List Sh} : ∀ {vs : List V} {l : List Sc} {j : Nat}, scsOf sh j vs = some l -> recV sh j l = vs
 | [], l, j, h => by simp only [scsOf, Option.some.injEq] at h; subst h; rfl
 | v :: r, l, j, h => by
  unfold scsOf at h
  split at h
  ·rename_i c l' hc hl
   injection h with h
   subst h
   simp only [recV]
   rw [scsOf_recV hl, scOf_spec hc]
  ·cases h
theorem allCells_of : ∀ {vs : List V}, (∀ v ∈ vs, isCell v = true) -> allCells vs = true
 | [], _ => rfl
 | v :: r, h => by
  simp only [allCells, h v (by simp), Bool.true_and]
  exact allCells_of fun u hu => h u (by simp [hu])
theorem setScs_toVs {sh : List Sh} : ∀ {vs : List V} {l' : List Sc} {j : Nat} (l : List Sc) (o : Nat), o % sh.length = j % sh.length -> scsOf sh j vs = some l' -> recV sh 0 (setScs l o l') = setCells (recV sh 0 l) o vs
 | [], l', j, l, o, _, h => by simp only [scsOf, Option.some.injEq] at h; subst h; rfl
 | v :: r, l', j, l, o, ho, h => by
  unfold scsOf at h
  split at h
  ·rename_i c l'' hc hl
   injection h with h
   subst h
   simp only [setScs, setCells]
   rw [setScs_toVs (l.set o c) (o + 1) (by rw [Nat.add_mod, ho, <- Nat.add_mod]) hl, recV_set, Nat.zero_add, shAt_mod ho, <- scOf_spec hc]
  ·cases h
/-- Its cells are all that it is. -/
def Cells.flat : Cells -> Bool
 | .map _ => false
 | .mat _ _ _ => false
 | _ => true
/-- Of a block only what its cells are counts. -/
theorem MRel.same {ρ : List Place} {m : List Blk} {w : World} (h : MRel ρ m w) {b : Nat} {cs cs' : Cells} {e : TypeId} {r : Kind} (hm : m[b]? = some ⟨cs, e, r⟩) (hv : cs'.toVs = cs.toVs) (hd : cs.isDead = false) (hd' : cs'.isDead = false) (hnm : cs.flat = true) : MRel ρ (m.set b ⟨cs', e, r⟩) w := by
 have hbl : b < m.length := (List.getElem?_eq_some_iff.1 hm).1
 have old : ∀ {c : Nat} {blk : Blk}, (m.set b ⟨cs', e, r⟩)[c]? = some blk -> ∃ blk0, m[c]? = some blk0 /\ blk0.cs.isDead = blk.cs.isDead /\ blk0.cs.toVs = blk.cs.toVs /\ blk0.kind = blk.kind /\ blk0.elem = blk.elem /\ (blk0 = blk \/ blk0.cs.flat = true) := by
  intro c blk hc
  rw [List.getElem?_set] at hc
  by_cases hbc : b = c
  ·subst hbc
   simp [hbl] at hc
   subst hc
   exact ⟨_, hm, by rw [hd, hd'], hv.symm, rfl, rfl, .inr hnm⟩
  ·simp only [hbc, if_false] at hc
   exact ⟨blk, hc, rfl, rfl, rfl, rfl, .inl rfl⟩
 refine ⟨by simp [h.len], fun c blk p hc hp => ?_, fun c c' blk blk' p p' hc hc' hp hp' hne hdd hdd' hg hg' ha => ?_⟩
 ·obtain ⟨⟨c0, e0, k0⟩, h0, h1, h2, h3, h4, h5⟩ := old hc
  have hB := h.blks c _ p h0 hp
  rcases h5 with h5 | h5
  ·rw [<- h5]; exact hB
  ·obtain ⟨c1, e1, k1⟩ := blk
   simp only at h1 h2 h3 h4 h5
   subst h3; subst h4
   rcases hB with hB | hB | hB | hB | ⟨_, _, _, l, _, hl, _⟩ | ⟨_, _, _, l, hl, _⟩
   ·exact .inl (by simp only at hB ⊢; rw [<- h1]; exact hB)
   ·exact .inr (.inl (by simp only at hB ⊢; rw [<- h2]; exact hB))
   ·exact .inr (.inr (.inl (by simp only at hB ⊢; rw [<- h2]; exact hB)))
   ·exact .inr (.inr (.inr (.inl (by simp only at hB ⊢; rw [<- h2]; exact hB))))
   ·simp only at hl; rw [hl] at h5; cases h5
   ·simp only at hl; rw [hl] at h5; cases h5
 ·obtain ⟨b0, h0, h1, _, h3, _, _⟩ := old hc
  obtain ⟨b0', h0', h1', _, h3', _, _⟩ := old hc'
  rw [<- foot_kind p h3, <- foot_kind p' h3']
  exact h.inj c c' b0 b0' p p' h0 h0' hp hp' hne (h1.trans hdd) (h1'.trans hdd') hg hg' (by rw [h3, h3']; exact ha)
/-- One cell of a row stored. -/
theorem storeOne {D : List Deferred} {W : Nat -> Prop} {w0 : World} {ρ0 : List Place} {ρ : List Place} {st : St} {a : Act} {w : World} (hs : SRel D W w0 ρ0 ρ st a w) {t : TypeId} {b o : Nat} {p : Place} {x : Value} {v : V} {cs cs' : Cells} {e : TypeId} {kd : Kind} {i : TypeInfo}
  (har : kd.isArg = false) (hp : ρ[b]? = some p) (hb : st.mem[b]? = some ⟨cs, e, kd⟩) (hi : P.info? t = some i) (hsz : i.size = 1) (hd : cs.isDead = false) (ho : o < cs.toVs.length) (hx : Rep ρ v x) (hv : isCell v = true) (hcs : cs'.toVs = cs.toVs.set o v) :
  ∃ w', (Instr.storeAt t (.pointer (some (addrOf p o))) x).run P w = .ok () w' /\ SRel D W w0 ρ0 ρ { st with mem := st.mem.set b ⟨cs', e, kd⟩ } a w' := by
 obtain ⟨y, hy, _, hf⟩ := hs.mem.cell hb hp (getD_some (d := V.undef) ho)
 replace hf := hf har
 obtain ⟨hm1, hg⟩ := hs.mem.setCell (cs' := cs') hb hp har hd ho hx hcs
 have hone := isCell_one hv hx
 have hcells : x.cells = #[x] := by cases x <;> first | rfl | (simp [Value.oneCell'] at hone)
 refine ⟨w.setCell (addrOf p o) x, ?_, ⟨hs.slots, hs.nodefer, hm1, ?_, ?_, hs.pre⟩⟩
 ·simp only [Instr.storeAt, Instr.sureAddr, Sem.run_bind, Sem.run_pure, Result.andThen_ok, storeVar, sizeOf, run_info hi, hsz, hcells, List.size_toArray, List.length_cons, List.length_nil, Nat.zero_add, ne_eq, not_true_eq_false, if_false, storeCells, add_addrOf, Nat.add_zero]
  rw [run_store P w _ x _ hone]
  simp only [hy, hf, Bool.false_eq_true, if_false, Result.andThen_ok]
 ·refine hs.keep.trans ((Keep.setCell w).mono fun k _ hkp => ?_)
  subst hkp
  exact hs.own _ ⟨b, _, p, hb, hp, hd, hg, har, foot_head _ _⟩
 ·intro j hj
  exact hs.own j (names_set hb (fun _ => hd) (by rfl) hj)

theorem setCells_left : ∀ (vs a z : List V) (o : Nat), o + vs.length <= a.length -> setCells (a ++ z) o vs = setCells a o vs ++ z
 | [], a, z, o, _ => rfl
 | v :: vs, a, z, o, h => by
  simp only [List.length_cons] at h
  simp only [setCells]
  rw [List.set_append_left _ _ (by omega)]
  exact setCells_left vs (a.set o v) z (o + 1) (by rw [List.length_set]; omega)
theorem setCells_right : ∀ (vs a z : List V) (o : Nat), a.length <= o -> setCells (a ++ z) o vs = a ++ setCells z (o - a.length) vs
 | [], a, z, o, _ => rfl
 | v :: vs, a, z, o, h => by
  simp only [setCells]
  rw [List.set_append_right _ _ h]
  have := setCells_right vs a (z.set (o - a.length) v) (o + 1) (by omega)
  rw [this, show o + 1 - a.length = o - a.length + 1 by omega]
theorem setCells_bytes : ∀ (s old : List UInt8) (o : Nat), o + s.length <= old.length -> setCells (old.map byV) o (s.map byV) = (old.take o ++ (s ++ old.drop (o + s.length))).map byV
 | [], old, o, _ => by simp [setCells, List.take_append_drop]
 | c :: s, old, o, h => by
  simp only [List.length_cons] at h
  have ih := setCells_bytes s (old.set o c) (o + 1) (by rw [List.length_set]; omega)
  simp only [List.map_cons, setCells]
  rw [<- List.map_set, ih]
  congr 1
  have h1 : (old.set o c).take (o + 1) = old.take o ++ [c] := by
   rw [List.take_set, List.take_succ_eq_append_getElem (by omega), List.set_append_right _ _ (by rw [List.length_take]; omega)]
   simp only [List.length_take]
   rw [show o - min o old.length = 0 by omega]
   rfl
  rw [h1, List.drop_set, if_pos (by omega), List.append_assoc]
  simp only [List.length_cons, List.cons_append, List.nil_append]
  rw [show o + 1 + s.length = o + (s.length + 1) by omega]
theorem setCells_all : ∀ (vs old : List V), vs.length = old.length -> setCells old 0 vs = vs := by
 have key : ∀ (vs a z : List V) , vs.length = z.length -> setCells (a ++ z) a.length vs = a ++ vs := by
  intro vs
  induction vs with
  | nil => intro a z h; simp only [List.length_nil] at h; rw [List.eq_nil_of_length_eq_zero h.symm]; rfl
  | cons v vs ih =>
   intro a z h
   match z, h with
   | y :: z, h =>
    simp only [setCells]
    rw [List.set_append_right _ _ (Nat.le_refl _), Nat.sub_self, List.set_cons_zero]
    have := ih (a ++ [v]) z (by simpa using h)
    rw [List.length_append, List.length_singleton, List.append_assoc, List.append_assoc] at this
    exact this
 intro vs old h
 exact key vs [] old h
theorem setInts_all (kd : IntKind) : ∀ (s l : List Int), s.length <= l.length -> setCells (l.map (V.int kd)) 0 (s.map (V.int kd)) = (s ++ l.drop s.length).map (V.int kd) := by
 intro s l h
 have e : l.map (V.int kd) = (l.take s.length).map (V.int kd) ++ (l.drop s.length).map (V.int kd) := by rw [<- List.map_append, List.take_append_drop]
 rw [e, setCells_left _ _ _ _ (by simp only [List.length_map, List.length_take]; omega), setCells_all _ _ (by simp only [List.length_map, List.length_take]; omega), List.map_append]
theorem bytes_cells : ∀ l : List UInt8, allCells (l.map byV) = true
 | [] => rfl
 | c :: l => by simp [allCells, isCell, byV, bytes_cells l]
/-- Cells side by side stored, whatever form they are told in. -/
theorem storeMany' {D : List Deferred} {W : Nat -> Prop} {w0 : World} {ρ0 : List Place} {ρ : List Place} {st : St} {a : Act} {w : World} (hs : SRel D W w0 ρ0 ρ st a w) {b o : Nat} {p : Place} {xs : List Value} {vs : List V} {cs cs' : Cells} {e : TypeId} {r : Kind}
  (har : r.isArg = false) (hp : ρ[b]? = some p) (hb : st.mem[b]? = some ⟨cs, e, r⟩) (h3 : allCells vs = true) (hd : cs.isDead = false) (hd' : cs'.isDead = false) (hnm : cs.flat = true) (ho : o + vs.length <= cs.toVs.length) (hcells : RepL ρ vs xs) (hcs : cs'.toVs = setCells cs.toVs o vs) :
  ∃ w', (storeCells (addrOf p o) xs).run P w = .ok () w' /\ SRel D W w0 ρ0 ρ { st with mem := st.mem.set b ⟨cs', e, r⟩ } a w' := by
 have hm0 := hs.mem.same (cs' := .vals cs.toVs) hb rfl hd rfl hnm
 have hbl : b < st.mem.length := (List.getElem?_eq_some_iff.1 hb).1
 obtain ⟨w', hrun, hm, hk, hg⟩ := storeCells_run (P := P) (e := e) (r := r) har hp vs xs o 0 cs.toVs _ w hcells h3 hm0 (List.getElem?_set_self hbl) (by omega)
 have hm1 := hm.same (b := b) (cs' := cs') (cs := .vals (setCells cs.toVs (o + 0) vs)) (e := e) (r := r) (List.getElem?_set_self (by rw [List.length_set]; exact hbl)) (by rw [hcs]; rfl) rfl hd' rfl
 rw [List.set_set, List.set_set] at hm1
 refine ⟨w', hrun, ⟨hs.slots, hs.nodefer, hm1, ?_, ?_, hs.pre⟩⟩
 ·by_cases hnil : vs = []
  ·subst hnil
   have hx0 : xs = [] := by simpa [RepL] using hcells
   rw [hx0] at hrun
   have hww : w' = w := by
    have : (storeCells (addrOf p o) [] 0).run P w = .ok () w := rfl
    rw [this] at hrun
    injection hrun with _ hrun
    exact hrun.symm
   rw [hww]; exact hs.keep
  ·refine hs.keep.trans (hk.mono fun k _ hkp => ?_)
   subst hkp
   exact hs.own _ ⟨b, _, p, hb, hp, hd, hg hnil, har, foot_head _ _⟩
 ·intro j hj
  exact hs.own j (names_set hb (fun _ => hd) (by rfl) hj)
theorem storeMany {D : List Deferred} {W : Nat -> Prop} {w0 : World} {ρ0 : List Place} {ρ : List Place} {st : St} {a : Act} {w : World} (hs : SRel D W w0 ρ0 ρ st a w) {t : TypeId} {b o : Nat} {p : Place} {x : Value} {vs : List V} {cs cs' : Cells} {e : TypeId} {r : Kind} {i : TypeInfo}
  (har : r.isArg = false) (hp : ρ[b]? = some p) (hb : st.mem[b]? = some ⟨cs, e, r⟩) (hi : P.info? t = some i) (h1 : vs.length = i.size) (h3 : allCells vs = true) (hd : cs.isDead = false) (hd' : cs'.isDead = false) (hnm : cs.flat = true) (ho : o + vs.length <= cs.toVs.length)
  (hcells : RepL ρ vs x.cells.toList) (hcs : cs'.toVs = setCells cs.toVs o vs) :
  ∃ w', (Instr.storeAt t (.pointer (some (addrOf p o))) x).run P w = .ok () w' /\ SRel D W w0 ρ0 ρ { st with mem := st.mem.set b ⟨cs', e, r⟩ } a w' := by
 obtain ⟨w', hrun, hs'⟩ := storeMany' (P := P) hs har hp hb h3 hd hd' hnm ho hcells hcs
 refine ⟨w', ?_, hs'⟩
 have hsz : x.cells.size = i.size := by rw [<- h1, hcells.length]; simp
 simp only [Instr.storeAt, Instr.sureAddr, Sem.run_bind, Sem.run_pure, Result.andThen_ok, storeVar, sizeOf, run_info hi, hsz, ne_eq, not_true_eq_false, if_false]
 exact hrun

theorem vstore_sound {D : List Deferred} {W : Nat -> Prop} {w0 : World} {ρ0 : List Place} {ρ : List Place} {st : St} {a : Act} {w : World} (hs : SRel D W w0 ρ0 ρ st a w) {t : TypeId} {b o : Nat} {ax x : Value} {v : V} {k : List Blk -> Prop} (ha : Rep ρ (.ptr b o) ax) (hx : Rep ρ v x)
  (h : vstore P st.mem t b o v k) : ∃ m w', k m /\ (Instr.storeAt t ax x).run P w = .ok () w' /\ SRel D W w0 ρ0 ρ { st with mem := m } a w' := by
 obtain ⟨p, hp, rfl⟩ := ptr_at b o ha
 unfold vstore at h
 split at h
 ·exact h.elim
 ·rename_i blk hb
  obtain ⟨cs, e, r⟩ := blk
  split at h
  ·exact h.elim
  rename_i har
  simp only at har
  split at h
  ·rename_i old hcs
   simp only at hcs
   subst hcs
   split at h
   ·exact h.elim
   ·rename_i vs hvs
    split at h
    ·exact h.elim
    ·rename_i i hi
     split at h
     ·rename_i hc
      obtain ⟨h1, h2, h3⟩ := hc
      have hcells := cellsOfV_rep hvs hx
      obtain ⟨w', hrun, hm, hk, hg⟩ := storeCells_run (P := P) har hp vs x.cells.toList o 0 old st.mem w hcells h3 hs.mem hb (by omega)
      refine ⟨_, w', h, ?_, ⟨hs.slots, hs.nodefer, hm, ?_, ?_, hs.pre⟩⟩
      ·have hsz : x.cells.size = i.size := by rw [<- h1, hcells.length]; simp
       simp only [Instr.storeAt, Instr.sureAddr, Sem.run_bind, Sem.run_pure, Result.andThen_ok, storeVar, sizeOf, run_info hi, hsz, ne_eq, not_true_eq_false, if_false]
       exact hrun
      ·by_cases hnil : vs = []
       ·subst hnil
        have hx0 : x.cells.toList = [] := by simpa [RepL] using hcells
        rw [hx0] at hrun
        have hww : w' = w := by
         have : (storeCells (addrOf p o) [] 0).run P w = .ok () w := rfl
         rw [this] at hrun
         injection hrun with _ hrun
         exact hrun.symm
        rw [hww]; exact hs.keep
       ·refine hs.keep.trans (hk.mono fun k _ hkp => ?_)
        subst hkp
        exact hs.own _ ⟨b, _, p, hb, hp, rfl, hg hnil, har, foot_head _ _⟩
      ·intro j hj
       exact hs.own j (names_set hb (fun _ => rfl) (by rfl) hj)
     ·exact h.elim
  ·rename_i kd l hcs
   simp only at hcs
   subst hcs
   split at h
   ·rename_i kd' n
    split at h
    ·exact h.elim
    ·rename_i i hi
     split at h
     ·rename_i hc
      obtain ⟨hsz, rfl⟩ := hc
      obtain ⟨⟨ho⟩, h⟩ := h
      obtain ⟨w', hrun, hs'⟩ := storeOne (P := P) (cs' := .ints kd (l.set o n)) hs har hp hb hi hsz rfl (by simpa [Cells.toVs] using ho) hx rfl (by simp [Cells.toVs, List.map_set])
      exact ⟨_, w', h, hrun, hs'⟩
     ·exact h.elim
   ·rename_i vs
    split at h
    ·rename_i i l' hi hl'
     split at h
     ·rename_i hsz
      obtain ⟨⟨ho⟩, h⟩ := h
      have hvs := intsOf_toVs hl'
      simp only [Rep] at hx
      obtain ⟨xs, rfl, hcells⟩ := hx
      have hm0 := hs.mem.same (cs' := .vals (l.map (V.int kd))) hb (by simp [Cells.toVs]) rfl rfl rfl
      have hbl : b < st.mem.length := (List.getElem?_eq_some_iff.1 hb).1
      obtain ⟨w', hrun, hm, hk, hg⟩ := storeCells_run (P := P) (e := e) (r := r) har hp vs xs o 0 (l.map (V.int kd)) _ w hcells (intsOf_cells hl') hm0 (List.getElem?_set_self hbl) (by rw [List.length_map, <- hvs, List.length_map]; omega)
      have hm1 := hm.same (b := b) (cs' := .ints kd (setInts l o l')) (cs := .vals (setCells (l.map (V.int kd)) (o + 0) vs)) (e := e) (r := r) (List.getElem?_set_self (by rw [List.length_set]; exact hbl)) (by simp only [Cells.toVs]; rw [setInts_toVs, hvs, Nat.add_zero]) rfl rfl rfl
      rw [List.set_set, List.set_set] at hm1
      refine ⟨_, w', h, ?_, ⟨hs.slots, hs.nodefer, hm1, ?_, ?_, hs.pre⟩⟩
      ·have hsz' : (Value.agg xs.toArray).cells.size = i.size := by rw [<- hsz, hcells.length]; simp [Value.cells]
       simp only [Instr.storeAt, Instr.sureAddr, Sem.run_bind, Sem.run_pure, Result.andThen_ok, storeVar, sizeOf, run_info hi, hsz', ne_eq, not_true_eq_false, if_false]
       exact hrun
      ·by_cases hnil : vs = []
       ·subst hnil
        have hx0 : xs = [] := by simpa [RepL] using hcells
        rw [hx0] at hrun
        have hww : w' = w := by
         have : (storeCells (addrOf p o) [] 0).run P w = .ok () w := rfl
         rw [this] at hrun
         injection hrun with _ hrun
         exact hrun.symm
        rw [hww]; exact hs.keep
       ·refine hs.keep.trans (hk.mono fun k _ hkp => ?_)
        subst hkp
        exact hs.own _ ⟨b, _, p, hb, hp, rfl, hg hnil, har, foot_head _ _⟩
      ·intro j hj
       exact hs.own j (names_set hb (fun _ => rfl) (by rfl) hj)
     ·exact h.elim
    ·exact h.elim
   ·exact h.elim
  ·rename_i l hcs
   simp only at hcs
   subst hcs
   split at h
   ·rename_i n
    split at h
    ·exact h.elim
    ·rename_i i hi
     split at h
     ·rename_i hsz
      obtain ⟨⟨ho, h0, h1⟩, h⟩ := h
      have hn : ((UInt8.ofNat n.toNat).toNat : Int) = n := by
       rw [UInt8.toNat_ofNat']
       omega
      obtain ⟨w', hrun, hs'⟩ := storeOne (P := P) (cs' := .bytes (l.set o (UInt8.ofNat n.toNat))) hs har hp hb hi hsz rfl (by simpa [Cells.toVs] using ho) hx rfl (by simp only [Cells.toVs, List.map_set]; rw [hn])
      exact ⟨_, w', h, hrun, hs'⟩
     ·exact h.elim
   ·exact h.elim
  ·rename_i l hcs
   simp only at hcs
   subst hcs
   split at h
   ·rename_i s
    split at h
    ·exact h.elim
    ·rename_i i hi
     split at h
     ·rename_i hsz
      obtain ⟨⟨ho⟩, h⟩ := h
      obtain ⟨w', hrun, hs'⟩ := storeOne (P := P) (cs' := .strs (l.set o s)) hs har hp hb hi hsz rfl (by simpa [Cells.toVs] using ho) hx rfl (by simp [Cells.toVs, List.map_set])
      exact ⟨_, w', h, hrun, hs'⟩
     ·exact h.elim
   ·exact h.elim
  ·rename_i l hcs
   simp only at hcs
   subst hcs
   split at h
   ·rename_i s hbv
    split at h
    ·exact h.elim
    ·rename_i i hi
     split at h
     ·rename_i hsz
      obtain ⟨⟨ho⟩, h⟩ := h
      have hxb : Rep ρ (.bool s) x := asB_rep hbv hx
      obtain ⟨w', hrun, hs'⟩ := storeOne (P := P) (cs' := .bools (l.set o s)) hs har hp hb hi hsz rfl (by simpa [Cells.toVs] using ho) hxb rfl (by simp [Cells.toVs, List.map_set])
      exact ⟨_, w', h, hrun, hs'⟩
     ·exact h.elim
   ·exact h.elim
  ·exact h.elim
  ·exact h.elim
  ·rename_i sh l hcs
   simp only at hcs
   subst hcs
   split at h
   ·rename_i kd n
    split at h
    ·exact h.elim
    ·rename_i i hi
     split at h
     ·rename_i hsz
      obtain ⟨⟨ho, hsh⟩, h⟩ := h
      obtain ⟨w', hrun, hs'⟩ := storeOne (P := P) (cs' := .recs sh (l.set o ⟨n, []⟩)) hs har hp hb hi hsz rfl (by simpa [Cells.toVs] using ho) hx rfl (by simp only [Cells.toVs]; rw [recV_set, Nat.zero_add, hsh]; rfl)
      exact ⟨_, w', h, hrun, hs'⟩
     ·exact h.elim
   ·rename_i s
    split at h
    ·exact h.elim
    ·rename_i i hi
     split at h
     ·rename_i hsz
      obtain ⟨⟨ho, hsh⟩, h⟩ := h
      obtain ⟨w', hrun, hs'⟩ := storeOne (P := P) (cs' := .recs sh (l.set o ⟨0, s⟩)) hs har hp hb hi hsz rfl (by simpa [Cells.toVs] using ho) hx rfl (by simp only [Cells.toVs]; rw [recV_set, Nat.zero_add, hsh]; rfl)
      exact ⟨_, w', h, hrun, hs'⟩
     ·exact h.elim
   ·rename_i vs
    split at h
    ·rename_i i l' hi hl'
     split at h
     ·rename_i hsz
      obtain ⟨h1, h2⟩ := hsz
      obtain ⟨⟨ho, h0⟩, h⟩ := lit16_spec h
      simp only [Rep] at hx
      obtain ⟨xs, rfl, hcells⟩ := hx
      rw [h2] at h0
      have hvs := scsOf_recV hl'
      obtain ⟨w', hrun, hs'⟩ := storeMany (P := P) (t := t) (o := o) (vs := vs) (x := .agg xs.toArray) (cs' := .recs sh (setScs l o l')) hs har hp hb hi h1 (by rw [<- hvs]; exact allCells_of (recV_cell sh l' 0)) rfl rfl rfl (by simp only [Cells.toVs, recV_length]; omega) (by simpa [Value.cells] using hcells) (by
       simp only [Cells.toVs]
       exact setScs_toVs l o (by rw [h0, Nat.zero_mod]) hl')
      exact ⟨_, w', h, hrun, hs'⟩
     ·exact h.elim
    ·exact h.elim
   ·exact h.elim
  ·rename_i av n l z hcs
   simp only at hcs
   subst hcs
   have hpl : ∀ q : List Int, ((padI n q).map (V.int .i64)).length = n := fun q => by simp [padI_length]
   split at h
   ·exact h.elim
   ·rename_i vs hvs
    split at h
    ·exact h.elim
    ·rename_i i hi
     have hcells := cellsOfV_rep hvs hx
     split at h
     ·rename_i c _
      split at h
      ·rename_i l' hl'
       split at h
       ·rename_i hc
        obtain ⟨h1, h2, _, rfl⟩ := hc
        have hvl := intsOf_toVs hl'
        have hll : l'.length = n := by rw [<- h2, <- h1, <- hvl, List.length_map]
        obtain ⟨w', hrun, hs'⟩ := storeMany (P := P) (t := t) (o := av.length) (vs := vs) (x := x) (cs' := .mixi av n l' z) hs har hp hb hi h1 (intsOf_cells hl') rfl rfl rfl (by simp only [Cells.toVs, List.length_append, hpl]; omega) hcells (by
         simp only [Cells.toVs]
         rw [padI_self hll, hvl, List.append_assoc, List.append_assoc]
         have := setCells_right vs av ((padI n l).map (V.int .i64) ++ z) av.length (Nat.le_refl _)
         rw [this, Nat.sub_self, setCells_left _ _ _ _ (by rw [hpl]; omega), setCells_all _ _ (by rw [hpl]; omega)])
        exact ⟨_, w', h, hrun, hs'⟩
       ·exact h.elim
      ·exact h.elim
     ·split at h
      ·rename_i hble
       have hb' : av.length + n <= o := Nat.le_of_ble_eq_true hble
       split at h
       ·rename_i hc
        obtain ⟨h1, h2, h3⟩ := hc
        obtain ⟨w', hrun, hs'⟩ := storeMany (P := P) (t := t) (o := o) (vs := vs) (x := x) (cs' := .mixi av n l (setCells z (o - (av.length + n)) vs)) hs har hp hb hi h1 h3 rfl rfl rfl (by simp only [Cells.toVs, List.length_append, hpl]; omega) hcells (by
         simp only [Cells.toVs]
         rw [setCells_right _ _ _ _ (by simp only [List.length_append, hpl]; omega)]
         simp only [List.length_append, hpl])
        exact ⟨_, w', h, hrun, hs'⟩
       ·exact h.elim
      ·split at h
       ·rename_i hc
        obtain ⟨h1, h2, h3⟩ := hc
        obtain ⟨w', hrun, hs'⟩ := storeMany (P := P) (t := t) (o := o) (vs := vs) (x := x) (cs' := .mixi (setCells av o vs) n l z) hs har hp hb hi h1 h3 rfl rfl rfl (by simp only [Cells.toVs, List.length_append, hpl]; omega) hcells (by
         simp only [Cells.toVs]
         rw [List.append_assoc, List.append_assoc, setCells_left _ _ _ _ (by omega)])
        exact ⟨_, w', h, hrun, hs'⟩
       ·exact h.elim
  ·rename_i av n l z hcs
   simp only at hcs
   subst hcs
   split at h
   ·rename_i m l'
    split at h
    ·exact h.elim
    ·rename_i i hi
     split at h
     ·rename_i hc
      obtain ⟨h1, rfl, rfl⟩ := hc
      simp only [Rep] at hx
      subst hx
      have hpl : ∀ q : List UInt8, ((padB m q).map byV).length = m := fun q => by simp [padB_length]
      obtain ⟨w', hrun, hs'⟩ := storeMany (P := P) (t := t) (o := av.length) (vs := (padB m l').map byV) (x := .agg ((padB m l').map fun c => Value.int .u8 c.toNat).toArray) (cs' := .mix av m l' z) hs har hp hb hi (by rw [hpl, h1]) (bytes_cells _) rfl rfl rfl
       (by simp only [Cells.toVs, List.length_append, hpl]; omega) (bytes_repL ρ _) (by
        simp only [Cells.toVs]
        rw [List.append_assoc, List.append_assoc]
        have := setCells_right ((padB m l').map byV) av ((padB m l).map byV ++ z) av.length (Nat.le_refl _)
        rw [this, Nat.sub_self, setCells_left _ _ _ _ (by rw [hpl, hpl]; omega), setCells_bytes _ _ _ (by rw [padB_length, padB_length]; omega)]
        simp [padB_length])
      exact ⟨_, w', h, hrun, hs'⟩
     ·exact h.elim
   split at h
   ·exact h.elim
   ·rename_i vs hvs
    split at h
    ·exact h.elim
    ·rename_i i hi
     have hcells := cellsOfV_rep hvs hx
     have hpl : ((padB n l).map byV).length = n := by simp [padB_length]
     split at h
     ·rename_i hble
      have hb' : av.length + n <= o := Nat.le_of_ble_eq_true hble
      split at h
      ·rename_i hc
       obtain ⟨h1, h2, h3⟩ := hc
       obtain ⟨w', hrun, hs'⟩ := storeMany (P := P) (t := t) (o := o) (vs := vs) (x := x) (cs' := .mix av n l (setCells z (o - (av.length + n)) vs)) hs har hp hb hi h1 h3 rfl rfl rfl (by simp only [Cells.toVs, List.length_append, hpl]; omega) hcells (by
        simp only [Cells.toVs]
        rw [setCells_right _ _ _ _ (by simp only [List.length_append, hpl]; omega)]
        simp only [List.length_append, hpl])
       exact ⟨_, w', h, hrun, hs'⟩
      ·exact h.elim
     ·split at h
      ·rename_i hc
       obtain ⟨h1, h2, h3⟩ := hc
       obtain ⟨w', hrun, hs'⟩ := storeMany (P := P) (t := t) (o := o) (vs := vs) (x := x) (cs' := .mix (setCells av o vs) n l z) hs har hp hb hi h1 h3 rfl rfl rfl (by simp only [Cells.toVs, List.length_append, hpl]; omega) hcells (by
        simp only [Cells.toVs]
        rw [List.append_assoc, List.append_assoc, setCells_left _ _ _ _ (by omega)])
       exact ⟨_, w', h, hrun, hs'⟩
      ·exact h.elim
  ·exact h.elim
theorem vstoreElt_sound {D : List Deferred} {W : Nat -> Prop} {w0 : World} {ρ0 : List Place} {ρ : List Place} {st : St} {a : Act} {w : World} (hs : SRel D W w0 ρ0 ρ st a w) {t : TypeId} {b o n j : Nat} {ax x : Value} {v : V} {k : List Blk -> Prop} (ha : Rep ρ (.elt b o n j) ax) (hx : Rep ρ v x)
  (h : vstoreElt P st.mem t b o n j v k) : ∃ m w', k m /\ (Instr.storeAt t ax x).run P w = .ok () w' /\ SRel D W w0 ρ0 ρ { st with mem := m } a w' := by
 simp only [Rep] at ha
 obtain ⟨hj, p, hp, rfl⟩ := ha
 unfold vstoreElt at h
 split at h
 ·exact h.elim
 ·rename_i blk hb
  obtain ⟨cs, e, r⟩ := blk
  split at h
  ·rename_i av m l z y har hcs
   simp only at hcs har
   subst hcs
   split at h
   ·exact h.elim
   ·rename_i i hi
    split at h
    ·rename_i hc
     obtain ⟨hsz, rfl, rfl⟩ := hc
     obtain ⟨⟨h0, h1⟩, h⟩ := h
     have hn : ((UInt8.ofNat y.toNat).toNat : Int) = y := by
      rw [UInt8.toNat_ofNat']
      omega
     have hpl : ((padB n l).map byV).length = n := by simp [padB_length]
     obtain ⟨w', hrun, hs'⟩ := storeOne (P := P) (o := av.length + j) (cs' := .mix av n ((padB n l).set j (UInt8.ofNat y.toNat)) z) hs har hp hb hi hsz rfl (by simp only [Cells.toVs, List.length_append, hpl]; omega) hx rfl (by
      have hl1 : ((padB n l).set j (UInt8.ofNat y.toNat)).length = n := by rw [List.length_set, padB_length]
      simp only [Cells.toVs]
      rw [padB_self hl1, List.append_assoc, List.append_assoc, List.set_append_right _ _ (by omega), Nat.add_sub_cancel_left, List.set_append_left _ _ (by rw [hpl]; exact hj), List.map_set]
      simp only [byV, hn])
     exact ⟨_, w', h, hrun, hs'⟩
    ·exact h.elim
  ·rename_i av m l z y har hcs
   simp only at hcs har
   subst hcs
   split at h
   ·exact h.elim
   ·rename_i i hi
    split at h
    ·rename_i hc
     obtain ⟨hsz, rfl, rfl⟩ := hc
     have hpl : ((padI n l).map (V.int .i64)).length = n := by simp [padI_length]
     obtain ⟨w', hrun, hs'⟩ := storeOne (P := P) (o := av.length + j) (cs' := .mixi av n ((padI n l).set j y) z) hs har hp hb hi hsz rfl (by simp only [Cells.toVs, List.length_append, hpl]; omega) hx rfl (by
      have hl1 : ((padI n l).set j y).length = n := by rw [List.length_set, padI_length]
      simp only [Cells.toVs]
      rw [padI_self hl1, List.append_assoc, List.append_assoc, List.set_append_right _ _ (by omega), Nat.add_sub_cancel_left, List.set_append_left _ _ (by rw [hpl]; exact hj), List.map_set])
     exact ⟨_, w', h, hrun, hs'⟩
    ·exact h.elim
  ·exact h.elim
theorem cpB_length {n m : Nat} {l s : List UInt8} (h : m <= n) : (cpB n l m s).length = n := by
 unfold cpB
 simp only [List.length_append, List.length_drop, padB_length, List.length_take]
 omega
theorem vcopy_sound {D : List Deferred} {W : Nat -> Prop} {w0 : World} {ρ0 : List Place} {ρ : List Place} {st : St} {a : Act} {w : World} (hs : SRel D W w0 ρ0 ρ st a w) {t t' ty : TypeId} {b o n m : Nat} {s : List UInt8} {ax : Value} {k : Int -> List Blk -> Prop} (ha : Rep ρ (.sub b o n m) ax)
  (h : vcopy P st.mem t b o n m s k) : ∃ r mem w', k r mem /\ (Builtin.copy_ #[t, t'] ty #[ax, .string (ofL s)]).run P w = .ok (.int .i64 r) w' /\ SRel D W w0 ρ0 ρ { st with mem := mem } a w' := by
 simp only [Rep] at ha
 obtain ⟨hmn, p, hp, rfl⟩ := ha
 unfold vcopy at h
 split at h
 ·rename_i blk e hb hu
  obtain ⟨cs, e', r⟩ := blk
  split at h
  ·rename_i av n' l z i har hcs hi
   simp only at hcs har
   subst hcs
   split at h
   ·rename_i hc
    obtain ⟨hsz, rfl, rfl⟩ := hc
    have hpl : ((padB n l).map byV).length = n := by simp [padB_length]
    have hst : (s.take m).length <= n := by rw [List.length_take]; omega
    have hL : (padB n (cpB n l m s)) = cpB n l m s := padB_self (cpB_length hmn)
    obtain ⟨w', hrun, hs'⟩ := storeMany' (P := P) (cs' := .mix av n (cpB n l m s) z) (xs := (s.take m).map fun c => Value.int .u8 c.toNat) (vs := (s.take m).map byV) (o := av.length) hs har hp hb (bytes_cells _) rfl rfl rfl
     (by simp only [Cells.toVs, List.length_append, List.length_map, padB_length]; omega) (bytes_repL ρ _) (by
      simp only [Cells.toVs]
      rw [hL, List.append_assoc, List.append_assoc]
      have := setCells_right ((s.take m).map byV) av ((padB n l).map byV ++ z) av.length (Nat.le_refl _)
      rw [this, Nat.sub_self, setCells_left _ _ _ _ (by rw [hpl, List.length_map]; omega), setCells_bytes _ _ _ (by rw [padB_length]; omega)]
      simp only [cpB, List.take_zero, List.nil_append, Nat.zero_add])
    refine ⟨_, _, w', h, ?_, hs'⟩
    have hext : ((ofL s).extract 0 (min m s.length)).data.map (fun b => Value.int .u8 b.toNat) = ((s.take m).map fun c => Value.int .u8 c.toNat).toArray := by
     rw [drop_take_extract]
     simp only [ofL, List.drop_zero]
     rw [<- List.map_toArray]
     congr 2
     rw [List.take_eq_take_iff]
     omega
    simp only [Builtin.copy_, List.getElem?_toArray, List.getElem?_cons_zero, List.getElem?_cons_succ, Sem.run_bind, run_und hu, Result.andThen_ok, Sem.run_pure, sizeOf, run_info hi, hsz]
    simp only [Builtin.lenOf, Builtin.firstCells, Sem.run_pure, Result.andThen_ok, ofL_size, goInt, List.length_take, Nat.min_comm]
    rw [hext]
    simp only [hrun, Result.andThen_ok]
   ·exact h.elim
  ·exact h.elim
 ·exact h.elim

/-- Cells of a block that lie side by side. -/
theorem src_cells {ρ : List Place} {mem : List Blk} {w : World} (hm : MRel ρ mem w) {b : Nat} {blk : Blk} {p : Place} (hb : mem[b]? = some blk) (hp : ρ[b]? = some p) (o : Nat) (vs : List V) (hvs : ∀ j u, vs[j]? = some u -> blk.cs.toVs[o + j]? = some u) :
  ∃ cur' : List Value, RepL ρ vs (cur'.take vs.length) /\ ∀ j u, cur'[j]? = some u -> w.cell? ((addrOf p o).add j) = some u := by
 obtain ⟨cs, e, r⟩ := blk
 have hc : ∀ j, j < vs.length -> ∃ x, w.cell? (addrOf p (o + j)) = some x /\ Rep ρ (vs.getD j .undef) x := fun j hj => by
  obtain ⟨x, h1, h2, _⟩ := hm.cell hb hp (hvs j _ (getD_some (d := V.undef) hj))
  exact ⟨x, h1, h2⟩
 refine ⟨(List.range vs.length).map fun j => (w.cell? (addrOf p (o + j))).getD default, ?_, ?_⟩
 ·rw [List.take_of_length_le (by simp)]
  refine RepL.of (by simp) fun j v y hv hy => ?_
  have hj := (List.getElem?_eq_some_iff.1 hv).1
  obtain ⟨x, h1, h2⟩ := hc j hj
  simp only [List.getElem?_map, List.getElem?_range hj, Option.map_some, h1, Option.getD_some, Option.some.injEq] at hy
  rw [<- hy]
  have e1 : vs.getD j .undef = v := by rw [List.getD_eq_getElem?_getD, hv]; rfl
  rw [<- e1]; exact h2
 ·intro j u hu
  have hj : j < vs.length := by have := (List.getElem?_eq_some_iff.1 hu).1; simpa using this
  obtain ⟨x, h1, _⟩ := hc j hj
  simp only [List.getElem?_map, List.getElem?_range hj, Option.map_some, h1, Option.getD_some, Option.some.injEq] at hu
  rw [add_addrOf, h1, hu]
/-- What lies side by side. -/
theorem srcOf_spec {ρ : List Place} {mem : List Blk} {w : World} (hm : MRel ρ mem w) {x : V} {xv : Value} {cs : Cells} {m : Nat} (h : srcOf mem x = some (cs, m)) (hx : Rep ρ x xv) (h0 : 0 < m) :
  ∃ (ad : Addr) (c : Nat) (cur' : List Value), xv = .slice (some ad) m c /\ RepL ρ cs.toVs (cur'.take cs.toVs.length) /\ ∀ j u, cur'[j]? = some u -> w.cell? (ad.add j) = some u := by
 unfold srcOf at h
 split at h
 ·rename_i b m'
  split at h
  ·rename_i blk hb
   injection h with h
   injection h with h1 h2
   subst h1; subst h2
   obtain ⟨p, hp, hf⟩ := row_form hx
   rcases hf with ⟨_, hn, _⟩ | ⟨_, rfl⟩
   ·omega
   ·obtain ⟨cur', k1, k2⟩ := src_cells hm hb hp 0 blk.cs.toVs (fun j u hu => by rw [Nat.zero_add]; exact hu)
    exact ⟨_, _, cur', rfl, k1, k2⟩
  ·cases h
 ·rename_i b i n
  split at h
  ·rename_i kd et l e r hb
   split at h
   ·rename_i hmat
    injection h with h
    injection h with h1 h2
    subst h1; subst h2
    simp only [Rep] at hx
    obtain ⟨p, s, hp, hs, hg, rfl⟩ := hx
    have hgf : s.ghost = false := by
     cases hgg : s.ghost with
     | false => rfl
     | true => have := hg hgg; omega
    obtain ⟨_, hsub, _⟩ := hm.matAt hb hmat hp
    refine ⟨⟨s.blk, s.off, none⟩, s.cap, (l.getD i []).map (Value.int kd), by unfold Sub.val; rw [hgf], ?_, ?_⟩
    ·simp only [Cells.toVs, List.length_map]
     rw [List.take_of_length_le (by simp)]
     refine RepL.of (by simp) fun j v y hv hy => ?_
     simp only [List.getElem?_map] at hv hy
     cases hlj : (l.getD i [])[j]? with
     | none => rw [hlj] at hv; cases hv
     | some q =>
      rw [hlj] at hv hy
      injection hv with hv; injection hy with hy
      subst hv; subst hy
      rfl
    ·intro j u hu
     have hj : j < (l.getD i []).length := by have := (List.getElem?_eq_some_iff.1 hu).1; simpa using this
     obtain ⟨_, hcell, _⟩ := (hsub i s hs).cellAt hj
     rw [List.getElem?_map, getD_some (d := 0) hj] at hu
     have ha : (⟨s.blk, s.off, none⟩ : Addr) = addrOf s.place 0 := rfl
     rw [ha, add_addrOf, Nat.zero_add, hcell]
     exact hu
   ·cases h
  ·cases h
 ·rename_i b o n m'
  split at h
  ·rename_i a n' l z e r hb
   split at h
   ·rename_i hc
    obtain ⟨rfl, rfl⟩ := hc
    injection h with h
    injection h with h1 h2
    subst h1; subst h2
    simp only [Rep] at hx
    obtain ⟨_, p, hp, rfl⟩ := hx
    obtain ⟨cur', k1, k2⟩ := src_cells hm hb hp a.length ((padI n l).map (V.int .i64)) (fun j u hu => by
     have hj : j < n := by have := (List.getElem?_eq_some_iff.1 hu).1; simpa [padI_length] using this
     simp only
     rw [mixi_get hj]
     rw [List.getElem?_map, getD_some (d := 0) (show j < (padI n l).length by rw [padI_length]; exact hj), padI_getD n l j hj] at hu
     exact hu)
    exact ⟨_, _, cur', rfl, k1, k2⟩
   ·cases h
  ·cases h
 ·rename_i b o sz n q
  have key : ∀ {blk : Blk} {vs : List V}, mem[b]? = some blk -> (∀ j u, vs[j]? = some u -> blk.cs.toVs[o * sz + j]? = some u) -> m = n ->
    ∃ (ad : Addr) (c : Nat) (cur' : List Value), xv = .slice (some ad) m c /\ RepL ρ vs (cur'.take vs.length) /\ ∀ j u, cur'[j]? = some u -> w.cell? (ad.add j) = some u := by
   intro blk vs hb hvs hmn
   subst hmn
   simp only [Rep] at hx
   obtain ⟨p, hp, hg, hcap, rfl⟩ := hx
   have hgf : p.ghost = false := by
    cases hgg : p.ghost with
    | false => rfl
    | true => have := hg hgg; omega
   have hne : Nat.beq (vcap p.cap o q) 0 = false := by
    cases hb : Nat.beq (vcap p.cap o q) 0 with
    | false => rfl
    | true => have := Nat.eq_of_beq_eq_true hb; omega
   have hbase : p.base = some (addrOf p 0) := by unfold Place.base; rw [hgf]; rfl
   obtain ⟨cur', k1, k2⟩ := src_cells hm hb hp (o * sz) vs hvs
   refine ⟨addrOf p (o * sz), vcap p.cap o q, cur', ?_, k1, k2⟩
   rw [hne, hbase]
   simp only [Option.map_some, add_addrOf, Nat.zero_add]
  split at h
  ·rename_i kd l e r hb
   split at h
   ·injection h with h
    injection h with h1 h2
    subst h1
    refine key hb (fun j u hu => ?_) h2.symm
    simp only [Cells.toVs] at hu ⊢
    rw [List.getElem?_map, List.getElem?_drop] at hu
    rw [List.getElem?_map]
    exact hu
   ·cases h
  ·rename_i l e r hb
   split at h
   ·injection h with h
    injection h with h1 h2
    subst h1
    refine key hb (fun j u hu => ?_) h2.symm
    simp only [Cells.toVs] at hu ⊢
    rw [List.getElem?_map, List.getElem?_drop] at hu
    rw [List.getElem?_map]
    exact hu
   ·cases h
  ·rename_i sh l e r hb
   split at h
   ·rename_i hshl
    have hshl := Nat.eq_of_beq_eq_true hshl
    injection h with h
    injection h with h1 h2
    subst h1
    refine key hb (fun j u hu => ?_) h2.symm
    simp only [Cells.toVs] at hu ⊢
    rw [recV_mod sh _ (j := 0) (j' := 0 + o * sz) (by rw [hshl, Nat.zero_add, Nat.mul_mod_left, Nat.zero_mod]), recV_drop, List.getElem?_drop] at hu
    exact hu
   ·cases h
  ·cases h
 ·cases h
theorem cpI_length {n m : Nat} {l s : List Int} (h : m <= n) : (cpI n l m s).length = n := by
 unfold cpI
 simp only [List.length_append, List.length_drop, padI_length, List.length_take]
 omega
theorem srcOf_len {mem : List Blk} {ρ : List Place} {x : V} {xv : Value} {cs : Cells} {m : Nat} (h : srcOf mem x = some (cs, m)) (hx : Rep ρ x xv) : ∃ (ao : Option Addr) (c : Nat), xv = .slice ao m c := by
 unfold srcOf at h
 split at h
 ·split at h
  ·injection h with h
   injection h with h1 h2
   subst h2
   obtain ⟨p, hp, (⟨_, rfl, rfl⟩ | ⟨_, rfl⟩)⟩ := row_form hx <;> exact ⟨_, _, rfl⟩
  ·cases h
 ·split at h
  ·split at h
   ·injection h with h
    injection h with h1 h2
    subst h2
    simp only [Rep] at hx
    obtain ⟨p, s, hp, hs, hg, rfl⟩ := hx
    unfold Sub.val
    split
    ·rename_i hgg
     rw [hg hgg]; exact ⟨_, _, rfl⟩
    ·exact ⟨_, _, rfl⟩
   ·cases h
  ·cases h
 ·split at h
  ·split at h
   ·injection h with h
    injection h with h1 h2
    subst h2
    simp only [Rep] at hx
    obtain ⟨_, p, hp, rfl⟩ := hx
    exact ⟨_, _, rfl⟩
   ·cases h
  ·cases h
 ·have key : ∀ {n : Nat}, Rep ρ (.view ‹_› ‹_› ‹_› n ‹_›) xv -> ∃ (ao : Option Addr) (c : Nat), xv = .slice ao n c := fun hx => by
   simp only [Rep] at hx
   obtain ⟨p, _, _, _, rfl⟩ := hx
   exact ⟨_, _, rfl⟩
  simp only [Rep] at hx
  obtain ⟨p, _, _, _, rfl⟩ := hx
  split at h
  ·split at h
   ·injection h with h
    injection h with h1 h2
    subst h2
    exact ⟨_, _, rfl⟩
   ·cases h
  ·split at h
   ·injection h with h
    injection h with h1 h2
    subst h2
    exact ⟨_, _, rfl⟩
   ·cases h
  ·split at h
   ·injection h with h
    injection h with h1 h2
    subst h2
    exact ⟨_, _, rfl⟩
   ·cases h
  ·cases h
 ·cases h
theorem vcopyI_sound {D : List Deferred} {W : Nat -> Prop} {w0 : World} {ρ0 : List Place} {ρ : List Place} {st : St} {a : Act} {w : World} (hs : SRel D W w0 ρ0 ρ st a w) {t t' ty : TypeId} {b o n m : Nat} {x : V} {ax xv : Value} {k : Int -> List Blk -> Prop} (ha : Rep ρ (.sub b o n m) ax) (hx : Rep ρ x xv)
  (h : vcopyI P st.mem t b o n m x k) : ∃ r mem w', k r mem /\ (Builtin.copy_ #[t, t'] ty #[ax, xv]).run P w = .ok (.int .i64 r) w' /\ SRel D W w0 ρ0 ρ { st with mem := mem } a w' := by
 simp only [Rep] at ha
 obtain ⟨hmn, p, hp, rfl⟩ := ha
 unfold vcopyI at h
 split at h
 ·rename_i blk e s c hb hu hsrc
  obtain ⟨cs, e', r⟩ := blk
  split at h
  ·rename_i av n' l z i har hcs hi
   simp only at hcs har
   subst hcs
   split at h
   ·rename_i hc
    obtain ⟨hsz, rfl, rfl⟩ := hc
    obtain ⟨⟨hsl⟩, h⟩ := h
    have hpl : ((padI n l).map (V.int .i64)).length = n := by simp [padI_length]
    have hst : (s.take m).length <= n := by rw [List.length_take]; omega
    have hL : (padI n (cpI n l m s)) = cpI n l m s := padI_self (cpI_length hmn)
    obtain ⟨w', hrun, hs'⟩ := storeMany' (P := P) (cs' := .mixi av n (cpI n l m s) z) (xs := (s.take m).map (Value.int .i64)) (vs := (s.take m).map (V.int .i64)) (o := av.length) hs har hp hb (allCells_of fun v hv => by
      obtain ⟨y, _, rfl⟩ := List.mem_map.1 hv; rfl) rfl rfl rfl
     (by simp only [Cells.toVs, List.length_append, List.length_map, padI_length]; omega) (RepL.of (by simp) fun j v y hv hy => by
      simp only [List.getElem?_map] at hv hy
      cases hlj : (s.take m)[j]? with
      | none => rw [hlj] at hv; cases hv
      | some q =>
       rw [hlj] at hv hy
       injection hv with hv; injection hy with hy
       subst hv; subst hy
       rfl) (by
      simp only [Cells.toVs]
      rw [hL, List.append_assoc, List.append_assoc]
      have := setCells_right ((s.take m).map (V.int .i64)) av ((padI n l).map (V.int .i64) ++ z) av.length (Nat.le_refl _)
      rw [this, Nat.sub_self, setCells_left _ _ _ _ (by rw [hpl, List.length_map]; omega)]
      have h2 := setInts_all .i64 (s.take m) (padI n l) (by rw [padI_length]; exact hst)
      rw [h2]
      rfl)
    refine ⟨_, _, w', h, ?_, hs'⟩
    obtain ⟨ao, cc, hxs⟩ := srcOf_len hsrc hx
    have hmin : Nat.min c m = (s.take m).length := by rw [List.length_take, <- hsl]; exact Nat.min_comm _ _
    by_cases hc0 : c = 0
    ·have hs0 : s = [] := List.eq_nil_of_length_eq_zero (by omega)
     subst hs0
     subst hc0
     subst hxs
     simp only [List.take_nil, List.map_nil] at hrun
     cases ao with
     | none =>
      simp only [Builtin.copy_, List.getElem?_toArray, List.getElem?_cons_zero, List.getElem?_cons_succ, Sem.run_bind, run_und hu, Result.andThen_ok, Sem.run_pure, sizeOf, run_info hi, hsz, Builtin.lenOf, Builtin.firstCells, hrun, hmin, goInt]
     | some ad =>
      have hz : Nat.min 0 m = 0 := Nat.zero_min m
      simp only [Builtin.copy_, List.getElem?_toArray, List.getElem?_cons_zero, List.getElem?_cons_succ, Sem.run_bind, run_und hu, Result.andThen_ok, Sem.run_pure, sizeOf, run_info hi, hsz, Builtin.lenOf, Builtin.firstCells, hz, Nat.zero_mul, loadCells, loadCellsFrom, hrun, goInt, List.take_nil, List.length_nil]
    ·obtain ⟨ad, c', cur', hxs', hrep, hat⟩ := srcOf_spec hs.mem hsrc hx (by omega)
     subst hxs'
     simp only [Cells.toVs, List.length_map] at hrep
     have hcur : cur'.take s.length = s.map (Value.int .i64) := by
      apply List.ext_getElem?
      intro j
      have hl := hrep.length
      rw [List.length_map] at hl
      by_cases hj : j < s.length
      ·have hv : (s.map (V.int .i64))[j]? = some (.int .i64 (s.getD j 0)) := by rw [List.getElem?_map, getD_some (d := 0) hj]; rfl
       obtain ⟨y, hy, hyr⟩ := hrep.get hv
       simp only [Rep] at hyr
       rw [hy, hyr, List.getElem?_map, getD_some (d := 0) hj]
       rfl
      ·rw [List.getElem?_eq_none (by omega), List.getElem?_eq_none (by rw [List.length_map]; omega)]
     have hload : (loadCells ad ((s.take m).length * 1)).run P w = .ok (((s.take m).map (Value.int .i64)).toArray) w := by
      have h3 : ∀ j, j < (s.take m).length -> w.cell? (ad.add j) = some (Value.int .i64 ((s.take m).getD j 0)) := fun j hj => by
       rw [List.length_take] at hj
       refine hat j _ ?_
       have h4 : (cur'.take s.length)[j]? = (s.map (Value.int .i64))[j]? := by rw [hcur]
       rw [List.getElem?_take, if_pos (by omega), List.getElem?_map, getD_some (d := 0) (show j < s.length by omega)] at h4
       rw [h4]
       simp only [Option.map_some, List.getD_eq_getElem?_getD, List.getElem?_take]
       rw [if_pos (show j < m by omega)]
      have h5 := run_loadCells (P := P) w ad (s.take m).length (fun j => Value.int .i64 ((s.take m).getD j 0)) h3
      rw [Nat.mul_one, h5]
      congr 1
      apply Array.toList_inj.1
      dsimp only
      apply List.ext_getElem?
      intro j
      rw [List.getElem?_map, List.getElem?_map]
      by_cases hj : j < (s.take m).length
      ·rw [List.getElem?_range hj, getD_some (d := 0) hj]; rfl
      ·rw [List.getElem?_eq_none (by simpa using hj), List.getElem?_eq_none (by omega)]; rfl
     simp only [Builtin.copy_, List.getElem?_toArray, List.getElem?_cons_zero, List.getElem?_cons_succ, Sem.run_bind, run_und hu, Result.andThen_ok, Sem.run_pure, sizeOf, run_info hi, hsz, Builtin.lenOf, Builtin.firstCells, hmin, hload, hrun, goInt]
   ·exact h.elim
  ·exact h.elim
 ·exact h.elim

theorem setCells_list : ∀ (vs L : List V) (o : Nat), o + vs.length <= L.length -> setCells L o vs = L.take o ++ vs ++ L.drop (o + vs.length)
 | [], L, o, _ => by simp [setCells]
 | v :: vs, L, o, h => by
  simp only [List.length_cons] at h
  unfold setCells
  rw [setCells_list vs (L.set o v) (o + 1) (by rw [List.length_set]; omega)]
  have e1 : (L.set o v).take (o + 1) = L.take o ++ [v] := by
   apply List.ext_getElem?
   intro i
   rw [List.getElem?_take, List.getElem?_set, List.getElem?_append, List.length_take, List.getElem?_take]
   rcases Nat.lt_trichotomy i o with hi | hi | hi
   ·rw [if_pos (by omega), if_neg (by omega), if_pos (by omega), if_pos hi]
   ·subst hi
    rw [if_pos (by omega), if_pos rfl, if_pos (by omega), if_neg (by omega), show i - min i L.length = 0 by omega]
    rfl
   ·rw [if_neg (by omega), if_neg (by omega), List.getElem?_eq_none (by simp; omega)]
  have e2 : (L.set o v).drop (o + 1 + vs.length) = L.drop (o + (vs.length + 1)) := by
   rw [List.drop_set_of_lt (by omega)]
   congr 1
   omega
  rw [e1, e2]
  simp
/-- What a copy asks for, and what it leaves. -/
theorem cpy_spec {sz o c m : Nat} {a b cs : Cells} {p : Prop} (h : Cells.cpy sz o c m a b = some (p, cs)) (hp : p) (hc : c <= m) :
  c * sz <= b.toVs.length /\ o * sz + c * sz <= a.toVs.length /\ cs.toVs = a.toVs.take (o * sz) ++ b.toVs.take (c * sz) ++ a.toVs.drop (o * sz + c * sz) /\ allCells (b.toVs.take (c * sz)) = true /\ a.isDead = false /\ cs.isDead = false /\ a.flat = true := by
 have hcm : c * sz <= m * sz := Nat.mul_le_mul_right sz hc
 have hoc : (o + c) * sz = o * sz + c * sz := Nat.add_mul _ _ _
 unfold Cells.cpy at h
 split at h
 ·split at h
  ·rename_i k l k' l' _ hk
   have hk := of_decide_eq_true hk
   subst hk
   injection h with h; injection h with h1 h2
   subst h1; subst h2
   refine ⟨?_, ?_, ?_, ?_, rfl, rfl, rfl⟩
   ·simp only [Cells.toVs, List.length_map]; omega
   ·simp only [Cells.toVs, List.length_map]; omega
   ·simp only [Cells.toVs, List.map_append, List.map_take, List.map_drop, hoc]
   ·exact allCells_of fun v hv => by
     obtain ⟨y, _, rfl⟩ := List.mem_map.1 (List.mem_of_mem_take hv); rfl
  ·cases h
 ·injection h with h; injection h with h1 h2
  subst h1; subst h2
  refine ⟨?_, ?_, ?_, ?_, rfl, rfl, rfl⟩
  ·simp only [Cells.toVs, List.length_map]; omega
  ·simp only [Cells.toVs, List.length_map]; omega
  ·simp only [Cells.toVs, List.map_append, List.map_take, List.map_drop, hoc]
  ·exact allCells_of fun v hv => by
    obtain ⟨y, _, rfl⟩ := List.mem_map.1 (List.mem_of_mem_take hv); rfl
 ·injection h with h; injection h with h1 h2
  subst h1; subst h2
  refine ⟨?_, ?_, ?_, ?_, rfl, rfl, rfl⟩
  ·simp only [Cells.toVs, List.length_map]; omega
  ·simp only [Cells.toVs, List.length_map]; omega
  ·simp only [Cells.toVs, List.map_append, List.map_take, List.map_drop, hoc]
  ·exact allCells_of fun v hv => by
    obtain ⟨y, _, rfl⟩ := List.mem_map.1 (List.mem_of_mem_take hv); rfl
 ·split at h
  ·rename_i sh l sh' l' _ hk
   simp only [Bool.and_eq_true] at hk
   obtain ⟨hk, hsl⟩ := hk
   have hk := of_decide_eq_true hk
   have hsl := Nat.eq_of_beq_eq_true hsl
   subst hk
   injection h with h; injection h with h1 h2
   subst h1; subst h2
   have m0 : ∀ j, (j * sz) % sh.length = 0 := fun j => by rw [hsl]; exact Nat.mul_mod_left _ _
   refine ⟨?_, ?_, ?_, ?_, rfl, rfl, rfl⟩
   ·simp only [Cells.toVs, recV_length]; omega
   ·simp only [Cells.toVs, recV_length]; omega
   ·simp only [Cells.toVs]
    rw [recV_append, recV_append, recV_take, Nat.zero_add]
    have h3 : (l.take (o * sz)).length = o * sz := by rw [List.length_take]; omega
    have h4 : (l.take (o * sz) ++ l'.take (c * sz)).length = (o + c) * sz := by rw [List.length_append, List.length_take, List.length_take]; omega
    rw [h3, h4, Nat.zero_add]
    rw [recV_mod sh (l'.take (c * sz)) (j := o * sz) (j' := 0) (by rw [m0, Nat.zero_mod]), recV_take]
    have h5 := recV_drop sh l 0 ((o + c) * sz)
    rw [Nat.zero_add] at h5
    rw [h5, hoc]
   ·refine allCells_of fun v hv => ?_
    obtain ⟨j, hj⟩ := List.mem_iff_getElem?.1 (List.mem_of_mem_take hv)
    simp only [Cells.toVs] at hj
    rw [recV_get] at hj
    cases hl : l'[j]? with
    | none => rw [hl] at hj; cases hj
    | some s =>
     rw [hl] at hj
     injection hj with hj
     rw [<- hj]
     cases shAt sh (0 + j) <;> rfl
  ·cases h
 ·cases h
theorem row_dst {ρ : List Place} {b n : Nat} {ax : Value} (h : Rep ρ (.row b n) ax) : ∃ (base : Option Addr) (cp : Nat) (p : Place), ρ[b]? = some p /\ ax = .slice base n cp /\ ∀ sz, sizeIs none sz = true -> 0 < n -> base = some (addrOf p (0 * sz)) := by
 obtain ⟨p, hp, (⟨_, hn, rfl⟩ | ⟨_, rfl⟩)⟩ := row_form h
 ·exact ⟨_, _, p, hp, by rw [hn], fun _ _ h0 => by omega⟩
 ·exact ⟨_, _, p, hp, rfl, fun sz _ _ => by rw [Nat.zero_mul]⟩
theorem view_dst {ρ : List Place} {b o s n : Nat} {q : Option Nat} {ax : Value} (h : Rep ρ (.view b o s n q) ax) : ∃ (base : Option Addr) (cp : Nat) (p : Place), ρ[b]? = some p /\ ax = .slice base n cp /\ ∀ sz, sizeIs (some s) sz = true -> 0 < n -> base = some (addrOf p (o * sz)) := by
 simp only [Rep] at h
 obtain ⟨p, hp, hg, ⟨hc, hc2⟩, rfl⟩ := h
 refine ⟨_, _, p, hp, rfl, fun sz hsz h0 => ?_⟩
 have hsz : s = sz := Nat.eq_of_beq_eq_true hsz
 subst hsz
 have hgf : p.ghost = false := by
  cases hgg : p.ghost with
  | false => rfl
  | true => have := hg hgg; omega
 have hne : Nat.beq (vcap p.cap o q) 0 = false := by
  cases hb : Nat.beq (vcap p.cap o q) 0 with
  | false => rfl
  | true => have := Nat.eq_of_beq_eq_true hb; omega
 have hbase : p.base = some (addrOf p 0) := by unfold Place.base; rw [hgf]; rfl
 rw [hne, hbase]
 simp only [Option.map_some, add_addrOf, Nat.zero_add]
theorem vcopyR_sound {D : List Deferred} {W : Nat -> Prop} {w0 : World} {ρ0 : List Place} {ρ : List Place} {st : St} {a : Act} {w : World} (hs : SRel D W w0 ρ0 ρ st a w) {t t' ty : TypeId} {b o n : Nat} {sv : Option Nat} {x : V} {ax xv : Value} {k : Int -> List Blk -> Prop}
  (ha : ∃ (base : Option Addr) (cp : Nat) (p : Place), ρ[b]? = some p /\ ax = .slice base n cp /\ ∀ sz, sizeIs sv sz = true -> 0 < n -> base = some (addrOf p (o * sz))) (hx : Rep ρ x xv)
  (h : vcopyR P st.mem t b o n sv x k) : ∃ r mem w', k r mem /\ (Builtin.copy_ #[t, t'] ty #[ax, xv]).run P w = .ok (.int .i64 r) w' /\ SRel D W w0 ρ0 ρ { st with mem := mem } a w' := by
 obtain ⟨base, cp, p, hp, rfl, hbase⟩ := ha
 unfold vcopyR at h
 split at h
 ·rename_i blk e cs' m hb hu hsrc
  obtain ⟨cs, e', r⟩ := blk
  split at h
  ·rename_i i har hi
   simp only at har
   replace h := withSize_spec h
   split at h
   ·rename_i pp cs'' hro hcp
    simp only [Bool.and_eq_true] at hro
    obtain ⟨hro, hsv⟩ := hro
    obtain ⟨⟨hpp⟩, h⟩ := h
    simp only at hcp
    obtain ⟨h1, h2, h3, h4, h5, h6, h7⟩ := cpy_spec hcp hpp (Nat.min_le_left m n)
    obtain ⟨ao, cc, hxs⟩ := srcOf_len hsrc hx
    by_cases hc0 : Nat.min m n = 0
    ·have hsame : st.mem.set b ⟨cs'', e', r⟩ = st.mem.set b ⟨cs'', e', r⟩ := rfl
     rw [hc0] at h h3 h2 h1
     simp only [Nat.zero_mul, Nat.add_zero, List.take_zero, List.append_nil, List.take_append_drop] at h3
     have hm := hs.mem.same (cs' := cs'') hb h3 h5 h6 h7
     refine ⟨_, _, w, h, ?_, ?_⟩
     ·subst hxs
      cases ao <;> cases base <;>
       simp only [Builtin.copy_, List.getElem?_toArray, List.getElem?_cons_zero, List.getElem?_cons_succ, Sem.run_bind, run_und hu, Result.andThen_ok, Sem.run_pure, sizeOf, run_info hi, Builtin.lenOf, Builtin.firstCells, hc0, Nat.zero_mul, loadCells, loadCellsFrom, storeCells, goInt]
     ·refine ⟨hs.slots, hs.nodefer, hm, hs.keep, ?_, hs.pre⟩
      intro j hj
      refine hs.own j ?_
      obtain ⟨b1, blk1, p1, q1, q2, q3, q4, q5, q6⟩ := hj
      by_cases hbb : b1 = b
      ·subst hbb
       have hlt := (List.getElem?_eq_some_iff.1 hb).1
       rw [List.getElem?_set_self hlt] at q1
       injection q1 with q1
       subst q1
       exact ⟨b1, _, p1, hb, q2, h5, q4, q5, q6⟩
      ·rw [List.getElem?_set_ne (fun e => hbb e.symm)] at q1
       exact ⟨b1, blk1, p1, q1, q2, q3, q4, q5, q6⟩
    ·have hm0 : 0 < m := by rcases Nat.eq_zero_or_pos m with h0 | h0; · subst h0; exact absurd (Nat.zero_min n) hc0
                            ·exact h0
     have hn0 : 0 < n := by rcases Nat.eq_zero_or_pos n with h0 | h0; · subst h0; exact absurd (Nat.min_zero m) hc0
                            ·exact h0
     have hba := hbase _ hsv hn0
     subst hba
     obtain ⟨ad, c', cur', hxs', hrep, hat⟩ := srcOf_spec hs.mem hsrc hx hm0
     subst hxs'
     have hlen := hrep.length
     rw [List.length_take] at hlen
     have hrep2 : RepL ρ (cs'.toVs.take (Nat.min m n * i.size)) (cur'.take (Nat.min m n * i.size)) := by
      have := hrep.sub 0 (Nat.min m n * i.size)
      simp only [List.drop_zero, List.take_take] at this
      rw [Nat.min_eq_left h1] at this
      exact this
     obtain ⟨w', hrun, hs'⟩ := storeMany' (P := P) (cs' := cs'') (o := o * i.size) hs har hp hb h4 h5 h6 h7 (by rw [List.length_take, Nat.min_eq_left h1]; exact h2) hrep2 (by
      rw [h3, setCells_list _ _ _ (by rw [List.length_take]; omega), List.length_take, Nat.min_eq_left h1])
     refine ⟨_, _, w', h, ?_, hs'⟩
     have hload : (loadCells ad (Nat.min m n * i.size)).run P w = .ok (cur'.take (Nat.min m n * i.size)).toArray w := by
      have h5 := run_loadCells (P := P) w ad (Nat.min m n * i.size) (fun j => cur'.getD j (.int .i64 0)) (fun j hj => by
       refine hat j _ ?_
       rw [List.getD_eq_getElem?_getD, List.getElem?_eq_getElem (by omega)]
       rfl)
      rw [h5]
      congr 1
      apply Array.toList_inj.1
      dsimp only
      apply List.ext_getElem?
      intro j
      rw [List.getElem?_map, List.getElem?_take]
      by_cases hj : j < Nat.min m n * i.size
      ·rw [List.getElem?_range hj, if_pos hj, List.getElem?_eq_getElem (by omega)]
       simp only [Option.map_some]
       rw [List.getD_eq_getElem?_getD, List.getElem?_eq_getElem (by omega)]
       rfl
      ·rw [List.getElem?_eq_none (by simpa using hj), if_neg hj]; rfl
     simp only [Builtin.copy_, List.getElem?_toArray, List.getElem?_cons_zero, List.getElem?_cons_succ, Sem.run_bind, run_und hu, Result.andThen_ok, Sem.run_pure, sizeOf, run_info hi, Builtin.lenOf, Builtin.firstCells, hload, hrun, goInt]
   ·exact h.elim
  ·exact h.elim
 ·exact h.elim

/-- A new row. -/
theorem SRel.rowG {D : List Deferred} {W : Nat -> Prop} {w0 : World} {ρ0 : List Place} {ρ : List Place} {st : St} {a : Act} {w w' : World} (h : SRel D W w0 ρ0 ρ st a w) (d : Option Tmp) {n cap : Nat} {cs : Cells} {cur : List Value} {e : TypeId} {kd : Kind}
  (hka : kd.isArg = false) (hk : Keep (fun _ => False) w w') (hh : w'.heap[w.heap.size]? = some (.cells cur.toArray e (frz kd cur.length))) (hcur : RepL ρ cs.toVs (cur.take cs.toVs.length)) (hfit : match (generalizing := false) kd with | .box => cur.length = cs.toVs.length | .rows s => cur.length = cap * s /\ cap <= maxLen | .map => False | .mat => False | _ => cur.length = cap /\ cap <= maxLen) :
  ∃ ρ', ρ <+: ρ' /\ SRel D W w0 ρ0 ρ' (st.row d n cs e kd) (a.put d (.slice (some ⟨w.heap.size, 0, none⟩) n cap)) w' := by
 have hpre : ρ <+: ρ ++ [(⟨w.heap.size, cap, false, 0, none, []⟩ : Place)] := List.prefix_append _ _
 have hnm : kd.isMat = false := by cases kd <;> first | rfl | exact hfit.elim | (cases hka; done)
 have hm := h.mem.add (w' := w') (p := ⟨w.heap.size, cap, false, 0, none, []⟩) (blk := ⟨cs, e, kd⟩) (fun k hk' => hk.block k (h.mem.lt hk') (fun f => f)) (fun _ k hk hn => by have := h.mem.lt hn; rw [foot_one hnm] at hk; simp at hk; omega)
  (.inr (.inr (.inl ⟨rfl, cur, hh, hcur.mono hpre, hfit, rfl, hka⟩)))
 refine ⟨_, hpre, ?_⟩
 have hs : SRel D W w0 ρ0 (ρ ++ [⟨w.heap.size, cap, false, 0, none, []⟩]) { st with mem := st.mem ++ [⟨cs, e, kd⟩] } a w' := by
  refine ⟨h.slots.mono hpre, h.nodefer, hm, h.keep.trans (hk.mono fun _ _ f => f.elim), fun j hj => ?_, h.pre.trans hpre⟩
  obtain ⟨b, blk, p, hb, hp, hd, hg, hq, hjf⟩ := hj
  by_cases hlt : b < st.mem.length
  ·rw [List.getElem?_append_left hlt] at hb
   rw [List.getElem?_append_left (by rw [h.mem.len]; exact hlt)] at hp
   exact h.own _ ⟨b, blk, p, hb, hp, hd, hg, hq, hjf⟩
  ·have hbl : b = st.mem.length := by
    have := (List.getElem?_eq_some_iff.1 hb).1
    simp at this; omega
   subst hbl
   rw [List.getElem?_concat_length] at hb
   rw [<- h.mem.len, List.getElem?_concat_length] at hp
   injection hp with hp
   injection hb with hb
   subst hp; subst hb
   rw [foot_one (by first | rfl | exact hnm)] at hjf
   simp only [List.mem_singleton] at hjf
   subst hjf
   exact .inr h.keep.size
 refine hs.put d ?_
 simp only [Rep]
 exact ⟨⟨w.heap.size, cap, false, 0, none, []⟩, by rw [<- h.mem.len, List.getElem?_concat_length], .inr ⟨rfl, rfl⟩⟩

theorem SRel.row {D : List Deferred} {W : Nat -> Prop} {w0 : World} {ρ0 : List Place} {ρ : List Place} {st : St} {a : Act} {w w' : World} (h : SRel D W w0 ρ0 ρ st a w) (d : Option Tmp) {n cap : Nat} {cs : Cells} {cur : List Value} {e : TypeId} {kd : Kind}
  (hk : Keep (fun _ => False) w w') (hh : w'.heap[w.heap.size]? = some (.cells cur.toArray e (frz kd cur.length))) (hkd : kd = .row \/ kd = .marked) (hcur : RepL ρ cs.toVs (cur.take cs.toVs.length)) (hl : cur.length = cap) (hcap : cap <= maxLen) :
  ∃ ρ', ρ <+: ρ' /\ SRel D W w0 ρ0 ρ' (st.row d n cs e kd) (a.put d (.slice (some ⟨w.heap.size, 0, none⟩) n cap)) w' :=
 h.rowG d (by rcases hkd with rfl | rfl <;> rfl) hk hh hcur (by rcases hkd with rfl | rfl <;> exact ⟨hl, hcap⟩)

/-! ### append -/
theorem Cells.app_spec {sz n m : Nat} {a b c : Cells} {p : Prop} (h : Cells.app sz n m a b = some (p, c)) (hp : p) :
  a.isDead = false /\ b.isDead = false /\ c.isDead = false /\ a.toVs.length = n * sz /\ m * sz <= b.toVs.length /\ c.toVs = a.toVs ++ b.toVs.take (m * sz) /\ ∀ v ∈ b.toVs, isCell v = true := by
 unfold Cells.app at h
 split at h
 ·injection h with h; injection h with h1 h2; subst h1; subst h2
  refine ⟨rfl, rfl, rfl, by simpa [Cells.toVs] using hp.1, by simpa [Cells.toVs] using hp.2, by simp [Cells.toVs, List.map_take], fun v hv => ?_⟩
  obtain ⟨x, _, rfl⟩ := List.mem_map.1 hv
  rfl
 ·split at h
  ·rename_i hk
   have hk := of_decide_eq_true hk
   subst hk
   injection h with h; injection h with h1 h2; subst h1; subst h2
   refine ⟨rfl, rfl, rfl, by simpa [Cells.toVs] using hp.1, by simpa [Cells.toVs] using hp.2, by simp [Cells.toVs, List.map_take], fun v hv => ?_⟩
   obtain ⟨x, _, rfl⟩ := List.mem_map.1 hv
   rfl
  ·cases h
 ·injection h with h; injection h with h1 h2; subst h1; subst h2
  refine ⟨rfl, rfl, rfl, by simpa [Cells.toVs] using hp.1, by simpa [Cells.toVs] using hp.2, by simp [Cells.toVs, List.map_take], fun v hv => ?_⟩
  obtain ⟨x, _, rfl⟩ := List.mem_map.1 hv
  rfl
 ·injection h with h; injection h with h1 h2; subst h1; subst h2
  refine ⟨rfl, rfl, rfl, by simpa [Cells.toVs] using hp.1, by simpa [Cells.toVs] using hp.2, by simp [Cells.toVs, List.map_take], fun v hv => ?_⟩
  obtain ⟨x, _, rfl⟩ := List.mem_map.1 hv
  rfl
 ·split at h
  ·rename_i hk
   simp only [Bool.and_eq_true] at hk
   have hk1 := of_decide_eq_true hk.1
   have hk2 := Nat.eq_of_beq_eq_true hk.2
   subst hk1; subst hk2
   injection h with h; injection h with h1 h2; subst h1; subst h2
   refine ⟨rfl, rfl, rfl, by simpa [Cells.toVs] using hp.1, by simpa [Cells.toVs] using hp.2, ?_, fun v hv => recV_cell _ _ _ v hv⟩
   simp only [Cells.toVs]
   rw [recV_append, Nat.zero_add, <- recV_take]
   congr 1
   refine recV_mod _ _ ?_
   rw [hp.1, Nat.mul_mod_left, Nat.zero_mod]
  ·cases h
 ·cases h
theorem run_append_emp {t ty e : TypeId} {i : TypeInfo} {z : Value} (ht : P.underlying t = some (.slice e)) (hi : P.info? e = some i) (hz : i.zero = some z) (w : World) (a0 a : Addr) (n c : Nat) (news : List Value) (hl : news.length = n * i.size) (hnews : ∀ j v, news[j]? = some v -> w.cell? (a.add j) = some v)
  (h0 : 0 < n) (h63 : (n : Int) <= 9223372036854775807) (h48 : n * i.bytes <= 281474976710656) :
  (Builtin.append_ #[t, t] ty #[.slice (some a0) 0 0, .slice (some a) n c]).run P w = (Builtin.append_ #[t, t] ty #[.slice none 0 0, .slice (some a) n c]).run P w := by
 rw [run_append_nil (P := P) w t ty e i z ht hi hz a n c news hl hnews h0 h63 h48]
 have := run_append_grow (P := P) w t ty e i z ht hi hz a0 0 0 [] (by simp) (fun j v h => by simp at h) a n c news hl hnews (by omega) (by omega) (by rw [Nat.zero_add, nextslicecap_zero h0]; exact h48)
 rw [this]
 simp only [Nat.zero_add, Array.empty_append]
theorem Kind.rowOf_noarg {k : Kind} {sz : Nat} (h : k.rowOf sz = true) : k.isArg = false := by
 cases k <;> first | rfl | cases h
theorem Kind.rowOf_spec {k : Kind} {sz : Nat} (h : k.rowOf sz = true) : (∀ n, frz k n = (0, 0)) /\ k.isRow = true /\
  ∀ (len tv cap : Nat), (match (generalizing := false) k with | .box => len = tv | .rows s => len = cap * s /\ cap <= maxLen | .map => False | .mat => False | _ => len = cap /\ cap <= maxLen) ↔ (len = cap * sz /\ cap <= maxLen) := by
 cases k with
 | box => cases h
 | marked => cases h
 | map => cases h
 | arg s => cases h
 | mat => cases h
 | amat => cases h
 | gl g => cases h
 | row =>
  have : sz = 1 := Nat.eq_of_beq_eq_true h
  subst this
  exact ⟨fun _ => rfl, rfl, fun len tv cap => by simp⟩
 | rows s =>
  have : s = sz := Nat.eq_of_beq_eq_true h
  subst this
  exact ⟨fun _ => rfl, rfl, fun len tv cap => by simp⟩
theorem rowKind_rowOf (sz : Nat) : (rowKind sz).rowOf sz = true := by
 unfold rowKind
 split
 ·rfl
 ·exact Nat.beq_refl _
theorem none0_toVs {c : Cells} : c.none0.toVs = [] := by cases c <;> rfl

/-- A block that is no longer spoken of. -/
theorem MRel.kill {ρ : List Place} {m : List Blk} {w : World} (h : MRel ρ m w) (b : Nat) (e : TypeId) (kd : Kind) : MRel ρ (m.set b ⟨.dead, e, kd⟩) w := by
 have old : ∀ {c : Nat} {blk : Blk}, (m.set b ⟨.dead, e, kd⟩)[c]? = some blk -> blk.cs.isDead = false -> c ≠ b /\ m[c]? = some blk := by
  intro c blk hc hd
  rw [List.getElem?_set] at hc
  split at hc
  ·split at hc
   ·injection hc with hc; subst hc; cases hd
   ·cases hc
  ·rename_i hne
   exact ⟨fun e => hne e.symm, hc⟩
 refine ⟨by simp [h.len], fun c blk p hc hp => ?_, fun c c' blk blk' p p' hc hc' hp hp' hne hd hd' hg hg' ha => ?_⟩
 ·by_cases hd : blk.cs.isDead = true
  ·exact .inl hd
  ·exact h.blks c blk p (old hc (by simpa using hd)).2 hp
 ·exact h.inj c c' blk blk' p p' (old hc hd).2 (old hc' hd').2 hp hp' hne hd hd' hg hg' ha
theorem names_kill {Q : Blk -> Prop} {ρ : List Place} {m : List Blk} {w : World} (hm : MRel ρ m w) {b : Nat} {e : TypeId} {kd : Kind} {blk : Blk} {p : Place} (hb : m[b]? = some blk) (hp : ρ[b]? = some p) (hd : blk.cs.isDead = false) (ha : blk.kind.isArg = false) {k : Nat}
  (h : NamesP Q ρ (m.set b ⟨.dead, e, kd⟩) k) : NamesP Q ρ m k /\ (p.ghost = false -> k ∉ blk.foot p) := by
 obtain ⟨c, bl, q, hc, hq, hdc, hg, hQ, hkf⟩ := h
 rw [List.getElem?_set] at hc
 split at hc
 ·split at hc
  ·injection hc with hc; subst hc; cases hdc
  ·cases hc
 ·rename_i hne
  exact ⟨⟨c, bl, q, hc, hq, hdc, hg, hQ, hkf⟩, fun hpg => hm.inj c b bl blk q p hc hb hq hp (fun e => hne e.symm) hdc hd hg hpg (by simp [ha]) k hkf⟩

theorem append_sound {newb : Blk} {D : List Deferred} {W : Nat -> Prop} {w0 : World} {ρ0 : List Place} {ρ : List Place} {st : St} {a : Act} {w : World} (hs : SRel D W w0 ρ0 ρ st a w) {t ty e : TypeId} {i : TypeInfo} {z : Value} (ht : P.underlying t = some (.slice e)) (hi : P.info? e = some i) (hz : i.zero = some z)
  (hzs : z.cells.size = i.size) (hsz : 0 < i.size) (hby : i.bytes <= 64) {sv xv : Value} {n m : Nat} {tv : List V} (hsrc : ∃ (ad : Addr) (c : Nat) (cur' : List Value), xv = .slice (some ad) m c /\ RepL ρ tv (cur'.take tv.length) /\ ∀ j u, cur'[j]? = some u -> w.cell? (ad.add j) = some u)
  {mem1 : List Blk} (hm1 : MRel ρ mem1 w) (hn1 : ∀ k, Names ρ mem1 k -> Names ρ st.mem k) (hown : ∃ xs old, w.ownsRow 0 e i.size sv n xs /\ RepL ρ old xs /\ (∀ k, sv.ownBlock = some k -> Names ρ st.mem k /\ ¬ Reads ρ mem1 k) /\
   ∃ cs : Cells, cs.isDead = false /\ cs.toVs = old ++ tv.take (m * i.size) /\ ∃ kd : Kind, kd.rowOf i.size = true /\ m * i.size <= tv.length /\ (∀ v ∈ tv, isCell v = true) /\ 0 < m /\ n + m <= 1000000000 /\ newb = (⟨cs, e, kd⟩ : Blk)) (d : Option Tmp) :
  ∃ v' w' ρ', (Builtin.append_ #[t, t] ty #[sv, xv]).run P w = .ok v' w' /\ SRel D W w0 ρ0 ρ' (St.put { st with mem := mem1 ++ [newb] } d (.row mem1.length (n + m))) (a.put d v') w' := by
 obtain ⟨xs, old, hsv, hold, hblk, cs, hcd, hcs, kd, hkd, hml, hcell, hm0, hsmall, rfl⟩ := hown
 obtain ⟨ad, cc, cur', rfl, hrep', hat'⟩ := hsrc
 have hl' := hrep'.length
 have hcl' : tv.length <= cur'.length := by rw [hl', List.length_take]; omega
 have hnews : RepL ρ (tv.take (m * i.size)) (cur'.take (m * i.size)) := by
  have := hrep'.sub 0 (m * i.size)
  simp only [List.drop_zero, List.take_take, Nat.min_eq_left hml] at this
  exact this
 obtain ⟨v', w', hrun, hown', hgrow, hnil, hat⟩ := run_append_own_at (P := P) w 0 t ty e i z i.size i.bytes ht hi hz rfl rfl hzs hsz sv n xs hsv ad m cc (cur'.take (m * i.size)) (by rw [List.length_take]; omega)
  (fun j u hu => by
   rw [List.getElem?_take] at hu
   split at hu
   ·exact hat' j u hu
   ·cases hu)
  (fun u hu => by
   obtain ⟨j, hj⟩ := List.mem_iff_getElem?.1 hu
   have hjl : j < (tv.take (m * i.size)).length := by
    have := (List.getElem?_eq_some_iff.1 hj).1
    rw [hnews.length]; exact this
   have hv := getD_some (d := V.undef) hjl
   have hr := hnews.get2 hv hj
   refine isCell_one (hcell _ ?_) hr
   exact List.mem_of_mem_take (List.mem_of_getElem? hv))
  (by unfold maxLen; omega) (by
   have : (n + m) * i.bytes <= 1000000000 * 64 := Nat.mul_le_mul hsmall hby
   omega) (Nat.zero_le _)
 have hv' : v' ≠ .slice none 0 0 := fun h => by have := (hnil.1 h).2; omega
 rcases hown'.2 with ⟨h, _⟩ | ⟨g, cap, cur, rfl, _, hheap, hncap, hcap, hsize, htake⟩
 ·exact absurd h hv'
 have hgat : sv.ownBlock = some g \/ g = w.heap.size := by
  rcases hat with h | h
  ·exact .inl (h.symm.trans rfl)
  ·exact .inr (by simpa [Value.ownBlock] using h)
 have hnm : kd.isMat = false := by cases kd <;> first | rfl | (cases hkd; done)
 have hkeepW : Keep (fun k => sv.ownBlock = some k) w w' := ⟨hgrow.os, hgrow.tape, hgrow.output, hgrow.size, fun k hk hn => hgrow.block k hk (fun h => hn h.symm)⟩
 have hpre : ρ <+: ρ ++ [(⟨g, cap, false, 0, none, []⟩ : Place)] := List.prefix_append _ _
 have hrepn : RepL ρ (old ++ tv.take (m * i.size)) (xs ++ cur'.take (m * i.size)) := hold.append hnews
 have hlen := hown'.1
 have hmem := hm1.add (w' := w') (p := ⟨g, cap, false, 0, none, []⟩) (blk := ⟨cs, e, kd⟩) (fun k hk => hgrow.block k (hm1.lt hk) (fun h => (hblk k h.symm).2 hk)) (fun _ k hkf hN => by
   rw [foot_one hnm] at hkf
   simp only [List.mem_singleton] at hkf
   rw [hkf] at hN
   rcases hgat with h | h
   ·exact (hblk g h).2 hN
   ·have := hm1.lt hN; omega)
  (.inr (.inr (.inl ⟨rfl, cur.toList, by simp only [(Kind.rowOf_spec hkd).1]; simpa using hheap, by
   simp only [hcs]
   have hl2 : (old ++ tv.take (m * i.size)).length = (n + m) * i.size := by rw [hrepn.length, hlen]
   rw [hl2, htake]
   exact hrepn.mono hpre, by
   have := ((Kind.rowOf_spec hkd).2.2 cur.toList.length cs.toVs.length cap).2 ⟨by simpa using hsize, hcap⟩
   exact this, rfl, Kind.rowOf_noarg hkd⟩)))
 refine ⟨_, w', ρ ++ [⟨g, cap, false, 0, none, []⟩], hrun, ?_⟩
 refine SRel.put (st := { st with mem := mem1 ++ [⟨cs, e, kd⟩] }) ⟨hs.slots.mono hpre, hs.nodefer, hmem, hs.keep.trans (hkeepW.mono fun k _ hk => hs.own k (hblk k hk).1), fun j hj => ?_, hs.pre.trans hpre⟩ _ ?_
 ·obtain ⟨c, bl, q, hc, hq, hd, hg, hQ, hjf⟩ := hj
  by_cases hlt : c < mem1.length
  ·rw [List.getElem?_append_left hlt] at hc
   rw [List.getElem?_append_left (by rw [hm1.len]; exact hlt)] at hq
   exact hs.own _ (hn1 _ ⟨c, bl, q, hc, hq, hd, hg, hQ, hjf⟩)
  ·have hcl : c = mem1.length := by
    have := (List.getElem?_eq_some_iff.1 hc).1
    simp at this; omega
   subst hcl
   rw [List.getElem?_concat_length] at hc
   rw [<- hm1.len, List.getElem?_concat_length] at hq
   injection hq with hq
   injection hc with hc
   subst hq; subst hc
   rw [foot_one hnm] at hjf
   simp only [List.mem_singleton] at hjf
   rw [hjf]
   rcases hgat with h | h
   ·exact hs.own _ (hblk g h).1
   ·exact .inr (by rw [h]; exact hs.keep.size)
 ·simp only [Rep]
  exact ⟨⟨g, cap, false, 0, none, []⟩, by rw [<- hm1.len, List.getElem?_concat_length], .inr ⟨rfl, rfl⟩⟩

theorem app_none {sz n : Nat} {a b c : Cells} {p : Prop} (h : Cells.app sz n 0 a b = some (p, c)) : c = a /\ a.isDead = false := by
 unfold Cells.app at h
 split at h
 ·injection h with h; injection h with _ h2; subst h2
  exact ⟨by simp, rfl⟩
 ·split at h
  ·injection h with h; injection h with _ h2; subst h2
   exact ⟨by simp, rfl⟩
  ·cases h
 ·injection h with h; injection h with _ h2; subst h2
  exact ⟨by simp, rfl⟩
 ·injection h with h; injection h with _ h2; subst h2
  exact ⟨by simp, rfl⟩
 ·split at h
  ·injection h with h; injection h with _ h2; subst h2
   exact ⟨by simp, rfl⟩
  ·cases h
 ·cases h
theorem srcOf_slice {mem : List Blk} {ρ : List Place} {x : V} {c : Cells} {m : Nat} {xv : Value} (h : srcOf mem x = some (c, m)) (hx : Rep ρ x xv) : ∃ b q, xv = .slice b m q := by
 unfold srcOf at h
 split at h
 ·split at h
  ·injection h with h; injection h with _ h; subst h
   simp only [Rep] at hx
   obtain ⟨p, _, ⟨_, h0, h⟩ | ⟨_, h⟩⟩ := hx
   ·subst h0; exact ⟨_, _, h⟩
   ·exact ⟨_, _, h⟩
  ·cases h
 ·split at h
  ·split at h
   ·injection h with h; injection h with _ h; subst h
    simp only [Rep] at hx
    obtain ⟨p, s, _, _, h0, h⟩ := hx
    unfold Sub.val at h
    split at h
    ·rename_i hg
     rw [h0 hg]
     exact ⟨_, _, h⟩
    ·exact ⟨_, _, h⟩
   ·cases h
  ·cases h
 ·split at h
  ·split at h
   ·injection h with h; injection h with _ h; subst h
    simp only [Rep] at hx
    obtain ⟨_, p, _, h⟩ := hx
    exact ⟨_, _, h⟩
   ·cases h
  ·cases h
 ·simp only [Rep] at hx
  obtain ⟨p, _, _, _, hxv⟩ := hx
  split at h
  ·split at h
   ·injection h with h; injection h with _ h; subst h
    exact ⟨_, _, hxv⟩
   ·cases h
  ·split at h
   ·injection h with h; injection h with _ h; subst h
    exact ⟨_, _, hxv⟩
   ·cases h
  ·split at h
   ·injection h with h; injection h with _ h; subst h
    exact ⟨_, _, hxv⟩
   ·cases h
  ·cases h
 ·cases h
theorem run_append_none {t ty e : TypeId} {i : TypeInfo} (ht : P.underlying t = some (.slice e)) (hi : P.info? e = some i) (sb : Option Addr) (n sc : Nat) (xb : Option Addr) (xc : Nat) (h : n <= sc) (w : World) :
  (Builtin.append_ #[t, t] ty #[.slice sb n sc, .slice xb 0 xc]).run P w = .ok (.slice sb n sc) w := by
 cases sb <;> cases xb <;> simp [Builtin.append_, run_underlying ht, sizeOf, typeInfo, hi, Builtin.lenOf, h, Builtin.firstCells, loadCells, loadCellsFrom, storeCells]
theorem cut_toVs {c : Cells} {k : Nat} (h : (c.cut k).isDead = false) : (c.cut k).toVs = c.toVs.take k := by
 cases c <;> first | (cases h; done) | simp [Cells.cut, Cells.toVs, List.map_take]
 rw [recV_take]
/-- A new row that is the call's own. -/
theorem append_fresh {D : List Deferred} {W : Nat -> Prop} {w0 : World} {ρ0 : List Place} {ρ : List Place} {st : St} {a : Act} {w w' : World} (hs : SRel D W w0 ρ0 ρ st a w) {e : TypeId} {sz n : Nat} {v' : Value} {xs : List Value} {old : List V} {cs : Cells} {kd : Kind}
  (hown' : w'.ownsRow w.heap.size e sz v' n xs) (hgrow : w.grownBy w' none) (hold : RepL ρ old xs) (hn0 : 0 < n) (hcs : cs.toVs = old) (hkd : kd.rowOf sz = true) (d : Option Tmp) :
  ∃ ρ', SRel D W w0 ρ0 ρ' (St.put { st with mem := st.mem ++ [⟨cs, e, kd⟩] } d (.row st.mem.length n)) (a.put d v') w' := by
 obtain ⟨hlen, h | ⟨g, cap, cur, rfl, hgb, hheap, hncap, hcap, hsize, htake⟩⟩ := hown'
 ·omega
 have hnm : kd.isMat = false := by cases kd <;> first | rfl | (cases hkd; done)
 have hkeepW : Keep (fun _ => False) w w' := ⟨hgrow.os, hgrow.tape, hgrow.output, hgrow.size, fun k hk _ => hgrow.block k hk (fun h => by cases h)⟩
 have hpre : ρ <+: ρ ++ [(⟨g, cap, false, 0, none, []⟩ : Place)] := List.prefix_append _ _
 have hmem := hs.mem.add (w' := w') (p := ⟨g, cap, false, 0, none, []⟩) (blk := ⟨cs, e, kd⟩) (fun k hk => hgrow.block k (hs.mem.lt hk) (fun h => by cases h)) (fun _ k hkf hN => by
   rw [foot_one hnm] at hkf
   simp only [List.mem_singleton] at hkf
   rw [hkf] at hN
   have := hs.mem.lt hN; omega)
  (.inr (.inr (.inl ⟨rfl, cur.toList, by simp only [(Kind.rowOf_spec hkd).1]; simpa using hheap, by
   simp only [hcs]
   have hl2 : old.length = n * sz := by rw [hold.length, hlen]
   rw [hl2, htake]
   exact hold.mono hpre, by
   have := ((Kind.rowOf_spec hkd).2.2 cur.toList.length cs.toVs.length cap).2 ⟨by simpa using hsize, hcap⟩
   exact this, rfl, Kind.rowOf_noarg hkd⟩)))
 refine ⟨ρ ++ [⟨g, cap, false, 0, none, []⟩], ?_⟩
 refine SRel.put (st := { st with mem := st.mem ++ [⟨cs, e, kd⟩] }) ⟨hs.slots.mono hpre, hs.nodefer, hmem, hs.keep.trans (hkeepW.mono fun _ _ h => h.elim), fun j hj => ?_, hs.pre.trans hpre⟩ _ ?_
 ·obtain ⟨c, bl, q, hc, hq, hd, hg, hQ, hjf⟩ := hj
  by_cases hlt : c < st.mem.length
  ·rw [List.getElem?_append_left hlt] at hc
   rw [List.getElem?_append_left (by rw [hs.mem.len]; exact hlt)] at hq
   exact hs.own _ ⟨c, bl, q, hc, hq, hd, hg, hQ, hjf⟩
  ·have hcl : c = st.mem.length := by
    have := (List.getElem?_eq_some_iff.1 hc).1
    simp at this; omega
   subst hcl
   rw [List.getElem?_concat_length] at hc
   rw [<- hs.mem.len, List.getElem?_concat_length] at hq
   injection hq with hq
   injection hc with hc
   subst hq; subst hc
   rw [foot_one hnm] at hjf
   simp only [List.mem_singleton] at hjf
   rw [hjf]
   exact .inr (Nat.le_trans hs.keep.size hgb)
 ·simp only [Rep]
  exact ⟨⟨g, cap, false, 0, none, []⟩, by rw [<- hs.mem.len, List.getElem?_concat_length], .inr ⟨rfl, rfl⟩⟩
theorem vappend_sound {D : List Deferred} {W : Nat -> Prop} {w0 : World} {ρ0 : List Place} {ρ : List Place} {st : St} {a : Act} {w : World} (hs : SRel D W w0 ρ0 ρ st a w) {t ty : TypeId} {s x : V} {sv xv : Value} (hs1 : Rep ρ s sv) (hx : Rep ρ x xv) {k : Nat -> List Blk -> Prop}
  (h : vappend P t st.mem s x k) (d : Option Tmp) :
  ∃ n m v' w' ρ', k n m /\ (Builtin.append_ #[t, t] ty #[sv, xv]).run P w = .ok v' w' /\ SRel D W w0 ρ0 ρ' (St.put { st with mem := m } d (.row st.mem.length n)) (a.put d v') w' := by
 unfold vappend at h
 split at h
 ·rename_i cs' m hsrc
  split at h
  ·rename_i e ht
   split at h
   ·exact h.elim
   ·rename_i i hi
    split at h
    ·exact h.elim
    ·rename_i z hz
     replace h := withSize_spec h
     split at h
     ·rename_i b n
      split at h
      ·exact h.elim
      ·rename_i blk hb
       split at h
       ·exact h.elim
       ·rename_i p cs happ
        split at h
        ·rename_i hc
         obtain ⟨c1, c2, c3, c4, c5⟩ := hc
         obtain ⟨⟨hp, hm0, hsmall⟩, h⟩ := h
         obtain ⟨a1, a2, a3, a4, a5, a6, a7⟩ := Cells.app_spec happ hp
         obtain ⟨pl, hpl, hf⟩ := row_form hs1
         have hown : ∃ xs old, w.ownsRow 0 e i.size sv n xs /\ RepL ρ old xs /\ old = blk.cs.toVs /\ (∀ k, sv.ownBlock = some k -> pl.ghost = false /\ k = pl.blk) := by
          rcases hs.mem.blks b blk pl hb hpl with hdd | ⟨hgg, _, hnil, hnn⟩ | ⟨hgg, cur, hcur, hrep, hfit, hoff, _⟩ | ⟨_, ⟨hka, _⟩, _⟩ | ⟨_, hka, _⟩ | ⟨hka, _⟩
          ·rw [a1] at hdd; cases hdd
          ·rcases hf with ⟨_, hn0, hsv⟩ | ⟨hg, _⟩
           ·subst hn0
            obtain ⟨z1, z2⟩ := hnn (Kind.rowOf_noarg c5)
            rw [z1, z2] at hsv
            subst hsv
            exact ⟨[], [], World.ownsRow_nil w 0 e i.size, by simp [RepL], hnil.symm, fun k hk => by simp [Value.ownBlock] at hk⟩
           ·rw [hg] at hgg; cases hgg
          ·rcases hf with ⟨hg, _⟩ | ⟨_, rfl⟩
           ·rw [hg] at hgg; cases hgg
           ·have hfit' := ((Kind.rowOf_spec c5).2.2 _ _ _).1 hfit
            have hl := hrep.length
            have hle : n * i.size <= cur.length := by rw [<- a4, hl, List.length_take]; omega
            refine ⟨cur.take (n * i.size), blk.cs.toVs, ⟨by rw [List.length_take]; omega, .inr ⟨pl.blk, pl.cap, cur.toArray, by rw [addrOf_own hoff], Nat.zero_le _, ?_, ?_, hfit'.2, by simpa using hfit'.1, by simp⟩⟩, by rw [<- a4]; exact hrep, rfl, fun k hk => ?_⟩
            ·rw [(Kind.rowOf_spec c5).1] at hcur
             rw [<- c4]; exact hcur
            ·rw [hfit'.1] at hle
             exact Nat.le_of_mul_le_mul_right hle c2
            ·simp only [Value.ownBlock, addrOf, Option.some.injEq] at hk
             exact ⟨hgg, hk.symm⟩
          ·rw [Kind.rowOf_noarg c5] at hka; cases hka
          ·rw [hka] at c5; cases c5
          ·cases hbk : blk.kind <;> rw [hbk] at c5 hka <;> first | (cases c5; done) | (cases hka; done)
         obtain ⟨xs, old, o1, o2, o3, o4⟩ := hown
         have hnm : ∀ k, sv.ownBlock = some k -> Names ρ st.mem k /\ ¬ Reads ρ (st.mem.set b ⟨.dead, blk.elem, blk.kind⟩) k := fun k hk => by
          obtain ⟨hg, rfl⟩ := o4 k hk
          exact ⟨⟨b, blk, pl, hb, hpl, a1, hg, Kind.rowOf_noarg c5, foot_head _ _⟩, fun hN => (names_kill hs.mem hb hpl a1 (Kind.rowOf_noarg c5) hN).2 hg (foot_head _ _)⟩
         by_cases hmz : m = 0
         ·subst hmz
          subst c4
          obtain ⟨hcs, _⟩ := app_none happ
          subst hcs
          obtain ⟨xb, xc, rfl⟩ := srcOf_slice hsrc hx
          have hsv : ∃ sb sc, sv = .slice sb n sc /\ n <= sc := by
           obtain ⟨_, hv⟩ := o1
           rcases hv with ⟨rfl, rfl⟩ | ⟨g, cap, cur, rfl, _, _, hnc, _⟩
           ·exact ⟨_, _, rfl, Nat.le_refl _⟩
           ·exact ⟨_, _, rfl, hnc⟩
          obtain ⟨sb, sc, rfl, hnsc⟩ := hsv
          refine ⟨_, _, .slice sb n sc, w, ρ ++ [pl], h, run_append_none ht hi sb n sc xb xc hnsc w, ?_⟩
          have hpre : ρ <+: ρ ++ [pl] := List.prefix_append _ _
          have hkill := hs.mem.kill b blk.elem blk.kind
          have hadd := hkill.add (w' := w) (p := pl) (blk := ⟨blk.cs, blk.elem, blk.kind⟩) (fun _ _ => rfl) (fun hpg k hkf hN => (names_kill hs.mem hb hpl a1 (Kind.rowOf_noarg c5) hN).2 hpg hkf) ((hs.mem.blks b blk pl hb hpl).mono hpre)
          refine SRel.put (st := { st with mem := st.mem.set b ⟨.dead, blk.elem, blk.kind⟩ ++ [⟨blk.cs, blk.elem, blk.kind⟩] }) ⟨hs.slots.mono hpre, hs.nodefer, hadd, hs.keep, fun j hj => ?_, hs.pre.trans hpre⟩ _ ?_
          ·obtain ⟨c, bl, q, hc, hq, hd, hg, hQ, hjf⟩ := hj
           by_cases hlt : c < (st.mem.set b ⟨.dead, blk.elem, blk.kind⟩).length
           ·rw [List.getElem?_append_left hlt] at hc
            rw [List.getElem?_append_left (by rw [hs.mem.len]; simpa using hlt)] at hq
            exact hs.own _ (names_kill hs.mem hb hpl a1 (Kind.rowOf_noarg c5) ⟨c, bl, q, hc, hq, hd, hg, hQ, hjf⟩).1
           ·have hcl : c = (st.mem.set b ⟨.dead, blk.elem, blk.kind⟩).length := by
             have := (List.getElem?_eq_some_iff.1 hc).1
             simp at this hlt ⊢; omega
            subst hcl
            rw [List.getElem?_concat_length] at hc
            rw [List.length_set, <- hs.mem.len, List.getElem?_concat_length] at hq
            injection hq with hq
            injection hc with hc
            subst hq; subst hc
            exact hs.own _ ⟨b, blk, _, hb, hpl, a1, hg, hQ, hjf⟩
          ·simp only [Rep]
           refine ⟨pl, by rw [<- hs.mem.len, List.getElem?_concat_length], ?_⟩
           rcases hf with ⟨hg, hn0, he⟩ | ⟨hg, he⟩
           ·exact .inl ⟨hg, hn0, he⟩
           ·exact .inr ⟨hg, he⟩
         have hm0 : 0 < m := Nat.pos_of_ne_zero hmz
         obtain ⟨v', w', ρ', r1, r2⟩ := append_sound (P := P) (ty := ty) (newb := ⟨cs, e, blk.kind⟩) hs ht hi hz c1 c2 c3 (srcOf_spec hs.mem hsrc hx hm0) (hs.mem.kill b blk.elem blk.kind) (fun k hk => (names_kill hs.mem hb hpl a1 (Kind.rowOf_noarg c5) hk).1)
          ⟨xs, old, o1, o2, hnm, cs, a3, by rw [a6, o3], blk.kind, c5, a5, a7, hm0, hsmall, rfl⟩ d
         rw [List.length_set] at r2
         exact ⟨_, _, v', w', ρ', h, r1, r2⟩
        ·exact h.elim
     ·split at h
      ·exact h.elim
      ·rename_i p cs happ
       split at h
       ·rename_i hc
        obtain ⟨c1, c2, c3⟩ := hc
        obtain ⟨⟨hp, hm0, hsmall⟩, h⟩ := h
        obtain ⟨a1, a2, a3, a4, a5, a6, a7⟩ := Cells.app_spec happ hp
        simp only [Rep] at hs1
        subst hs1
        obtain ⟨v', w', ρ', r1, r2⟩ := append_sound (P := P) (ty := ty) (newb := ⟨cs, e, rowKind i.size⟩) hs ht hi hz c1 c2 c3 (srcOf_spec hs.mem hsrc hx hm0) hs.mem (fun k hk => hk)
         ⟨[], [], World.ownsRow_nil w 0 e i.size, by simp [RepL], fun k hk => by simp [Value.ownBlock] at hk, cs, a3, by rw [a6, none0_toVs], rowKind i.size, rowKind_rowOf _, a5, a7, hm0, by omega, rfl⟩ d
        rw [Nat.zero_add] at r2
        exact ⟨_, _, v', w', ρ', h, r1, r2⟩
       ·exact h.elim
     ·split at h
      ·exact h.elim
      ·rename_i b o sz' n q _ cs0 m0 hsrc0
       split at h
       ·exact h.elim
       ·rename_i p cs happ
        split at h
        ·rename_i hc
         obtain ⟨c1, c2, c3⟩ := hc
         obtain ⟨⟨hq, hp, hm0, hsmall⟩, h⟩ := h
         obtain ⟨a1, a2, a3, a4, a5, a6, a7⟩ := Cells.app_spec happ hp
         have hcut := cut_toVs a1
         have hm0' : m0 = n := by
          obtain ⟨b1, q1, e1⟩ := srcOf_slice hsrc0 hs1
          simp only [Rep] at hs1
          obtain ⟨_, _, _, _, e2⟩ := hs1
          rw [e1] at e2
          injection e2
         subst hm0'
         subst hq
         have hsrcx := srcOf_spec hs.mem hsrc hx hm0
         by_cases hn : q = 0
         ·subst hn
          simp only [Rep] at hs1
          obtain ⟨pl, _, _, _, hsv⟩ := hs1
          have hsv : ∃ a0, sv = .slice a0 0 0 := ⟨_, hsv⟩
          obtain ⟨a0, rfl⟩ := hsv
          have hnil : (Cells.cut (0 * i.size) cs0).toVs = [] := by rw [hcut]; simp
          rw [hnil, List.nil_append] at a6
          obtain ⟨v', w', ρ', r1, r2⟩ := append_sound (P := P) (ty := ty) (sv := .slice none 0 0) (newb := ⟨cs, e, rowKind i.size⟩) hs ht hi hz c1 c2 c3 hsrcx hs.mem (fun k hk => hk)
           ⟨[], [], World.ownsRow_nil w 0 e i.size, by simp [RepL], fun k hk => by simp [Value.ownBlock] at hk, cs, a3, by rw [a6]; rfl, rowKind i.size, rowKind_rowOf _, a5, a7, hm0, by omega, rfl⟩ d
          refine ⟨_, _, v', w', ρ', h, ?_, r2⟩
          cases a0 with
          | none => exact r1
          | some a0 =>
           obtain ⟨ad, cc, cur', rfl, hrep', hat'⟩ := hsrcx
           have hl' := hrep'.length
           have hcl' : cs'.toVs.length <= cur'.length := by rw [hl', List.length_take]; omega
           rw [run_append_emp ht hi hz w a0 ad m cc (cur'.take (m * i.size)) (by rw [List.length_take]; omega) (fun j u hu => by
            rw [List.getElem?_take] at hu
            split at hu
            ·exact hat' j u hu
            ·cases hu) hm0 (by omega) (by
            have : m * i.bytes <= 1000000000 * 64 := Nat.mul_le_mul (by omega) c3
            omega)]
           exact r1
         ·obtain ⟨ad0, cc0, cur0, rfl, hrep0, hat0⟩ := srcOf_spec hs.mem hsrc0 hs1 (Nat.pos_of_ne_zero hn)
          have hcc : cc0 = q := by
           simp only [Rep] at hs1
           obtain ⟨_, _, _, _, e2⟩ := hs1
           injection e2
          subst hcc
          obtain ⟨ad, cc, cur', rfl, hrep', hat'⟩ := hsrcx
          have hl' := hrep'.length
          have hl0 := hrep0.length
          have hcl' : cs'.toVs.length <= cur'.length := by rw [hl', List.length_take]; omega
          have ha4 : cc0 * i.size <= cs0.toVs.length := by
           rw [hcut, List.length_take] at a4; omega
          have hcl0 : cs0.toVs.length <= cur0.length := by rw [hl0, List.length_take]; omega
          have hx1 : RepL ρ (cs'.toVs.take (m * i.size)) (cur'.take (m * i.size)) := by
           have := hrep'.sub 0 (m * i.size)
           simp only [List.drop_zero, List.take_take, Nat.min_eq_left a5] at this
           exact this
          have hx0 : RepL ρ (cs0.toVs.take (cc0 * i.size)) (cur0.take (cc0 * i.size)) := by
           have := hrep0.sub 0 (cc0 * i.size)
           simp only [List.drop_zero, List.take_take, Nat.min_eq_left ha4] at this
           exact this
          obtain ⟨v', w', r1, r2, r3⟩ := run_append_arg_grows (P := P) w t ty e i z i.size i.bytes ht hi hz rfl rfl c1 c2 ad0 cc0 cc0 (cur0.take (cc0 * i.size)) (by rw [List.length_take]; omega) (fun j u hu => by
            rw [List.getElem?_take] at hu
            split at hu
            ·exact hat0 j u hu
            ·cases hu) ad m cc (cur'.take (m * i.size)) (by rw [List.length_take]; omega) (fun j u hu => by
            rw [List.getElem?_take] at hu
            split at hu
            ·exact hat' j u hu
            ·cases hu) (by omega) (by unfold maxLen; omega) (by
            have : (cc0 + m) * i.bytes <= 1000000000 * 64 := Nat.mul_le_mul hsmall c3
            omega)
          obtain ⟨ρ', r4⟩ := append_fresh (cs := cs) (kd := rowKind i.size) hs r2 r3 (hx0.append hx1) (by omega) (by rw [a6, hcut]) (rowKind_rowOf _) d
          exact ⟨_, _, v', w', ρ', h, r1, r4⟩
        ·exact h.elim
     ·split at h
      ·exact h.elim
      ·rename_i p cs happ
       split at h
       ·rename_i hc
        obtain ⟨c1, c2, c3⟩ := hc
        obtain ⟨⟨hp, hm0, hsmall⟩, h⟩ := h
        obtain ⟨a1, a2, a3, a4, a5, a6, a7⟩ := Cells.app_spec happ hp
        simp only [Rep] at hs1
        obtain ⟨a0, rfl⟩ := hs1
        obtain ⟨v', w', ρ', r1, r2⟩ := append_sound (P := P) (ty := ty) (sv := .slice none 0 0) (newb := ⟨cs, e, rowKind i.size⟩) hs ht hi hz c1 c2 c3 (srcOf_spec hs.mem hsrc hx hm0) hs.mem (fun k hk => hk)
         ⟨[], [], World.ownsRow_nil w 0 e i.size, by simp [RepL], fun k hk => by simp [Value.ownBlock] at hk, cs, a3, by rw [a6, none0_toVs], rowKind i.size, rowKind_rowOf _, a5, a7, hm0, by omega, rfl⟩ d
        rw [Nat.zero_add] at r2
        refine ⟨_, _, v', w', ρ', h, ?_, r2⟩
        cases a0 with
        | none => exact r1
        | some a0 =>
         obtain ⟨ad, cc, cur', rfl, hrep', hat'⟩ := srcOf_spec hs.mem hsrc hx hm0
         have hl' := hrep'.length
         have hcl' : cs'.toVs.length <= cur'.length := by rw [hl', List.length_take]; omega
         rw [run_append_emp ht hi hz w a0 ad m cc (cur'.take (m * i.size)) (by rw [List.length_take]; omega) (fun j u hu => by
          rw [List.getElem?_take] at hu
          split at hu
          ·exact hat' j u hu
          ·cases hu) hm0 (by omega) (by
          have : m * i.bytes <= 1000000000 * 64 := Nat.mul_le_mul hsmall c3
          omega)]
         exact r1
       ·exact h.elim
     ·exact h.elim
  ·exact h.elim
 ·exact h.elim

open Go.Lib in
/-- What is appended to a row of one's own lies there, or in a new one. -/
theorem append_string_at {P : Program} (w : World) (t u ty e : TypeId) (i : TypeInfo) (ht : P.underlying t = some (.slice e)) (hu : P.underlying u = some .string) (hi : P.info? e = some i) (hz : i.zero = some (.int .u8 0))
  (hsize : i.size = 1) (hby : i.bytes = 1) (v : Value) (n : Nat) (xs : List Value) (hown : w.ownsRow 0 e 1 v n xs) (s : ByteArray) (h0 : 0 < s.size)
  (h63 : n + s.size <= 1000000000) :
  ∃ v' w', (Builtin.append_ #[t, u] ty #[v, .string s]).run P w = .ok v' w' /\ w'.ownsRow 0 e 1 v' (n + s.size) (xs ++ strCells s) /\ w.grownBy w' v.ownBlock /\
   (v' = .slice none 0 0 ↔ v = .slice none 0 0 /\ s.size = 0) /\ (v'.ownBlock = v.ownBlock \/ v'.ownBlock = some w.heap.size) := by
 obtain ⟨v', w', h1, h2, h3, h4⟩ := run_append_own_string (P := P) w 0 t u ty e i ht hu hi hz hsize hby v n xs hown s (by unfold maxLen; omega) (by omega) (Nat.zero_le _)
 refine ⟨v', w', h1, h2, h3, h4, ?_⟩
 obtain ⟨hlen, hv⟩ := hown
 rcases hv with ⟨rfl, rfl⟩ | ⟨g, cap, cur, rfl, _, hheap, hnc, hcm, hcs, htk⟩
 ·rw [run_append_nil_string (P := P) w t u ty e i _ ht hu hi hz s h0 (by omega) (by rw [hby]; omega)] at h1
  injection h1 with h1 _
  subst h1
  exact .inr rfl
 ·by_cases hr : n + s.size <= cap
  ·rw [run_append_room_string (P := P) w t u ty e i ht hu hi hsize g n cap cur hheap s hr (by rw [hcs]; omega)] at h1
   injection h1 with h1 _
   subst h1
   exact .inl rfl
  ·rw [run_append_grow_string (P := P) w t u ty e i _ ht hu hi hz ⟨g, 0, none⟩ n cap xs (by rw [hlen, hsize]) (fun j q hj => by
     rw [<- htk, List.getElem?_take] at hj
     split at hj
     ·have hadd : (⟨g, 0, none⟩ : Addr).add j = ⟨g, j, none⟩ := by unfold Addr.add; split <;> simp_all
      rw [hadd]
      unfold World.cell?
      simp only [hheap]
      simpa using hj
     ·cases hj) s (by omega) (by omega) (by
      rw [hby, Nat.mul_one]
      have := nextslicecap_le (need := n + s.size) (old := cap) (by omega)
      omega)] at h1
   injection h1 with h1 _
   subst h1
   exact .inr rfl
open Go.Lib in
theorem appendS_sound {newb : Blk} {D : List Deferred} {W : Nat -> Prop} {w0 : World} {ρ0 : List Place} {ρ : List Place} {st : St} {a : Act} {w : World} (hs : SRel D W w0 ρ0 ρ st a w) {t u ty e : TypeId} {i : TypeInfo} (ht : P.underlying t = some (.slice e)) (hu : P.underlying u = some .string) (hi : P.info? e = some i) (hz : i.zero = some (.int .u8 0))
  (hsize : i.size = 1) (hby : i.bytes = 1) {sv : Value} {n : Nat} {x : List UInt8}
  {mem1 : List Blk} (hm1 : MRel ρ mem1 w) (hn1 : ∀ k, Names ρ mem1 k -> Names ρ st.mem k) (hown : ∃ xs old, w.ownsRow 0 e 1 sv n xs /\ RepL ρ old xs /\ (∀ k, sv.ownBlock = some k -> Names ρ st.mem k /\ ¬ Reads ρ mem1 k) /\
   ∃ cs : Cells, cs.isDead = false /\ cs.toVs = old ++ x.map byV /\ ∃ kd : Kind, kd.rowOf 1 = true /\ 0 < x.length /\ n + x.length <= 1000000000 /\ newb = (⟨cs, e, kd⟩ : Blk)) (d : Option Tmp) :
  ∃ v' w' ρ', (Builtin.append_ #[t, u] ty #[sv, .string (ofL x)]).run P w = .ok v' w' /\ SRel D W w0 ρ0 ρ' (St.put { st with mem := mem1 ++ [newb] } d (.row mem1.length (n + x.length))) (a.put d v') w' := by
 obtain ⟨xs, old, hsv, hold, hblk, cs, hcd, hcs, kd, hkd, hm0, hsmall, rfl⟩ := hown
 have hsz : (ofL x).size = x.length := ofL_size x
 have hst : strCells (ofL x) = x.map fun c => Value.int .u8 c.toNat := by simp [strCells, ofL]
 have hnews : RepL ρ (x.map byV) (strCells (ofL x)) := by rw [hst]; exact bytes_repL ρ x
 obtain ⟨v', w', hrun, hown', hgrow, hnil, hat⟩ := append_string_at (P := P) w t u ty e i ht hu hi hz hsize hby sv n xs hsv (ofL x) (by omega) (by omega)
 rw [hsz] at hown' hnil
 have hv' : v' ≠ .slice none 0 0 := fun h => by have := (hnil.1 h).2; omega
 rcases hown'.2 with ⟨h, _⟩ | ⟨g, cap, cur, rfl, _, hheap, hncap, hcap, hsize, htake⟩
 ·exact absurd h hv'
 have hgat : sv.ownBlock = some g \/ g = w.heap.size := by
  rcases hat with h | h
  ·exact .inl (h.symm.trans rfl)
  ·exact .inr (by simpa [Value.ownBlock] using h)
 have hnm : kd.isMat = false := by cases kd <;> first | rfl | (cases hkd; done)
 have hkeepW : Keep (fun k => sv.ownBlock = some k) w w' := ⟨hgrow.os, hgrow.tape, hgrow.output, hgrow.size, fun k hk hn => hgrow.block k hk (fun h => hn h.symm)⟩
 have hpre : ρ <+: ρ ++ [(⟨g, cap, false, 0, none, []⟩ : Place)] := List.prefix_append _ _
 have hrepn : RepL ρ (old ++ x.map byV) (xs ++ strCells (ofL x)) := hold.append hnews
 have hlen := hown'.1
 have hmem := hm1.add (w' := w') (p := ⟨g, cap, false, 0, none, []⟩) (blk := ⟨cs, e, kd⟩) (fun k hk => hgrow.block k (hm1.lt hk) (fun h => (hblk k h.symm).2 hk)) (fun _ k hkf hN => by
   rw [foot_one hnm] at hkf
   simp only [List.mem_singleton] at hkf
   rw [hkf] at hN
   rcases hgat with h | h
   ·exact (hblk g h).2 hN
   ·have := hm1.lt hN; omega)
  (.inr (.inr (.inl ⟨rfl, cur.toList, by simp only [(Kind.rowOf_spec hkd).1]; simpa using hheap, by
   simp only [hcs]
   have hl2 : (old ++ x.map byV).length = (n + x.length) * 1 := by rw [hrepn.length, hlen]
   rw [hl2, htake]
   exact hrepn.mono hpre, by
   have := ((Kind.rowOf_spec hkd).2.2 cur.toList.length cs.toVs.length cap).2 ⟨by simpa using hsize, hcap⟩
   exact this, rfl, Kind.rowOf_noarg hkd⟩)))
 refine ⟨_, w', ρ ++ [⟨g, cap, false, 0, none, []⟩], hrun, ?_⟩
 refine SRel.put (st := { st with mem := mem1 ++ [⟨cs, e, kd⟩] }) ⟨hs.slots.mono hpre, hs.nodefer, hmem, hs.keep.trans (hkeepW.mono fun k _ hk => hs.own k (hblk k hk).1), fun j hj => ?_, hs.pre.trans hpre⟩ _ ?_
 ·obtain ⟨c, bl, q, hc, hq, hd, hg, hQ, hjf⟩ := hj
  by_cases hlt : c < mem1.length
  ·rw [List.getElem?_append_left hlt] at hc
   rw [List.getElem?_append_left (by rw [hm1.len]; exact hlt)] at hq
   exact hs.own _ (hn1 _ ⟨c, bl, q, hc, hq, hd, hg, hQ, hjf⟩)
  ·have hcl : c = mem1.length := by
    have := (List.getElem?_eq_some_iff.1 hc).1
    simp at this; omega
   subst hcl
   rw [List.getElem?_concat_length] at hc
   rw [<- hm1.len, List.getElem?_concat_length] at hq
   injection hq with hq
   injection hc with hc
   subst hq; subst hc
   rw [foot_one hnm] at hjf
   simp only [List.mem_singleton] at hjf
   rw [hjf]
   rcases hgat with h | h
   ·exact hs.own _ (hblk g h).1
   ·exact .inr (by rw [h]; exact hs.keep.size)
 ·simp only [Rep]
  exact ⟨⟨g, cap, false, 0, none, []⟩, by rw [<- hm1.len, List.getElem?_concat_length], .inr ⟨rfl, rfl⟩⟩

theorem vappendS_sound {D : List Deferred} {W : Nat -> Prop} {w0 : World} {ρ0 : List Place} {ρ : List Place} {st : St} {a : Act} {w : World} (hs : SRel D W w0 ρ0 ρ st a w) {t u ty : TypeId} {s : V} {x : List UInt8} {sv xv : Value} {k : Nat -> List Blk -> Prop} (hs1 : Rep ρ s sv) (hx : Rep ρ (.str x) xv)
  (h : vappendS P t u st.mem s x k) (d : Option Tmp) :
  ∃ n m v' w' ρ', k n m /\ (Builtin.append_ #[t, u] ty #[sv, xv]).run P w = .ok v' w' /\ SRel D W w0 ρ0 ρ' (St.put { st with mem := m } d (.row st.mem.length n)) (a.put d v') w' := by
 simp only [Rep] at hx
 subst hx
 unfold vappendS at h
 split at h
 ·rename_i e ht hu
  split at h
  ·exact h.elim
  ·rename_i i hi
   split at h
   ·rename_i hz
    split at h
    ·rename_i hc
     obtain ⟨hsize, hby⟩ := hc
     split at h
     ·rename_i b n
      split at h
      ·rename_i l eb kd hb
       split at h
       ·rename_i hc
        obtain ⟨rfl, hkd⟩ := hc
        obtain ⟨⟨hln, hx0, hsm⟩, h⟩ := h
        obtain ⟨pl, hpl, hf⟩ := row_form hs1
        have hna := Kind.rowOf_noarg hkd
        have hown : ∃ xs, w.ownsRow 0 eb 1 sv n xs /\ RepL ρ (l.map byV) xs /\ (∀ k, sv.ownBlock = some k -> pl.ghost = false /\ k = pl.blk) := by
         rcases hs.mem.blks b _ pl hb hpl with hdd | ⟨hgg, _, hnil, hnn⟩ | ⟨hgg, cur, hcur, hrep, hfit, hoff, _⟩ | ⟨_, ⟨hka, _⟩, _⟩ | ⟨_, hka, _⟩ | ⟨hka, _⟩
         ·cases hdd
         ·rcases hf with ⟨_, hn0, hsv⟩ | ⟨hg, _⟩
          ·subst hn0
           obtain ⟨z1, z2⟩ := hnn hna
           rw [z1, z2] at hsv
           subst hsv
           have hl0 : l = [] := List.eq_nil_of_length_eq_zero hln
           subst hl0
           exact ⟨[], World.ownsRow_nil w 0 eb 1, by simp [RepL], fun k hk => by simp [Value.ownBlock] at hk⟩
          ·rw [hg] at hgg; cases hgg
         ·rcases hf with ⟨hg, _⟩ | ⟨_, rfl⟩
          ·rw [hg] at hgg; cases hgg
          ·have hfit' := ((Kind.rowOf_spec hkd).2.2 _ _ _).1 hfit
           have hl := hrep.length
           simp only [Cells.toVs, List.length_map] at hl hrep
           have hle : n <= cur.length := by rw [<- hln, hl, List.length_take]; omega
           refine ⟨cur.take n, ⟨by rw [List.length_take]; omega, .inr ⟨pl.blk, pl.cap, cur.toArray, by rw [addrOf_own hoff], Nat.zero_le _, ?_, ?_, hfit'.2, by simpa using hfit'.1, by simp⟩⟩, by rw [<- hln]; exact hrep, fun k hk => ?_⟩
           ·rw [(Kind.rowOf_spec hkd).1] at hcur
            exact hcur
           ·have := hfit'.1; omega
           ·simp only [Value.ownBlock, addrOf, Option.some.injEq] at hk
            exact ⟨hgg, hk.symm⟩
         ·simp only at hka; rw [hna] at hka; cases hka
         ·simp only at hka; rw [hka] at hkd; cases hkd
         ·simp only at hka; cases kd <;> first | (cases hkd; done) | (cases hka; done)
        obtain ⟨xs, o1, o2, o4⟩ := hown
        have hnm : ∀ k, sv.ownBlock = some k -> Names ρ st.mem k /\ ¬ Reads ρ (st.mem.set b ⟨.dead, eb, kd⟩) k := fun k hk => by
         obtain ⟨hg, rfl⟩ := o4 k hk
         exact ⟨⟨b, _, pl, hb, hpl, rfl, hg, hna, foot_head _ _⟩, fun hN => (names_kill hs.mem hb hpl rfl hna hN).2 hg (foot_head _ _)⟩
        obtain ⟨v', w', ρ', r1, r2⟩ := appendS_sound (P := P) (ty := ty) (newb := ⟨.bytes (l ++ x), eb, kd⟩) hs ht hu hi hz hsize hby (hs.mem.kill b eb kd) (fun k hk => (names_kill hs.mem hb hpl rfl hna hk).1)
         ⟨xs, l.map byV, o1, o2, hnm, .bytes (l ++ x), rfl, by simp only [Cells.toVs, List.map_append]; rfl, kd, hkd, hx0, hsm, rfl⟩ d
        rw [List.length_set] at r2
        exact ⟨_, _, v', w', ρ', h, r1, r2⟩
       ·exact h.elim
      ·exact h.elim
     ·obtain ⟨⟨hx0, hsm⟩, h⟩ := h
      simp only [Rep] at hs1
      subst hs1
      obtain ⟨v', w', ρ', r1, r2⟩ := appendS_sound (P := P) (ty := ty) (newb := ⟨.bytes x, e, .row⟩) hs ht hu hi hz hsize hby hs.mem (fun k hk => hk)
       ⟨[], [], World.ownsRow_nil w 0 e 1, by simp [RepL], fun k hk => by simp [Value.ownBlock] at hk, .bytes x, rfl, by simp only [Cells.toVs, List.nil_append]; rfl, .row, rfl, hx0, by omega, rfl⟩ d
      rw [Nat.zero_add] at r2
      exact ⟨_, _, v', w', ρ', h, r1, r2⟩
     ·exact h.elim
    ·exact h.elim
   ·exact h.elim
 ·exact h.elim

/-! ### calls -/
theorem posOf_spec (n : Nat) : ∀ (l : List Nat) (i c : Nat), posOf n l i = some c -> i <= c /\ l[c - i]? = some n
 | [], i, c, h => by simp [posOf] at h
 | a :: r, i, c, h => by
  simp only [posOf] at h
  split at h
  ·rename_i hb
   injection h with h
   subst h
   have := Nat.eq_of_beq_eq_true hb
   subst this
   simp
  ·obtain ⟨h1, h2⟩ := posOf_spec n r (i + 1) c h
   refine ⟨by omega, ?_⟩
   rw [show c - i = (c - (i + 1)) + 1 by omega, List.getElem?_cons_succ]
   exact h2
theorem posOf_has (n : Nat) : ∀ (l : List Nat) (i : Nat), hasN n l = true -> ∃ c, posOf n l i = some c
 | [], i, h => by simp [hasN] at h
 | a :: r, i, h => by
  simp only [hasN] at h
  simp only [posOf]
  split at h
  ·exact ⟨_, rfl⟩
  ·exact posOf_has n r (i + 1) h
theorem hasN_no (n : Nat) : ∀ (l : List Nat), hasN n l = false -> n ∉ l
 | [], _ => by simp
 | a :: r, h => by
  simp only [hasN] at h
  split at h
  ·cases h
  ·rename_i hb
   have := Nat.ne_of_beq_eq_false hb
   simp only [List.mem_cons, not_or]
   exact ⟨fun e => this e.symm, hasN_no n r h⟩
theorem addLive_nodup (mem : List Blk) : ∀ (ns l : List Nat), l.Nodup -> (addLive mem l ns).Nodup
 | [], l, h => h
 | n :: ns, l, h => by
  simp only [addLive]
  refine addLive_nodup mem ns _ ?_
  split
  ·rename_i hc
   simp only [Bool.and_eq_true, Bool.not_eq_true'] at hc
   have hn := hasN_no n l hc.2
   rw [List.nodup_append]
   exact ⟨h, by simp, fun a ha b hb => by simp at hb; subst hb; rintro rfl; exact hn ha⟩
  ·exact h
theorem reach_nodup (mem : List Blk) : ∀ (f : Nat) (l : List Nat), l.Nodup -> (reach mem f l).Nodup
 | 0, _, h => h
 | f + 1, l, h => reach_nodup mem f _ (addLive_nodup mem _ l h)
theorem newNames_sub (n : Nat) : ∀ (l : List Nat) (i : Nat), i ∈ newNames n l -> n <= i /\ i ∈ l
 | [], i, h => by cases h
 | a :: l, i, h => by
  simp only [newNames] at h
  split at h
  ·obtain ⟨h1, h2⟩ := newNames_sub n l i h
   exact ⟨h1, List.mem_cons_of_mem _ h2⟩
  ·rename_i hb
   rcases List.mem_cons.1 h with rfl | h
   ·refine ⟨Nat.le_of_not_lt fun hlt => ?_, by simp⟩
    rw [Nat.blt_eq.mpr hlt] at hb
    cases hb
   ·obtain ⟨h1, h2⟩ := newNames_sub n l i h
    exact ⟨h1, List.mem_cons_of_mem _ h2⟩
theorem newNames_nodup (n : Nat) : ∀ (l : List Nat), l.Nodup -> (newNames n l).Nodup
 | [], _ => by simp [newNames]
 | a :: l, h => by
  simp only [List.nodup_cons] at h
  simp only [newNames]
  split
  ·exact newNames_nodup n l h.2
  ·rw [List.nodup_cons]
   exact ⟨fun hm => h.1 (newNames_sub n l a hm).2, newNames_nodup n l h.2⟩
theorem pickMem_spec {mem : List Blk} : ∀ {ns : List Nat} {m : List Blk}, pickMem mem ns = some m ->
  m.length = ns.length /\ ∀ (i n : Nat), ns[i]? = some n -> ∃ blk, mem[n]? = some blk /\ m[i]? = some blk /\ blk.cs.isDead = false
 | [], m, h => by
  simp only [pickMem, Option.some.injEq] at h
  subst h
  exact ⟨rfl, fun i n hi => by simp at hi⟩
 | n :: ns, m, h => by
  simp only [pickMem] at h
  split at h
  ·cases h
  ·rename_i blk hb
   split at h
   ·cases h
   ·rename_i hd
    split at h
    ·cases h
    ·rename_i r hr
     injection h with h
     subst h
     obtain ⟨h1, h2⟩ := pickMem_spec hr
     refine ⟨by simp [h1], fun i n' hi => ?_⟩
     cases i with
     | zero => simp at hi; subst hi; exact ⟨blk, hb, rfl, hd⟩
     | succ i => simpa using h2 i n' (by simpa using hi)

theorem updMem_length : ∀ (ns : List Nat) (m' mem : List Blk), (updMem mem ns m').length = mem.length
 | [], m', mem => by simp [updMem]
 | n :: ns, [], mem => by simp [updMem]
 | n :: ns, b :: bs, mem => by simp [updMem, updMem_length ns bs]

theorem updMem_other : ∀ (ns : List Nat) (m' mem : List Blk) {c : Nat}, c ∉ ns -> (updMem mem ns m')[c]? = mem[c]?
 | [], m', mem, c, _ => by simp [updMem]
 | n :: ns, [], mem, c, _ => by simp [updMem]
 | n :: ns, b :: bs, mem, c, hc => by
  simp only [List.mem_cons, not_or] at hc
  simp only [updMem]
  rw [updMem_other ns bs _ hc.2, List.getElem?_set, if_neg (fun h => hc.1 h.symm)]

theorem updMem_at : ∀ (ns : List Nat) (m' mem : List Blk) {i c : Nat} {blk : Blk}, ns.Nodup -> ns[i]? = some c -> m'[i]? = some blk -> c < mem.length -> (updMem mem ns m')[c]? = some blk
 | [], m', mem, i, c, blk, _, h, _, _ => by simp at h
 | n :: ns, [], mem, i, c, blk, _, _, h, _ => by simp at h
 | n :: ns, b :: bs, mem, i, c, blk, hn, hi, hb, hc => by
  simp only [List.nodup_cons] at hn
  simp only [updMem]
  cases i with
  | zero =>
   simp at hi hb
   subst hi; subst hb
   rw [updMem_other ns bs _ hn.1, List.getElem?_set, if_pos rfl, if_pos hc]
  | succ i =>
   simp at hi hb
   exact updMem_at ns bs _ hn.2 hi hb (by simpa using hc)
theorem get_idxOf {a : Nat} : ∀ {l : List Nat}, a ∈ l -> l[l.idxOf a]? = some a
 | [], h => by cases h
 | b :: l, h => by
  rw [List.idxOf_cons]
  by_cases hb : b = a
  ·subst hb; simp
  ·have hba : (b == a) = false := by simpa using hb
   rw [hba]
   simp only [cond_false, List.getElem?_cons_succ]
   rcases List.mem_cons.1 h with h | h
   ·exact absurd h.symm hb
   ·exact get_idxOf h
theorem underL_map {α : Type} (f : α -> V) (hf : ∀ x, (f x).under 0 = true) : ∀ l : List α, underL 0 (l.map f) = true
 | [] => rfl
 | x :: l => by simp [underL, hf x, underL_map f hf l]

mutual
theorem sel_rep {ρ ρ' : List Place} {τ : Nat -> Option Nat} (H : ∀ n c p, τ n = some c -> ρ[n]? = some p -> ρ'[c]? = some p) : ∀ {v : V} {x : Value}, Rep ρ v x -> Rep ρ' (v.sel τ) x
 | .undef, _, _ => by simp [V.sel, Rep]
 | .int k m, x, h => by simpa [V.sel, Rep] using h
 | .bool b, x, h => by simpa [V.sel, Rep] using h
 | .lit b, x, h => by simpa [V.sel, Rep] using h
 | .str s, x, h => by simpa [V.sel, Rep] using h
 | .nilp, x, h => by simpa [V.sel, Rep] using h
 | .raw _, x, h => by simpa [V.sel, Rep] using h
 | .ptr b o, x, h => by
  simp only [Rep] at h
  obtain ⟨p, h1, h2⟩ := h
  simp only [V.sel]
  cases hb : τ b with
  | none => simp [Rep]
  | some c => simp only [Rep]; exact ⟨p, H b c p hb h1, h2⟩
 | .row b n, x, h => by
  simp only [Rep] at h
  obtain ⟨p, h1, h2⟩ := h
  simp only [V.sel]
  cases hb : τ b with
  | none => simp [Rep]
  | some c => simp only [Rep]; exact ⟨p, H b c p hb h1, h2⟩
 | .fn g caps, x, h => by
  simp only [Rep] at h
  obtain ⟨ps, h1, h2⟩ := h
  simp only [V.sel]
  cases hb : selCaps τ caps with
  | none => simp [Rep]
  | some cs => simp only [Rep]; exact ⟨ps, selCaps_rep H hb h1, h2⟩
 | .mp b, x, h => by
  simp only [Rep] at h
  obtain ⟨p, h1, h2⟩ := h
  simp only [V.sel]
  cases hb : τ b with
  | none => simp [Rep]
  | some c => simp only [Rep]; exact ⟨p, H b c p hb h1, h2⟩
 | .arr _ _, x, h => by simpa [V.sel, Rep] using h
 | .emp, x, h => by simpa [V.sel, Rep] using h
 | .gp _ _, x, h => by simpa [V.sel, Rep] using h
 | .elt b o n j, x, h => by
  simp only [Rep] at h
  obtain ⟨h0, p, h1, h2⟩ := h
  simp only [V.sel]
  cases hb : τ b with
  | none => simp [Rep]
  | some c => simp only [Rep]; exact ⟨h0, p, H b c p hb h1, h2⟩
 | .sub b o n m, x, h => by
  simp only [Rep] at h
  obtain ⟨h0, p, h1, h2⟩ := h
  simp only [V.sel]
  cases hb : τ b with
  | none => simp [Rep]
  | some c => simp only [Rep]; exact ⟨h0, p, H b c p hb h1, h2⟩
 | .inr b i n, x, h => by
  simp only [Rep] at h
  obtain ⟨p, s, h1, h2⟩ := h
  simp only [V.sel]
  cases hb : τ b with
  | none => simp [Rep]
  | some c => simp only [Rep]; exact ⟨p, s, H b c p hb h1, h2⟩
 | .iptr b i n, x, h => by
  simp only [Rep] at h
  obtain ⟨p, s, h1, h2⟩ := h
  simp only [V.sel]
  cases hb : τ b with
  | none => simp [Rep]
  | some c => simp only [Rep]; exact ⟨p, s, H b c p hb h1, h2⟩
 | .view b o sz n q, x, h => by
  simp only [Rep] at h
  obtain ⟨p, h1, h2⟩ := h
  simp only [V.sel]
  cases hb : τ b with
  | none => simp [Rep]
  | some c => simp only [Rep]; exact ⟨p, H b c p hb h1, h2⟩
 | .agg cs, x, h => by
  simp only [Rep, V.sel] at h ⊢
  obtain ⟨xs, h1, h2⟩ := h
  exact ⟨xs, h1, selL_rep H h2⟩
 | .tup cs, x, h => by
  simp only [Rep, V.sel] at h ⊢
  obtain ⟨xs, h1, h2⟩ := h
  exact ⟨xs, h1, selL_rep H h2⟩
theorem selL_rep {ρ ρ' : List Place} {τ : Nat -> Option Nat} (H : ∀ n c p, τ n = some c -> ρ[n]? = some p -> ρ'[c]? = some p) : ∀ {vs : List V} {xs : List Value}, RepL ρ vs xs -> RepL ρ' (selL τ vs) xs
 | [], xs, h => by simpa [selL, RepL] using h
 | v :: vs, xs, h => by
  simp only [RepL, selL] at h ⊢
  obtain ⟨x, r, h1, h2, h3⟩ := h
  exact ⟨x, r, h1, sel_rep H h2, selL_rep H h3⟩
theorem selCaps_rep {ρ ρ' : List Place} {τ : Nat -> Option Nat} (H : ∀ n c p, τ n = some c -> ρ[n]? = some p -> ρ'[c]? = some p) : ∀ {caps cs : List Nat} {ps : List Place}, selCaps τ caps = some cs -> caps.map (ρ[·]?) = ps.map some -> cs.map (ρ'[·]?) = ps.map some
 | [], cs, ps, h, hp => by
  simp only [selCaps, Option.some.injEq] at h
  subst h
  simpa using hp
 | b :: r, cs, ps, h, hp => by
  unfold selCaps at h
  split at h
  ·rename_i c cs' hb hr
   injection h with h
   subst h
   match ps, hp with
   | p :: ps, hp =>
    simp only [List.map_cons, List.cons.injEq] at hp ⊢
    exact ⟨H b c p hb hp.1, selCaps_rep H hr hp.2⟩
   | [], hp => simp at hp
  ·cases h
end
theorem RepL.split {ρ : List Place} : ∀ {vs us : List V} {xs : List Value}, RepL ρ (vs ++ us) xs -> ∃ ys zs, xs = ys ++ zs /\ RepL ρ vs ys /\ RepL ρ us zs
 | [], us, xs, h => ⟨[], xs, rfl, by simp [RepL], h⟩
 | v :: vs, us, xs, h => by
  simp only [List.cons_append, RepL] at h
  obtain ⟨x, r, rfl, h1, h2⟩ := h
  obtain ⟨ys, zs, rfl, h3, h4⟩ := RepL.split h2
  exact ⟨x :: ys, zs, rfl, by simp only [RepL]; exact ⟨x, ys, rfl, h1, h3⟩, h4⟩
theorem selCs_rep {ρ ρ' : List Place} {τ : Nat -> Option Nat} (H : ∀ n c p, τ n = some c -> ρ[n]? = some p -> ρ'[c]? = some p) {c : Cells} {xs : List Value} (h : RepL ρ c.toVs xs) : RepL ρ' (c.sel τ).toVs xs := by
 cases c with
 | vals vs => exact selL_rep H h
 | ints k l => exact h.closed (underL_map _ (fun _ => rfl) l)
 | bytes l => exact h.closed (underL_map _ (fun _ => rfl) l)
 | strs l => exact h.closed (underL_map _ (fun _ => rfl) l)
 | bools l => exact h.closed (underL_map _ (fun _ => rfl) l)
 | map l => exact h.closed rfl
 | mat k e l => exact h.closed rfl
 | mix a n l z =>
  simp only [Cells.toVs, Cells.sel] at h ⊢
  obtain ⟨y1, y2, rfl, h1, h2⟩ := RepL.split h
  obtain ⟨y3, y4, rfl, h3, h4⟩ := RepL.split h1
  exact ((selL_rep H h3).append (h4.closed (underL_map _ (fun _ => rfl) _))).append (selL_rep H h2)
 | mixi a n l z =>
  simp only [Cells.toVs, Cells.sel] at h ⊢
  obtain ⟨y1, y2, rfl, h1, h2⟩ := RepL.split h
  obtain ⟨y3, y4, rfl, h3, h4⟩ := RepL.split h1
  exact ((selL_rep H h3).append (h4.closed (underL_map _ (fun _ => rfl) _))).append (selL_rep H h2)
 | recs sh l => exact h.closed (recV_under sh l 0)
 | dead => exact h.closed rfl
theorem selL_length (τ : Nat -> Option Nat) : ∀ vs : List V, (selL τ vs).length = vs.length
 | [] => rfl
 | v :: vs => by simp [selL, selL_length τ vs]
theorem selCs_length {τ : Nat -> Option Nat} {c : Cells} : (c.sel τ).toVs.length = c.toVs.length := by
 cases c <;> simp [Cells.sel, Cells.toVs, selL_length]
theorem selCs_dead {τ : Nat -> Option Nat} {c : Cells} : (c.sel τ).isDead = c.isDead := by
 cases c <;> rfl
theorem BRel.sel {ρ ρ' : List Place} {τ : Nat -> Option Nat} (H : ∀ n c p, τ n = some c -> ρ[n]? = some p -> ρ'[c]? = some p) {p : Place} {blk : Blk} {w : World} (h : BRel ρ p blk w) : BRel ρ' p (blk.sel τ) w := by
 rcases h with h | ⟨h1, h2, h3⟩ | ⟨h1, cur, hc, hr, hs, ho⟩ | ⟨h1, ha, cur, e, fz, hc, hr, hroom⟩ | ⟨h1, ha, h0, l, o, hl, hc⟩ | ⟨h1, kd, et, l, hl, h2⟩
 ·exact .inl (selCs_dead.trans h)
 ·exact .inr (.inl ⟨h1, h2, List.eq_nil_of_length_eq_zero (by show (blk.cs.sel τ).toVs.length = 0; rw [selCs_length, h3.1]; rfl), h3.2⟩)
 ·refine .inr (.inr (.inl ⟨h1, cur, hc, ?_, ?_, ho⟩))
  ·show RepL ρ' (blk.cs.sel τ).toVs (cur.take (blk.cs.sel τ).toVs.length)
   rw [selCs_length]
   exact selCs_rep H hr
  ·simp only [Blk.sel, selCs_length]
   exact hs
 ·refine .inr (.inr (.inr (.inl ⟨h1, ha, cur, e, fz, hc, ?_, ?_⟩)))
  ·show RepL ρ' (blk.cs.sel τ).toVs ((cur.drop p.off).take (blk.cs.sel τ).toVs.length)
   rw [selCs_length]
   exact selCs_rep H hr
  ·show blk.kind.room p (blk.cs.sel τ).toVs.length
   rw [selCs_length]
   exact hroom
 ·exact .inr (.inr (.inr (.inr (.inl ⟨h1, ha, h0, l, o, by show blk.cs.sel τ = _; rw [hl]; rfl, hc⟩))))
 ·exact .inr (.inr (.inr (.inr (.inr ⟨h1, kd, et, l, by show blk.cs.sel τ = _; rw [hl]; rfl, h2⟩))))
theorem selBlks_get (τ : Nat -> Option Nat) : ∀ (m : List Blk) (i : Nat), (selBlks τ m)[i]? = (m[i]?).map (Blk.sel τ)
 | [], i => by simp [selBlks]
 | b :: r, 0 => by simp [selBlks]
 | b :: r, i + 1 => by simpa [selBlks] using selBlks_get τ r i
theorem selBlks_length (τ : Nat -> Option Nat) : ∀ (m : List Blk), (selBlks τ m).length = m.length
 | [] => rfl
 | b :: r => by simp [selBlks, selBlks_length τ r]
theorem sameArgs_spec : ∀ {m m' : List Blk}, sameArgs m m' = true -> ∀ (i : Nat) (b : Blk), m[i]? = some b -> ∃ c, m'[i]? = some c /\ b.kind.isArg = c.kind.isArg /\ b.kind.isMat = c.kind.isMat
 | [], m', _, i, b, h => by simp at h
 | a :: r, [], hs, i, b, h => by simp [sameArgs] at hs
 | a :: r, c :: s, hs, i, b, h => by
  simp only [sameArgs, Bool.and_eq_true, beq_iff_eq] at hs
  cases i with
  | zero => simp at h; subst h; exact ⟨c, by simp, hs.1.1, hs.1.2⟩
  | succ i => simpa using sameArgs_spec hs.2 i b (by simpa using h)
theorem noArgs_spec : ∀ {m : List Blk}, noArgs m = true -> ∀ (i : Nat) (b : Blk), m[i]? = some b -> b.kind.isArg = false
 | [], _, i, b, h => by simp at h
 | a :: r, hs, i, b, h => by
  simp only [noArgs, Bool.and_eq_true, Bool.not_eq_true'] at hs
  cases i with
  | zero => simp at h; subst h; exact hs.1
  | succ i => exact noArgs_spec hs.2 i b (by simpa using h)

/-- What is handed over. -/
theorem handed {ρ : List Place} {mem m : List Blk} {w : World} (hm : MRel ρ mem w) {ns : List Nat} (hnd : ns.Nodup) (hpick : pickMem mem ns = some m) :
  ∃ ρl : List Place, ρl.length = ns.length /\ (∀ (i n : Nat), ns[i]? = some n -> ρl[i]? = ρ[n]?) /\ MRel ρl (selBlks (fun n => posOf n ns 0) m) w /\
   (∀ j, Names ρl (selBlks (fun n => posOf n ns 0) m) j -> Names ρ mem j) /\
   (∀ (c : Nat) (blk : Blk) (p : Place) (j : Nat), c ∉ ns -> mem[c]? = some blk -> ρ[c]? = some p -> blk.cs.isDead = false -> p.ghost = false -> Names ρl (selBlks (fun n => posOf n ns 0) m) j -> j ∉ blk.foot p) := by
 obtain ⟨hlen, hget⟩ := pickMem_spec hpick
 let ρl : List Place := ns.map fun n => (ρ[n]?).getD ⟨0, 0, true, 0, none, []⟩
 have hρ : ∀ (i n : Nat), ns[i]? = some n -> ρl[i]? = ρ[n]? := by
  intro i n hi
  obtain ⟨blk, hb, _, _⟩ := hget i n hi
  have hn : n < ρ.length := by rw [hm.len]; exact (List.getElem?_eq_some_iff.1 hb).1
  simp only [ρl, List.getElem?_map, hi, Option.map_some, List.getElem?_eq_getElem hn, Option.getD_some]
 have H : ∀ n c p, (fun n => posOf n ns 0) n = some c -> ρ[n]? = some p -> ρl[c]? = some p := fun n c p hc hp => by
  have := (posOf_spec n ns 0 c hc).2
  rw [Nat.sub_zero] at this
  rw [hρ c n this, hp]
 -- a block that is handed over
 have at_ : ∀ {i : Nat} {blk : Blk} {p : Place}, (selBlks (fun n => posOf n ns 0) m)[i]? = some blk -> ρl[i]? = some p -> ∃ (n : Nat) (b0 : Blk), ns[i]? = some n /\ mem[n]? = some b0 /\ blk = b0.sel (fun n => posOf n ns 0) /\ ρ[n]? = some p := by
  intro i blk p hi hp
  rw [selBlks_get] at hi
  cases hmi : m[i]? with
  | none => rw [hmi] at hi; cases hi
  | some b0 =>
   rw [hmi] at hi
   injection hi with hi
   have hil : i < ns.length := by rw [<- hlen]; exact (List.getElem?_eq_some_iff.1 hmi).1
   obtain ⟨blk1, hb1, hb2, _⟩ := hget i _ (List.getElem?_eq_getElem hil)
   rw [hmi] at hb2
   injection hb2 with hb2
   subst hb2
   exact ⟨_, b0, List.getElem?_eq_getElem hil, hb1, hi.symm, by rw [<- hρ i _ (List.getElem?_eq_getElem hil)]; exact hp⟩
 refine ⟨ρl, by simp [ρl], hρ, ⟨by simp [ρl, selBlks_length, hlen], fun i blk p hi hp => ?_, fun i j blk blk' p p' hi hj hp hp' hne hd hd' hg hg' ha => ?_⟩, fun j ⟨i, blk, p, hi, hp, hd, hg, hq, hj⟩ => ?_, fun c blk p j hcn h0 hp hd hg ⟨i, blk1, p1, hi, hp1, hd1, hg1, hq1, heq⟩ hpj => ?_⟩
 ·obtain ⟨n, b0, _, hb, rfl, hpn⟩ := at_ hi hp
  exact (hm.blks n b0 p hb hpn).sel H
 ·obtain ⟨n, b0, hn, hb, rfl, hpn⟩ := at_ hi hp
  obtain ⟨n', b0', hn', hb', rfl, hpn'⟩ := at_ hj hp'
  refine hm.inj n n' b0 b0' p p' hb hb' hpn hpn' (fun e => hne ?_) (selCs_dead.symm.trans hd) (selCs_dead.symm.trans hd') hg hg' ha
  subst e
  obtain ⟨hl1, e1⟩ := List.getElem?_eq_some_iff.1 hn
  obtain ⟨hl2, e2⟩ := List.getElem?_eq_some_iff.1 hn'
  exact (List.getElem_inj hnd).1 (e1.trans e2.symm)
 ·obtain ⟨n, b0, _, hb, rfl, hpn⟩ := at_ hi hp
  exact ⟨n, b0, p, hb, hpn, selCs_dead.symm.trans hd, hg, hq, hj⟩
 ·obtain ⟨n, b0, hn, hb, rfl, hpn⟩ := at_ hi hp1
  refine hm.inj n c b0 blk p1 p hb h0 hpn hp (fun e => hcn ?_) (selCs_dead.symm.trans hd1) hd hg1 hg (by rw [Bool.and_eq_false_iff]; exact .inl hq1) j heq hpj
  rw [<- e]
  exact List.mem_of_getElem? hn

theorem vcall_sound {ex : List Nat} {f : FuncId} {S : VSpec} (hok : OK P f S) {args : List V} {mem : List Blk} {k : V -> List Blk -> Prop} (h : vcall ex S args mem k) {ρ : List Place} {w : World} {xs : List Value} (hm : MRel ρ mem w) (hx : RepL ρ args xs) :
  (∀ ys w, (callFunc f ys).run P w = .ok (.enter f ys) w) /\
  Calls P f xs.toArray w fun e w' => ∃ v mem' ρ2 x, e = .returned x /\ k v mem' /\ ρ <+: ρ2 /\ Rep ρ2 v x /\ MRel ρ2 mem' w' /\ Keep (Names ρ mem) w w' /\ ∀ j, Names ρ2 mem' j -> Names ρ mem j \/ w.heap.size <= j := by
 unfold vcall at h
 simp only at h
 have hnd : (addLive mem (reach mem 3 (addLive mem [] (namesL args))) ex).Nodup := addLive_nodup _ _ _ (reach_nodup _ _ _ (addLive_nodup _ _ _ (by simp)))
 generalize addLive mem (reach mem 3 (addLive mem [] (namesL args))) ex = ns at h hnd
 split at h
 ·exact h.elim
 rename_i m hpick
 obtain ⟨hlen, hget⟩ := pickMem_spec hpick
 obtain ⟨ρl, hρl, hρ, hml, hnames, apart⟩ := handed hm hnd hpick
 have H : ∀ n c p, (fun n => posOf n ns 0) n = some c -> ρ[n]? = some p -> ρl[c]? = some p := fun n c p hc hp => by
  have := (posOf_spec n ns 0 c hc).2
  rw [Nat.sub_zero] at this
  rw [hρ c n this, hp]
 refine ⟨hok.enter _ _ _ h, (hok.calls _ _ _ h ρl w xs hml (selL_rep H hx)).mono fun e w' hE => ?_⟩
 obtain ⟨v, m', ρ', x, rfl, hk, hpre, hv, hm', hkeep, hown⟩ := hE
 have nnd : (newNames ns.length (reach m' 3 (addLive m' [] (v.names ++ blkNames m' (upTo 0 ns.length))))).Nodup := newNames_nodup _ _ (reach_nodup _ _ _ (addLive_nodup _ _ _ (by simp)))
 have nnge : ∀ i, i ∈ newNames ns.length (reach m' 3 (addLive m' [] (v.names ++ blkNames m' (upTo 0 ns.length)))) -> ns.length <= i := fun i hi => (newNames_sub _ _ i hi).1
 generalize newNames ns.length (reach m' 3 (addLive m' [] (v.names ++ blkNames m' (upTo 0 ns.length)))) = nn at hk nnd nnge
 split at hk
 ·exact hk.elim
 rename_i extra hextra
 obtain ⟨helen, heget⟩ := pickMem_spec hextra
 split at hk
 case h_2 => exact hk.elim
 rename_i hargs
 simp only [Bool.and_eq_true] at hargs
 obtain ⟨hsame, hnoa⟩ := hargs
 have hlen' : ns.length <= m'.length := by rw [<- hm'.len, <- hρl]; exact hpre.length_le
 -- the places of the blocks that come besides
 let q : List Place := nn.map fun i => (ρ'[i]?).getD ⟨0, 0, true, 0, none, []⟩
 have hq : ∀ (j i : Nat), nn[j]? = some i -> q[j]? = ρ'[i]? := by
  intro j i hj
  obtain ⟨blk, hb, _, _⟩ := heget j i hj
  have hn : i < ρ'.length := by rw [hm'.len]; exact (List.getElem?_eq_some_iff.1 hb).1
  simp only [q, List.getElem?_map, hj, Option.map_some, List.getElem?_eq_getElem hn, Option.getD_some]
 have hback : ∀ (i n : Nat), ns[i]? = some n -> ρ'[i]? = ρ[n]? := by
  intro i n hi
  have hil : i < ρl.length := by rw [hρl]; exact (List.getElem?_eq_some_iff.1 hi).1
  rw [<- hρ i n hi, List.getElem?_eq_getElem hil]
  exact getElem?_pre hpre (List.getElem?_eq_getElem hil)
 have Hb : ∀ n c p, backSel ns nn mem.length n = some c -> ρ'[n]? = some p -> (ρ ++ q)[c]? = some p := by
  intro n c p hc hp
  unfold backSel at hc
  split at hc
  ·rw [hback n c hc] at hp
   exact getElem?_pre (List.prefix_append _ _) hp
  ·split at hc
   ·rename_i j hj
    injection hc with hc
    subst hc
    have := (posOf_spec n nn 0 j hj).2
    rw [Nat.sub_zero] at this
    rw [<- hm.len, List.getElem?_append_right (Nat.le_add_right _ _), Nat.add_sub_cancel_left, hq j n this, hp]
   ·cases hc
 -- what a block of the new memory is
 have kinds : ∀ {c : Nat} {blk : Blk} {p : Place}, (updMem mem ns (selBlks (backSel ns nn mem.length) (m'.take ns.length)) ++ selBlks (backSel ns nn mem.length) extra)[c]? = some blk -> (ρ ++ q)[c]? = some p ->
   (c ∉ ns /\ c < mem.length /\ mem[c]? = some blk /\ ρ[c]? = some p) \/
   (∃ (a : Nat) (b0 : Blk), m'[a]? = some b0 /\ ρ'[a]? = some p /\ blk = b0.sel (backSel ns nn mem.length) /\ ((ns[a]? = some c /\ c < mem.length) \/ (∃ j, nn[j]? = some a /\ c = mem.length + j /\ b0.kind.isArg = false))) := by
  intro c blk p hc hp
  by_cases hlt : c < mem.length
  ·rw [List.getElem?_append_left (by rw [updMem_length]; exact hlt)] at hc
   rw [List.getElem?_append_left (by rw [hm.len]; exact hlt)] at hp
   by_cases hcn : c ∈ ns
   ·have hi := get_idxOf hcn
    have hil : ns.idxOf c < ns.length := (List.getElem?_eq_some_iff.1 hi).1
    have hal : ns.idxOf c < m'.length := by omega
    have hbi : (selBlks (backSel ns nn mem.length) (m'.take ns.length))[ns.idxOf c]? = some (m'[ns.idxOf c].sel (backSel ns nn mem.length)) := by
     rw [selBlks_get, List.getElem?_take, if_pos hil, List.getElem?_eq_getElem hal]; rfl
    have hat := updMem_at ns _ mem hnd hi hbi hlt
    rw [hc] at hat
    injection hat with hat
    exact .inr ⟨_, _, List.getElem?_eq_getElem hal, by rw [hback _ c hi]; exact hp, hat, .inl ⟨hi, hlt⟩⟩
   ·rw [updMem_other ns _ mem hcn] at hc
    exact .inl ⟨hcn, hlt, hc, hp⟩
  ·rw [List.getElem?_append_right (by rw [updMem_length]; omega), updMem_length, selBlks_get] at hc
   rw [List.getElem?_append_right (by rw [hm.len]; omega), hm.len] at hp
   cases hej : extra[c - mem.length]? with
   | none => rw [hej] at hc; cases hc
   | some b0 =>
    rw [hej] at hc
    injection hc with hc
    have hjl : c - mem.length < nn.length := by rw [<- helen]; exact (List.getElem?_eq_some_iff.1 hej).1
    obtain ⟨b1, hb1, hb2, _⟩ := heget _ _ (List.getElem?_eq_getElem hjl)
    rw [hej] at hb2
    injection hb2 with hb2
    subst hb2
    exact .inr ⟨_, b0, hb1, by rw [<- hq _ _ (List.getElem?_eq_getElem hjl)]; exact hp, hc.symm, .inr ⟨_, List.getElem?_eq_getElem hjl, by omega, noArgs_spec hnoa _ b0 hej⟩⟩
 -- an old block and one that comes back
 have cross : ∀ {c a : Nat} {blk b0 : Blk} {p p' : Place} {c' : Nat}, c ∉ ns -> mem[c]? = some blk -> ρ[c]? = some p -> m'[a]? = some b0 -> ρ'[a]? = some p' -> blk.cs.isDead = false -> b0.cs.isDead = false -> p.ghost = false -> p'.ghost = false ->
   (blk.kind.isArg && b0.kind.isArg) = false -> ((ns[a]? = some c' /\ c' < mem.length) \/ (∃ j, nn[j]? = some a /\ c' = mem.length + j /\ b0.kind.isArg = false)) -> ∀ k, k ∈ blk.foot p -> k ∉ b0.foot p' := by
  intro c a blk b0 p p' c' hcn h0 hp h1 hp1 hd hd1 hg hg1 haa hwh
  by_cases hka : b0.kind.isArg = false
  ·intro j hj hj'
   rcases hown _ ⟨a, b0, p', h1, hp1, hd1, hg1, hka, hj'⟩ with hN | hN
   ·exact apart c blk p _ hcn h0 hp hd hg hN hj
   ·have := (hm.blks c blk p h0 hp).lt hd hg hj
    omega
  ·rcases hwh with ⟨hna, _⟩ | ⟨_, _, _, h⟩
   ·obtain ⟨b2, hb2, hm2, hd2⟩ := hget a c' hna
    obtain ⟨b3, hb3, hk3, hk4⟩ := sameArgs_spec hsame a b2 hm2
    rw [h1] at hb3
    injection hb3 with hb3
    subst hb3
    have hkb : blk.kind.isArg = false := by
     simp only [Bool.not_eq_false] at hka
     rw [hka, Bool.and_true] at haa
     exact haa
    rw [<- foot_same p' hk4]
    refine hm.inj c c' blk b2 p p' h0 hb2 hp (by rw [<- hback a c' hna]; exact hp1) (fun e => hcn ?_) hd hd2 hg hg1 (by rw [hkb]; rfl)
    rw [e]
    exact List.mem_of_getElem? hna
   ·exact absurd h hka
 refine ⟨_, _, ρ ++ q, x, rfl, hk, List.prefix_append _ _, sel_rep Hb hv, ⟨?_, fun c blk p hc hp => ?_, fun c c' blk blk' p p' hc hc' hp hp' hne hd hd' hg hg' haa => ?_⟩, hkeep.mono fun _ _ hj => hnames _ hj, fun j ⟨c, blk, p, hc, hp, hd, hg, hQ, hj⟩ => ?_⟩
 ·rw [List.length_append, List.length_append, updMem_length, selBlks_length, helen, hm.len]
  simp [q]
 ·rcases kinds hc hp with ⟨hcn, _, h0, hp0⟩ | ⟨a, b0, h1, hp1, rfl, _⟩
  ·refine BRel.mono (List.prefix_append _ _) ((hm.blks c blk p h0 hp0).keep fun hd hg j hj => hkeep.block _ ((hm.blks c blk p h0 hp0).lt hd hg hj) fun hN => apart c blk p _ hcn h0 hp0 hd hg hN hj)
  ·exact (hm'.blks a b0 p h1 hp1).sel Hb
 ·rcases kinds hc hp with ⟨hcn, _, h0, hp0⟩ | ⟨a, b0, h1, hp1, rfl, hw1⟩ <;> rcases kinds hc' hp' with ⟨hcn', _, h0', hp0'⟩ | ⟨a', b0', h1', hp1', rfl, hw1'⟩
  ·exact hm.inj c c' blk blk' p p' h0 h0' hp0 hp0' hne hd hd' hg hg' haa
  ·exact fun j hj hj' => cross (b0 := b0') hcn h0 hp0 h1' hp1' hd (selCs_dead.symm.trans hd') hg hg' haa hw1' j hj hj'
  ·exact fun j hj hj' => cross (b0 := b0) hcn' h0' hp0' h1 hp1 hd' (selCs_dead.symm.trans hd) hg' hg (by rw [Bool.and_comm]; exact haa) hw1 j hj' hj
  ·refine hm'.inj a a' b0 b0' p p' h1 h1' hp1 hp1' (fun e => hne ?_) (selCs_dead.symm.trans hd) (selCs_dead.symm.trans hd') hg hg' haa
   subst e
   rcases hw1 with ⟨g1, _⟩ | ⟨j, g1, g2, _⟩ <;> rcases hw1' with ⟨k1, _⟩ | ⟨j', k1, k2, _⟩
   ·rw [g1] at k1; injection k1
   ·have h2 := nnge a (List.mem_of_getElem? k1)
    have h3 := (List.getElem?_eq_some_iff.1 g1).1
    omega
   ·have h2 := nnge a (List.mem_of_getElem? g1)
    have h3 := (List.getElem?_eq_some_iff.1 k1).1
    omega
   ·obtain ⟨hl1, e1⟩ := List.getElem?_eq_some_iff.1 g1
    obtain ⟨hl2, e2⟩ := List.getElem?_eq_some_iff.1 k1
    have := (List.getElem_inj nnd).1 (e1.trans e2.symm)
    omega
 ·rcases kinds hc hp with ⟨hcn, _, h0, hp0⟩ | ⟨a, b0, h1, hp1, rfl, _⟩
  ·exact .inl ⟨c, blk, p, h0, hp0, hd, hg, hQ, hj⟩
  ·rcases hown j ⟨a, b0, p, h1, hp1, selCs_dead.symm.trans hd, hg, hQ, hj⟩ with h | h
   ·exact .inl (hnames _ h)
   ·exact .inr h
end
end Go.Vi
