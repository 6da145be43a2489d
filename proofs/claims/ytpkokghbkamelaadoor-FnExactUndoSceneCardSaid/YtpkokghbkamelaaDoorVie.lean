/- Operations, regions, code, functions: sound. -/
import Derived.Test.YtpkokghbkamelaaDoorVis
import Derived.ScopeJumps
namespace Go.Vi
open Go.RowKit

section
variable {P : Program} {Ω : FuncId -> VSpec} {Ωq : FuncId -> Option FSpec}

theorem evL_rep {ρ : List Place} {st : St} {a : Act} (h : RepL ρ st.slots a.tmps.toList) : ∀ xs : List Operand, RepL ρ (evL st xs) (xs.map a.eval)
 | [] => by simp [evL, RepL]
 | x :: xs => by simp only [evL, RepL, List.map_cons]; exact ⟨_, _, rfl, rep_ev h x, evL_rep h xs⟩

theorem caps_rep {ρ : List Place} : ∀ {caps : List Nat} {ps : List Place}, caps.map (ρ[·]?) = ps.map some -> RepL ρ (caps.map fun b => V.ptr b 0) (ps.map fun p => Value.pointer (some (addrOf p 0)))
 | [], [], _ => by simp [RepL]
 | [], _ :: _, h => by simp at h
 | _ :: _, [], h => by simp at h
 | c :: caps, p :: ps, h => by
  simp only [List.map_cons, List.cons.injEq] at h
  simp only [List.map_cons, RepL]
  exact ⟨_, _, rfl, by simp only [Rep]; exact ⟨p, h.1, rfl⟩, caps_rep h.2⟩

theorem evL_two {ρ : List Place} {st : St} {a : Act} (hs : RepL ρ st.slots a.tmps.toList) {args : Array Operand} {u v : V} (h : evL st args.toList = [u, v]) :
  ∃ x y, args = #[x, y] /\ Rep ρ u (a.eval x) /\ Rep ρ v (a.eval y) := by
 obtain ⟨args⟩ := args
 simp only at h
 match args, h with
 | [x, y], h =>
  simp only [evL, List.cons.injEq, and_true] at h
  exact ⟨x, y, rfl, h.1 ▸ rep_ev hs x, h.2 ▸ rep_ev hs y⟩
 | [], h => simp [evL] at h
 | [_], h => simp [evL] at h
 | _ :: _ :: _ :: _, h => simp [evL] at h
theorem evL_one {ρ : List Place} {st : St} {a : Act} (hs : RepL ρ st.slots a.tmps.toList) {args : Array Operand} {u : V} (h : evL st args.toList = [u]) :
  ∃ x, args = #[x] /\ Rep ρ u (a.eval x) := by
 obtain ⟨args⟩ := args
 simp only at h
 match args, h with
 | [x], h =>
  simp only [evL, List.cons.injEq, and_true] at h
  exact ⟨x, rfl, h ▸ rep_ev hs x⟩
 | [], h => simp [evL] at h
 | _ :: _ :: _, h => simp [evL] at h
theorem zeroCells_spec {t : TypeId} {cs : List V} (h : zeroCells P t = some cs) : ∃ z, (∀ w, (zeroValue t).run P w = .ok z w) /\ ∀ ρ, RepL ρ cs z.cells.toList := by
 unfold zeroCells at h
 split at h
 ·cases h
 ·rename_i i hi
  split at h
  ·cases h
  ·rename_i z hz
   injection h with h
   subst h
   exact ⟨z, fun w => by simp [zeroValue, run_info hi, hz], fun ρ => repL_cellsV ρ _⟩

theorem zeroKind_spec : ∀ {l : List Value} {kd : IntKind}, zeroKind l = some kd -> l ≠ [] /\ ∀ x ∈ l, x = .int kd 0
 | [], kd, h => by cases h
 | x :: r, kd, h => by
  unfold zeroKind at h
  split at h
  ·split at h
   ·injection h with h
    subst h
    exact ⟨by simp, fun x hx => by simpa using hx⟩
   ·split at h
    ·rename_i hr
     split at h
     ·rename_i he
      have he := of_decide_eq_true he
      injection h with h
      subst h; subst he
      have ih := zeroKind_spec hr
      exact ⟨by simp, fun x hx => by rcases List.mem_cons.1 hx with hx | hx; exact hx; exact ih.2 x hx⟩
     ·cases h
    ·cases h
  ·cases h
theorem toList_madeCells_same {zs : Array Value} {x : Value} (h0 : 0 < zs.size) (h : ∀ y ∈ zs.toList, y = x) (n : Nat) : (madeCells zs n).toList = List.replicate n x := by
 apply List.ext_getElem?
 intro j
 by_cases hj : j < n
 ·have hlt : j % zs.size < zs.size := Nat.mod_lt _ h0
  have : zs[j % zs.size]! = x := by
   rw [getElem!_pos zs (j % zs.size) hlt]
   exact h _ (by simp)
  simp [madeCells, hj, this]
 ·simp [madeCells, hj]
/-- One operation. -/
theorem inOrder_zip (g : Operand -> Value) : ∀ (l : List (Nat × Operand)) (k : Nat), inOrder k l = true -> l.map (fun p => (p.1, g p.2)) = (((l.map (·.2)).map g).zipIdx k).map fun x => (x.2, x.1)
 | [], _, _ => rfl
 | p :: r, k, h => by
  simp only [inOrder, Bool.and_eq_true] at h
  simp only [List.map_cons, List.zipIdx_cons, inOrder_zip g r (k + 1) h.2, Nat.eq_of_beq_eq_true h.1]
theorem bytesOf_rep {ρ : List Place} : ∀ {vs : List V} {ns : List Int} {xs : List Value}, bytesOf vs = some ns -> RepL ρ vs xs -> xs = ns.map (Value.int .u8)
 | [], ns, xs, h, hx => by
  simp only [bytesOf, Option.some.injEq] at h
  subst h
  simpa [RepL] using hx
 | v :: r, ns, xs, h, hx => by
  simp only [RepL] at hx
  obtain ⟨x, xr, rfl, hv, hr⟩ := hx
  unfold bytesOf at h
  split at h
  ·rename_i n
   split at h
   ·rename_i l hl
    injection h with h
    subst h
    simp only [Rep] at hv
    rw [List.map_cons, <- bytesOf_rep hl hr, hv]
   ·cases h
  ·cases h
theorem strsOf_toVs : ∀ {vs : List V} {l : List (List UInt8)}, strsOf vs = some l -> l.map V.str = vs
 | [], l, h => by simp only [strsOf, Option.some.injEq] at h; subst h; rfl
 | v :: r, l, h => by
  unfold strsOf at h
  split at h
  ·split at h
   ·rename_i hl
    injection h with h
    subst h
    rw [List.map_cons, strsOf_toVs hl]
   ·cases h
  ·cases h
theorem packCells_toVs {cs : List V} {c : Cells} (h : packCells cs = some c) : c.toVs = cs := by
 unfold packCells at h
 split at h
 ·cases h
 ·split at h
  ·rename_i hl
   injection h with h
   subst h
   exact intsOf_toVs hl
  ·cases h
 ·split at h
  ·rename_i hl
   injection h with h
   subst h
   exact strsOf_toVs hl
  ·cases h
 ·split at h
  ·injection h with h
   subst h
   rfl
  ·cases h
 ·cases h
theorem packAny_toVs {sz : Nat} {cs : List V} {c : Cells} (h : packAny sz cs = some c) : c.toVs = cs := by
 unfold packAny at h
 split at h
 ·rename_i h1
  injection h with h; subst h
  exact packCells_toVs h1
 ·unfold packRecs at h
  split at h
  ·cases h
  ·split at h
   ·rename_i hl
    injection h with h; subst h
    exact scsOf_recV hl
   ·cases h
theorem shZ_spec : ∀ {l : List Value} {sh : List Sh}, shZ l = some sh -> l.length = sh.length /\ ∀ (ρ : List Place) (j : Nat) (s : Sh), sh[j]? = some s -> ∃ x, l[j]? = some x /\ Rep ρ (s.v ⟨0, []⟩) x
 | [], sh, h => by simp only [shZ, Option.some.injEq] at h; subst h; exact ⟨rfl, fun _ _ _ h => by simp at h⟩
 | x :: r, sh, h => by
  unfold shZ at h
  split at h
  ·split at h
   ·rename_i hr
    injection h with h; subst h
    obtain ⟨h1, h2⟩ := shZ_spec hr
    refine ⟨by simp [h1], fun ρ j s hs => ?_⟩
    cases j with
    | zero => simp at hs; subst hs; exact ⟨_, rfl, rfl⟩
    | succ j => exact h2 ρ j s (by simpa using hs)
   ·cases h
  ·rename_i q
   split at h
   ·rename_i hq hr
    injection h with h; subst h
    obtain ⟨h1, h2⟩ := shZ_spec hr
    have hq0 := Nat.eq_of_beq_eq_true hq
    refine ⟨by simp [h1], fun ρ j s hs => ?_⟩
    cases j with
    | zero =>
     simp at hs; subst hs
     refine ⟨_, rfl, ?_⟩
     have : q = ofL [] := by
      obtain ⟨⟨l⟩⟩ := q
      have : l = [] := List.eq_nil_of_length_eq_zero (by simpa [ByteArray.size] using hq0)
      subst this; rfl
     rw [this]; rfl
    | succ j => exact h2 ρ j s (by simpa using hs)
   ·cases h
  ·cases h
theorem emptyOf_toVs {z : Value} {c : Cells} (h : emptyOf z = some c) : c.toVs = [] := by
 unfold emptyOf at h
 split at h
 ·rename_i h1
  injection h with h; subst h
  unfold zerosOf at h1
  split at h1
  ·injection h1 with h1; subst h1; rfl
  ·injection h1 with h1; subst h1; rfl
  ·split at h1
   ·injection h1 with h1; subst h1; rfl
   ·cases h1
  ·split at h1
   ·injection h1 with h1; subst h1; rfl
   ·cases h1
  ·cases h1
 ·split at h
  ·injection h with h; subst h; rfl
  ·split at h
   ·injection h with h; subst h; rfl
   ·cases h
theorem fillV_length {places : List (Nat × Nat)} : ∀ {parts : List (Nat × V)} {old cs : List V}, fillV places parts old = some cs -> cs.length = old.length
 | [], old, cs, h => by simp only [fillV, Option.some.injEq] at h; rw [h]
 | (i, v) :: r, old, cs, h => by
  simp only [fillV] at h
  split at h
  ·cases h
  ·split at h
   ·cases h
   ·split at h
    ·rw [fillV_length h, setCells_length]
    ·cases h
theorem Keep.setMap {w : World} {r : Nat} {o : Obj} : Keep (· = r) w { w with heap := w.heap.setIfInBounds r o } :=
 ⟨rfl, rfl, rfl, by simp, fun k _ hn => by
  have : r ≠ k := fun e => hn e.symm
  simp [this]⟩
theorem vmapPut_sound {D : List Deferred} {W : Nat -> Prop} {w0 : World} {ρ0 : List Place} {ρ : List Place} {st : St} {a : Act} {w : World} (hs : SRel D W w0 ρ0 ρ st a w) {t : TypeId} {m i x : V} {mv iv xv : Value} (hm : Rep ρ m mv) (hi : Rep ρ i iv) (hx : Rep ρ x xv) {k : List Blk -> Prop}
  (h : vmapPut P t st.mem m i x k) : ∃ mem w', k mem /\ (Instr.mapUpdate t mv iv xv).run P w = .ok () w' /\ SRel D W w0 ρ0 ρ { st with mem := mem } a w' := by
 unfold vmapPut at h
 replace h := V.known_spec (V.known_spec h)
 split at h
 ·rename_i b kt et hu
  split at h
  ·rename_i l e ks hb hks
   split at h
   ·rename_i hfit hun
    obtain ⟨⟨hf⟩, h⟩ := h
    simp only [Rep] at hm
    obtain ⟨p, hp, rfl⟩ := hm
    obtain ⟨hg, _, _, hheap, hme⟩ := hs.mem.mapAt hb hp
    obtain ⟨es, n, rfl, hent⟩ := (mapIs_plain (fit_plain hf)).1 hme
    obtain ⟨es', n', hrun, hent'⟩ := run_put hu hks hfit hi (hx.closed hun) hheap hent hf
    refine ⟨_, _, h, hrun, ⟨hs.slots, hs.nodefer, hs.mem.setMap hb hp ((mapIs_plain (put_plain hf hfit)).2 ⟨es', n', rfl, hent'⟩), ?_, fun j hj => hs.own j (names_set (blk' := ⟨.map (putK i x l), e, .map⟩) hb (fun _ => rfl) rfl hj), hs.pre⟩⟩
    refine hs.keep.trans (Keep.setMap.mono fun k _ hkp => ?_)
    subst hkp
    exact hs.own _ ⟨b, _, p, hb, hp, rfl, hg, rfl, foot_head _ _⟩
   ·exact h.elim
  ·exact h.elim
 ·exact h.elim
/-- A new block for a map, or for what is gone through. -/
theorem SRel.newMapObj {D : List Deferred} {W : Nat -> Prop} {w0 : World} {ρ0 : List Place} {ρ : List Place} {st : St} {a : Act} {w : World} (h : SRel D W w0 ρ0 ρ st a w) (t : TypeId) (l : List (V × V)) (o : Obj) (ho : MapIs l w.heap.size o) :
  SRel D W w0 ρ0 (ρ ++ [⟨w.heap.size, 0, false, 0, none, []⟩]) { st with mem := st.mem ++ [⟨.map l, t, .map⟩] } a (w.alloc o) := by
 have hpre : ρ <+: ρ ++ [(⟨w.heap.size, 0, false, 0, none, []⟩ : Place)] := List.prefix_append _ _
 have hm := h.mem.add (w' := w.alloc o) (p := ⟨w.heap.size, 0, false, 0, none, []⟩) (blk := ⟨.map l, t, .map⟩) (fun k hk' => Below.heap_alloc w _ k (h.mem.lt hk')) (fun _ k hk hn => by have := h.mem.lt hn; simp [Blk.foot] at hk; omega)
  (.inr (.inr (.inr (.inr (.inl ⟨rfl, rfl, rfl, l, o, rfl, heap_alloc_new w _, ho⟩)))))
 refine ⟨h.slots.mono hpre, h.nodefer, hm, h.keep.trans (Keep.alloc _ _ _), fun j hj => ?_, h.pre.trans hpre⟩
 obtain ⟨b, blk, p, hb, hp, hd, hg, hq, hjf⟩ := hj
 by_cases hlt : b < st.mem.length
 ·rw [List.getElem?_append_left hlt] at hb
  rw [List.getElem?_append_left (by rw [h.mem.len]; exact hlt)] at hp
  exact h.own _ ⟨b, blk, p, hb, hp, hd, hg, hq, hjf⟩
 ·have hbl : b = st.mem.length := by
   have := (List.getElem?_eq_some_iff.1 hb).1
   simp at this; omega
  subst hbl
  rw [List.getElem?_concat_length] at hb
  rw [<- h.mem.len, List.getElem?_concat_length] at hp
  injection hp with hp
  injection hb with hb
  subst hp; subst hb
  rw [foot_one rfl] at hjf
  simp only [List.mem_singleton] at hjf
  subst hjf
  exact .inr h.keep.size
theorem SRel.newMap {D : List Deferred} {W : Nat -> Prop} {w0 : World} {ρ0 : List Place} {ρ : List Place} {st : St} {a : Act} {w : World} (h : SRel D W w0 ρ0 ρ st a w) (d : Option Tmp) (t : TypeId) :
  ∃ ρ', ρ <+: ρ' /\ SRel D W w0 ρ0 ρ' (st.newMap d t) (a.put d (.map (some w.heap.size))) (w.alloc (.map #[] 0)) := by
 refine ⟨_, List.prefix_append _ _, (h.newMapObj t [] (.map #[] 0) ⟨#[], 0, rfl, trivial⟩).put d ?_⟩
 simp only [Rep]
 exact ⟨⟨w.heap.size, 0, false, 0, none, []⟩, by rw [<- h.mem.len, List.getElem?_concat_length], rfl⟩
theorem SRel.newIter {D : List Deferred} {W : Nat -> Prop} {w0 : World} {ρ0 : List Place} {ρ : List Place} {st : St} {a : Act} {w : World} (h : SRel D W w0 ρ0 ρ st a w) (d : Option Tmp) (t : TypeId) (s : List UInt8) :
  ∃ ρ', ρ <+: ρ' /\ SRel D W w0 ρ0 ρ' (st.newIter d t s) (a.put d (.pointer (some ⟨w.heap.size, 0, none⟩))) (w.alloc (.stringIter (ofL s) 0)) := by
 refine ⟨_, List.prefix_append _ _, (h.newMapObj t [(.gp 0 0, .str s)] (.stringIter (ofL s) 0) rfl).put d ?_⟩
 simp only [Rep]
 exact ⟨⟨w.heap.size, 0, false, 0, none, []⟩, by rw [<- h.mem.len, List.getElem?_concat_length], rfl⟩
/-- What the list of a map's block tells is told otherwise. -/
theorem SRel.retell {D : List Deferred} {W : Nat -> Prop} {w0 : World} {ρ0 : List Place} {ρ : List Place} {st : St} {a : Act} {w : World} (h : SRel D W w0 ρ0 ρ st a w) {b : Nat} {l l' : List (V × V)} {e : TypeId} {p : Place} {o : Obj} (hb : st.mem[b]? = some ⟨.map l, e, .map⟩) (hp : ρ[b]? = some p)
  (hh : w.heap[p.blk]? = some o) (ho : MapIs l' p.blk o) : SRel D W w0 ρ0 ρ { st with mem := st.mem.set b ⟨.map l', e, .map⟩ } a w := by
 have hw : ({ w with heap := w.heap.setIfInBounds p.blk o } : World) = w := by
  obtain ⟨heap, _, _, _, _⟩ := w
  simp only [World.mk.injEq, and_true]
  apply Array.ext_getElem?
  intro i
  simp only [Array.getElem?_setIfInBounds]
  split
  ·rename_i hi
   subst hi
   simp only at hh
   rw [hh]
   have := (Array.getElem?_eq_some_iff.1 hh).1
   simp [this]
  ·rfl
 have hset := h.mem.setMap hb hp ho
 rw [hw] at hset
 exact ⟨h.slots, h.nodefer, hset, h.keep, fun j hj => h.own j (names_set (blk' := ⟨.map l', e, .map⟩) hb (fun _ => rfl) rfl hj), h.pre⟩
theorem findK_ent {k : V} : ∀ {l : List (V × V)} {es : List MapEntry} {n i j : Nat} {u : V}, EntRel l es n -> findK k l i = some (j, u) -> EntRel (delK k l) (es.eraseIdx (j - i)) n
 | (y, u) :: l, e :: es, n, i, j, u', h, hs => by
  unfold findK at hs
  split at hs
  ·rename_i hsame
   injection hs with hs; injection hs with hs _
   subst hs
   simp only [EntRel] at h
   simp only [delK, hsame, Nat.sub_self, List.eraseIdx_zero, List.tail_cons]
   exact h.2.2.2.2
  ·rename_i hsame
   have hle := findK_le hs
   simp only [EntRel] at h
   have ih := findK_ent h.2.2.2.2 hs
   have ej : j - i = j - (i + 1) + 1 := by omega
   rw [ej]
   simp only [delK, hsame, List.eraseIdx_cons_succ, EntRel]
   exact ⟨h.1, h.2.1, h.2.2.1, fun z hz => h.2.2.2.1 z ((List.eraseIdx_sublist _ _).subset hz), ih⟩
 | [], _, _, _, _, _, _, hs => by simp [findK] at hs
 | _ :: _, [], _, _, _, _, h, _ => by simp [EntRel] at h
theorem delK_none {k : V} : ∀ {l : List (V × V)} {i : Nat}, findK k l i = none -> delK k l = l
 | [], _, _ => rfl
 | (y, u) :: l, i, h => by
  unfold findK at h
  split at h
  ·cases h
  ·rename_i hs
   simp only [delK, hs, delK_none h]
theorem del_fit {ks : List KS} {l : List (V × V)} {i : V} (hf : keysFit ks l = true) : keysFit ks (delK i l) = true := by
 induction l with
 | nil => rfl
 | cons q l ih =>
  obtain ⟨y, u⟩ := q
  simp only [keysFit, List.all_cons, Bool.and_eq_true] at hf ih ⊢
  unfold delK
  split
  ·exact hf.2
  ·simp only [List.all_cons, Bool.and_eq_true]; exact ⟨hf.1, ih hf.2⟩
theorem run_del {t kt kt' et ty : TypeId} {ks : List KS} (hu : P.underlying t = some (.map kt et)) (hks : keyT P kt = some ks) {i : V} {iv : Value} {ρ : List Place} (hfit : keyFits ks i = true) (hi : Rep ρ i iv) {w : World} {r n : Nat} {es : Array MapEntry} {l : List (V × V)}
  (hheap : w.heap[r]? = some (.map es n)) (hent : EntRel l es.toList n) (hf : keysFit ks l = true) :
  ∃ es' : Array MapEntry, (Builtin.delete_ #[t, kt'] ty #[.map (some r), iv]).run P w = .ok (.tuple #[]) { w with heap := w.heap.setIfInBounds r (.map es' n) } /\ EntRel (delK i l) es'.toList n := by
 obtain ⟨q, hr, hrm⟩ := run_find hks hfit hi w l es.toList n hent hf
 have hchk := run_check hks hfit hi es.isEmpty w
 have hget : (getObj r).run P w = .ok (.map es n) w := by simp [getObj, Sem.run, hheap]
 have hset : ∀ o', (setObj r o').run P w = .ok () { w with heap := w.heap.setIfInBounds r o' } := fun o' => by simp [setObj, Sem.run, hheap]
 cases hfk : findK i l 0 with
 | none =>
  rw [hfk] at hrm
  simp only at hrm
  subst hrm
  refine ⟨es, ?_, by rw [delK_none hfk]; exact hent⟩
  simp [Builtin.delete_, run_underlying hu, Result.andThen, hget, hchk, hr, hset]
 | some z =>
  obtain ⟨j, v⟩ := z
  rw [hfk] at hrm
  obtain ⟨y, rfl, hy⟩ := hrm
  refine ⟨es.eraseIdxIfInBounds j, ?_, ?_⟩
  ·simp [Builtin.delete_, run_underlying hu, Result.andThen, hget, hchk, hr, hset]
  ·have h := findK_ent hent hfk
   rw [Nat.sub_zero] at h
   have he : (es.eraseIdxIfInBounds j).toList = es.toList.eraseIdx j := by
    unfold Array.eraseIdxIfInBounds
    split
    ·simp
    ·rename_i hj
     rw [List.eraseIdx_of_length_le (by simpa using hj)]
   rw [he]
   exact h
theorem vmapDel_sound {D : List Deferred} {W : Nat -> Prop} {w0 : World} {ρ0 : List Place} {ρ : List Place} {st : St} {a : Act} {w : World} (hs : SRel D W w0 ρ0 ρ st a w) {t t' ty : TypeId} {m i : V} {mv iv : Value} (hm : Rep ρ m mv) (hi : Rep ρ i iv) {k : List Blk -> Prop}
  (h : vmapDel P t st.mem m i k) : ∃ mem w', k mem /\ (Builtin.delete_ #[t, t'] ty #[mv, iv]).run P w = .ok (.tuple #[]) w' /\ SRel D W w0 ρ0 ρ { st with mem := mem } a w' := by
 unfold vmapDel at h
 replace h := V.known_spec h
 split at h
 ·rename_i b kt et hu
  split at h
  ·rename_i l e ks hb hks
   split at h
   ·rename_i hfit
    obtain ⟨⟨hf⟩, h⟩ := h
    simp only [Rep] at hm
    obtain ⟨p, hp, rfl⟩ := hm
    obtain ⟨hg, _, _, hheap, hme⟩ := hs.mem.mapAt hb hp
    obtain ⟨es, n, rfl, hent⟩ := (mapIs_plain (fit_plain hf)).1 hme
    obtain ⟨es', hrun, hent'⟩ := run_del (kt' := t') (ty := ty) hu hks hfit hi hheap hent hf
    refine ⟨_, _, h, hrun, ⟨hs.slots, hs.nodefer, hs.mem.setMap hb hp ((mapIs_plain (fit_plain (del_fit hf))).2 ⟨es', n, rfl, hent'⟩), ?_, fun j hj => hs.own j (names_set (blk' := ⟨.map (delK i l), e, .map⟩) hb (fun _ => rfl) rfl hj), hs.pre⟩⟩
    refine hs.keep.trans (Keep.setMap.mono fun k _ hkp => ?_)
    subst hkp
    exact hs.own _ ⟨b, _, p, hb, hp, rfl, hg, rfl, foot_head _ _⟩
   ·exact h.elim
  ·exact h.elim
 ·exact h.elim
theorem vmapLen_sound {ρ : List Place} {mem : List Blk} {w : World} (hw : MRel ρ mem w) {t ty : TypeId} {b : Nat} {mv : Value} (hm : Rep ρ (.mp b) mv) {k : V -> Prop}
  (h : vmapLen P t mem b k) : ∃ v x, k v /\ (Builtin.len_ #[t] ty #[mv]).run P w = .ok x w /\ Rep ρ v x := by
 unfold vmapLen at h
 split at h
 ·rename_i kt et l e hu hb
  obtain ⟨⟨hf⟩, h⟩ := h
  simp only [Rep] at hm
  obtain ⟨p, hp, rfl⟩ := hm
  obtain ⟨hg, _, _, hheap, hme⟩ := hw.mapAt hb hp
  obtain ⟨es, n, rfl, hent⟩ := (mapIs_plain (plainB_spec hf)).1 hme
  have hget : (getObj p.blk).run P w = .ok (.map es n) w := by simp [getObj, Sem.run, hheap]
  refine ⟨_, .int .i64 (es.size : Nat), h, ?_, ?_⟩
  ·simp [Builtin.len_, run_underlying hu, Result.andThen, hget, goInt]
  ·have := ent_len hent
   simp only [Array.length_toList] at this
   simp only [Rep, this]
 ·exact h.elim
theorem ent_get : ∀ {l : List (V × V)} {es : List MapEntry} {n i : Nat} {e : MapEntry}, EntRel l es n -> es[i]? = some e -> ∃ k v, l[i]? = some (k, v) /\ Rep [] k e.key /\ Rep [] v e.val
 | (k, v) :: l, e :: es, n, 0, e', h, he => by
  simp only [EntRel] at h
  simp only [List.getElem?_cons_zero, Option.some.injEq] at he
  subst he
  exact ⟨k, v, rfl, h.1, h.2.1⟩
 | (k, v) :: l, e :: es, n, i + 1, e', h, he => by
  simp only [EntRel] at h
  obtain ⟨k', v', h1, h2⟩ := ent_get h.2.2.2.2 (by simpa using he)
  exact ⟨k', v', by simpa using h1, h2⟩
 | [], [], _, _, _, _, he => by simp at he
 | [], _ :: _, _, _, _, h, _ => by simp [EntRel] at h
 | _ :: _, [], _, _, _, h, _ => by simp [EntRel] at h
theorem ent_nodup : ∀ {l : List (V × V)} {es : List MapEntry} {n : Nat}, EntRel l es n -> (es.map (·.born)).Nodup
 | [], [], _, _ => by simp
 | (_, _) :: l, e :: es, n, h => by
  simp only [EntRel] at h
  simp only [List.map_cons, List.nodup_cons]
  refine ⟨fun hm => ?_, ent_nodup h.2.2.2.2⟩
  obtain ⟨x, hx, hxe⟩ := List.mem_map.1 hm
  have := h.2.2.2.1 x hx
  omega
 | [], _ :: _, _, h => by simp [EntRel] at h
 | _ :: _, [], _, h => by simp [EntRel] at h
theorem run_range_mapAt {t kt et : TypeId} (hu : P.underlying t = some (.map kt et)) {w : World} {r : Nat} {es : Array MapEntry} {n : Nat} (hheap : w.heap[r]? = some (.map es n)) :
  (Instr.range t (.map (some r))).run P w = .ok (.pointer (some ⟨w.heap.size, 0, none⟩)) (w.alloc (.mapIter (some r) n #[] n)) := by
 have hget : (getObj r).run P w = .ok (.map es n) w := by simp [getObj, Sem.run, hheap]
 simp [Instr.range, run_underlying hu, Result.andThen, hget]
theorem vrangeMap_sound {D : List Deferred} {W : Nat -> Prop} {w0 : World} {ρ0 : List Place} {ρ : List Place} {st : St} {a : Act} {w : World} (hs : SRel D W w0 ρ0 ρ st a w) {t : TypeId} {b : Nat} {mv : Value} (hm : Rep ρ (.mp b) mv) {k : V -> List Blk -> Prop}
  (h : vrangeMap P t st.mem b k) : ∃ v mem x w' ρ', k v mem /\ (Instr.range t mv).run P w = .ok x w' /\ ρ <+: ρ' /\ Rep ρ' v x /\ SRel D W w0 ρ0 ρ' { st with mem := mem } a w' := by
 unfold vrangeMap at h
 split at h
 ·rename_i kt et l e hu hb
  obtain ⟨⟨hf⟩, h⟩ := h
  simp only [Rep] at hm
  obtain ⟨p, hp, rfl⟩ := hm
  obtain ⟨hg, _, _, hheap, hme⟩ := hs.mem.mapAt hb hp
  obtain ⟨es, n, rfl, hent⟩ := (mapIs_plain (plainB_spec hf)).1 hme
  have hlen := ent_len hent
  have h1 := hs.retell (l' := (.ptr p.blk 0, .fn n (es.toList.map (·.born))) :: l) hb hp hheap ⟨rfl, es, rfl, hent, rfl⟩
  have h2 := h1.newMapObj t [(.gp p.blk 0, .fn n [])] (.mapIter (some p.blk) n #[] n) rfl
  refine ⟨_, _, _, _, _, h p.blk n (es.toList.map (·.born)) ⟨by rw [List.length_map, hlen], ent_nodup hent⟩, run_range_mapAt hu hheap, List.prefix_append _ _, ?_, h2⟩
  simp only [Rep]
  exact ⟨⟨w.heap.size, 0, false, 0, none, []⟩, by rw [<- hs.mem.len, List.getElem?_concat_length], rfl⟩
 ·exact h.elim
theorem allParts_spec : ∀ {ks : List KS} {vs : List V} {k : List V -> Prop}, allParts ks k -> fitsL ks vs = true -> k vs
 | [], [], k, h, _ => h
 | .int kd :: r, v :: vs, k, h, hf => by
  simp only [fitsL, Bool.and_eq_true] at hf
  cases v <;> simp only [KS.fits, Bool.false_eq_true, false_and, decide_eq_true_eq] at hf
  obtain ⟨rfl, hf⟩ := hf
  exact allParts_spec (k := fun vs => k (_ :: vs)) (h _) hf
 | .str :: r, v :: vs, k, h, hf => by
  simp only [fitsL, Bool.and_eq_true] at hf
  cases v <;> simp only [KS.fits, Bool.false_eq_true, false_and] at hf
  exact allParts_spec (k := fun vs => k (_ :: vs)) (h _) hf.2
 | .plain :: _, _, _, h, _ => h.elim
 | [], _ :: _, _, _, hf => by simp [fitsL] at hf
 | .int _ :: _, [], _, _, hf => by simp [fitsL] at hf
 | .str :: _, [], _, _, hf => by simp [fitsL] at hf
theorem allKey_spec {ks : List KS} {v : V} {k : V -> Prop} (h : allKey ks k) (hf : keyFits ks v = true) : k v := by
 unfold allKey at h
 split at h
 ·obtain ⟨n, rfl⟩ := fits_int hf
  exact h n
 ·rename_i hne
  cases v <;> simp only [keyFits, Bool.false_eq_true] at hf
  ·exact absurd (plainFits_eq hf) (hne _)
  ·exact allParts_spec (k := fun vs => k (.agg vs)) h hf
theorem allVal_spec {q : Option IntKind} {l : List (V × V)} {p : V × V} {k : V -> Prop} (h : allVal q k) (hf : valsKS q l = true) (hp : p ∈ l) : k p.2 := by
 unfold valsKS at hf
 unfold allVal at h
 split at hf
 ·have hv := List.all_eq_true.1 hf p hp
  split at hv
  ·rename_i k' n e
   rw [e]
   obtain rfl := of_decide_eq_true hv
   exact h n
  ·cases hv
 ·have hv := List.all_eq_true.1 hf p hp
  split at hv
  ·rename_i b e
   rw [e]
   exact h b
  ·cases hv
theorem iterAt_spec {ρ : List Place} {mem : List Blk} {w : World} (hw : MRel ρ mem w) {it : V} {iv : Value} (hit : Rep ρ it iv) {k : Nat -> Nat -> Nat -> Nat -> List Nat -> TypeId -> Option (V × V) -> Prop} (h : iterAt mem it k) :
  ∃ b g o c seen e l q p, k b g o c seen e q /\ mem[b]? = some ⟨.map l, e, .map⟩ /\ ρ[b]? = some p /\ p.ghost = false /\ iv = .pointer (some ⟨p.blk, 0, none⟩) /\ w.heap[p.blk]? = some (.mapIter (some g) c seen.toArray c) := by
 unfold iterAt at h
 split at h
 ·rename_i b
  simp only [Rep] at hit
  obtain ⟨p, hp, rfl⟩ := hit
  split at h
  ·rename_i g o c seen e hb
   obtain ⟨hg, hoff, _, hheap, hi⟩ := hw.mapAt hb hp
   obtain rfl := (show _ = Obj.mapIter (some g) c seen.toArray c from hi)
   exact ⟨b, g, o, c, seen, e, _, none, p, h, hb, hp, hg, by rw [addrOf_own hoff 0], hheap⟩
  ·rename_i g o c seen q e hb
   obtain ⟨hg, hoff, _, hheap, hi⟩ := hw.mapAt hb hp
   obtain rfl := (show _ = Obj.mapIter (some g) c seen.toArray c from hi)
   exact ⟨b, g, o, c, seen, e, _, some q, p, h, hb, hp, hg, by rw [addrOf_own hoff 0], hheap⟩
  ·exact h.elim
 ·exact h.elim
theorem vnextMap_sound {D : List Deferred} {W : Nat -> Prop} {w0 : World} {ρ0 : List Place} {ρ : List Place} {st : St} {a : Act} {w : World} (hs : SRel D W w0 ρ0 ρ st a w) {it : V} {iv : Value} (hit : Rep ρ it iv) (ty : TypeId) {k : V -> List Blk -> Prop}
  (h : vnextMap P st.mem it k) : ∃ v mem x w', k v mem /\ (Instr.next iv false ty).run P w = .ok x w' /\ Rep ρ v x /\ SRel D W w0 ρ0 ρ { st with mem := mem } a w' := by
 unfold vnextMap at h
 obtain ⟨b, g, o, c, seen, e, l0, _, p, h, hb, hp, hg, rfl, hheap⟩ := iterAt_spec hs.mem hit h
 split at h
 ·rename_i b2 _
  split at h
  ·rename_i g' _ c' bs l e2 hb2
   split at h
   ·rename_i kt et hu
    split at h
    ·rename_i ks q hks hq
     obtain ⟨⟨rfl, rfl, hf, hvs⟩, h1, h2⟩ := h
     have hlt2 : b2 < ρ.length := by rw [hs.mem.len]; exact (List.getElem?_eq_some_iff.1 hb2).1
     obtain ⟨p2, hp2⟩ : ∃ p2, ρ[b2]? = some p2 := ⟨_, List.getElem?_eq_getElem hlt2⟩
     obtain ⟨hg2, _, om, hheap2, hm2⟩ := hs.mem.mapAt hb2 hp2
     obtain ⟨ha2, es, rfl, hent, hborn⟩ := hm2
     rw [<- ha2] at hheap
     have hold' : ∀ x ∈ es.toList, x.born < c' := ent_born hent
     rcases run_next_at (P := P) w ty p.blk p2.blk c' c' seen.toArray es c' hheap hheap2 hold' (Nat.le_refl _) with ⟨h0, hrun⟩ | ⟨en, he, w1, hal, hrun⟩
     ·refine ⟨_, _, _, _, h2 fun i hi => ?_, hrun, ?_, hs.retell hb2 hp2 hheap2 ((mapIs_plain (fit_plain hf)).2 ⟨es, c', rfl, hent⟩)⟩
      ·have hi' : i < es.toList.length := by rw [<- ent_len hent]; exact hi
       have := all_seen es seen.toArray h0 _ (List.getElem_mem hi')
       rw [<- hborn, List.getD_eq_getElem?_getD, List.getElem?_map, List.getElem?_eq_getElem hi']
       simpa using this
      ·simp only [Rep, RepL]
       exact ⟨_, rfl, _, _, rfl, rfl, rfl⟩
     ·obtain ⟨hem, hes⟩ := mem_left he
      obtain ⟨i, hi⟩ := List.getElem?_of_mem hem
      obtain ⟨kv, vv, hkv, hk, hv⟩ := ent_get hent hi
      have hmem := List.mem_of_getElem? hkv
      have hkf : keyFits ks kv = true := List.all_eq_true.1 hf _ hmem
      have hbi : bs.getD i 0 = en.born := by
       rw [<- hborn, List.getD_eq_getElem?_getD, List.getElem?_map, hi]
       rfl
      have hil : i < l.length := (List.getElem?_eq_some_iff.1 hkv).1
      have hkk := allVal_spec (allKey_spec h1 hkf) hvs hmem i ⟨hil, hkv, by rw [hbi]; simpa using hes⟩
      have hs1 : SRel D W w0 ρ0 ρ st a w1 := by
       rcases hal with rfl | rfl
       ·exact hs
       ·exact ⟨hs.slots, hs.nodefer, hs.mem.keep fun _ _ => rfl, hs.keep.trans (Keep.drew _ _), hs.own, hs.pre⟩
      have hset := hs1.mem.setMap (l' := [(.gp g' o, .fn c' (seen ++ [bs.getD i 0])), (kv, vv)]) (o' := .mapIter (some g') c' (seen ++ [bs.getD i 0]).toArray c') hb hp rfl
      refine ⟨_, _, _, _, hkk, hrun, ?_, ⟨hs1.slots, hs1.nodefer, ?_, ?_, fun j hj => hs1.own j (names_set (blk' := ⟨.map [(.gp g' o, .fn c' (seen ++ [bs.getD i 0])), (kv, vv)], e, .map⟩) hb (fun _ => rfl) rfl hj), hs1.pre⟩⟩
      ·simp only [Rep, RepL]
       exact ⟨_, rfl, _, _, rfl, rfl, _, _, rfl, hk.mono List.nil_prefix, _, _, rfl, hv.mono List.nil_prefix, rfl⟩
      ·rw [hbi, ha2] at *
       simpa [ChangeMaps.setBlock] using hset
      ·refine hs1.keep.trans (Keep.setMap.mono fun k _ hkp => ?_)
       subst hkp
       exact hs1.own _ ⟨b, _, p, hb, hp, rfl, hg, rfl, foot_head _ _⟩
    ·exact h.elim
   ·exact h.elim
  ·exact h.elim
 ·exact h.elim
theorem ventry_sound {D : List Deferred} {W : Nat -> Prop} {w0 : World} {ρ0 : List Place} {ρ : List Place} {st : St} {a : Act} {w : World} (hs : SRel D W w0 ρ0 ρ st a w) {it : V} {iv : Value} (hit : Rep ρ it iv) {k : V -> List Blk -> Prop}
  (h : ventry st.mem it k) : ∃ v mem x, k v mem /\ (Instr.entry iv).run P w = .ok x w /\ Rep ρ v x /\ SRel D W w0 ρ0 ρ { st with mem := mem } a w := by
 unfold ventry at h
 obtain ⟨b, g, o, c, seen, e, l0, q, p, h, hb, hp, hg, rfl, hheap⟩ := iterAt_spec hs.mem hit h
 split at h
 ·rename_i kv vv b2 _
  split at h
  ·rename_i g' _ c' bs l e2 hb2
   obtain ⟨⟨rfl, rfl, i, hil, hkv, hlast⟩, h⟩ := h
   have hlt2 : b2 < ρ.length := by rw [hs.mem.len]; exact (List.getElem?_eq_some_iff.1 hb2).1
   obtain ⟨p2, hp2⟩ : ∃ p2, ρ[b2]? = some p2 := ⟨_, List.getElem?_eq_getElem hlt2⟩
   obtain ⟨_, _, om, hheap2, hm2⟩ := hs.mem.mapAt hb2 hp2
   obtain ⟨ha2, es, rfl, hent, hborn⟩ := hm2
   have hil' : i < es.toList.length := by rw [<- ent_len hent]; exact hil
   obtain ⟨kv', vv', hkv', hk, hv⟩ := ent_get hent (List.getElem?_eq_getElem hil')
   rw [hkv] at hkv'
   simp only [Option.some.injEq, Prod.mk.injEq] at hkv'
   obtain ⟨rfl, rfl⟩ := hkv'
   have hbi : bs.getD i 0 = (es.toList[i]).born := by
    rw [<- hborn, List.getD_eq_getElem?_getD, List.getElem?_map, List.getElem?_eq_getElem hil']
    rfl
   obtain ⟨seen', rfl⟩ := List.getLast?_eq_some_iff.1 hlast
   have hr : w.heap[p.blk]? = some (.mapIter (some p2.blk) c' (seen'.toArray.push (es.toList[i]).born) c') := by
    rw [hheap, ha2, hbi]
    simp
   refine ⟨_, _, _, h, run_entry_at w p.blk p2.blk c' seen'.toArray es c' _ hr hheap2 (List.getElem_mem hil') (ent_nodup hent), ?_, hs.retell hb hp hheap rfl⟩
   simp only [Rep, RepL]
   exact ⟨_, rfl, _, _, rfl, hk.mono List.nil_prefix, _, _, rfl, hv.mono List.nil_prefix, rfl⟩
  ·exact h.elim
 ·exact h.elim
theorem run_range_str {t : TypeId} (h : P.underlying t = some .string) (s : ByteArray) (w : World) :
  (Instr.range t (.string s)).run P w = .ok (.pointer (some ⟨w.heap.size, 0, none⟩)) (w.alloc (.stringIter s 0)) := by
 simp [Instr.range, run_underlying h]
theorem run_next_str {r pos : Nat} {s : ByteArray} {w : World} (hw : w.heap[r]? = some (.stringIter s pos)) (ty : TypeId) (h : pos < s.size) (ha : (s[pos]'h).toNat < 128) :
  (Instr.next (.pointer (some ⟨r, 0, none⟩)) true ty).run P w =
   .ok (.tuple #[.bool true, .int .i64 pos, .int .i32 (s[pos]'h).toNat]) { w with heap := w.heap.setIfInBounds r (.stringIter s (pos + 1)) } := by
 have e : s.get! (pos + 0) = s[pos]'h := by
  show s.get! pos = _
  simp [ByteArray.get!, getElem!_pos, h]
  rfl
 have hdec : Utf8.decode s pos = ((s[pos]'h).toNat, 1) := by
  simp only [Utf8.decode, e, ha, if_true]
 simp only [Instr.next, getObj, setObj, Sem.run_bind, Sem.run, hw, Result.andThen, h, if_true, hdec]
 simp [goInt]
theorem run_next_stop {r pos : Nat} {s : ByteArray} {w : World} (hw : w.heap[r]? = some (.stringIter s pos)) (ty : TypeId) (h : ¬ pos < s.size) :
  (Instr.next (.pointer (some ⟨r, 0, none⟩)) true ty).run P w = .ok (.tuple #[.bool false]) w := by
 simp [Instr.next, getObj, Sem.run, hw, h]
theorem vnext_sound {D : List Deferred} {W : Nat -> Prop} {w0 : World} {ρ0 : List Place} {ρ : List Place} {st : St} {a : Act} {w : World} (hs : SRel D W w0 ρ0 ρ st a w) {it : V} {iv : Value} (hit : Rep ρ it iv) (ty : TypeId) {k : V -> List Blk -> Prop}
  (h : vnext st.mem it k) : ∃ v mem x w', k v mem /\ (Instr.next iv true ty).run P w = .ok x w' /\ Rep ρ v x /\ SRel D W w0 ρ0 ρ { st with mem := mem } a w' := by
 unfold vnext at h
 split at h
 ·rename_i b
  split at h
  ·rename_i n o s e hb
   obtain ⟨h1, h2⟩ := h
   simp only [Rep] at hit
   obtain ⟨p, hp, rfl⟩ := hit
   obtain ⟨hg, hoff, oi, hheap, hi⟩ := hs.mem.mapAt hb hp
   have hi : oi = .stringIter (ofL s) n := hi
   subst hi
   have haddr : addrOf p 0 = ⟨p.blk, 0, none⟩ := addrOf_own hoff 0
   rw [haddr]
   have hsz : (ofL s).size = s.length := by simp [ofL, ByteArray.size]
   by_cases hn : n < s.length
   ·obtain ⟨⟨ha⟩, hk⟩ := h1 hn
    have hlt : n < (ofL s).size := by rw [hsz]; exact hn
    have hget : (ofL s)[n]'hlt = s.getD n 0 := by
     show s.toArray[n]'(by simpa using hn) = _
     simp [List.getD_eq_getElem?_getD, hn]
    have hrun := run_next_str (P := P) hheap ty hlt (by rw [hget]; exact ha)
    rw [hget] at hrun
    have hset := hs.mem.setMap (l' := [(.gp (n + 1) o, .str s)]) (o' := .stringIter (ofL s) (n + 1)) hb hp rfl
    refine ⟨_, _, _, _, hk, hrun, ?_, ⟨hs.slots, hs.nodefer, hset, ?_, fun j hj => hs.own j (names_set (blk' := ⟨.map [(.gp (n + 1) o, .str s)], e, .map⟩) hb (fun _ => rfl) rfl hj), hs.pre⟩⟩
    ·simp only [Rep, RepL]
     exact ⟨_, rfl, _, _, rfl, rfl, _, _, rfl, rfl, _, _, rfl, rfl, rfl⟩
    ·refine hs.keep.trans (Keep.setMap.mono fun k _ hkp => ?_)
     subst hkp
     exact hs.own _ ⟨b, _, p, hb, hp, rfl, hg, rfl, foot_head _ _⟩
   ·have hk := h2 hn
    refine ⟨_, _, _, _, hk, run_next_stop hheap ty (by rw [hsz]; exact hn), ?_, hs⟩
    simp only [Rep, RepL]
    exact ⟨_, rfl, _, _, rfl, rfl, rfl⟩
  ·exact h.elim
 ·exact h.elim
theorem matZero_spec {e : TypeId} {z : Value} {kd : IntKind} {et : TypeId} (h : matZero P e z = some (kd, et)) : z = .slice none 0 0 := by
 unfold matZero at h
 split at h
 ·rfl
 ·cases h
theorem subFoot_none (n : Nat) : subFoot (List.replicate n (⟨0, 0, true, 0, none⟩ : Sub)) = [] := by
 induction n with
 | zero => rfl
 | succ n ih => rw [List.replicate_succ]; exact ih
/-- A new row of rows, which are none. -/
theorem SRel.matNew {D : List Deferred} {W : Nat -> Prop} {w0 : World} {ρ0 : List Place} {ρ : List Place} {st : St} {a : Act} {w w' : World} (h : SRel D W w0 ρ0 ρ st a w) (d : Option Tmp) {n cap : Nat} {kd : IntKind} {et e : TypeId} {cur : List Value}
  (hk : Keep (fun _ => False) w w') (hh : w'.heap[w.heap.size]? = some (.cells cur.toArray e (0, 0))) (hcur : ∀ j, j < n -> cur[j]? = some (.slice none 0 0)) (hl : cur.length = cap) (hcap : cap <= maxLen) :
  ∃ ρ', ρ <+: ρ' /\ SRel D W w0 ρ0 ρ' (st.row d n (.mat kd et (List.replicate n [])) e .mat) (a.put d (.slice (some ⟨w.heap.size, 0, none⟩) n cap)) w' := by
 let p' : Place := ⟨w.heap.size, cap, false, 0, none, List.replicate n ⟨0, 0, true, 0, none⟩⟩
 have hpre : ρ <+: ρ ++ [p'] := List.prefix_append _ _
 have hf : ∀ q, q ∈ (⟨.mat kd et (List.replicate n []), e, .mat⟩ : Blk).foot p' -> q = w.heap.size := fun q hq => by
  rw [foot_mat rfl, show subFoot p'.subs = [] from subFoot_none n, List.mem_singleton] at hq
  exact hq
 have hget : ∀ (j : Nat) (s : Sub), p'.subs[j]? = some s -> s = ⟨0, 0, true, 0, none⟩ /\ j < n := fun j s hj => by
  have hj : (List.replicate n (⟨0, 0, true, 0, none⟩ : Sub))[j]? = some s := hj
  rw [List.getElem?_replicate] at hj
  split at hj
  ·injection hj with hj; exact ⟨hj.symm, by assumption⟩
  ·cases hj
 have hrow : ∀ j, (List.replicate n ([] : List Int)).getD j [] = [] := fun j => by
  simp only [List.getD_eq_getElem?_getD, List.getElem?_replicate]
  split <;> rfl
 have hm := h.mem.add (w' := w') (p := p') (blk := ⟨.mat kd et (List.replicate n []), e, .mat⟩) (fun k hk' => hk.block k (h.mem.lt hk') (fun f => f)) (fun _ q hq hn => by have := h.mem.lt hn; have := hf q hq; omega)
  (.inr (.inr (.inr (.inr (.inr ⟨rfl, kd, et, _, rfl, by show (List.replicate n _).length = _; simp, fun j s hj => by
   obtain ⟨rfl, _⟩ := hget j s hj
   rw [hrow]
   exact .inl ⟨rfl, rfl, fun _ => ⟨rfl, rfl⟩⟩, .inr ⟨rfl, cur, e, (0, 0), hh, fun j s hj => by
   obtain ⟨rfl, hjn⟩ := hget j s hj
   rw [hrow]
   show cur[0 + j]? = _
   rw [Nat.zero_add]
   exact hcur j hjn, fun _ => ⟨rfl, rfl, hl, hcap, rfl, by rw [show subFoot p'.subs = [] from subFoot_none n]; simp⟩⟩⟩)))))
 refine ⟨_, hpre, ?_⟩
 have hs : SRel D W w0 ρ0 (ρ ++ [p']) { st with mem := st.mem ++ [⟨.mat kd et (List.replicate n []), e, .mat⟩] } a w' := by
  refine ⟨h.slots.mono hpre, h.nodefer, hm, h.keep.trans (hk.mono fun _ _ f => f.elim), fun j hj => ?_, h.pre.trans hpre⟩
  obtain ⟨b, blk, p, hb, hp, hd, hg, hq, hjf⟩ := hj
  by_cases hlt : b < st.mem.length
  ·rw [List.getElem?_append_left hlt] at hb
   rw [List.getElem?_append_left (by rw [h.mem.len]; exact hlt)] at hp
   exact h.own _ ⟨b, blk, p, hb, hp, hd, hg, hq, hjf⟩
  ·have hbl : b = st.mem.length := by
    have := (List.getElem?_eq_some_iff.1 hb).1
    simp at this; omega
   subst hbl
   rw [List.getElem?_concat_length] at hb
   rw [<- h.mem.len, List.getElem?_concat_length] at hp
   injection hp with hp
   injection hb with hb
   subst hp; subst hb
   rw [hf j hjf]
   exact .inr h.keep.size
 refine hs.put d ?_
 simp only [Rep]
 exact ⟨p', by rw [<- h.mem.len, List.getElem?_concat_length], .inr ⟨rfl, rfl⟩⟩
theorem vcallW_sound {t : Bool} {ex : List Nat} {f : FuncId} {S : VSpec} (hok : OK P f S) {wr : Bool} {args : List V} {mem : List Blk} {k : V -> List Blk -> Prop} (h : vcallW t ex wr S args mem k) {ρ : List Place} {w : World} {xs : List Value} (hm : MRel ρ mem w) (hx : RepL ρ args xs) :
  (∀ ys w, (callFunc f ys).run P w = .ok (.enter f ys) w) /\
  Calls P f xs.toArray w fun e w' => ∃ v mem' ρ2 x, e = .returned x /\ k v mem' /\ ρ <+: ρ2 /\ Rep ρ2 v x /\ MRel ρ2 mem' w' /\ Keep (Names ρ mem) w w' /\ ∀ j, Names ρ2 mem' j -> Names ρ mem j \/ w.heap.size <= j := by
 cases t with
 | true => exact vcall_sound hok h hm hx
 | false => exact vcallV_sound hok h hm hx
theorem vop_sound (hΩ : ∀ f, OK P f (Ω f)) {o : Oper} {st : St} {k : St -> Prop} (h : vop P Ω o st k) {D : List Deferred} {W : Nat -> Prop} {w0 : World} {ρ0 : List Place} {ρ : List Place} {a : Act} {w : World} (hs : SRel D W w0 ρ0 ρ st a w)
  {next : Act -> World -> Prop} {Q : Exit -> Act -> World -> Prop} (hk : ∀ st' a' w' ρ', k st' -> SRel D W w0 ρ0 ρ' st' a' w' -> next a' w') : o.wp P a w next Q := by
 have plain : vval P st o.op (fun v => k (st.put o.dst v)) -> o.wp P a w next Q := by
  intro h
  obtain ⟨v, hv, hr⟩ := vval_sound hs.slots h
  obtain ⟨x, hx, hrx⟩ := hr w hs.mem
  unfold Oper.wp
  rw [hx, Oper.upon_value]
  exact hk _ _ _ _ hv (hs.put _ hrx)
 unfold vop at h
 split at h
 ·rename_i e hop
  split at h
  ·exact h.elim
  ·rename_i cs hcs
   obtain ⟨z, hz, hzr⟩ := zeroCells_spec hcs
   obtain ⟨c, h, hc⟩ := mixOfT_spec h
   obtain ⟨ρ', _, hs'⟩ := hs.newC o.dst hc (hzr ρ) e
   unfold Oper.wp
   have hrun : (execOp a.eval o).run P w = .ok (.value (.pointer (some ⟨w.heap.size, 0, none⟩))) (w.alloc (.cells z.cells e)) := by
    simp only [execOp, hop, Instr.alloc, Sem.run_bind, hz, Result.andThen_ok]
    rfl
   rw [hrun, Oper.upon_value]
   exact hk _ _ _ _ h hs'
 ·rename_i e x hop
  split at h
  ·exact h.elim
  ·rename_i cs hcs
   obtain ⟨c, h, hc⟩ := mixOfT_spec h
   obtain ⟨ρ', _, hs'⟩ := hs.newC o.dst hc (cellsOfV_rep hcs (rep_ev hs.slots x)) e
   unfold Oper.wp
   have hrun : (execOp a.eval o).run P w = .ok (.value (.pointer (some ⟨w.heap.size, 0, none⟩))) (w.alloc (.cells (a.eval x).cells e)) := by
    simp only [execOp, hop, Instr.box, Sem.run_bind]
    rfl
   rw [hrun, Oper.upon_value]
   exact hk _ _ _ _ h hs'
 ·rename_i t ad x hop
  split at h
  ·rename_i b off he
   split at h
   ·obtain ⟨st', w', ρ', hkm, hrun, hs'⟩ := vstoreRow_sound hs (he ▸ rep_ev hs.slots ad) (rep_ev hs.slots x) h
    unfold Oper.wp
    have hr : (execOp a.eval o).run P w = .ok .skip w' := by
     simp only [execOp, hop, Sem.run_bind, hrun, Result.andThen_ok, Sem.run_pure]
    rw [hr, Oper.upon_skip]
    exact hk _ _ _ _ hkm (hs'.put _ (by simp [Rep]))
   ·obtain ⟨m, w', hkm, hrun, hs'⟩ := vstore_sound hs (he ▸ rep_ev hs.slots ad) (rep_ev hs.slots x) h
    unfold Oper.wp
    have hr : (execOp a.eval o).run P w = .ok .skip w' := by
     simp only [execOp, hop, Sem.run_bind, hrun, Result.andThen_ok, Sem.run_pure]
    rw [hr, Oper.upon_skip]
    exact hk _ _ _ _ hkm (hs'.put _ (by simp [Rep]))
  ·rename_i b off n j he
   obtain ⟨m, w', hkm, hrun, hs'⟩ := vstoreElt_sound hs (he ▸ rep_ev hs.slots ad) (rep_ev hs.slots x) h
   unfold Oper.wp
   have hr : (execOp a.eval o).run P w = .ok .skip w' := by
    simp only [execOp, hop, Sem.run_bind, hrun, Result.andThen_ok, Sem.run_pure]
   rw [hr, Oper.upon_skip]
   exact hk _ _ _ _ hkm (hs'.put _ (by simp [Rep]))
  ·rename_i b i j he
   obtain ⟨m, w', hkm, hrun, hs'⟩ := vstoreInr_sound hs (he ▸ rep_ev hs.slots ad) (rep_ev hs.slots x) h
   unfold Oper.wp
   have hr : (execOp a.eval o).run P w = .ok .skip w' := by
    simp only [execOp, hop, Sem.run_bind, hrun, Result.andThen_ok, Sem.run_pure]
   rw [hr, Oper.upon_skip]
   exact hk _ _ _ _ hkm (hs'.put _ (by simp [Rep]))
  ·exact h.elim
 ·rename_i x hop
  split at h
  ·rename_i b c m hl
   obtain ⟨hv, e, hb⟩ := litMat_spec hl
   unfold vassignMat at h
   split at h
   ·rename_i _ e' _ kd row et hb' hc
    rw [hb] at hb'
    injection hb' with hb'
    injection hb' with _ hb' _
    subst hb'
    obtain ⟨⟨hm⟩, h⟩ := h
    obtain ⟨ρ', hs'⟩ := SRel.toMat hs (hv ▸ rep_ev hs.slots x) rfl hb hc hm o.dst
    unfold Oper.wp
    have hr : (execOp a.eval o).run P w = .ok (.value (a.eval x)) w := by simp only [execOp, hop, Sem.run_pure]
    rw [hr, Oper.upon_value]
    exact hk _ _ _ _ h hs'
   ·exact h.elim
  ·exact plain h
 ·rename_i c hop
  split at h
  ·rename_i f hcal
   split at h
   ·rename_i g caps hg
    have hf := hg ▸ rep_ev hs.slots f
    simp only [Rep] at hf
    obtain ⟨ps, hps, hfv⟩ := hf
    have hargs : RepL ρ (evL st c.args.toList ++ caps.map fun b => V.ptr b 0) (c.args.toList.map a.eval ++ ps.map fun p => Value.pointer (some (addrOf p 0))) :=
     (evL_rep hs.slots _).append (caps_rep hps)
    obtain ⟨hent, hcall⟩ := vcallW_sound (hΩ g) h hs.mem hargs
    unfold Oper.wp
    have hr : (execOp a.eval o).run P w = .ok (.enter g (c.args.toList.map a.eval ++ ps.map fun p => Value.pointer (some (addrOf p 0))).toArray) w := by
     have harr : c.args.map a.eval ++ (ps.map fun p => Value.pointer (some (addrOf p 0))).toArray = (c.args.toList.map a.eval ++ ps.map fun p => Value.pointer (some (addrOf p 0))).toArray := by
      apply Array.toList_inj.1; simp
     simp only [execOp, hop, resolve, hcal, hfv, Deferred.ofValue, Sem.run_bind, Sem.run_pure, Result.andThen_ok, invoke, Array.empty_append]
     rw [harr, hent]
    rw [hr, Oper.upon_enter]
    refine hcall.mono fun e w' hE => ?_
    obtain ⟨v, mem', ρ2, x, rfl, hkv, hpre, hv, hm', hkeep, hnames⟩ := hE
    refine hk _ _ _ ρ2 hkv ?_
    refine SRel.put (st := { st with mem := mem' }) ⟨hs.slots.mono hpre, hs.nodefer, hm', hs.keep.trans (hkeep.mono fun j _ hj => hs.own j hj), fun j hj => ?_, hs.pre.trans hpre⟩ _ hv
    rcases hnames j hj with h | h
    ·exact hs.own j h
    ·exact .inr (Nat.le_trans hs.keep.size h)
   ·exact h.elim
  ·rename_i hcal
   split at h
   ·rename_i s x t t' ea et
    split at h
    ·rename_i htt
     have htt := Nat.eq_of_beq_eq_true htt
     subst htt
     split at h
     ·rename_i cc m hma
      obtain ⟨n, m, v', w', ρ', hkm, hrun, hs'⟩ := vappendMat_sound (P := P) (ty := o.type) hs (rep_ev hs.slots s) (rep_ev hs.slots x) hma h o.dst
      have ea' : c.args = #[s, x] := by rw [<- Array.toArray_toList (xs := c.args), ea]
      have et' : c.argTypes = #[t, t] := by rw [<- Array.toArray_toList (xs := c.argTypes), et]
      unfold Oper.wp
      have hr : (execOp a.eval o).run P w = .ok (.value v') w' := by
       obtain ⟨callee, args, argTypes⟩ := c
       simp only at hcal ea' et'
       subst hcal; subst ea'; subst et'
       simp only [execOp, hop, resolve, invoke, builtin, Sem.run_bind, Sem.run_pure, Result.andThen_ok, List.map_toArray, List.map_cons, List.map_nil, hrun]
      rw [hr, Oper.upon_value]
      exact hk _ _ _ _ hkm hs'
     ·obtain ⟨n, m, v', w', ρ', hkm, hrun, hs'⟩ := vappend_sound (P := P) (ty := o.type) hs (rep_ev hs.slots s) (rep_ev hs.slots x) h o.dst
      have ea' : c.args = #[s, x] := by rw [<- Array.toArray_toList (xs := c.args), ea]
      have et' : c.argTypes = #[t, t] := by rw [<- Array.toArray_toList (xs := c.argTypes), et]
      unfold Oper.wp
      have hr : (execOp a.eval o).run P w = .ok (.value v') w' := by
       obtain ⟨callee, args, argTypes⟩ := c
       simp only at hcal ea' et'
       subst hcal; subst ea'; subst et'
       simp only [execOp, hop, resolve, invoke, builtin, Sem.run_bind, Sem.run_pure, Result.andThen_ok, List.map_toArray, List.map_cons, List.map_nil, hrun]
      rw [hr, Oper.upon_value]
      exact hk _ _ _ _ hkm hs'
    ·split at h
     ·rename_i q hq
      obtain ⟨n, m, v', w', ρ', hkm, hrun, hs'⟩ := vappendS_sound (P := P) (ty := o.type) hs (rep_ev hs.slots s) (hq ▸ rep_ev hs.slots x) h o.dst
      have ea' : c.args = #[s, x] := by rw [<- Array.toArray_toList (xs := c.args), ea]
      have et' : c.argTypes = #[t, t'] := by rw [<- Array.toArray_toList (xs := c.argTypes), et]
      unfold Oper.wp
      have hr : (execOp a.eval o).run P w = .ok (.value v') w' := by
       obtain ⟨callee, args, argTypes⟩ := c
       simp only at hcal ea' et'
       subst hcal; subst ea'; subst et'
       simp only [execOp, hop, resolve, invoke, builtin, Sem.run_bind, Sem.run_pure, Result.andThen_ok, List.map_toArray, List.map_cons, List.map_nil, hrun]
      rw [hr, Oper.upon_value]
      exact hk _ _ _ _ hkm hs'
     ·exact h.elim
   ·exact h.elim
  ·rename_i hcal
   split at h
   ·rename_i b off n m s t t' ea et
    obtain ⟨x, y, eargs, hx, hy⟩ := evL_two hs.slots ea
    obtain ⟨r, mem', w', hkm, hrun, hs'⟩ := vcopy_sound (P := P) (t' := t') (ty := o.type) hs hx h
    have et' : c.argTypes = #[t, t'] := by rw [<- Array.toArray_toList (xs := c.argTypes), et]
    simp only [Rep] at hy
    unfold Oper.wp
    have hr : (execOp a.eval o).run P w = .ok (.value (.int .i64 r)) w' := by
     obtain ⟨callee, args, argTypes⟩ := c
     simp only at hcal eargs et'
     subst hcal; subst eargs; subst et'
     rw [<- hy] at hrun
     simp only [execOp, hop, resolve, invoke, builtin, Sem.run_bind, Sem.run_pure, Result.andThen_ok, List.map_toArray, List.map_cons, List.map_nil, hrun]
    rw [hr, Oper.upon_value]
    exact hk _ _ _ _ hkm (hs'.put _ (by simp [Rep]))
   ·rename_i b off n m xx t t' _ ea et
    obtain ⟨x, y, eargs, hx, hy⟩ := evL_two hs.slots ea
    obtain ⟨r, mem', w', hkm, hrun, hs'⟩ := vcopyI_sound (P := P) (t' := t') (ty := o.type) hs hx hy h
    have et' : c.argTypes = #[t, t'] := by rw [<- Array.toArray_toList (xs := c.argTypes), et]
    unfold Oper.wp
    have hr : (execOp a.eval o).run P w = .ok (.value (.int .i64 r)) w' := by
     obtain ⟨callee, args, argTypes⟩ := c
     simp only at hcal eargs et'
     subst hcal; subst eargs; subst et'
     simp only [execOp, hop, resolve, invoke, builtin, Sem.run_bind, Sem.run_pure, Result.andThen_ok, List.map_toArray, List.map_cons, List.map_nil, hrun]
    rw [hr, Oper.upon_value]
    exact hk _ _ _ _ hkm (hs'.put _ (by simp [Rep]))
   ·rename_i b n xx t t' ea et
    obtain ⟨x, y, eargs, hx, hy⟩ := evL_two hs.slots ea
    obtain ⟨r, mem', w', hkm, hrun, hs'⟩ := vcopyR_sound (P := P) (t' := t') (ty := o.type) hs (row_dst hx) hy h
    have et' : c.argTypes = #[t, t'] := by rw [<- Array.toArray_toList (xs := c.argTypes), et]
    unfold Oper.wp
    have hr : (execOp a.eval o).run P w = .ok (.value (.int .i64 r)) w' := by
     obtain ⟨callee, args, argTypes⟩ := c
     simp only at hcal eargs et'
     subst hcal; subst eargs; subst et'
     simp only [execOp, hop, resolve, invoke, builtin, Sem.run_bind, Sem.run_pure, Result.andThen_ok, List.map_toArray, List.map_cons, List.map_nil, hrun]
    rw [hr, Oper.upon_value]
    exact hk _ _ _ _ hkm (hs'.put _ (by simp [Rep]))
   ·rename_i b off sz n q xx t t' ea et
    obtain ⟨x, y, eargs, hx, hy⟩ := evL_two hs.slots ea
    obtain ⟨r, mem', w', hkm, hrun, hs'⟩ := vcopyR_sound (P := P) (t' := t') (ty := o.type) hs (view_dst hx) hy h
    have et' : c.argTypes = #[t, t'] := by rw [<- Array.toArray_toList (xs := c.argTypes), et]
    unfold Oper.wp
    have hr : (execOp a.eval o).run P w = .ok (.value (.int .i64 r)) w' := by
     obtain ⟨callee, args, argTypes⟩ := c
     simp only at hcal eargs et'
     subst hcal; subst eargs; subst et'
     simp only [execOp, hop, resolve, invoke, builtin, Sem.run_bind, Sem.run_pure, Result.andThen_ok, List.map_toArray, List.map_cons, List.map_nil, hrun]
    rw [hr, Oper.upon_value]
    exact hk _ _ _ _ hkm (hs'.put _ (by simp [Rep]))
   ·exact h.elim
  ·rename_i hcal
   split at h
   ·rename_i b t ea et
    obtain ⟨x, eargs, hx⟩ := evL_one hs.slots ea
    obtain ⟨v, xv, hkv, hrun, hxr⟩ := vmapLen_sound (P := P) (ty := o.type) hs.mem hx h
    have et' : c.argTypes = #[t] := by rw [<- Array.toArray_toList (xs := c.argTypes), et]
    unfold Oper.wp
    have hr : (execOp a.eval o).run P w = .ok (.value xv) w := by
     obtain ⟨callee, args, argTypes⟩ := c
     simp only at hcal eargs et'
     subst hcal; subst eargs; subst et'
     simp only [execOp, hop, resolve, invoke, builtin, Sem.run_bind, Sem.run_pure, Result.andThen_ok, List.map_toArray, List.map_cons, List.map_nil, hrun]
    rw [hr, Oper.upon_value]
    exact hk _ _ _ _ hkv (hs.put _ hxr)
   ·exact plain h
  ·rename_i hcal
   split at h
   ·rename_i m i t t' ea et
    obtain ⟨x, y, eargs, hx, hy⟩ := evL_two hs.slots ea
    obtain ⟨mem', w', hkm, hrun, hs'⟩ := vmapDel_sound (P := P) (t' := t') (ty := o.type) hs hx hy h
    have et' : c.argTypes = #[t, t'] := by rw [<- Array.toArray_toList (xs := c.argTypes), et]
    unfold Oper.wp
    have hr : (execOp a.eval o).run P w = .ok (.value (.tuple #[])) w' := by
     obtain ⟨callee, args, argTypes⟩ := c
     simp only at hcal eargs et'
     subst hcal; subst eargs; subst et'
     simp only [execOp, hop, resolve, invoke, builtin, Sem.run_bind, Sem.run_pure, Result.andThen_ok, List.map_toArray, List.map_cons, List.map_nil, hrun]
    rw [hr, Oper.upon_value]
    exact hk _ _ _ _ hkm (hs'.put _ (by simp only [Rep, RepL]; exact ⟨[], rfl, rfl⟩))
   ·exact h.elim
  ·exact plain h
 ·rename_i src dst x hop
  split at h
  ·rename_i s he
   have hx := he ▸ rep_ev hs.slots x
   simp only [Rep] at hx
   split at h
   ·unfold vbytes at h
    split at h
    ·rename_i e hsrc hdst
     split at h
     ·rename_i hu8
      obtain ⟨⟨hlen⟩, h⟩ := h
      have hrun := run_bytes_of_string (P := P) w src dst e (ofL s) hsrc hdst hu8
      generalize hc : grownCap w (ofL s).size 0 e = cap at hrun
      have hcap : s.length <= cap /\ cap <= maxLen := by
       rw [<- hc, ofL_size]
       unfold grownCap Question.cut maxLen
       simp only
       have hpos : 0 < 2 ^ 63 - s.length := by omega
       have := Nat.mod_lt (w.tape w.drawn (.appendCap s.length 0 e)) hpos
       omega
      have hsz : (bytesRow (ofL s) cap).size = cap := by
       have : (ofL s).data.size = s.length := by simp [ofL]
       simp [bytesRow, ofL_size, this]
       omega
      obtain ⟨ρ', _, hs'⟩ := hs.row (w' := w.drew.alloc (.cells (bytesRow (ofL s) cap) e ((bytesRow (ofL s) cap).size, (bytesRow (ofL s) cap).size + 1))) o.dst (n := s.length) (cap := cap) (cs := .bytes s) (cur := (bytesRow (ofL s) cap).toList) (e := e) (kd := .marked)
       ((Keep.drew _ w).trans ((Keep.alloc _ w.drew _).mono fun _ _ f => f)) (by
        have := heap_alloc_new w.drew (.cells (bytesRow (ofL s) cap) e ((bytesRow (ofL s) cap).size, (bytesRow (ofL s) cap).size + 1))
        simpa [frz] using this) (by simp) (by
        have : (bytesRow (ofL s) cap).toList.take (Cells.bytes s).toVs.length = s.map fun b => Value.int .u8 b.toNat := by
         simp only [bytesRow, ofL, Array.toList_append, Array.toList_map, Cells.toVs, List.length_map]
         rw [List.take_left' (by simp)]
        rw [this]
        exact RepL.of (by simp [Cells.toVs]) fun i v y hv hy => by
         simp only [Cells.toVs, List.getElem?_map] at hv hy
         cases hsi : s[i]? with
         | none => simp [hsi] at hv
         | some c =>
          simp only [hsi, Option.map_some, Option.some.injEq] at hv hy
          subst hv; subst hy; rfl) (by simpa using hsz) hcap.2
      unfold Oper.wp
      have hr : (execOp a.eval o).run P w = .ok (.value (.slice (some ⟨w.heap.size, 0, none⟩) s.length cap)) (w.drew.alloc (.cells (bytesRow (ofL s) cap) e ((bytesRow (ofL s) cap).size, (bytesRow (ofL s) cap).size + 1))) := by
       simp only [execOp, hop, hx, Sem.run_bind, hrun, Result.andThen_ok, Sem.run_pure, ofL_size]
      rw [hr, Oper.upon_value]
      exact hk _ _ _ _ h hs'
     ·exact h.elim
    ·exact h.elim
   ·exact plain h
  ·exact plain h
 ·rename_i t len parts hop
  split at h
  ·rename_i hlen0
   have hlen0 := Nat.eq_of_beq_eq_true hlen0
   subst hlen0
   unfold vbuild0 at h
   split at h
   ·rename_i e hu hparts
    have hp0 : parts = #[] := by rw [<- Array.toArray_toList (xs := parts), hparts]
    subst hp0
    split at h
    ·exact h.elim
    ·rename_i i hi
     split at h
     ·exact h.elim
     ·split at h
      ·exact h.elim
      ·rename_i c hc
       replace h := withSize_spec h
       have hrun : (Instr.buildSlice t 0 #[]).run P w = .ok (.slice (some ⟨w.heap.size, 0, none⟩) 0 0) (w.alloc (.cells #[] e)) := by
        simp [Instr.buildSlice, run_underlying hu, sizeOf, typeInfo, hi, Instr.fill, newRow]
        congr 2
        apply Array.toList_inj.1
        simp [Array.toList_range]
       obtain ⟨ρ', _, hs'⟩ := hs.rowG (w' := w.alloc (.cells #[] e)) o.dst (n := 0) (cap := 0) (cs := c) (cur := []) (e := e) (kd := rowKind i.size)
        (Kind.rowOf_noarg (rowKind_rowOf i.size)) (Keep.alloc _ w _) (by
         have := heap_alloc_new w (.cells #[] e)
         rw [this]; simp [(Kind.rowOf_spec (rowKind_rowOf i.size)).1]) (by rw [emptyOf_toVs hc]; simp [RepL]) (((Kind.rowOf_spec (rowKind_rowOf i.size)).2.2 _ _ _).2 ⟨by simp, Nat.zero_le _⟩)
       unfold Oper.wp
       have hr : (execOp a.eval o).run P w = .ok (.value (.slice (some ⟨w.heap.size, 0, none⟩) 0 0)) (w.alloc (.cells #[] e)) := by
        simp only [execOp, hop, Sem.run_bind, List.map_toArray, List.map_nil, hrun, Result.andThen_ok, Sem.run_pure]
       rw [hr, Oper.upon_value]
       exact hk _ _ _ _ h hs'
   ·exact h.elim
  split at h
  ·unfold vbuildS at h
   split at h
   ·rename_i e hu
    split at h
    ·exact h.elim
    ·rename_i i hi
     split at h
     ·exact h.elim
     ·rename_i z hz
      split at h
      ·exact h.elim
      ·rename_i ns hns
       split at h
       ·rename_i hcond
        obtain ⟨hsz, hord, hlen, hpos, hmax⟩ := hcond
        obtain ⟨⟨hbd⟩, h⟩ := h
        have hrep := evL_rep hs.slots (parts.toList.map (·.2))
        have hvals := bytesOf_rep hns hrep
        have hpt : (parts.map fun p => (p.1, a.eval p.2)).toList = ((ns.map (Value.int .u8)).zipIdx 0).map fun x => (x.2, x.1) := by
         rw [Array.toList_map, inOrder_zip a.eval _ 0 hord, hvals]
        have hfill := Go.Great.fill_flat (ns.map (Value.int .u8)) ((Array.range (len * i.size)).map (z.cells[· % z.cells.size]!)) (fun v hv => by
         obtain ⟨n, _, rfl⟩ := List.mem_map.1 hv
         rfl) (by simp [hlen, hsz])
        have hrun := run_buildSlice (P := P) w t e len (parts.map fun p => (p.1, a.eval p.2)) (ns.map (Value.int .u8)).toArray i z hu hi hz (by rw [hsz]; omega) (by rw [hsz]; omega) (by rw [hpt, hsz]; rw [hsz] at hfill; exact hfill)
        obtain ⟨ρ', _, hs'⟩ := hs.row (w' := w.alloc (.cells (ns.map (Value.int .u8)).toArray e)) o.dst (n := len) (cap := len) (cs := .bytes (ns.map fun n => UInt8.ofNat n.toNat)) (cur := ns.map (Value.int .u8)) (e := e) (kd := .row)
         (Keep.alloc _ w _) (by
          have := heap_alloc_new w (.cells (ns.map (Value.int .u8)).toArray e)
          rw [this]; simp [frz]) (by simp) (by
          rw [show (Cells.bytes (ns.map fun n => UInt8.ofNat n.toNat)).toVs.length = (ns.map (Value.int .u8)).length by simp [Cells.toVs], List.take_length]
          exact RepL.of (by simp [Cells.toVs]) fun j u y hu hy => by
           simp only [Cells.toVs, List.getElem?_map] at hu hy
           cases hnj : ns[j]? with
           | none => simp [hnj] at hu
           | some n =>
            simp only [hnj, Option.map_some, Option.some.injEq] at hu hy
            have hb := hbd n (List.mem_of_getElem? hnj)
            subst hu; subst hy
            have : (((UInt8.ofNat n.toNat).toNat : Nat) : Int) = n := by
             rw [UInt8.toNat_ofNat']
             omega
            simp only [Rep, this]) (by simpa using hlen) (by unfold maxLen; omega)
        unfold Oper.wp
        have hr : (execOp a.eval o).run P w = .ok (.value (.slice (some ⟨w.heap.size, 0, none⟩) len len)) (w.alloc (.cells (ns.map (Value.int .u8)).toArray e)) := by
         simp only [execOp, hop, Sem.run_bind, hrun, Result.andThen_ok, Sem.run_pure]
        rw [hr, Oper.upon_value]
        exact hk _ _ _ _ h hs'
       ·exact h.elim
   ·exact h.elim
  ·unfold vbuildG at h
   split at h
   ·rename_i e hu
    split at h
    ·exact h.elim
    ·rename_i i hi
     split at h
     ·exact h.elim
     ·rename_i z hz
      split at h
      ·exact h.elim
      ·rename_i cs hcs
       split at h
       ·exact h.elim
       ·rename_i c hc
        split at h
        ·rename_i hcond
         obtain ⟨hpos, hmax⟩ := hcond
         have hrep0 : RepL ρ (List.replicate (len * i.size) V.undef) ((Array.range (len * i.size)).map (z.cells[· % z.cells.size]!)).toList := by
          refine RepL.of (by simp) fun j u y hu' _ => ?_
          rw [List.getElem?_replicate] at hu'
          split at hu'
          ·injection hu' with hu'; subst hu'; simp [Rep]
          ·cases hu'
         obtain ⟨out, hfill, hout⟩ := fillV_sound (evParts_fst st a parts.toList) (evParts_rep hs.slots parts.toList) hrep0 hcs
         have hfill' := fill_more (g := fun i' => some (i' * i.size, i.size)) (fun j p hp => by rw [arrPlaces_get i.size len 0 j p hp, Nat.zero_add]) hfill
         have hrun := run_buildSlice (P := P) w t e len (parts.map fun p => (p.1, a.eval p.2)) out i z hu hi hz (by omega) (by omega) (by rw [Array.toList_map]; exact hfill')
         have hpk := packAny_toVs hc
         have hol : out.toList.length = len * i.size := by
          rw [<- hout.length, fillV_length hcs, List.length_replicate]
         obtain ⟨ρ', _, hs'⟩ := hs.rowG (w' := w.alloc (.cells out e)) o.dst (n := len) (cap := len) (cs := c) (cur := out.toList) (e := e) (kd := rowKind i.size)
          (Kind.rowOf_noarg (rowKind_rowOf i.size)) (Keep.alloc _ w _) (by
           have := heap_alloc_new w (.cells out e)
           rw [this]; simp [(Kind.rowOf_spec (rowKind_rowOf i.size)).1]) (by
           rw [hpk, hout.length, List.take_length]
           exact hout) (((Kind.rowOf_spec (rowKind_rowOf i.size)).2.2 _ _ _).2 ⟨hol, by
            have : len <= len * i.size := Nat.le_mul_of_pos_right len (Nat.pos_of_ne_zero (fun h0 => by rw [h0] at hpos; simp at hpos))
            unfold maxLen; omega⟩)
         unfold Oper.wp
         have hr : (execOp a.eval o).run P w = .ok (.value (.slice (some ⟨w.heap.size, 0, none⟩) len len)) (w.alloc (.cells out e)) := by
          simp only [execOp, hop, Sem.run_bind, hrun, Result.andThen_ok, Sem.run_pure]
         rw [hr, Oper.upon_value]
         exact hk _ _ _ _ h hs'
        ·exact h.elim
   ·exact h.elim
 ·rename_i t l m hop
  unfold vmake at h
  split at h
  ·rename_i q n q' c hl hm
   have hlv := hl ▸ rep_ev hs.slots l
   have hmv := hm ▸ rep_ev hs.slots m
   simp only [Rep] at hlv hmv
   split at h
   ·rename_i e hu
    split at h
    ·exact h.elim
    ·rename_i i hi
     split at h
     ·exact h.elim
     ·rename_i z hz
      split at h
      ·split at h
       ·split at h
        ·split at h
         ·exact h.elim
         ·rename_i sh hsh
          replace h := withSize_spec h
          split at h
          ·rename_i hcond
           obtain ⟨hzs, hby⟩ := hcond
           obtain ⟨⟨h0, h1, h2⟩, h⟩ := h
           have hb : (i.bytes : Int) * c <= 281474976710656 := by
            have : (i.bytes : Int) * c <= 64 * c := Int.mul_le_mul_of_nonneg_right (by omega) (by omega)
            omega
           have hrun := run_make (P := P) (w := w) t e i z hu hi hz q q' n c h0 h1 hb (by omega)
           obtain ⟨hsl, hsr⟩ := shZ_spec hsh
           have hss : sh.length = i.size := by rw [<- hsl, Array.length_toList, hzs]
           have hnc : n.toNat * i.size <= c.toNat * i.size := Nat.mul_le_mul_right _ (by omega)
           have hml : (madeCells z.cells (c.toNat * i.size)).toList.length = c.toNat * i.size := by simp [madeCells]
           obtain ⟨ρ', _, hs'⟩ := hs.rowG (w' := w.alloc (.cells (madeCells z.cells (c.toNat * i.size)) e)) o.dst (n := n.toNat) (cap := c.toNat) (cs := .recs sh (List.replicate (n.toNat * i.size) ⟨0, []⟩)) (cur := (madeCells z.cells (c.toNat * i.size)).toList) (e := e) (kd := rowKind i.size)
            (Kind.rowOf_noarg (rowKind_rowOf i.size)) (Keep.alloc _ w _) (by
             have := heap_alloc_new w (.cells (madeCells z.cells (c.toNat * i.size)) e)
             rw [this]; simp [(Kind.rowOf_spec (rowKind_rowOf i.size)).1]) (by
             simp only [Cells.toVs, recV_length, List.length_replicate]
             refine RepL.of (by rw [recV_length, List.length_replicate, List.length_take, hml]; omega) fun j u y hu' hy => ?_
             have hj := (List.getElem?_eq_some_iff.1 hu').1
             rw [recV_length, List.length_replicate] at hj
             rw [recV_get, List.getElem?_replicate, if_pos hj, Nat.zero_add] at hu'
             injection hu' with hu'
             rw [List.getElem?_take, if_pos hj] at hy
             have hpos : 0 < i.size := by
              rcases Nat.eq_zero_or_pos i.size with h9 | h9
              ·rw [h9, Nat.mul_zero] at hj; omega
              ·exact h9
             have hmod : j % sh.length < sh.length := Nat.mod_lt _ (by omega)
             obtain ⟨x, hx1, hx2⟩ := hsr ρ (j % sh.length) _ (getD_some (d := Sh.str) hmod)
             have hlt : j % z.cells.size < z.cells.size := by rw [hzs, <- hss]; exact hmod
             have hyx : y = x := by
              have h7 : (madeCells z.cells (c.toNat * i.size)).toList[j]? = some (z.cells[j % z.cells.size]!) := by simp [madeCells, show j < c.toNat * i.size by omega]
              rw [h7] at hy
              injection hy with hy
              rw [<- hy, getElem!_pos z.cells _ hlt]
              have h8 : z.cells.toList[j % z.cells.size]? = some x := by rw [hzs, <- hss]; exact hx1
              rw [List.getElem?_eq_getElem (by simpa using hlt)] at h8
              injection h8
             rw [hyx, <- hu']
             exact hx2) (((Kind.rowOf_spec (rowKind_rowOf i.size)).2.2 _ _ _).2 ⟨by rw [hml], by unfold maxLen; omega⟩)
           unfold Oper.wp
           have hr : (execOp a.eval o).run P w = .ok (.value (.slice (some ⟨w.heap.size, 0, none⟩) n.toNat c.toNat)) (w.alloc (.cells (madeCells z.cells (c.toNat * i.size)) e)) := by
            simp only [execOp, hop, hlv, hmv, Sem.run_bind, hrun, Result.andThen_ok, Sem.run_pure]
           rw [hr, Oper.upon_value]
           exact hk _ _ _ _ h hs'
          ·exact h.elim
        ·rename_i kd et hmz
         split at h
         ·rename_i hcond
          obtain ⟨hsz, hby⟩ := hcond
          obtain ⟨⟨h0, h1, h2⟩, h⟩ := h
          have hb : (i.bytes : Int) * c <= 281474976710656 := by
           have : (i.bytes : Int) * c <= 64 * c := Int.mul_le_mul_of_nonneg_right (by omega) (by omega)
           omega
          have hrun := run_make (P := P) (w := w) t e i z hu hi hz q q' n c h0 h1 hb (by omega)
          have hz0 := matZero_spec hmz
          subst hz0
          have hml : (madeCells (Value.slice none 0 0).cells (c.toNat * i.size)).toList = List.replicate c.toNat (Value.slice none 0 0) := by
           rw [hsz, Nat.mul_one]
           exact toList_madeCells_same (by decide) (fun x hx => by simpa [Value.cells] using hx) _
          obtain ⟨ρ', _, hs'⟩ := hs.matNew (w' := w.alloc (.cells (madeCells (Value.slice none 0 0).cells (c.toNat * i.size)) e)) o.dst (n := n.toNat) (cap := c.toNat) (kd := kd) (et := et) (cur := List.replicate c.toNat (Value.slice none 0 0)) (e := e)
           (Keep.alloc _ w _) (by
            have := heap_alloc_new w (.cells (madeCells (Value.slice none 0 0).cells (c.toNat * i.size)) e)
            rw [this, <- hml]) (fun j hj => by rw [List.getElem?_replicate, if_pos (by omega)]) (by simp) (by unfold maxLen; omega)
          unfold Oper.wp
          have hr : (execOp a.eval o).run P w = .ok (.value (.slice (some ⟨w.heap.size, 0, none⟩) n.toNat c.toNat)) (w.alloc (.cells (madeCells (Value.slice none 0 0).cells (c.toNat * i.size)) e)) := by
           simp only [execOp, hop, hlv, hmv, Sem.run_bind, hrun, Result.andThen_ok, Sem.run_pure]
          rw [hr, Oper.upon_value]
          exact hk _ _ _ _ h hs'
         ·exact h.elim
       ·rename_i kd hkd
        replace h := withSize_spec h
        split at h
        ·rename_i hcond
         obtain ⟨hzs, hby⟩ := hcond
         obtain ⟨⟨h0, h1, h2⟩, h⟩ := h
         have hb : (i.bytes : Int) * c <= 281474976710656 := by
          have : (i.bytes : Int) * c <= 64 * c := Int.mul_le_mul_of_nonneg_right (by omega) (by omega)
          omega
         have hrun := run_make (P := P) (w := w) t e i z hu hi hz q q' n c h0 h1 hb (by omega)
         have hz0 := zeroKind_spec hkd
         have hml : (madeCells z.cells (c.toNat * i.size)).toList = List.replicate (c.toNat * i.size) (Value.int kd 0) := toList_madeCells_same (by rw [hzs]; exact Nat.pos_of_ne_zero fun h0 => hz0.1 (by rw [<- List.length_eq_zero_iff, Array.length_toList, hzs, h0])) (fun x hx => hz0.2 x hx) _
         have hnc : n.toNat * i.size <= c.toNat * i.size := Nat.mul_le_mul_right _ (by omega)
         obtain ⟨ρ', _, hs'⟩ := hs.rowG (w' := w.alloc (.cells (madeCells z.cells (c.toNat * i.size)) e)) o.dst (n := n.toNat) (cap := c.toNat) (cs := .ints kd (List.replicate (n.toNat * i.size) 0)) (cur := List.replicate (c.toNat * i.size) (Value.int kd 0)) (e := e) (kd := rowKind i.size)
          (Kind.rowOf_noarg (rowKind_rowOf i.size)) (Keep.alloc _ w _) (by
           have := heap_alloc_new w (.cells (madeCells z.cells (c.toNat * i.size)) e)
           rw [this, <- hml]; simp [(Kind.rowOf_spec (rowKind_rowOf i.size)).1]) (by
           simp only [Cells.toVs, List.length_replicate, List.map_replicate, List.take_replicate, Nat.min_eq_left hnc]
           exact RepL.of (by simp) fun j u y hu hy => by
            simp only [List.getElem?_replicate] at hu hy
            split at hu
            ·rename_i hlt
             rw [if_pos hlt] at hy
             injection hu with hu; injection hy with hy
             subst hu; subst hy; rfl
            ·cases hu) (((Kind.rowOf_spec (rowKind_rowOf i.size)).2.2 _ _ _).2 ⟨by simp, by unfold maxLen; omega⟩)
         unfold Oper.wp
         have hr : (execOp a.eval o).run P w = .ok (.value (.slice (some ⟨w.heap.size, 0, none⟩) n.toNat c.toNat)) (w.alloc (.cells (madeCells z.cells (c.toNat * i.size)) e)) := by
          simp only [execOp, hop, hlv, hmv, Sem.run_bind, hrun, Result.andThen_ok, Sem.run_pure]
         rw [hr, Oper.upon_value]
         exact hk _ _ _ _ h hs'
        ·exact h.elim
      ·rename_i cs hcs
       split at h
       ·rename_i hcond
        obtain ⟨hsz, hby⟩ := hcond
        obtain ⟨⟨h0, h1, h2⟩, h⟩ := h
        have hb : (i.bytes : Int) * c <= 281474976710656 := by
         have : (i.bytes : Int) * c <= 64 * c := Int.mul_le_mul_of_nonneg_right (by omega) (by omega)
         omega
        have hrun := run_make (P := P) (w := w) t e i z hu hi hz q q' n c h0 h1 hb (by omega)
        have hone : ∃ v : V, cs.toVs = List.replicate n.toNat v /\ z.cells = #[z] /\ Rep ρ v z := by
         unfold zerosOf at hcs
         split at hcs
         ·injection hcs with hcs; subst hcs; exact ⟨.int .u8 0, by simp [Cells.toVs], rfl, rfl⟩
         ·rename_i kd _
          injection hcs with hcs; subst hcs; exact ⟨.int kd 0, by simp only [Cells.toVs, List.map_replicate], rfl, rfl⟩
         ·split at hcs
          ·rename_i s hs0
           injection hcs with hcs; subst hcs
           refine ⟨.str [], by simp [Cells.toVs], rfl, ?_⟩
           have : s = ofL [] := by
            obtain ⟨⟨l⟩⟩ := s
            have : l = [] := List.eq_nil_of_length_eq_zero (by simpa [ByteArray.size] using hs0)
            subst this; rfl
           rw [this]; rfl
          ·cases hcs
         ·split at hcs
          ·injection hcs with hcs; subst hcs; exact ⟨.bool false, by simp [Cells.toVs], rfl, rfl⟩
          ·cases hcs
         ·cases hcs
        obtain ⟨v, hv, hzc, hzr⟩ := hone
        rw [hzc, hsz, Nat.mul_one] at hrun
        have hml : (madeCells #[z] c.toNat).toList = List.replicate c.toNat z := toList_madeCells_one z c.toNat
        obtain ⟨ρ', _, hs'⟩ := hs.row (w' := w.alloc (.cells (madeCells #[z] c.toNat) e)) o.dst (n := n.toNat) (cap := c.toNat) (cs := cs) (cur := List.replicate c.toNat z) (e := e) (kd := .row)
         (Keep.alloc _ w _) (by
          have := heap_alloc_new w (.cells (madeCells #[z] c.toNat) e)
          rw [this, <- hml]; simp [frz]) (by simp) (by
          rw [hv, List.length_replicate, List.take_replicate, Nat.min_eq_left (by omega)]
          exact RepL.of (by simp) fun i u y hu hy => by
           simp only [List.getElem?_replicate] at hu hy
           split at hu
           ·rename_i hlt
            rw [if_pos hlt] at hy
            injection hu with hu; injection hy with hy
            subst hu; subst hy; exact hzr
           ·cases hu) (by simp) (by unfold maxLen; omega)
        unfold Oper.wp
        have hr : (execOp a.eval o).run P w = .ok (.value (.slice (some ⟨w.heap.size, 0, none⟩) n.toNat c.toNat)) (w.alloc (.cells (madeCells #[z] c.toNat) e)) := by
         simp only [execOp, hop, hlv, hmv, Sem.run_bind, hrun, Result.andThen_ok, Sem.run_pure]
        rw [hr, Oper.upon_value]
        exact hk _ _ _ _ h hs'
       ·exact h.elim
   ·exact h.elim
  ·exact h.elim
 ·rename_i t r hop
  split at h
  ·rename_i kt et kd n hu he
   have hrv := he ▸ rep_ev hs.slots r
   simp only [Rep] at hrv
   obtain ⟨ρ', _, hs'⟩ := hs.newMap o.dst t
   unfold Oper.wp
   have hr : (execOp a.eval o).run P w = .ok (.value (.map (some w.heap.size))) (w.alloc (.map #[] 0)) := by
    simp only [execOp, hop, Instr.makeMap, Option.map_some, hrv, Sem.run_bind, run_underlying hu, Result.andThen_ok, asInt, asIntOf, Sem.run_pure]
    rfl
   rw [hr, Oper.upon_value]
   exact hk _ _ _ _ h hs'
  ·exact h.elim
 ·rename_i t hop
  obtain ⟨ρ', _, hs'⟩ := hs.newMap o.dst t
  unfold Oper.wp
  have hr : (execOp a.eval o).run P w = .ok (.value (.map (some w.heap.size))) (w.alloc (.map #[] 0)) := by
   simp only [execOp, hop, Instr.makeMap, Option.map_none, Sem.run_bind, Sem.run_pure]
   rfl
  rw [hr, Oper.upon_value]
  exact hk _ _ _ _ h hs'
 ·rename_i t m i x hop
  obtain ⟨mem, w', hkm, hrun, hs'⟩ := vmapPut_sound hs (rep_ev hs.slots m) (rep_ev hs.slots i) (rep_ev hs.slots x) h
  unfold Oper.wp
  have hr : (execOp a.eval o).run P w = .ok .skip w' := by
   simp only [execOp, hop, Sem.run_bind, hrun, Result.andThen_ok, Sem.run_pure]
  rw [hr, Oper.upon_skip]
  exact hk _ _ _ _ hkm (hs'.put _ (by simp [Rep]))
 ·rename_i t m i hop
  obtain ⟨v, hv, hg⟩ := vmapGet_sound h (rep_ev hs.slots m) (rep_ev hs.slots i)
  obtain ⟨x, hx, hxr⟩ := hg w hs.mem
  unfold Oper.wp
  have hr : (execOp a.eval o).run P w = .ok (.value x) w := by
   simp only [execOp, hop, Sem.run_bind, hx, Result.andThen_ok, Sem.run_pure]
  rw [hr, Oper.upon_value]
  exact hk _ _ _ _ hv (hs.put _ hxr)
 ·rename_i t x hop
  split at h
  ·rename_i s he
   split at h
   ·rename_i hu
    have hrv := he ▸ rep_ev hs.slots x
    simp only [Rep] at hrv
    obtain ⟨ρ', _, hs'⟩ := hs.newIter o.dst t s
    unfold Oper.wp
    have hr : (execOp a.eval o).run P w = .ok (.value (.pointer (some ⟨w.heap.size, 0, none⟩))) (w.alloc (.stringIter (ofL s) 0)) := by
     simp only [execOp, hop, hrv, Sem.run_bind, run_range_str hu, Result.andThen_ok, Sem.run_pure]
    rw [hr, Oper.upon_value]
    exact hk _ _ _ _ h hs'
   ·exact h.elim
  ·rename_i b he
   obtain ⟨v, mem, xv, w', ρ', hkm, hrun, _, hxr, hs'⟩ := vrangeMap_sound (P := P) hs (he ▸ rep_ev hs.slots x) h
   unfold Oper.wp
   have hr : (execOp a.eval o).run P w = .ok (.value xv) w' := by
    simp only [execOp, hop, Sem.run_bind, hrun, Result.andThen_ok, Sem.run_pure]
   rw [hr, Oper.upon_value]
   exact hk _ _ _ _ hkm (hs'.put _ hxr)
  ·exact h.elim
 ·rename_i it hop
  obtain ⟨v, mem, x, hkm, hrun, hxr, hs'⟩ := ventry_sound (P := P) hs (rep_ev hs.slots it) h
  unfold Oper.wp
  have hr : (execOp a.eval o).run P w = .ok (.value x) w := by
   simp only [execOp, hop, Sem.run_bind, hrun, Result.andThen_ok, Sem.run_pure]
  rw [hr, Oper.upon_value]
  exact hk _ _ _ _ hkm (hs'.put _ hxr)
 ·rename_i it hop
  obtain ⟨v, mem, x, w', hkm, hrun, hxr, hs'⟩ := vnextMap_sound (P := P) hs (rep_ev hs.slots it) o.type h
  unfold Oper.wp
  have hr : (execOp a.eval o).run P w = .ok (.value x) w' := by
   simp only [execOp, hop, Sem.run_bind, hrun, Result.andThen_ok, Sem.run_pure]
  rw [hr, Oper.upon_value]
  exact hk _ _ _ _ hkm (hs'.put _ hxr)
 ·rename_i it hop
  obtain ⟨v, mem, x, w', hkm, hrun, hxr, hs'⟩ := vnext_sound (P := P) hs (rep_ev hs.slots it) o.type h
  unfold Oper.wp
  have hr : (execOp a.eval o).run P w = .ok (.value x) w' := by
   simp only [execOp, hop, Sem.run_bind, hrun, Result.andThen_ok, Sem.run_pure]
  rw [hr, Oper.upon_value]
  exact hk _ _ _ _ hkm (hs'.put _ hxr)
 ·exact plain h

/-- What a skipped operation leaves. -/
theorem rep_skip (ρ : List Place) : Rep ρ (.tup []) undef := by
 simp only [Rep, RepL]
 exact ⟨[], rfl, rfl⟩
/-- The guard. -/
theorem vguard_sound {all : Array Oper} {o : Oper} {st : St} {k : Bool -> St -> Prop} (h : vguard all o st k) {D : List Deferred} {W : Nat -> Prop} {w0 : World} {ρ0 : List Place} {ρ : List Place} {a : Act} {w : World} (hs : SRel D W w0 ρ0 ρ st a w) :
  ∃ b st', k b st' /\ SRel D W w0 ρ0 ρ st' a w /\ Region.wanted o (yielded all a.tmps) = b := by
 unfold vguard at h
 split at h
 ·rename_i hg
  exact ⟨true, st, h, hs, by simp [Region.wanted, hg]⟩
 ·rename_i j want hg
  split at h
  ·exact h.elim
  ·rename_i oj hj
   split at h
   ·exact h.elim
   ·rename_i d hd
    have key : ∀ b, Rep ρ (st.get d) (.bool b) -> (∀ x, a.tmps[d]? = some x -> x = .bool b) -> st.get d ≠ .undef -> Region.wanted o (yielded all a.tmps) = (b == want) := by
     intro b _ hx hne
     have hlt : d < st.slots.length := by
      rcases Nat.lt_or_ge d st.slots.length with h' | h'
      ·exact h'
      ·exact absurd (by simp [St.get, List.getElem?_eq_none h']) hne
     have hlt' : d < a.tmps.size := by rw [hs.slots.length] at hlt; simpa using hlt
     have hy : a.tmps[d]? = some (.bool b) := by
      rw [Array.getElem?_eq_getElem hlt']
      rw [hx _ (Array.getElem?_eq_getElem hlt')]
     have hyy : yielded all a.tmps j = some b := by simp [yielded, hj, hd, hy]
     simp [Region.wanted, hg, hyy]
    have rep : ∀ x, a.tmps[d]? = some x -> Rep ρ (st.get d) x := by
     intro x hx
     have hr := rep_ev hs.slots (.tmp d)
     simp only [ev, Act.eval, Array.getD_eq_getD_getElem?, hx, Option.getD_some] at hr
     exact hr
    split at h
    ·rename_i b he
     refine ⟨_, st, h, hs, key b (by rw [he]; rfl) (fun x hx => ?_) (by rw [he]; exact fun h => by cases h)⟩
     have := rep x hx
     rw [he] at this
     simpa [Rep] using this
    ·rename_i b he
     have hx : ∀ x, a.tmps[d]? = some x -> x = .bool b := fun x hx => by
      have := rep x hx
      rw [he] at this
      simpa [Rep] using this
     have hw := key b (by rw [he]; rfl) hx (by rw [he]; exact fun h => by cases h)
     cases b with
     | true => exact ⟨_, _, h.1 rfl, hs.setSlot (fun x hy => by rw [hx x hy]; rfl), hw⟩
     | false => exact ⟨_, _, h.2 rfl, hs.setSlot (fun x hy => by rw [hx x hy]; rfl), hw⟩
    ·rename_i cs he
     split at h
     ·refine ⟨_, st, h, hs, ?_⟩
      have hyy : yielded all a.tmps j = none := by
       unfold yielded
       simp only [hj, Option.bind_some, hd]
       cases hx : a.tmps[d]? with
       | none => rfl
       | some x =>
        have := rep x hx
        rw [he] at this
        simp only [Rep, RepL] at this
        obtain ⟨xs, rfl, rfl⟩ := this
        rfl
      simp [Region.wanted, hg, hyy]
     ·exact h.elim
    ·exact h.elim

theorem vops_sound (hΩ : ∀ f, OK P f (Ω f)) {all : Array Oper} {Q : Exit -> Act -> World -> Prop} {D : List Deferred} {W : Nat -> Prop} {w0 : World} {ρ0 : List Place} {k : St -> Prop} (hk : ∀ st' a' w' ρ', k st' -> SRel D W w0 ρ0 ρ' st' a' w' -> Q .normal a' w') :
  ∀ (l : List Oper) (st : St) (a : Act) (w : World) (ρ : List Place), vops P Ω all l st k -> SRel D W w0 ρ0 ρ st a w -> wpList P all Q l a w
 | [], st, a, w, ρ, h, hs => wpList_nil (hk _ _ _ _ h hs)
 | o :: r, st, a, w, ρ, h, hs => by
  simp only [vops] at h
  replace h := St.force_spec h
  obtain ⟨b, st', hb, hs', hw⟩ := vguard_sound h hs
  refine wpList_step fun K hK => ?_
  rw [hw]
  cases b with
  | true =>
   simp only [if_true]
   exact vop_sound hΩ hb hs' fun st'' a'' w'' ρ'' hk'' hs'' => hK _ _ (vops_sound hΩ hk r st'' a'' w'' ρ'' hk'' hs'')
  | false =>
   simp only [Bool.false_eq_true, if_false]
   exact hK _ _ (vops_sound hΩ hk r _ _ w ρ hb (hs'.put o.dst (rep_skip ρ)))

/-! ### a weaker state -/
mutual
theorem leV_rep {ρ : List Place} : ∀ {v u : V} {x : Value}, leV v u -> Rep ρ v x -> Rep ρ u x
 | v, .undef, x, _, _ => by simp [Rep]
 | .int k n, .int k' n', x, h, hr => by
  simp only [leV] at h
  have e := of_decide_eq_true (chkB_spec h.1)
  rw [<- e, <- h.2]; exact hr
 | .bool b, .bool b', x, h, hr => by simp only [leV] at h; subst h; exact hr
 | .lit b, .bool b', x, h, hr => by simp only [leV] at h; subst h; simpa [Rep] using hr
 | .lit b, .lit b', x, h, hr => by simp only [leV] at h; subst h; exact hr
 | .bool b, .lit b', x, h, hr => by simp only [leV] at h; subst h; simpa [Rep] using hr
 | .str s, .str s', x, h, hr => by simp only [leV] at h; subst h; exact hr
 | .ptr b o, .ptr b' o', x, h, hr => by simp only [leV] at h; obtain ⟨rfl, rfl⟩ := h; exact hr
 | .nilp, .nilp, x, _, hr => hr
 | .raw _, .raw _, x, h, hr => by simp only [leV] at h; subst h; exact hr
 | .row b n, .row b' n', x, h, hr => by simp only [leV] at h; obtain ⟨rfl, rfl⟩ := h; exact hr
 | .fn f c, .fn f' c', x, h, hr => by simp only [leV] at h; obtain ⟨rfl, rfl⟩ := h; exact hr
 | .mp b, .mp b', x, h, hr => by simp only [leV] at h; subst h; exact hr
 | .arr n l, .arr n' l', x, h, hr => by
  simp only [leV] at h
  have e := Nat.eq_of_beq_eq_true (chkB_spec h.1)
  rw [<- e, <- h.2]; exact hr
 | .agg cs, .agg cs', x, h, hr => by
  simp only [leV] at h
  simp only [Rep] at hr ⊢
  obtain ⟨xs, e, hl⟩ := hr
  exact ⟨xs, e, leL_rep h hl⟩
 | .tup cs, .tup cs', x, h, hr => by
  simp only [leV] at h
  simp only [Rep] at hr ⊢
  obtain ⟨xs, e, hl⟩ := hr
  exact ⟨xs, e, leL_rep h hl⟩
 | .inr b i n, .inr b' i' n', x, h, hr => by simp only [leV] at h; obtain ⟨rfl, rfl, rfl⟩ := h; exact hr
 | .view b o sz n q, .view b' o' sz' n' q', x, h, hr => by simp only [leV] at h; obtain ⟨rfl, rfl, rfl, rfl, rfl⟩ := h; exact hr
 | .sub b o n m, .sub b' o' n' m', x, h, hr => by
  simp only [leV] at h
  have e := chkB_spec h.2.1
  simp only [Bool.and_eq_true] at e
  have e1 := Nat.eq_of_beq_eq_true e.1
  have e2 := Nat.eq_of_beq_eq_true e.2
  rw [<- e1, <- e2, <- h.1, <- h.2.2]; exact hr
 | .emp, .emp, x, _, hr => hr
 | .gp g o, .gp g' o', x, h, hr => by
  simp only [leV] at h
  have e := chkB_spec h
  simp only [Bool.and_eq_true] at e
  rw [<- Nat.eq_of_beq_eq_true e.1, <- Nat.eq_of_beq_eq_true e.2]; exact hr
 | .undef, .int _ _, _, h, _ | .undef, .bool _, _, h, _ | .undef, .lit _, _, h, _ | .undef, .str _, _, h, _ | .undef, .ptr _ _, _, h, _ | .undef, .nilp, _, h, _ | .undef, .raw _, _, h, _ | .undef, .row _ _, _, h, _ | .undef, .fn _ _, _, h, _ | .undef, .mp _, _, h, _ | .undef, .arr _ _, _, h, _ | .undef, .elt _ _ _ _, _, h, _ | .undef, .sub _ _ _ _, _, h, _ | .undef, .inr _ _ _, _, h, _ | .undef, .iptr _ _ _, _, h, _ | .undef, .view _ _ _ _ _, _, h, _ | .undef, .emp, _, h, _ | .undef, .agg _, _, h, _ | .undef, .tup _, _, h, _ | .undef, .gp _ _, _, h, _ => by simp [leV] at h
 | .int _ _, .bool _, _, h, _ | .int _ _, .lit _, _, h, _ | .int _ _, .str _, _, h, _ | .int _ _, .ptr _ _, _, h, _ | .int _ _, .nilp, _, h, _ | .int _ _, .raw _, _, h, _ | .int _ _, .row _ _, _, h, _ | .int _ _, .fn _ _, _, h, _ | .int _ _, .mp _, _, h, _ | .int _ _, .arr _ _, _, h, _ | .int _ _, .elt _ _ _ _, _, h, _ | .int _ _, .sub _ _ _ _, _, h, _ | .int _ _, .inr _ _ _, _, h, _ | .int _ _, .iptr _ _ _, _, h, _ | .int _ _, .view _ _ _ _ _, _, h, _ | .int _ _, .emp, _, h, _ | .int _ _, .agg _, _, h, _ | .int _ _, .tup _, _, h, _ | .int _ _, .gp _ _, _, h, _ => by simp [leV] at h
 | .bool _, .int _ _, _, h, _ | .bool _, .str _, _, h, _ | .bool _, .ptr _ _, _, h, _ | .bool _, .nilp, _, h, _ | .bool _, .raw _, _, h, _ | .bool _, .row _ _, _, h, _ | .bool _, .fn _ _, _, h, _ | .bool _, .mp _, _, h, _ | .bool _, .arr _ _, _, h, _ | .bool _, .elt _ _ _ _, _, h, _ | .bool _, .sub _ _ _ _, _, h, _ | .bool _, .inr _ _ _, _, h, _ | .bool _, .iptr _ _ _, _, h, _ | .bool _, .view _ _ _ _ _, _, h, _ | .bool _, .emp, _, h, _ | .bool _, .agg _, _, h, _ | .bool _, .tup _, _, h, _ | .bool _, .gp _ _, _, h, _ => by simp [leV] at h
 | .lit _, .int _ _, _, h, _ | .lit _, .str _, _, h, _ | .lit _, .ptr _ _, _, h, _ | .lit _, .nilp, _, h, _ | .lit _, .raw _, _, h, _ | .lit _, .row _ _, _, h, _ | .lit _, .fn _ _, _, h, _ | .lit _, .mp _, _, h, _ | .lit _, .arr _ _, _, h, _ | .lit _, .elt _ _ _ _, _, h, _ | .lit _, .sub _ _ _ _, _, h, _ | .lit _, .inr _ _ _, _, h, _ | .lit _, .iptr _ _ _, _, h, _ | .lit _, .view _ _ _ _ _, _, h, _ | .lit _, .emp, _, h, _ | .lit _, .agg _, _, h, _ | .lit _, .tup _, _, h, _ | .lit _, .gp _ _, _, h, _ => by simp [leV] at h
 | .str _, .int _ _, _, h, _ | .str _, .bool _, _, h, _ | .str _, .lit _, _, h, _ | .str _, .ptr _ _, _, h, _ | .str _, .nilp, _, h, _ | .str _, .raw _, _, h, _ | .str _, .row _ _, _, h, _ | .str _, .fn _ _, _, h, _ | .str _, .mp _, _, h, _ | .str _, .arr _ _, _, h, _ | .str _, .elt _ _ _ _, _, h, _ | .str _, .sub _ _ _ _, _, h, _ | .str _, .inr _ _ _, _, h, _ | .str _, .iptr _ _ _, _, h, _ | .str _, .view _ _ _ _ _, _, h, _ | .str _, .emp, _, h, _ | .str _, .agg _, _, h, _ | .str _, .tup _, _, h, _ | .str _, .gp _ _, _, h, _ => by simp [leV] at h
 | .ptr _ _, .int _ _, _, h, _ | .ptr _ _, .bool _, _, h, _ | .ptr _ _, .lit _, _, h, _ | .ptr _ _, .str _, _, h, _ | .ptr _ _, .nilp, _, h, _ | .ptr _ _, .raw _, _, h, _ | .ptr _ _, .row _ _, _, h, _ | .ptr _ _, .fn _ _, _, h, _ | .ptr _ _, .mp _, _, h, _ | .ptr _ _, .arr _ _, _, h, _ | .ptr _ _, .elt _ _ _ _, _, h, _ | .ptr _ _, .sub _ _ _ _, _, h, _ | .ptr _ _, .inr _ _ _, _, h, _ | .ptr _ _, .iptr _ _ _, _, h, _ | .ptr _ _, .view _ _ _ _ _, _, h, _ | .ptr _ _, .emp, _, h, _ | .ptr _ _, .agg _, _, h, _ | .ptr _ _, .tup _, _, h, _ | .ptr _ _, .gp _ _, _, h, _ => by simp [leV] at h
 | .nilp, .int _ _, _, h, _ | .nilp, .bool _, _, h, _ | .nilp, .lit _, _, h, _ | .nilp, .str _, _, h, _ | .nilp, .ptr _ _, _, h, _ | .nilp, .raw _, _, h, _ | .nilp, .row _ _, _, h, _ | .nilp, .fn _ _, _, h, _ | .nilp, .mp _, _, h, _ | .nilp, .arr _ _, _, h, _ | .nilp, .elt _ _ _ _, _, h, _ | .nilp, .sub _ _ _ _, _, h, _ | .nilp, .inr _ _ _, _, h, _ | .nilp, .iptr _ _ _, _, h, _ | .nilp, .view _ _ _ _ _, _, h, _ | .nilp, .emp, _, h, _ | .nilp, .agg _, _, h, _ | .nilp, .tup _, _, h, _ | .nilp, .gp _ _, _, h, _ => by simp [leV] at h
 | .raw _, .int _ _, _, h, _ | .raw _, .bool _, _, h, _ | .raw _, .lit _, _, h, _ | .raw _, .str _, _, h, _ | .raw _, .ptr _ _, _, h, _ | .raw _, .nilp, _, h, _ | .raw _, .row _ _, _, h, _ | .raw _, .fn _ _, _, h, _ | .raw _, .mp _, _, h, _ | .raw _, .arr _ _, _, h, _ | .raw _, .elt _ _ _ _, _, h, _ | .raw _, .sub _ _ _ _, _, h, _ | .raw _, .inr _ _ _, _, h, _ | .raw _, .iptr _ _ _, _, h, _ | .raw _, .view _ _ _ _ _, _, h, _ | .raw _, .emp, _, h, _ | .raw _, .agg _, _, h, _ | .raw _, .tup _, _, h, _ | .raw _, .gp _ _, _, h, _ => by simp [leV] at h
 | .row _ _, .int _ _, _, h, _ | .row _ _, .bool _, _, h, _ | .row _ _, .lit _, _, h, _ | .row _ _, .str _, _, h, _ | .row _ _, .ptr _ _, _, h, _ | .row _ _, .nilp, _, h, _ | .row _ _, .raw _, _, h, _ | .row _ _, .fn _ _, _, h, _ | .row _ _, .mp _, _, h, _ | .row _ _, .arr _ _, _, h, _ | .row _ _, .elt _ _ _ _, _, h, _ | .row _ _, .sub _ _ _ _, _, h, _ | .row _ _, .inr _ _ _, _, h, _ | .row _ _, .iptr _ _ _, _, h, _ | .row _ _, .view _ _ _ _ _, _, h, _ | .row _ _, .emp, _, h, _ | .row _ _, .agg _, _, h, _ | .row _ _, .tup _, _, h, _ | .row _ _, .gp _ _, _, h, _ => by simp [leV] at h
 | .fn _ _, .int _ _, _, h, _ | .fn _ _, .bool _, _, h, _ | .fn _ _, .lit _, _, h, _ | .fn _ _, .str _, _, h, _ | .fn _ _, .ptr _ _, _, h, _ | .fn _ _, .nilp, _, h, _ | .fn _ _, .raw _, _, h, _ | .fn _ _, .row _ _, _, h, _ | .fn _ _, .mp _, _, h, _ | .fn _ _, .arr _ _, _, h, _ | .fn _ _, .elt _ _ _ _, _, h, _ | .fn _ _, .sub _ _ _ _, _, h, _ | .fn _ _, .inr _ _ _, _, h, _ | .fn _ _, .iptr _ _ _, _, h, _ | .fn _ _, .view _ _ _ _ _, _, h, _ | .fn _ _, .emp, _, h, _ | .fn _ _, .agg _, _, h, _ | .fn _ _, .tup _, _, h, _ | .fn _ _, .gp _ _, _, h, _ => by simp [leV] at h
 | .mp _, .int _ _, _, h, _ | .mp _, .bool _, _, h, _ | .mp _, .lit _, _, h, _ | .mp _, .str _, _, h, _ | .mp _, .ptr _ _, _, h, _ | .mp _, .nilp, _, h, _ | .mp _, .raw _, _, h, _ | .mp _, .row _ _, _, h, _ | .mp _, .fn _ _, _, h, _ | .mp _, .arr _ _, _, h, _ | .mp _, .elt _ _ _ _, _, h, _ | .mp _, .sub _ _ _ _, _, h, _ | .mp _, .inr _ _ _, _, h, _ | .mp _, .iptr _ _ _, _, h, _ | .mp _, .view _ _ _ _ _, _, h, _ | .mp _, .emp, _, h, _ | .mp _, .agg _, _, h, _ | .mp _, .tup _, _, h, _ | .mp _, .gp _ _, _, h, _ => by simp [leV] at h
 | .arr _ _, .int _ _, _, h, _ | .arr _ _, .bool _, _, h, _ | .arr _ _, .lit _, _, h, _ | .arr _ _, .str _, _, h, _ | .arr _ _, .ptr _ _, _, h, _ | .arr _ _, .nilp, _, h, _ | .arr _ _, .raw _, _, h, _ | .arr _ _, .row _ _, _, h, _ | .arr _ _, .fn _ _, _, h, _ | .arr _ _, .mp _, _, h, _ | .arr _ _, .elt _ _ _ _, _, h, _ | .arr _ _, .sub _ _ _ _, _, h, _ | .arr _ _, .inr _ _ _, _, h, _ | .arr _ _, .iptr _ _ _, _, h, _ | .arr _ _, .view _ _ _ _ _, _, h, _ | .arr _ _, .emp, _, h, _ | .arr _ _, .agg _, _, h, _ | .arr _ _, .tup _, _, h, _ | .arr _ _, .gp _ _, _, h, _ => by simp [leV] at h
 | .elt _ _ _ _, .int _ _, _, h, _ | .elt _ _ _ _, .bool _, _, h, _ | .elt _ _ _ _, .lit _, _, h, _ | .elt _ _ _ _, .str _, _, h, _ | .elt _ _ _ _, .ptr _ _, _, h, _ | .elt _ _ _ _, .nilp, _, h, _ | .elt _ _ _ _, .raw _, _, h, _ | .elt _ _ _ _, .row _ _, _, h, _ | .elt _ _ _ _, .fn _ _, _, h, _ | .elt _ _ _ _, .mp _, _, h, _ | .elt _ _ _ _, .arr _ _, _, h, _ | .elt _ _ _ _, .elt _ _ _ _, _, h, _ | .elt _ _ _ _, .sub _ _ _ _, _, h, _ | .elt _ _ _ _, .inr _ _ _, _, h, _ | .elt _ _ _ _, .iptr _ _ _, _, h, _ | .elt _ _ _ _, .view _ _ _ _ _, _, h, _ | .elt _ _ _ _, .emp, _, h, _ | .elt _ _ _ _, .agg _, _, h, _ | .elt _ _ _ _, .tup _, _, h, _ | .elt _ _ _ _, .gp _ _, _, h, _ => by simp [leV] at h
 | .sub _ _ _ _, .int _ _, _, h, _ | .sub _ _ _ _, .bool _, _, h, _ | .sub _ _ _ _, .lit _, _, h, _ | .sub _ _ _ _, .str _, _, h, _ | .sub _ _ _ _, .ptr _ _, _, h, _ | .sub _ _ _ _, .nilp, _, h, _ | .sub _ _ _ _, .raw _, _, h, _ | .sub _ _ _ _, .row _ _, _, h, _ | .sub _ _ _ _, .fn _ _, _, h, _ | .sub _ _ _ _, .mp _, _, h, _ | .sub _ _ _ _, .arr _ _, _, h, _ | .sub _ _ _ _, .elt _ _ _ _, _, h, _ | .sub _ _ _ _, .inr _ _ _, _, h, _ | .sub _ _ _ _, .iptr _ _ _, _, h, _ | .sub _ _ _ _, .view _ _ _ _ _, _, h, _ | .sub _ _ _ _, .emp, _, h, _ | .sub _ _ _ _, .agg _, _, h, _ | .sub _ _ _ _, .tup _, _, h, _ | .sub _ _ _ _, .gp _ _, _, h, _ => by simp [leV] at h
 | .inr _ _ _, .int _ _, _, h, _ | .inr _ _ _, .bool _, _, h, _ | .inr _ _ _, .lit _, _, h, _ | .inr _ _ _, .str _, _, h, _ | .inr _ _ _, .ptr _ _, _, h, _ | .inr _ _ _, .nilp, _, h, _ | .inr _ _ _, .raw _, _, h, _ | .inr _ _ _, .row _ _, _, h, _ | .inr _ _ _, .fn _ _, _, h, _ | .inr _ _ _, .mp _, _, h, _ | .inr _ _ _, .arr _ _, _, h, _ | .inr _ _ _, .elt _ _ _ _, _, h, _ | .inr _ _ _, .sub _ _ _ _, _, h, _ | .inr _ _ _, .iptr _ _ _, _, h, _ | .inr _ _ _, .view _ _ _ _ _, _, h, _ | .inr _ _ _, .emp, _, h, _ | .inr _ _ _, .agg _, _, h, _ | .inr _ _ _, .tup _, _, h, _ | .inr _ _ _, .gp _ _, _, h, _ => by simp [leV] at h
 | .iptr _ _ _, .int _ _, _, h, _ | .iptr _ _ _, .bool _, _, h, _ | .iptr _ _ _, .lit _, _, h, _ | .iptr _ _ _, .str _, _, h, _ | .iptr _ _ _, .ptr _ _, _, h, _ | .iptr _ _ _, .nilp, _, h, _ | .iptr _ _ _, .raw _, _, h, _ | .iptr _ _ _, .row _ _, _, h, _ | .iptr _ _ _, .fn _ _, _, h, _ | .iptr _ _ _, .mp _, _, h, _ | .iptr _ _ _, .arr _ _, _, h, _ | .iptr _ _ _, .elt _ _ _ _, _, h, _ | .iptr _ _ _, .sub _ _ _ _, _, h, _ | .iptr _ _ _, .inr _ _ _, _, h, _ | .iptr _ _ _, .iptr _ _ _, _, h, _ | .iptr _ _ _, .view _ _ _ _ _, _, h, _ | .iptr _ _ _, .emp, _, h, _ | .iptr _ _ _, .agg _, _, h, _ | .iptr _ _ _, .tup _, _, h, _ | .iptr _ _ _, .gp _ _, _, h, _ => by simp [leV] at h
 | .view _ _ _ _ _, .int _ _, _, h, _ | .view _ _ _ _ _, .bool _, _, h, _ | .view _ _ _ _ _, .lit _, _, h, _ | .view _ _ _ _ _, .str _, _, h, _ | .view _ _ _ _ _, .ptr _ _, _, h, _ | .view _ _ _ _ _, .nilp, _, h, _ | .view _ _ _ _ _, .raw _, _, h, _ | .view _ _ _ _ _, .row _ _, _, h, _ | .view _ _ _ _ _, .fn _ _, _, h, _ | .view _ _ _ _ _, .mp _, _, h, _ | .view _ _ _ _ _, .arr _ _, _, h, _ | .view _ _ _ _ _, .elt _ _ _ _, _, h, _ | .view _ _ _ _ _, .sub _ _ _ _, _, h, _ | .view _ _ _ _ _, .inr _ _ _, _, h, _ | .view _ _ _ _ _, .iptr _ _ _, _, h, _ | .view _ _ _ _ _, .emp, _, h, _ | .view _ _ _ _ _, .agg _, _, h, _ | .view _ _ _ _ _, .tup _, _, h, _ | .view _ _ _ _ _, .gp _ _, _, h, _ => by simp [leV] at h
 | .emp, .int _ _, _, h, _ | .emp, .bool _, _, h, _ | .emp, .lit _, _, h, _ | .emp, .str _, _, h, _ | .emp, .ptr _ _, _, h, _ | .emp, .nilp, _, h, _ | .emp, .raw _, _, h, _ | .emp, .row _ _, _, h, _ | .emp, .fn _ _, _, h, _ | .emp, .mp _, _, h, _ | .emp, .arr _ _, _, h, _ | .emp, .elt _ _ _ _, _, h, _ | .emp, .sub _ _ _ _, _, h, _ | .emp, .inr _ _ _, _, h, _ | .emp, .iptr _ _ _, _, h, _ | .emp, .view _ _ _ _ _, _, h, _ | .emp, .agg _, _, h, _ | .emp, .tup _, _, h, _ | .emp, .gp _ _, _, h, _ => by simp [leV] at h
 | .gp _ _, .int _ _, _, h, _ | .gp _ _, .bool _, _, h, _ | .gp _ _, .lit _, _, h, _ | .gp _ _, .str _, _, h, _ | .gp _ _, .ptr _ _, _, h, _ | .gp _ _, .nilp, _, h, _ | .gp _ _, .raw _, _, h, _ | .gp _ _, .row _ _, _, h, _ | .gp _ _, .fn _ _, _, h, _ | .gp _ _, .mp _, _, h, _ | .gp _ _, .arr _ _, _, h, _ | .gp _ _, .elt _ _ _ _, _, h, _ | .gp _ _, .sub _ _ _ _, _, h, _ | .gp _ _, .inr _ _ _, _, h, _ | .gp _ _, .iptr _ _ _, _, h, _ | .gp _ _, .view _ _ _ _ _, _, h, _ | .gp _ _, .agg _, _, h, _ | .gp _ _, .tup _, _, h, _ | .gp _ _, .emp, _, h, _ => by simp [leV] at h
 | .agg _, .int _ _, _, h, _ | .agg _, .bool _, _, h, _ | .agg _, .lit _, _, h, _ | .agg _, .str _, _, h, _ | .agg _, .ptr _ _, _, h, _ | .agg _, .nilp, _, h, _ | .agg _, .raw _, _, h, _ | .agg _, .row _ _, _, h, _ | .agg _, .fn _ _, _, h, _ | .agg _, .mp _, _, h, _ | .agg _, .arr _ _, _, h, _ | .agg _, .elt _ _ _ _, _, h, _ | .agg _, .sub _ _ _ _, _, h, _ | .agg _, .inr _ _ _, _, h, _ | .agg _, .iptr _ _ _, _, h, _ | .agg _, .view _ _ _ _ _, _, h, _ | .agg _, .emp, _, h, _ | .agg _, .tup _, _, h, _ | .agg _, .gp _ _, _, h, _ => by simp [leV] at h
 | .tup _, .int _ _, _, h, _ | .tup _, .bool _, _, h, _ | .tup _, .lit _, _, h, _ | .tup _, .str _, _, h, _ | .tup _, .ptr _ _, _, h, _ | .tup _, .nilp, _, h, _ | .tup _, .raw _, _, h, _ | .tup _, .row _ _, _, h, _ | .tup _, .fn _ _, _, h, _ | .tup _, .mp _, _, h, _ | .tup _, .arr _ _, _, h, _ | .tup _, .elt _ _ _ _, _, h, _ | .tup _, .sub _ _ _ _, _, h, _ | .tup _, .inr _ _ _, _, h, _ | .tup _, .iptr _ _ _, _, h, _ | .tup _, .view _ _ _ _ _, _, h, _ | .tup _, .emp, _, h, _ | .tup _, .agg _, _, h, _ | .tup _, .gp _ _, _, h, _ => by simp [leV] at h
theorem leL_rep {ρ : List Place} : ∀ {vs us : List V} {xs : List Value}, leL vs us -> RepL ρ vs xs -> RepL ρ us xs
 | [], [], xs, _, hr => hr
 | v :: vs, u :: us, xs, h, hr => by
  simp only [leL] at h
  simp only [RepL] at hr ⊢
  obtain ⟨x, r, e, h1, h2⟩ := hr
  split at h
  ·exact ⟨x, r, e, by simp [Rep], leL_rep h h2⟩
  ·exact ⟨x, r, e, leV_rep h.1 h1, leL_rep h.2 h2⟩
 | [], _ :: _, _, h, _ => by simp [leL] at h
 | _ :: _, [], _, h, _ => by simp [leL] at h
end

theorem leMem_get : ∀ {m m' : List Blk}, leMem m m' -> m'.length <= m.length /\ ∀ (b : Nat) (c : Blk), m'[b]? = some c -> ∃ d, m[b]? = some d /\ d.elem = c.elem /\ d.kind = c.kind /\ leCells d.cs c.cs
 | m, [], _ => ⟨by simp, fun b c h => by simp at h⟩
 | d :: m, c :: m', h => by
  simp only [leMem] at h
  obtain ⟨⟨h12, h3⟩, h4⟩ := h
  have h12 := chkB_spec h12
  simp only [Bool.and_eq_true, decide_eq_true_eq] at h12
  have h1 : d.elem = c.elem := Nat.eq_of_beq_eq_true h12.1
  have h2 := h12.2
  obtain ⟨hl, hg⟩ := leMem_get h4
  refine ⟨by simpa using hl, fun b e hb => ?_⟩
  cases b with
  | zero => simp at hb; subst hb; exact ⟨d, rfl, h1, h2, h3⟩
  | succ b => simpa using hg b e (by simpa using hb)
 | [], _ :: _, h => by simp [leMem] at h

theorem leCells_live {c d : Cells} (h : leCells c d) (hd : d.isDead = false) : c.isDead = false := by
 cases c <;> cases d <;> simp [leCells, Cells.isDead] at h hd ⊢
theorem leCells_rep {ρ : List Place} {c d : Cells} (h : leCells c d) (hd : d.isDead = false) {xs : List Value} (hr : RepL ρ c.toVs xs) : RepL ρ d.toVs xs := by
 cases c <;> cases d <;> simp only [leCells, Cells.isDead, reduceCtorEq] at h hd
 ·exact leL_rep h hr
 ·obtain ⟨rfl, rfl⟩ := h; exact hr
 ·subst h; exact hr
 ·subst h; exact hr
 ·subst h; exact hr
 ·subst h; exact hr
 ·obtain ⟨h1, h2, rfl, h4⟩ := h
  have e := Nat.eq_of_beq_eq_true (chkB_spec h2)
  subst e
  simp only [Cells.toVs] at hr ⊢
  obtain ⟨y1, y2, rfl, r1, r2⟩ := RepL.split hr
  obtain ⟨y3, y4, rfl, r3, r4⟩ := RepL.split r1
  exact ((leL_rep h1 r3).append r4).append (leL_rep h4 r2)
 ·obtain ⟨h1, h2, rfl, h4⟩ := h
  have e := Nat.eq_of_beq_eq_true (chkB_spec h2)
  subst e
  simp only [Cells.toVs] at hr ⊢
  obtain ⟨y1, y2, rfl, r1, r2⟩ := RepL.split hr
  obtain ⟨y3, y4, rfl, r3, r4⟩ := RepL.split r1
  exact ((leL_rep h1 r3).append r4).append (leL_rep h4 r2)
 ·obtain ⟨h1, rfl⟩ := h
  have e := of_decide_eq_true (chkB_spec h1)
  subst e; exact hr
 ·exact hr
theorem leCells_mat {k : IntKind} {e : TypeId} {l : List (List Int)} {d : Cells} (h : leCells (.mat k e l) d) (hd : d.isDead = false) : d = .mat k e l := by
 cases d <;> simp only [leCells, Cells.isDead, reduceCtorEq] at h hd
 obtain ⟨h1, rfl⟩ := h
 have h1 := chkB_spec h1
 simp only [Bool.and_eq_true, decide_eq_true_eq] at h1
 obtain ⟨rfl, h2⟩ := h1
 rw [Nat.eq_of_beq_eq_true h2]
theorem leCells_map {l : List (V × V)} {d : Cells} (h : leCells (.map l) d) (hd : d.isDead = false) : d = .map l := by
 cases d <;> simp only [leCells, Cells.isDead, reduceCtorEq] at h hd
 subst h; rfl
theorem leL_length : ∀ {vs us : List V}, leL vs us -> vs.length = us.length
 | [], [], _ => rfl
 | _ :: vs, _ :: us, h => by
  simp only [leL] at h
  split at h
  ·simp [leL_length h]
  ·simp [leL_length h.2]
 | [], _ :: _, h => by simp [leL] at h
 | _ :: _, [], h => by simp [leL] at h
theorem leCells_length {c d : Cells} (h : leCells c d) (hd : d.isDead = false) : c.toVs.length = d.toVs.length := by
 cases c <;> cases d <;> simp only [leCells, Cells.isDead, reduceCtorEq] at h hd
 ·exact leL_length h
 ·obtain ⟨rfl, rfl⟩ := h; rfl
 ·subst h; rfl
 ·subst h; rfl
 ·subst h; rfl
 ·subst h; rfl
 ·obtain ⟨h1, h2, rfl, h4⟩ := h
  have e := Nat.eq_of_beq_eq_true (chkB_spec h2)
  subst e
  simp only [Cells.toVs, List.length_append, leL_length h1, leL_length h4]
 ·obtain ⟨h1, h2, rfl, h4⟩ := h
  have e := Nat.eq_of_beq_eq_true (chkB_spec h2)
  subst e
  simp only [Cells.toVs, List.length_append, leL_length h1, leL_length h4]
 ·obtain ⟨h1, rfl⟩ := h
  have e := of_decide_eq_true (chkB_spec h1)
  subst e; rfl
 ·rfl

theorem underL_append {n : Nat} : ∀ {a b : List V}, underL n (a ++ b) = (underL n a && underL n b)
 | [], b => by simp [underL]
 | v :: a, b => by simp only [List.cons_append, underL, underL_append, Bool.and_assoc]
theorem und_recV {n : Nat} (sh : List Sh) : ∀ (l : List Sc) (j : Nat), underL n (recV sh j l) = true
 | [], _ => rfl
 | c :: r, j => by
  have : ((shAt sh j).v c).under n = true := by cases shAt sh j <;> rfl
  simp only [recV, underL, this, und_recV sh r (j + 1), Bool.and_self]
theorem memUnder_get {n : Nat} : ∀ {m : List Blk} {b : Nat} {c : Blk}, memUnder n m = true -> m[b]? = some c -> underL n c.cs.toVs = true
 | [], b, c, _, h => by simp at h
 | d :: m, b, c, hu, h => by
  simp only [memUnder, Bool.and_eq_true] at hu
  cases b with
  | zero =>
   simp at h; subst h
   have h1 := hu.1
   cases hcs : d.cs with
   | vals vs => rw [hcs] at h1; exact h1
   | ints k l => simp only [Cells.toVs]; exact und_map _ (fun _ => rfl) l
   | bytes l => simp only [Cells.toVs]; exact und_map _ (fun _ => rfl) l
   | strs l => simp only [Cells.toVs]; exact und_map _ (fun _ => rfl) l
   | bools l => simp only [Cells.toVs]; exact und_map _ (fun _ => rfl) l
   | map l => rfl
   | mat _ _ _ => rfl
   | mix av k l z =>
    rw [hcs] at h1
    simp only [Bool.and_eq_true] at h1
    simp only [Cells.toVs, underL_append, h1.1, h1.2, Bool.and_true, Bool.true_and]
    exact und_map _ (fun _ => rfl) _
   | mixi av k l z =>
    rw [hcs] at h1
    simp only [Bool.and_eq_true] at h1
    simp only [Cells.toVs, underL_append, h1.1, h1.2, Bool.and_true, Bool.true_and]
    exact und_map _ (fun _ => rfl) _
   | recs sh l => simp only [Cells.toVs]; exact und_recV sh l 0
   | dead => rfl
  | succ b => exact memUnder_get hu.2 (by simpa using h)
where
 und_map {n : Nat} {α : Type} (f : α -> V) (hf : ∀ x, (f x).under n = true) : ∀ l : List α, underL n (l.map f) = true
  | [] => rfl
  | x :: l => by simp [underL, hf x, und_map f hf l]

/-- Less may be known of a state. -/
theorem SRel.le {D : List Deferred} {W : Nat -> Prop} {w0 : World} {ρ0 : List Place} {ρ : List Place} {st st' : St} {a : Act} {w : World} (hs : SRel D W w0 ρ0 ρ st a w) (h : leSt ρ0.length st st') : ∃ ρ', SRel D W w0 ρ0 ρ' st' a w := by
 obtain ⟨h1, h2, h3⟩ := h
 have h3 := chkB_spec h3
 simp only [Bool.and_eq_true] at h3
 obtain ⟨hn0, hu, hmu⟩ := h3
 obtain ⟨hlen, hget⟩ := leMem_get h2
 refine ⟨ρ.take st'.mem.length, ⟨(leL_rep h1 hs.slots).takeρ hu, hs.nodefer, ⟨?_, fun b c p hb hp => ?_, fun b b' c c' p p' hb hb' hp hp' hne hd hd' hg hg' haa => ?_⟩, hs.keep, fun j ⟨b, c, p, hb, hp, hd, hg, hQ, hj⟩ => ?_, ?_⟩⟩
 ·rw [List.length_take, hs.mem.len]; omega
 ·obtain ⟨d, hd, he, hr, hle⟩ := hget b c hb
  have hbl : b < st'.mem.length := (List.getElem?_eq_some_iff.1 hb).1
  rw [List.getElem?_take, if_pos hbl] at hp
  by_cases hdead : c.cs.isDead = true
  ·exact .inl hdead
  ·have hlive : c.cs.isDead = false := by simpa using hdead
   rcases hs.mem.blks b d p hd hp with h' | ⟨g1, g2, g3⟩ | ⟨g1, cur, hc, hrep, hsz, hoff, hka⟩ | ⟨g1, ha, cur, e, fz, hc, hrep, hroom⟩ | ⟨g1, ha, g0, l, o, hl, hc⟩ | ⟨g1, kd, et, l, hl, hc⟩
   ·rw [leCells_live hle hlive] at h'; cases h'
   ·refine .inr (.inl ⟨g1, hr ▸ g2, ?_, fun h => g3.2 (hr ▸ h)⟩)
    have := leCells_length hle hlive
    rw [g3.1] at this
    exact List.eq_nil_of_length_eq_zero this.symm
   ·have hll := leCells_length hle hlive
    refine .inr (.inr (.inl ⟨g1, cur, by rw [<- hr, <- he]; exact hc, ?_, ?_, hoff, hr ▸ hka⟩))
    ·rw [<- hll]
     exact (leCells_rep hle hlive hrep).takeρ (memUnder_get hmu hb)
    ·rw [<- hr, <- hll]; exact hsz
   ·have hll := leCells_length hle hlive
    refine .inr (.inr (.inr (.inl ⟨g1, hr ▸ ha, cur, e, fz, hc, ?_, by rw [<- hr, <- hll]; exact hroom⟩)))
    rw [<- hll]
    exact (leCells_rep hle hlive hrep).takeρ (memUnder_get hmu hb)
   ·exact .inr (.inr (.inr (.inr (.inl ⟨g1, hr ▸ ha, g0, l, o, leCells_map (hl ▸ hle) hlive, hc⟩))))
   ·refine .inr (.inr (.inr (.inr (.inr ⟨hr ▸ g1, kd, et, l, leCells_mat (hl ▸ hle) hlive, ?_⟩))))
    rw [<- hr, <- he]
    exact hc
 ·obtain ⟨d, hdm, _, hkd, hle⟩ := hget b c hb
  obtain ⟨d', hdm', _, hkd', hle'⟩ := hget b' c' hb'
  have hbl : b < st'.mem.length := (List.getElem?_eq_some_iff.1 hb).1
  have hbl' : b' < st'.mem.length := (List.getElem?_eq_some_iff.1 hb').1
  rw [List.getElem?_take, if_pos hbl] at hp
  rw [List.getElem?_take, if_pos hbl'] at hp'
  rw [<- foot_kind p hkd, <- foot_kind p' hkd']
  exact hs.mem.inj b b' d d' p p' hdm hdm' hp hp' hne (leCells_live hle hd) (leCells_live hle' hd') hg hg' (by rw [hkd, hkd']; exact haa)
 ·obtain ⟨d, hdm, _, hkd, hle⟩ := hget b c hb
  have hbl : b < st'.mem.length := (List.getElem?_eq_some_iff.1 hb).1
  rw [List.getElem?_take, if_pos hbl] at hp
  exact hs.own j ⟨b, d, p, hdm, hp, leCells_live hle hd, hg, by show d.kind.isArg = false; rw [hkd]; exact hQ, by rw [foot_kind p hkd]; exact hj⟩
 ·obtain ⟨t, ht⟩ := hs.pre
  have hn : ρ0.length <= st'.mem.length := by simpa using hn0
  rw [<- ht, List.take_append, List.take_of_length_le hn]
  exact List.prefix_append _ _

/-! ### blocks chosen anew -/
theorem isNilS_spec {v : V} (h : isNilS v = true) : v = .raw (.slice none 0 0) := by
 unfold isNilS at h
 split at h
 ·rfl
 ·cases h
mutual
theorem nilTo_rep {ρ : List Place} {g : Nat -> Bool} (G : ∀ b, g b = true -> ∃ p, ρ[b]? = some p /\ p.ghost = true /\ p.nil = none /\ p.cap = 0) : ∀ {v : V} (u : V) {x : Value}, Rep ρ v x -> Rep ρ (v.nilTo g u) x
 | v, u, x, h => by
  unfold V.nilTo
  split
  ·rename_i cs ds
   simp only [Rep] at h ⊢
   obtain ⟨xs, h1, h2⟩ := h
   exact ⟨xs, h1, nilToL_rep G ds h2⟩
  ·rename_i cs ds
   simp only [Rep] at h ⊢
   obtain ⟨xs, h1, h2⟩ := h
   exact ⟨xs, h1, nilToL_rep G ds h2⟩
  ·rename_i b n
   split
   ·rename_i hn hg
    have := isNilS_spec hn
    subst this
    simp only [Rep] at h ⊢
    obtain ⟨p, hp, hpg, hpn, hpc⟩ := G b hg
    exact ⟨p, hp, .inl ⟨hpg, by simp, by rw [hpn, hpc]; exact h⟩⟩
   ·exact h
  ·exact h
theorem nilToL_rep {ρ : List Place} {g : Nat -> Bool} (G : ∀ b, g b = true -> ∃ p, ρ[b]? = some p /\ p.ghost = true /\ p.nil = none /\ p.cap = 0) : ∀ {vs : List V} (us : List V) {xs : List Value}, RepL ρ vs xs -> RepL ρ (nilToL g vs us) xs
 | v :: vs, u :: us, xs, h => by
  simp only [RepL, nilToL] at h ⊢
  obtain ⟨x, r, h1, h2, h3⟩ := h
  exact ⟨x, r, h1, nilTo_rep G u h2, nilToL_rep G us h3⟩
 | [], us, xs, h => by unfold nilToL; exact h
 | _ :: _, [], xs, h => by unfold nilToL; exact h
end
theorem findSel_spec (n : Nat) : ∀ (σ : List (Option Nat)) (i c : Nat), findSel n σ i = some c -> i <= c /\ σ[c - i]? = some (some n)
 | [], i, c, h => by simp [findSel] at h
 | none :: r, i, c, h => by
  simp only [findSel] at h
  obtain ⟨h1, h2⟩ := findSel_spec n r (i + 1) c h
  refine ⟨by omega, ?_⟩
  rw [show c - i = (c - (i + 1)) + 1 by omega, List.getElem?_cons_succ]
  exact h2
 | some j :: r, i, c, h => by
  simp only [findSel] at h
  split at h
  ·rename_i hb
   injection h with h
   subst h
   have := Nat.eq_of_beq_eq_true hb
   subst this
   simp
  ·obtain ⟨h1, h2⟩ := findSel_spec n r (i + 1) c h
   refine ⟨by omega, ?_⟩
   rw [show c - i = (c - (i + 1)) + 1 by omega, List.getElem?_cons_succ]
   exact h2
theorem selMem_spec {τ : Nat -> Option Nat} {g : Nat -> Bool} {mem : List Blk} : ∀ {σ : List (Option Nat)} {hs m : List Blk}, selMem τ g mem σ hs = some m -> m.length = σ.length /\
  ∀ (i : Nat) (blk : Blk), m[i]? = some blk -> (∃ j b u, σ[i]? = some (some j) /\ mem[j]? = some b /\ blk = ⟨b.cs.selN τ g u, b.elem, b.kind⟩) \/ (∃ c : Cells, σ[i]? = some none /\ blk.cs = c.none0 /\ (blk.kind.isRow = true \/ (blk.kind = .mat /\ ∃ k e, blk.cs = .mat k e [])))
 | [], hs, m, h => by
  simp only [selMem, Option.some.injEq] at h
  subst h
  exact ⟨rfl, fun i blk hi => by simp at hi⟩
 | none :: r, [], m, h => by simp [selMem] at h
 | some _ :: r, [], m, h => by simp [selMem] at h
 | none :: r, hd :: hs, m, h => by
  unfold selMem at h
  split at h
  ·rename_i m' hk hm
   injection h with h
   subst h
   obtain ⟨h1, h2⟩ := selMem_spec hm
   refine ⟨by simp [h1], fun i blk hi => ?_⟩
   cases i with
   | zero =>
    simp only [List.getElem?_cons_zero, Option.some.injEq] at hi
    subst hi
    refine .inr ⟨hd.cs, rfl, rfl, ?_⟩
    rcases Bool.or_eq_true _ _ ▸ hk with hk | hk
    ·exact .inl hk
    ·unfold Blk.isOwnMat at hk
     split at hk
     ·rename_i h1 h2
      exact .inr ⟨h1, _, _, by show hd.cs.none0 = _; rw [h2]; rfl⟩
     ·cases hk
   | succ i => simpa using h2 i blk (by simpa using hi)
  ·cases h
 | some j :: r, hd :: hs, m, h => by
  unfold selMem at h
  split at h
  ·rename_i b m' hb hm
   injection h with h
   subst h
   obtain ⟨h1, h2⟩ := selMem_spec hm
   refine ⟨by simp [h1], fun i blk hi => ?_⟩
   cases i with
   | zero =>
    simp only [List.getElem?_cons_zero, Option.some.injEq] at hi
    subst hi
    exact .inl ⟨j, b, hd.cs, rfl, hb, rfl⟩
   | succ i => simpa using h2 i blk (by simpa using hi)
  ·cases h
theorem hasSel_spec (j : Nat) : ∀ {σ : List (Option Nat)}, hasSel j σ = false -> ∀ i : Nat, σ[i]? ≠ some (some j)
 | [], _, i => by simp
 | none :: r, h, i => by
  simp only [hasSel] at h
  cases i with
  | zero => simp
  | succ i => simpa using hasSel_spec j h i
 | some a :: r, h, i => by
  simp only [hasSel] at h
  split at h
  ·cases h
  ·rename_i hb
   cases i with
   | zero =>
    simp only [List.getElem?_cons_zero, ne_eq, Option.some.injEq]
    exact Nat.ne_of_beq_eq_false hb
   | succ i => simpa using hasSel_spec j h i
theorem nodupSel_spec : ∀ {σ : List (Option Nat)}, nodupSel σ = true -> ∀ {i i' j : Nat}, σ[i]? = some (some j) -> σ[i']? = some (some j) -> i = i'
 | [], _, i, i', j, h, _ => by simp at h
 | none :: r, hn, i, i', j, h, h' => by
  simp only [nodupSel] at hn
  cases i with
  | zero => simp at h
  | succ i =>
   cases i' with
   | zero => simp at h'
   | succ i' => rw [nodupSel_spec hn (i := i) (i' := i') (j := j) (by simpa using h) (by simpa using h')]
 | some a :: r, hn, i, i', j, h, h' => by
  simp only [nodupSel, Bool.and_eq_true, Bool.not_eq_true'] at hn
  cases i with
  | zero =>
   simp only [List.getElem?_cons_zero, Option.some.injEq] at h
   subst h
   cases i' with
   | zero => rfl
   | succ i' => exact absurd (by simpa using h') (hasSel_spec a hn.1 i')
  | succ i =>
   cases i' with
   | zero =>
    simp only [List.getElem?_cons_zero, Option.some.injEq] at h'
    subst h'
    exact absurd (by simpa using h) (hasSel_spec a hn.1 i)
   | succ i' => rw [nodupSel_spec hn.2 (i := i) (i' := i') (j := j) (by simpa using h) (by simpa using h')]
theorem prefSel_spec : ∀ {n i : Nat} {σ : List (Option Nat)}, prefSel n i σ = true -> ∀ c : Nat, c < n -> σ[c]? = some (some (i + c))
 | 0, i, σ, _, c, hc => by omega
 | n + 1, i, [], h, c, hc => by simp [prefSel] at h
 | n + 1, i, none :: r, h, c, hc => by simp [prefSel] at h
 | n + 1, i, some j :: r, h, c, hc => by
  simp only [prefSel, Bool.and_eq_true] at h
  have := Nat.eq_of_beq_eq_true h.1
  subst this
  cases c with
  | zero => simp
  | succ c =>
   rw [List.getElem?_cons_succ, prefSel_spec h.2 c (by omega)]
   congr 2
   omega
def selρ (ρ : List Place) (σ : List (Option Nat)) : List Place := σ.map fun
 | some j => (ρ[j]?).getD ⟨0, 0, true, 0, none, []⟩
 | none => ⟨0, 0, true, 0, none, []⟩
theorem selN_dead {τ : Nat -> Option Nat} {g : Nat -> Bool} {c u : Cells} : (c.selN τ g u).isDead = c.isDead := by
 cases c <;> cases u <;> rfl
theorem nilToL_length (g : Nat -> Bool) : ∀ (vs us : List V), (nilToL g vs us).length = vs.length
 | v :: vs, u :: us => by simp [nilToL, nilToL_length g vs us]
 | [], us => by unfold nilToL; rfl
 | _ :: _, [] => by unfold nilToL; rfl
theorem selN_length {τ : Nat -> Option Nat} {g : Nat -> Bool} {c u : Cells} : (c.selN τ g u).toVs.length = c.toVs.length := by
 cases c <;> cases u <;> simp [Cells.selN, Cells.toVs, nilToL_length, selL_length]
theorem selN_rep {ρ ρ' : List Place} {τ : Nat -> Option Nat} {g : Nat -> Bool} (H : ∀ n c p, τ n = some c -> ρ[n]? = some p -> ρ'[c]? = some p) (G : ∀ b, g b = true -> ∃ p, ρ'[b]? = some p /\ p.ghost = true /\ p.nil = none /\ p.cap = 0) {c : Cells} (u : Cells) {xs : List Value} (h : RepL ρ c.toVs xs) :
  RepL ρ' (c.selN τ g u).toVs xs := by
 cases c with
 | vals vs => cases u <;> first | exact nilToL_rep G _ (selL_rep H h) | exact selL_rep H h
 | ints k l => exact h.closed (underL_map _ (fun _ => rfl) l)
 | bytes l => exact h.closed (underL_map _ (fun _ => rfl) l)
 | strs l => exact h.closed (underL_map _ (fun _ => rfl) l)
 | bools l => exact h.closed (underL_map _ (fun _ => rfl) l)
 | map l => exact h.closed rfl
 | mat _ _ _ => exact h.closed rfl
 | mix a n l z =>
  have h' : RepL ρ' (Cells.sel τ (.mix a n l z)).toVs xs := selCs_rep H h
  exact h'
 | mixi a n l z =>
  have h' : RepL ρ' (Cells.sel τ (.mixi a n l z)).toVs xs := selCs_rep H h
  exact h'
 | recs sh l => exact h.closed (recV_under sh l 0)
 | dead => exact h.closed rfl
theorem SRel.leSelA {D : List Deferred} {W : Nat -> Prop} {w0 : World} {ρ0 : List Place} {ρ : List Place} {st st' : St} {a : Act} {w : World} (hs : SRel D W w0 ρ0 ρ st a w) {σ : List (Option Nat)} (h : match selMem (fun n => findSel n σ 0) (isGhost σ) st.mem σ st'.mem with | none => False | some m => chkB (nodupSel σ && prefSel ρ0.length 0 σ) /\ leSt ρ0.length ⟨nilToL (isGhost σ) (selL (fun n => findSel n σ 0) st.slots) st'.slots, m⟩ st') : ∃ ρ', SRel D W w0 ρ0 ρ' st' a w := by
 split at h
 ·exact h.elim
 ·rename_i m hm
  obtain ⟨hb, h⟩ := h
  have hb := chkB_spec hb
  simp only [Bool.and_eq_true] at hb
  obtain ⟨hnd, hpf⟩ := hb
  obtain ⟨hml, hmg⟩ := selMem_spec hm
  have hsome : ∀ c j : Nat, σ[c]? = some (some j) -> (selρ ρ σ)[c]? = some ((ρ[j]?).getD (⟨0, 0, true, 0, none, []⟩ : Place)) := fun c j hc => by
   simp only [selρ, List.getElem?_map, hc, Option.map_some]
  have hnone : ∀ c : Nat, σ[c]? = some none -> (selρ ρ σ)[c]? = some (⟨0, 0, true, 0, none, []⟩ : Place) := fun c hc => by
   simp only [selρ, List.getElem?_map, hc, Option.map_some]
  have H : ∀ n c p, (fun n => findSel n σ 0) n = some c -> ρ[n]? = some p -> (selρ ρ σ)[c]? = some p := fun n c p hc hp => by
   have := (findSel_spec n σ 0 c hc).2
   rw [Nat.sub_zero] at this
   rw [hsome c n this, hp]
   rfl
  have G : ∀ b, isGhost σ b = true -> ∃ p, (selρ ρ σ)[b]? = some p /\ p.ghost = true /\ p.nil = none /\ p.cap = 0 := fun b hb => by
   unfold isGhost at hb
   split at hb
   ·rename_i hc
    exact ⟨_, hnone b hc, rfl, rfl, rfl⟩
   ·cases hb
  have place : ∀ {i j : Nat} {b : Blk} {p : Place}, σ[i]? = some (some j) -> st.mem[j]? = some b -> (selρ ρ σ)[i]? = some p -> ρ[j]? = some p := fun {i j b p} hi hj hp => by
   rw [hsome i j hi] at hp
   have hjl : j < ρ.length := by rw [hs.mem.len]; exact (List.getElem?_eq_some_iff.1 hj).1
   rw [List.getElem?_eq_getElem hjl] at hp ⊢
   simpa using hp
  refine SRel.le (ρ := selρ ρ σ) (st := ⟨nilToL (isGhost σ) (selL (fun n => findSel n σ 0) st.slots) st'.slots, m⟩) ⟨nilToL_rep G _ (selL_rep H hs.slots), hs.nodefer, ⟨by simp [selρ, hml], fun i blk p hi hp => ?_, fun i i' blk blk' p p' hi hi' hp hp' hne hd hd' hg hg' haa => ?_⟩, hs.keep, fun k hk => ?_, ?_⟩ h
  ·rcases hmg i blk hi with ⟨j, b, u, hj, hbj, rfl⟩ | ⟨c, hj, hc, hr⟩
   ·have hpj := place hj hbj hp
    rcases hs.mem.blks j b p hbj hpj with h1 | ⟨h1, h2, h3⟩ | ⟨h1, cur, hcur, hrep, hsz, ho⟩ | ⟨h1, ha, cur, e, fz, hcur, hrep, hroom⟩ | ⟨h1, ha, h0, l, o, hl, hcur⟩ | ⟨h1, kd, et, l, hl, hcur⟩
    ·exact .inl (by rw [selN_dead]; exact h1)
    ·refine .inr (.inl ⟨h1, h2, List.eq_nil_of_length_eq_zero ?_, h3.2⟩)
     rw [selN_length, h3.1]; rfl
    ·refine .inr (.inr (.inl ⟨h1, cur, hcur, ?_, ?_, ho⟩))
     ·simp only [selN_length]
      exact selN_rep H G u hrep
     ·simp only [selN_length]
      exact hsz
    ·refine .inr (.inr (.inr (.inl ⟨h1, ha, cur, e, fz, hcur, ?_, by simp only [selN_length]; exact hroom⟩)))
     simp only [selN_length]
     exact selN_rep H G u hrep
    ·exact .inr (.inr (.inr (.inr (.inl ⟨h1, ha, h0, l, o, by simp only [hl]; rfl, hcur⟩))))
    ·exact .inr (.inr (.inr (.inr (.inr ⟨h1, kd, et, l, by simp only [hl]; rfl, hcur⟩))))
   ·rw [hnone i hj] at hp
    injection hp with hp
    subst hp
    rcases hr with hr | ⟨hr, k0, e0, hcm⟩
    ·exact .inr (.inl ⟨rfl, hr, by rw [hc, none0_toVs], fun _ => ⟨rfl, rfl⟩⟩)
    ·exact .inr (.inr (.inr (.inr (.inr ⟨by rw [hr]; rfl, k0, e0, [], hcm, rfl, (fun i s hs => by cases hs), .inl ⟨rfl, rfl, fun _ => ⟨rfl, rfl⟩⟩⟩))))
  ·rcases hmg i blk hi with ⟨j, b, u, hj, hbj, rfl⟩ | ⟨c, hj, _, _⟩
   ·rcases hmg i' blk' hi' with ⟨j', b', u', hj', hbj', rfl⟩ | ⟨c', hj', _, _⟩
    ·rw [selN_dead] at hd hd'
     refine hs.mem.inj j j' b b' p p' hbj hbj' (place hj hbj hp) (place hj' hbj' hp') (fun e => hne ?_) hd hd' hg hg' haa
     subst e
     exact nodupSel_spec hnd hj hj'
    ·rw [hnone i' hj'] at hp'
     injection hp' with hp'
     subst hp'
     cases hg'
   ·rw [hnone i hj] at hp
    injection hp with hp
    subst hp
    cases hg
  ·obtain ⟨i, blk, p, hi, hp, hd, hg, hQ, hkf⟩ := hk
   rcases hmg i blk hi with ⟨j, b, u, hj, hbj, rfl⟩ | ⟨c, hj, _, _⟩
   ·rw [selN_dead] at hd
    exact hs.own _ ⟨j, b, p, hbj, place hj hbj hp, hd, hg, hQ, hkf⟩
   ·rw [hnone i hj] at hp
    injection hp with hp
    subst hp
    cases hg
  ·rw [List.prefix_iff_eq_take]
   apply List.ext_getElem?
   intro c
   rw [List.getElem?_take]
   by_cases hc : c < ρ0.length
   ·rw [if_pos hc, hsome c c (by have := prefSel_spec hpf c hc; rwa [Nat.zero_add] at this)]
    have h0 := List.getElem?_eq_getElem hc
    rw [h0, getElem?_pre hs.pre h0]
    rfl
   ·rw [if_neg hc, List.getElem?_eq_none (by omega)]
theorem liveSel_spec : ∀ {σ : List (Option Nat)} {hs : List Blk} {c n : Nat}, (liveSel σ hs)[c]? = some (some n) -> σ[c]? = some (some n)
 | some j :: r, h :: hs, c, n, hc => by
  unfold liveSel at hc
  cases c with
  | zero =>
   simp only [List.getElem?_cons_zero, Option.some.injEq] at hc ⊢
   cases hd : h.cs.isDead <;> simp [hd] at hc
   rw [hc]
  | succ c => simpa using liveSel_spec (by simpa using hc)
 | none :: r, h :: hs, c, n, hc => by
  unfold liveSel at hc
  cases c with
  | zero => simp at hc
  | succ c => simpa using liveSel_spec (by simpa using hc)
 | [], [], c, n, hc => by simp [liveSel] at hc
 | _ :: _, [], c, n, hc => by simpa [liveSel] using hc
 | [], _ :: _, c, n, hc => by simp [liveSel] at hc
theorem selMemD_spec {τ : Nat -> Option Nat} {g : Nat -> Bool} {mem : List Blk} : ∀ {σ : List (Option Nat)} {hs m : List Blk}, selMemD τ g mem σ hs = some m -> m.length = σ.length /\
  ∀ (i : Nat) (blk : Blk), m[i]? = some blk -> (∃ j b u, σ[i]? = some (some j) /\ mem[j]? = some b /\ blk = ⟨b.cs.selN τ g u, b.elem, b.kind⟩) \/ (∃ c : Cells, σ[i]? = some none /\ blk.cs = c.none0 /\ (blk.kind.isRow = true \/ (blk.kind = .mat /\ ∃ k e, blk.cs = .mat k e []))) \/ (blk.cs.isDead = true /\ True)
 | [], hs, m, h => by
  simp only [selMemD, Option.some.injEq] at h
  subst h
  exact ⟨rfl, fun i blk hi => by simp at hi⟩
 | none :: r, [], m, h => by simp [selMemD] at h
 | some _ :: r, [], m, h => by simp [selMemD] at h
 | none :: r, hd :: hs, m, h => by
  unfold selMemD at h
  split at h
  ·rename_i m' hk hm
   injection h with h
   subst h
   obtain ⟨h1, h2⟩ := selMemD_spec hm
   refine ⟨by simp [h1], fun i blk hi => ?_⟩
   cases i with
   | zero =>
    simp only [List.getElem?_cons_zero, Option.some.injEq] at hi
    subst hi
    refine .inr (.inl ⟨hd.cs, rfl, rfl, ?_⟩)
    rcases Bool.or_eq_true _ _ ▸ hk with hk | hk
    ·exact .inl hk
    ·unfold Blk.isOwnMat at hk
     split at hk
     ·rename_i h1 h2
      exact .inr ⟨h1, _, _, by show hd.cs.none0 = _; rw [h2]; rfl⟩
     ·cases hk
   | succ i => simpa using h2 i blk (by simpa using hi)
  ·cases h
 | some j :: r, hd :: hs, m, h => by
  unfold selMemD at h
  split at h
  ·rename_i b m' hb hm
   injection h with h
   subst h
   obtain ⟨h1, h2⟩ := selMemD_spec hm
   refine ⟨by simp [h1], fun i blk hi => ?_⟩
   cases i with
   | zero =>
    simp only [List.getElem?_cons_zero, Option.some.injEq] at hi
    subst hi
    cases hdd : hd.cs.isDead with
    | true => exact .inr (.inr ⟨rfl, trivial⟩)
    | false => exact .inl ⟨j, b, hd.cs, rfl, hb, rfl⟩
   | succ i => simpa using h2 i blk (by simpa using hi)
  ·cases h
theorem liveOf {τ : Nat -> Option Nat} {g : Nat -> Bool} {mem : List Blk} : ∀ {σ : List (Option Nat)} {hs m : List Blk}, selMemD τ g mem σ hs = some m -> ∀ {i : Nat} {blk : Blk}, m[i]? = some blk -> blk.cs.isDead = false -> ∀ j, σ[i]? = some (some j) -> (liveSel σ hs)[i]? = some (some j)
 | [], hs, m, h, i, blk, hi, hd, j, hj => by simp at hj
 | none :: r, [], m, h, _, _, _, _, _, _ => by simp [selMemD] at h
 | some _ :: r, [], m, h, _, _, _, _, _, _ => by simp [selMemD] at h
 | none :: r, hb :: hs, m, h, i, blk, hi, hd, j, hj => by
  unfold selMemD at h
  split at h
  ·rename_i m' hk hm
   injection h with h
   subst h
   cases i with
   | zero => simp at hj
   | succ i =>
    unfold liveSel
    simpa using liveOf hm (by simpa using hi) hd j (by simpa using hj)
  ·cases h
 | some a :: r, hb :: hs, m, h, i, blk, hi, hd, j, hj => by
  unfold selMemD at h
  split at h
  ·rename_i b m' hb' hm
   injection h with h
   subst h
   cases i with
   | zero =>
    simp only [List.getElem?_cons_zero, Option.some.injEq] at hi hj
    subst hi; subst hj
    unfold liveSel
    cases hdd : hb.cs.isDead with
    | true =>
     rw [hdd] at hd
     cases hd
    | false => simp
   | succ i =>
    unfold liveSel
    simpa using liveOf hm (by simpa using hi) hd j (by simpa using hj)
  ·cases h
theorem SRel.leSelD {D : List Deferred} {W : Nat -> Prop} {w0 : World} {ρ0 : List Place} {ρ : List Place} {st st' : St} {a : Act} {w : World} (hs : SRel D W w0 ρ0 ρ st a w) {σ : List (Option Nat)} (h : match selMemD (fun n => findSel n (liveSel σ st'.mem) 0) (isGhost σ) st.mem σ st'.mem with | none => False | some m => chkB (nodupSel (liveSel σ st'.mem) && prefSel ρ0.length 0 σ) /\ leSt ρ0.length ⟨nilToL (isGhost σ) (selL (fun n => findSel n (liveSel σ st'.mem) 0) st.slots) st'.slots, m⟩ st') : ∃ ρ', SRel D W w0 ρ0 ρ' st' a w := by
 split at h
 ·exact h.elim
 ·rename_i m hm
  obtain ⟨hb, h⟩ := h
  have hb := chkB_spec hb
  simp only [Bool.and_eq_true] at hb
  obtain ⟨hnd, hpf⟩ := hb
  obtain ⟨hml, hmg⟩ := selMemD_spec hm
  have hsome : ∀ c j : Nat, σ[c]? = some (some j) -> (selρ ρ σ)[c]? = some ((ρ[j]?).getD (⟨0, 0, true, 0, none, []⟩ : Place)) := fun c j hc => by
   simp only [selρ, List.getElem?_map, hc, Option.map_some]
  have hnone : ∀ c : Nat, σ[c]? = some none -> (selρ ρ σ)[c]? = some (⟨0, 0, true, 0, none, []⟩ : Place) := fun c hc => by
   simp only [selρ, List.getElem?_map, hc, Option.map_some]
  have H : ∀ n c p, (fun n => findSel n (liveSel σ st'.mem) 0) n = some c -> ρ[n]? = some p -> (selρ ρ σ)[c]? = some p := fun n c p hc hp => by
   have := (findSel_spec n (liveSel σ st'.mem) 0 c hc).2
   rw [Nat.sub_zero] at this
   rw [hsome c n (liveSel_spec this), hp]
   rfl
  have G : ∀ b, isGhost σ b = true -> ∃ p, (selρ ρ σ)[b]? = some p /\ p.ghost = true /\ p.nil = none /\ p.cap = 0 := fun b hb => by
   unfold isGhost at hb
   split at hb
   ·rename_i hc
    exact ⟨_, hnone b hc, rfl, rfl, rfl⟩
   ·cases hb
  have place : ∀ {i j : Nat} {b : Blk} {p : Place}, σ[i]? = some (some j) -> st.mem[j]? = some b -> (selρ ρ σ)[i]? = some p -> ρ[j]? = some p := fun {i j b p} hi hj hp => by
   rw [hsome i j hi] at hp
   have hjl : j < ρ.length := by rw [hs.mem.len]; exact (List.getElem?_eq_some_iff.1 hj).1
   rw [List.getElem?_eq_getElem hjl] at hp ⊢
   simpa using hp
  refine SRel.le (ρ := selρ ρ σ) (st := ⟨nilToL (isGhost σ) (selL (fun n => findSel n (liveSel σ st'.mem) 0) st.slots) st'.slots, m⟩) ⟨nilToL_rep G _ (selL_rep H hs.slots), hs.nodefer, ⟨by simp [selρ, hml], fun i blk p hi hp => ?_, fun i i' blk blk' p p' hi hi' hp hp' hne hd hd' hg hg' haa => ?_⟩, hs.keep, fun k hk => ?_, ?_⟩ h
  ·rcases hmg i blk hi with ⟨j, b, u, hj, hbj, rfl⟩ | ⟨c, hj, hc, hr⟩ | ⟨hdd, _⟩
   ·have hpj := place hj hbj hp
    rcases hs.mem.blks j b p hbj hpj with h1 | ⟨h1, h2, h3⟩ | ⟨h1, cur, hcur, hrep, hsz, ho⟩ | ⟨h1, ha, cur, e, fz, hcur, hrep, hroom⟩ | ⟨h1, ha, h0, l, o, hl, hcur⟩ | ⟨h1, kd, et, l, hl, hcur⟩
    ·exact .inl (by rw [selN_dead]; exact h1)
    ·refine .inr (.inl ⟨h1, h2, List.eq_nil_of_length_eq_zero ?_, h3.2⟩)
     rw [selN_length, h3.1]; rfl
    ·refine .inr (.inr (.inl ⟨h1, cur, hcur, ?_, ?_, ho⟩))
     ·simp only [selN_length]
      exact selN_rep H G u hrep
     ·simp only [selN_length]
      exact hsz
    ·refine .inr (.inr (.inr (.inl ⟨h1, ha, cur, e, fz, hcur, ?_, by simp only [selN_length]; exact hroom⟩)))
     simp only [selN_length]
     exact selN_rep H G u hrep
    ·exact .inr (.inr (.inr (.inr (.inl ⟨h1, ha, h0, l, o, by simp only [hl]; rfl, hcur⟩))))
    ·exact .inr (.inr (.inr (.inr (.inr ⟨h1, kd, et, l, by simp only [hl]; rfl, hcur⟩))))
   ·rw [hnone i hj] at hp
    injection hp with hp
    subst hp
    rcases hr with hr | ⟨hr, k0, e0, hcm⟩
    ·exact .inr (.inl ⟨rfl, hr, by rw [hc, none0_toVs], fun _ => ⟨rfl, rfl⟩⟩)
    ·exact .inr (.inr (.inr (.inr (.inr ⟨by rw [hr]; rfl, k0, e0, [], hcm, rfl, (fun i s hs => by cases hs), .inl ⟨rfl, rfl, fun _ => ⟨rfl, rfl⟩⟩⟩))))
   ·exact .inl hdd
  ·have hli := liveOf hm hi hd
   have hli' := liveOf hm hi' hd'
   rcases hmg i blk hi with ⟨j, b, u, hj, hbj, rfl⟩ | ⟨c, hj, _, _⟩ | ⟨hdd, _⟩
   ·rcases hmg i' blk' hi' with ⟨j', b', u', hj', hbj', rfl⟩ | ⟨c', hj', _, _⟩ | ⟨hdd, _⟩
    ·rw [selN_dead] at hd hd'
     refine hs.mem.inj j j' b b' p p' hbj hbj' (place hj hbj hp) (place hj' hbj' hp') (fun e => hne ?_) hd hd' hg hg' haa
     subst e
     exact nodupSel_spec hnd (hli _ hj) (hli' _ hj')
    ·rw [hnone i' hj'] at hp'
     injection hp' with hp'
     subst hp'
     cases hg'
    ·rw [hdd] at hd'
     cases hd'
   ·rw [hnone i hj] at hp
    injection hp with hp
    subst hp
    cases hg
   ·rw [hdd] at hd
    cases hd
  ·obtain ⟨i, blk, p, hi, hp, hd, hg, hQ, hkf⟩ := hk
   rcases hmg i blk hi with ⟨j, b, u, hj, hbj, rfl⟩ | ⟨c, hj, _, _⟩ | ⟨hdd, _⟩
   ·rw [selN_dead] at hd
    exact hs.own _ ⟨j, b, p, hbj, place hj hbj hp, hd, hg, hQ, hkf⟩
   ·rw [hnone i hj] at hp
    injection hp with hp
    subst hp
    cases hg
   ·rw [hdd] at hd
    cases hd
  ·rw [List.prefix_iff_eq_take]
   apply List.ext_getElem?
   intro c
   rw [List.getElem?_take]
   by_cases hc : c < ρ0.length
   ·rw [if_pos hc, hsome c c (by have := prefSel_spec hpf c hc; rwa [Nat.zero_add] at this)]
    have h0 := List.getElem?_eq_getElem hc
    rw [h0, getElem?_pre hs.pre h0]
    rfl
   ·rw [if_neg hc, List.getElem?_eq_none (by omega)]
theorem SRel.leSel {D : List Deferred} {W : Nat -> Prop} {w0 : World} {ρ0 : List Place} {ρ : List Place} {st st' : St} {a : Act} {w : World} (hs : SRel D W w0 ρ0 ρ st a w) {σ : List (Option Nat)} (h : leSelBy ρ0.length σ st st') : ∃ ρ', SRel D W w0 ρ0 ρ' st' a w := by
 unfold leSelBy at h
 split at h
 ·exact hs.leSelA h
 ·exact hs.leSelD h
theorem SRel.leAt {D : List Deferred} {W : Nat -> Prop} {w0 : World} {ρ0 : List Place} {ρ : List Place} {st st' : St} {a : Act} {w : World} (hs : SRel D W w0 ρ0 ρ st a w) {auto : Bool} (h : leAt ρ0.length auto st st') : ∃ ρ', SRel D W w0 ρ0 ρ' st' a w := by
 cases auto with
 | true => exact hs.leSel h
 | false => exact hs.le h

/-! ### a region whose order is open -/
mutual
theorem det_unique {ρ : List Place} : ∀ {v : V} {x y : Value}, v.det = true -> Rep ρ v x -> Rep ρ v y -> x = y
 | .undef, _, _, h, _, _ => by simp [V.det] at h
 | .emp, _, _, h, _, _ => by simp [V.det] at h
 | .gp g o, x, y, _, h, g' => by simp only [Rep] at h g'; rw [h, g']
 | .int k m, x, y, _, h, g => by simp only [Rep] at h g; rw [h, g]
 | .bool b, x, y, _, h, g => by simp only [Rep] at h g; rw [h, g]
 | .lit b, x, y, _, h, g => by simp only [Rep] at h g; rw [h, g]
 | .str s, x, y, _, h, g => by simp only [Rep] at h g; rw [h, g]
 | .nilp, x, y, _, h, g => by simp only [Rep] at h g; rw [h, g]
 | .raw _, x, y, _, h, g => by simp only [Rep] at h g; rw [h, g]
 | .ptr b o, x, y, _, h, g => by
  simp only [Rep] at h g
  obtain ⟨p, h1, h2⟩ := h
  obtain ⟨q, g1, g2⟩ := g
  rw [h1] at g1; injection g1 with g1; subst g1
  rw [h2, g2]
 | .mp b, x, y, _, h, g => by
  simp only [Rep] at h g
  obtain ⟨p, h1, h2⟩ := h
  obtain ⟨q, g1, g2⟩ := g
  rw [h1] at g1; injection g1 with g1; subst g1
  rw [h2, g2]
 | .arr _ _, x, y, _, h, g => by simp only [Rep] at h g; rw [h, g]
 | .elt b o n j, x, y, _, h, g => by
  simp only [Rep] at h g
  obtain ⟨_, p, h1, h2⟩ := h
  obtain ⟨_, q, g1, g2⟩ := g
  rw [h1] at g1; injection g1 with g1; subst g1
  rw [h2, g2]
 | .sub b o n m, x, y, _, h, g => by
  simp only [Rep] at h g
  obtain ⟨_, p, h1, h2⟩ := h
  obtain ⟨_, q, g1, g2⟩ := g
  rw [h1] at g1; injection g1 with g1; subst g1
  rw [h2, g2]
 | .row b n, x, y, _, h, g => by
  simp only [Rep] at h g
  obtain ⟨p, h1, h2⟩ := h
  obtain ⟨q, g1, g2⟩ := g
  rw [h1] at g1; injection g1 with g1; subst g1
  rcases h2 with ⟨e, _, h2⟩ | ⟨e, h2⟩ <;> rcases g2 with ⟨e', _, g2⟩ | ⟨e', g2⟩
  ·rw [h2, g2]
  ·rw [e] at e'; cases e'
  ·rw [e] at e'; cases e'
  ·rw [h2, g2]
 | .fn f caps, x, y, _, h, g => by
  simp only [Rep] at h g
  obtain ⟨ps, h1, h2⟩ := h
  obtain ⟨qs, g1, g2⟩ := g
  rw [h1] at g1
  have : ps = qs := List.map_inj_right (fun _ _ h => Option.some.inj h) |>.1 g1
  rw [h2, g2, this]
 | .inr b i n, x, y, _, h, g => by
  simp only [Rep] at h g
  obtain ⟨p, s, h1, h2, _, h3⟩ := h
  obtain ⟨q, u, g1, g2, _, g3⟩ := g
  rw [h1] at g1; injection g1 with g1; subst g1
  rw [h2] at g2; injection g2 with g2; subst g2
  rw [h3, g3]
 | .iptr b i j, x, y, _, h, g => by
  simp only [Rep] at h g
  obtain ⟨p, s, h1, h2, _, h3⟩ := h
  obtain ⟨q, u, g1, g2, _, g3⟩ := g
  rw [h1] at g1; injection g1 with g1; subst g1
  rw [h2] at g2; injection g2 with g2; subst g2
  rw [h3, g3]
 | .view b o sz n q, x, y, _, h, g => by
  simp only [Rep] at h g
  obtain ⟨p, h1, _, _, h3⟩ := h
  obtain ⟨q, g1, _, _, g3⟩ := g
  rw [h1] at g1; injection g1 with g1; subst g1
  rw [h3, g3]
 | .agg cs, x, y, hd, h, g => by
  simp only [Rep] at h g
  simp only [V.det] at hd
  obtain ⟨xs, h1, h2⟩ := h
  obtain ⟨ys, g1, g2⟩ := g
  rw [h1, g1, detL_unique hd h2 g2]
 | .tup cs, x, y, hd, h, g => by
  simp only [Rep] at h g
  simp only [V.det] at hd
  obtain ⟨xs, h1, h2⟩ := h
  obtain ⟨ys, g1, g2⟩ := g
  rw [h1, g1, detL_unique hd h2 g2]
theorem detL_unique {ρ : List Place} : ∀ {vs : List V} {xs ys : List Value}, detL vs = true -> RepL ρ vs xs -> RepL ρ vs ys -> xs = ys
 | [], xs, ys, _, h, g => by simp only [RepL] at h g; rw [h, g]
 | v :: vs, xs, ys, hd, h, g => by
  simp only [RepL] at h g
  simp only [detL, Bool.and_eq_true] at hd
  obtain ⟨x, r, h1, h2, h3⟩ := h
  obtain ⟨y, t, g1, g2, g3⟩ := g
  rw [h1, g1, det_unique hd.1 h2 g2, detL_unique hd.2 h3 g3]
end

/-- The worlds that the operations of such a region meet. -/
def Cls (W : Nat -> Prop) (w0 : World) (ρ : List Place) (mem : List Blk) (w : World) : Prop := MRel ρ mem w /\ Keep W w0 w

theorem allIn_spec {ns : List Nat} : ∀ {l : List Nat}, allIn ns l = true -> ∀ n ∈ l, ∃ c, posOf n ns 0 = some c
 | [], _, n, hn => by cases hn
 | a :: l, h, n, hn => by
  simp only [allIn, Bool.and_eq_true] at h
  rcases List.mem_cons.1 hn with rfl | hn
  ·exact posOf_has n ns 0 h.1
  ·exact allIn_spec h.2 n hn
theorem selCaps_back {τ σ : Nat -> Option Nat} : ∀ {l : List Nat}, (∀ n ∈ l, ∃ c, τ n = some c /\ σ c = some n) -> ∃ cs, selCaps τ l = some cs /\ selCaps σ cs = some l
 | [], _ => ⟨[], rfl, rfl⟩
 | n :: l, h => by
  obtain ⟨c, h1, h2⟩ := h n (by simp)
  obtain ⟨cs, h3, h4⟩ := selCaps_back (l := l) fun m hm => h m (by simp [hm])
  exact ⟨c :: cs, by simp [selCaps, h1, h3], by simp [selCaps, h2, h4]⟩
mutual
theorem sel_back {τ σ : Nat -> Option Nat} : ∀ {v : V}, (∀ n ∈ v.names, ∃ c, τ n = some c /\ σ c = some n) -> (v.sel τ).sel σ = v
 | .undef, _ | .int _ _, _ | .bool _, _ | .lit _, _ | .str _, _ | .nilp, _ | .raw _, _ | .arr _ _, _ | .emp, _ | .gp _ _, _ => rfl
 | .elt b _ _ _, h => by
  obtain ⟨c, h1, h2⟩ := h b (by simp [V.names])
  simp [V.sel, h1, h2]
 | .sub b _ _ _, h => by
  obtain ⟨c, h1, h2⟩ := h b (by simp [V.names])
  simp [V.sel, h1, h2]
 | .inr b _ _, h => by
  obtain ⟨c, h1, h2⟩ := h b (by simp [V.names])
  simp [V.sel, h1, h2]
 | .iptr b _ _, h => by
  obtain ⟨c, h1, h2⟩ := h b (by simp [V.names])
  simp [V.sel, h1, h2]
 | .view b _ _ _ _, h => by
  obtain ⟨c, h1, h2⟩ := h b (by simp [V.names])
  simp [V.sel, h1, h2]
 | .ptr b _, h => by
  obtain ⟨c, h1, h2⟩ := h b (by simp [V.names])
  simp [V.sel, h1, h2]
 | .row b _, h => by
  obtain ⟨c, h1, h2⟩ := h b (by simp [V.names])
  simp [V.sel, h1, h2]
 | .mp b, h => by
  obtain ⟨c, h1, h2⟩ := h b (by simp [V.names])
  simp [V.sel, h1, h2]
 | .fn _ caps, h => by
  obtain ⟨cs, h1, h2⟩ := selCaps_back (l := caps) h
  simp [V.sel, h1, h2]
 | .agg cs, h => by simp only [V.sel, selL_back (vs := cs) h]
 | .tup cs, h => by simp only [V.sel, selL_back (vs := cs) h]
theorem selL_back {τ σ : Nat -> Option Nat} : ∀ {vs : List V}, (∀ n ∈ namesL vs, ∃ c, τ n = some c /\ σ c = some n) -> selL σ (selL τ vs) = vs
 | [], _ => rfl
 | v :: vs, h => by
  simp only [selL, sel_back (v := v) fun n hn => h n (by simp [namesL, hn]), selL_back (vs := vs) fun n hn => h n (by simp [namesL, hn])]
end
theorem selBlk_back {τ σ : Nat -> Option Nat} {b : Blk} (h : ∀ n ∈ b.cs.names, ∃ c, τ n = some c /\ σ c = some n) : (b.sel τ).sel σ = b := by
 obtain ⟨cs, e, k⟩ := b
 cases cs with
 | vals vs => simp only [Blk.sel, Cells.sel, selL_back (vs := vs) h]
 | mix a n l z => simp only [Blk.sel, Cells.sel, selL_back (vs := a) fun n hn => h n (by simp [Cells.names, hn]), selL_back (vs := z) fun n hn => h n (by simp [Cells.names, hn])]
 | mixi a n l z => simp only [Blk.sel, Cells.sel, selL_back (vs := a) fun n hn => h n (by simp [Cells.names, hn]), selL_back (vs := z) fun n hn => h n (by simp [Cells.names, hn])]
 | _ => rfl
theorem coveredB_spec {ns : List Nat} : ∀ {m : List Blk}, coveredB ns m = true -> ∀ (i : Nat) (b : Blk), m[i]? = some b -> allIn ns b.cs.names = true
 | [], _, i, b, h => by simp at h
 | a :: r, hs, i, b, h => by
  simp only [coveredB, Bool.and_eq_true] at hs
  cases i with
  | zero => simp at h; subst h; exact hs.1
  | succ i => exact coveredB_spec hs.2 i b (by simpa using h)

theorem vqcall_sound {ex : List Nat} {f : FuncId} {F : FSpec} (hok : OK P f F.spec) {args : List V} {mem : List Blk} {k : V -> Prop} (h : vqcall ex F args mem k) {ρ : List Place} {xs : List Value} (hx : RepL ρ args xs) :
  ∃ R, k R /\ R.det = true /\ ∀ w, MRel ρ mem w -> (∀ ys w, (callFunc f ys).run P w = .ok (.enter f ys) w) /\
   Calls P f xs.toArray w fun e w' => ∃ x, e = .returned x /\ Rep ρ R x /\ MRel ρ mem w' /\ Keep (Names ρ mem) w w' := by
 unfold vqcall at h
 simp only at h
 have hnd : (addLive mem (reach mem 3 (addLive mem [] (namesL args))) ex).Nodup := addLive_nodup _ _ _ (reach_nodup _ _ _ (addLive_nodup _ _ _ (by simp)))
 generalize addLive mem (reach mem 3 (addLive mem [] (namesL args))) ex = ns at h hnd
 split at h
 ·exact h.elim
 ·rename_i m hpick
  split at h
  ·exact h.elim
  ·rename_i hcov
   split at h
   ·exact h.elim
   ·rename_i p R hF
    split at h
    ·rename_i hR
     simp only [Bool.and_eq_true] at hR
     refine ⟨R, h.2, hR.2, fun w hm => ?_⟩
     obtain ⟨hlen, hget⟩ := pickMem_spec hpick
     obtain ⟨ρl, hρl, hρ, hml, hnames, apart⟩ := handed hm hnd hpick
     have H : ∀ n c p, (fun n => posOf n ns 0) n = some c -> ρ[n]? = some p -> ρl[c]? = some p := fun n c p hc hp => by
      have := (posOf_spec n ns 0 c hc).2
      rw [Nat.sub_zero] at this
      rw [hρ c n this, hp]
     have hS : FSpec.spec F (selL (fun n => posOf n ns 0) args) (selBlks (fun n => posOf n ns 0) m) fun v m' => v = R /\ m' = selBlks (fun n => posOf n ns 0) m := by
      unfold FSpec.spec
      rw [hF]
      exact ⟨h.1, rfl, rfl⟩
     refine ⟨hok.enter _ _ _ hS, (hok.calls _ _ _ hS ρl w xs hml (selL_rep H hx)).mono fun e w' hE => ?_⟩
     obtain ⟨v, m', ρ', x, he, ⟨rfl, rfl⟩, hpre, hr, hm', hkeep, hown⟩ := hE
     have hl : ρ' = ρl := by
      obtain ⟨t, ht⟩ := hpre
      have h1 := hm'.len
      rw [<- ht, List.length_append, hml.len] at h1
      have : t = [] := List.eq_nil_of_length_eq_zero (by omega)
      rw [<- ht, this, List.append_nil]
     subst hl
     refine ⟨x, he, Rep.closed hR.1 hr, ⟨hm.len, fun c blk p hc hp => ?_, hm.inj⟩, hkeep.mono fun _ _ hj => hnames _ hj⟩
     by_cases hcn : c ∈ ns
     ·have hi := get_idxOf hcn
      obtain ⟨blk1, hb1, hb2, _⟩ := hget _ _ hi
      rw [hc] at hb1
      injection hb1 with hb1
      subst hb1
      have hsel : (selBlks (fun n => posOf n ns 0) m)[ns.idxOf c]? = some (blk.sel (fun n => posOf n ns 0)) := by rw [selBlks_get, hb2]; rfl
      have hB := (hm'.blks _ _ p hsel (by rw [hρ _ c hi]; exact hp)).sel (ρ' := ρ) (τ := fun n => ns[n]?) fun n c' p' hn hp' => by rw [<- hρ n c' hn]; exact hp'
      rw [selBlk_back fun n hn => ?_] at hB
      ·exact hB
      ·obtain ⟨c', hc'⟩ := allIn_spec (coveredB_spec hcov _ _ hb2) n hn
       have := (posOf_spec n ns 0 c' hc').2
       exact ⟨c', hc', by simpa using this⟩
     ·exact (hm.blks c blk p hc hp).keep fun hd hg j hj => hkeep.block _ ((hm.blks c blk p hc hp).lt hd hg hj) fun hN => apart c blk p _ hcn hc hp hd hg hN hj
    ·exact h.elim

mutual
theorem rep_under {ρ : List Place} : ∀ {v : V} {x : Value}, Rep ρ v x -> v.under ρ.length = true
 | .ptr b _, x, h => by
  simp only [Rep] at h
  obtain ⟨p, h1, _⟩ := h
  exact Nat.blt_eq.mpr (List.getElem?_eq_some_iff.1 h1).1
 | .row b _, x, h => by
  simp only [Rep] at h
  obtain ⟨p, h1, _⟩ := h
  exact Nat.blt_eq.mpr (List.getElem?_eq_some_iff.1 h1).1
 | .mp b, x, h => by
  simp only [Rep] at h
  obtain ⟨p, h1, _⟩ := h
  exact Nat.blt_eq.mpr (List.getElem?_eq_some_iff.1 h1).1
 | .elt b _ _ _, x, h => by
  simp only [Rep] at h
  obtain ⟨_, p, h1, _⟩ := h
  exact Nat.blt_eq.mpr (List.getElem?_eq_some_iff.1 h1).1
 | .sub b _ _ _, x, h => by
  simp only [Rep] at h
  obtain ⟨_, p, h1, _⟩ := h
  exact Nat.blt_eq.mpr (List.getElem?_eq_some_iff.1 h1).1
 | .inr b _ _, x, h => by
  simp only [Rep] at h
  obtain ⟨p, _, h1, _⟩ := h
  exact Nat.blt_eq.mpr (List.getElem?_eq_some_iff.1 h1).1
 | .iptr b _ _, x, h => by
  simp only [Rep] at h
  obtain ⟨p, _, h1, _⟩ := h
  exact Nat.blt_eq.mpr (List.getElem?_eq_some_iff.1 h1).1
 | .view b _ _ _ _, x, h => by
  simp only [Rep] at h
  obtain ⟨p, h1, _⟩ := h
  exact Nat.blt_eq.mpr (List.getElem?_eq_some_iff.1 h1).1
 | .fn _ caps, x, h => by
  simp only [Rep] at h
  obtain ⟨ps, h1, _⟩ := h
  simp only [V.under, List.all_eq_true]
  intro b hb
  have hm : ρ[b]? ∈ ps.map some := by rw [<- h1]; exact List.mem_map_of_mem hb
  obtain ⟨p, _, hp⟩ := List.mem_map.1 hm
  exact Nat.blt_eq.mpr (List.getElem?_eq_some_iff.1 hp.symm).1
 | .agg cs, x, h => by
  simp only [Rep] at h
  obtain ⟨xs, _, h2⟩ := h
  exact repL_under h2
 | .tup cs, x, h => by
  simp only [Rep] at h
  obtain ⟨xs, _, h2⟩ := h
  exact repL_under h2
 | .undef, _, _ | .int _ _, _, _ | .bool _, _, _ | .lit _, _, _ | .str _, _, _ | .nilp, _, _ | .raw _, _, _ | .arr _ _, _, _ | .gp _ _, _, _ | .emp, _, _ => rfl
theorem repL_under {ρ : List Place} : ∀ {vs : List V} {xs : List Value}, RepL ρ vs xs -> underL ρ.length vs = true
 | [], _, _ => rfl
 | v :: vs, xs, h => by
  simp only [RepL] at h
  obtain ⟨x, r, _, h1, h2⟩ := h
  simp only [underL, rep_under h1, repL_under h2, Bool.and_self]
end
/-- What a block is by fewer names, where it was so before. -/
theorem BRel.down {ρ qs : List Place} {p : Place} {blk : Blk} {w w' : World} (h : BRel ρ p blk w) (h' : BRel (ρ ++ qs) p blk w') (hd : blk.cs.isDead = false) : BRel ρ p blk w' := by
 have hu : underL ρ.length blk.cs.toVs = true := by
  rcases h with h | ⟨_, _, h, _⟩ | ⟨_, cur, _, hr, _⟩ | ⟨_, _, cur, e, fz, _, hr, _⟩ | ⟨_, _, _, l, o, hl, _⟩ | ⟨_, kd, et, l, hl, _⟩
  ·rw [hd] at h; cases h
  ·rw [h]; rfl
  ·exact repL_under hr
  ·exact repL_under hr
  ·rw [hl]; rfl
  ·rw [hl]; rfl
 have ht : (ρ ++ qs).take ρ.length = ρ := by simp
 rcases h' with h | ⟨h1, h2, h3⟩ | ⟨h1, cur, hc, hr, hs⟩ | ⟨h1, ha, cur, e, fz, hc, hr, hroom⟩ | h | h
 ·rw [hd] at h; cases h
 ·exact .inr (.inl ⟨h1, h2, h3⟩)
 ·refine .inr (.inr (.inl ⟨h1, cur, hc, ?_, hs⟩))
  have := hr.takeρ hu
  rwa [ht] at this
 ·refine .inr (.inr (.inr (.inl ⟨h1, ha, cur, e, fz, hc, ?_, hroom⟩)))
  have := hr.takeρ hu
  rwa [ht] at this
 ·exact .inr (.inr (.inr (.inr (.inl h))))
 ·exact .inr (.inr (.inr (.inr (.inr h))))
theorem viewOne_args {mem : List Blk} {v : V} {N : Nat} : allArgs (viewOne mem false N v).2 = true := by
 unfold viewOne
 split
 ·rfl
 ·rename_i b n blk own h
  simp only [allArgs, Bool.and_true]
  unfold viewOf at h
  split at h
  ·split at h
   ·split at h
    ·rename_i hw
     simp at hw
    ·injection h with h; injection h with _ h; injection h with _ h; injection h with h _
     rw [<- h]; rfl
    ·cases h
   ·cases h
  ·split at h
   ·split at h
    ·injection h with h; injection h with _ h; injection h with _ h; injection h with h _
     rw [<- h]; rfl
    ·cases h
   ·split at h
    ·injection h with h; injection h with _ h; injection h with _ h; injection h with h _
     rw [<- h]; rfl
    ·cases h
   ·split at h
    ·injection h with h; injection h with _ h; injection h with _ h; injection h with h _
     rw [<- h]; rfl
    ·cases h
   ·cases h
  ·cases h
theorem allArgs_app : ∀ {l l' : List (Nat × Blk × Bool × Nat)}, allArgs l = true -> allArgs l' = true -> allArgs (l ++ l') = true
 | [], _, _, h => h
 | (_, _, _) :: l, l', h, h' => by
  simp only [List.cons_append, allArgs, Bool.and_eq_true] at h ⊢
  exact ⟨h.1, allArgs_app h.2 h'⟩
mutual
theorem viewV_args {mem : List Blk} : ∀ {v : V} {N : Nat}, allArgs (viewV mem false N v).2 = true
 | .agg cs, N => viewAll_args (args := cs) (N := N)
 | .undef, _ => viewOne_args
 | .int _ _, _ => viewOne_args
 | .bool _, _ => viewOne_args
 | .lit _, _ => viewOne_args
 | .str _, _ => viewOne_args
 | .ptr _ _, _ => viewOne_args
 | .nilp, _ => viewOne_args
 | .raw _, _ => viewOne_args
 | .row _ _, _ => viewOne_args
 | .fn _ _, _ => viewOne_args
 | .mp _, _ => viewOne_args
 | .arr _ _, _ => viewOne_args
 | .elt _ _ _ _, _ => viewOne_args
 | .sub _ _ _ _, _ => viewOne_args
 | .inr _ _ _, _ => viewOne_args
 | .iptr _ _ _, _ => viewOne_args
 | .view _ _ _ _ _, _ => viewOne_args
 | .emp, _ => viewOne_args
 | .gp _ _, _ => viewOne_args
 | .tup _, _ => viewOne_args
theorem viewAll_args {mem : List Blk} : ∀ {args : List V} {N : Nat}, allArgs (viewAll mem false N args).2 = true
 | [], _ => rfl
 | v :: r, N => by
  have hu : viewAll mem false N (v :: r) = viewTwo (viewV mem false N v) (fun M => viewAll mem false M r) N := rfl
  rw [hu, viewTwo_eq]
  exact allArgs_app viewV_args viewAll_args
end
theorem vqcallV_sound {ex : List Nat} {f : FuncId} {F : FSpec} (hok : OK P f F.spec) {args : List V} {mem : List Blk} {k : V -> Prop} (h : vqcallV ex F args mem k) {ρ : List Place} {xs : List Value} (hx : RepL ρ args xs) {w1 : World} (hw1 : MRel ρ mem w1) :
  ∃ R, k R /\ R.det = true /\ ∀ w, MRel ρ mem w -> (∀ ys w, (callFunc f ys).run P w = .ok (.enter f ys) w) /\
   Calls P f xs.toArray w fun e w' => ∃ x, e = .returned x /\ Rep ρ R x /\ MRel ρ mem w' /\ Keep (Names ρ mem) w w' := by
 unfold vqcallV at h
 split at h
 ·exact vqcall_sound hok h hx
 ·rename_i v0 vr hv0
  clear hv0
  obtain ⟨R, hkR, hone⟩ := vqcall_one ex F _ _ _ h
  have h' := hone (fun v => v = R) rfl
  have hN : ρ.length + ([] : List Place).length = mem.length := by simp [hw1.len]
  have key : ∀ w, MRel ρ mem w -> R.det = true /\ (∀ ys w, (callFunc f ys).run P w = .ok (.enter f ys) w) /\
    Calls P f xs.toArray w fun e w' => ∃ x, e = .returned x /\ Rep ρ R x /\ MRel ρ mem w' /\ Keep (Names ρ mem) w w' := by
   intro w hw
   obtain ⟨qs, hl, hrep, hat⟩ := viewAll_spec hw false args xs [] hx
   rw [hN] at hl hrep hat
   rw [List.nil_append] at hrep
   have hall : allArgs (viewAll mem false mem.length args).2 = true := viewAll_args
   have hrel := views_rel hw hl hat (.inl hall)
   obtain ⟨R', hR', hdet, hcall⟩ := vqcall_sound hok h' hrep
   subst hR'
   obtain ⟨hent, hc⟩ := hcall w hrel
   have hF : ∀ q, Names (ρ ++ qs) (killL mem (viewAll mem false mem.length args).2 ++ viewBlks (viewAll mem false mem.length args).2) q -> Names ρ (killL mem (viewAll mem false mem.length args).2) q := fun q hq => by
    rcases views_names hw hat hq with h1 | ⟨j, b, blk, own, u, h1, h2, h3, _, _⟩
    ·exact h1
    ·rw [allArgs_spec hall j b blk own h1] at h3; cases h3
   refine ⟨hdet, hent, hc.mono fun e w' hE => ?_⟩
   obtain ⟨x, he, hr, hm', hkeep⟩ := hE
   refine ⟨x, he, ?_, ⟨hw.len, fun c blk p hcc hp => ?_, hw.inj⟩, hkeep.mono fun q _ hq => killL_names (hF q hq)⟩
   ·have hu : R'.under 0 = true := by
     unfold vqcall at h'
     simp only at h'
     split at h'
     ·exact h'.elim
     ·split at h'
      ·exact h'.elim
      ·split at h'
       ·exact h'.elim
       ·split at h'
        ·rename_i hR
         simp only [Bool.and_eq_true] at hR
         rw [<- h'.2]; exact hR.1
        ·exact h'.elim
    exact Rep.closed hu hr
   ·by_cases hd : blk.cs.isDead = true
    ·exact .inl hd
    ·replace hd : blk.cs.isDead = false := by simpa using hd
     have hcl : c < mem.length := (List.getElem?_eq_some_iff.1 hcc).1
     have hcl' : c < (killL mem (viewAll mem false mem.length args).2).length := by rw [killL_length]; exact hcl
     have hb2 := List.getElem?_eq_getElem hcl'
     obtain ⟨blk0, g1, _, g3⟩ := killL_get hb2
     rw [hcc] at g1
     injection g1 with g1
     subst g1
     by_cases hdk : ((killL mem (viewAll mem false mem.length args).2)[c]'hcl').cs.isDead = true
     ·-- it was out of reach
      refine (hw.blks c blk p hcc hp).keep fun hd hg j hj => hkeep.block j ((hw.blks c blk p hcc hp).lt hd hg hj) fun hN' => ?_
      obtain ⟨c2, bl2, p2, k1, k2, k3, k4, k5, k6⟩ := hF j hN'
      obtain ⟨bl3, l1, _, l3⟩ := killL_get k1
      obtain ⟨e1, _⟩ := l3 k3
      subst e1
      have hne : c2 ≠ c := fun e0 => by
       subst e0
       rw [hb2] at k1
       injection k1 with k1
       rw [k1, k3] at hdk
       cases hdk
      have k5 : bl2.kind.isArg = false := k5
      exact hw.inj c2 c bl2 blk p2 p l1 hcc k2 hp hne k3 hd k4 hg (by rw [k5]; rfl) j k6 hj
     ·replace hdk : ((killL mem (viewAll mem false mem.length args).2)[c]'hcl').cs.isDead = false := by simpa using hdk
      obtain ⟨e1, _⟩ := g3 hdk
      have hmc : (killL mem (viewAll mem false mem.length args).2 ++ viewBlks (viewAll mem false mem.length args).2)[c]? = some blk := by
       rw [List.getElem?_append_left hcl', hb2, e1]
      exact (hw.blks c blk p hcc hp).down (hm'.blks c blk p hmc (getElem?_pre (List.prefix_append _ _) hp)) hd
  exact ⟨R, hkR, (key w1 hw1).1, fun w hw => (key w hw).2⟩
theorem vqop_sound (hΩq : ∀ g F, Ωq g = some F -> OK P g F.spec) {o : Oper} {st : St} {k : V -> Prop} (h : vqop P Ωq o st k) {W : Nat -> Prop} {w0 w1 : World} {ρ : List Place} {a : Act} (hs : RepL ρ st.slots a.tmps.toList)
  (hw1 : Cls W w0 ρ st.mem w1) (hown : ∀ j, Names ρ st.mem j -> W j \/ w0.heap.size <= j) : ∃ v x, k v /\ Rep ρ v x /\ ∀ w, Cls W w0 ρ st.mem w -> o.quietAt P a (Cls W w0 ρ st.mem) w x := by
 have plain : vval P st o.op (onlyDet k) -> ∃ v x, k v /\ Rep ρ v x /\ ∀ w, Cls W w0 ρ st.mem w -> o.quietAt P a (Cls W w0 ρ st.mem) w x := by
  intro h
  obtain ⟨v, hv, hr⟩ := vval_sound hs h
  unfold onlyDet at hv
  split at hv
  ·rename_i hd
   obtain ⟨x, _, hx⟩ := hr w1 hw1.1
   refine ⟨v, x, hv, hx, fun w hw => ?_⟩
   obtain ⟨y, hy, hyr⟩ := hr w hw.1
   unfold Oper.quietAt
   rw [hy]
   exact ⟨rfl, det_unique hd hyr hx⟩
  ·exact hv.elim
 unfold vqop at h
 split at h
 ·exact h.elim
 ·exact h.elim
 ·exact h.elim
 ·rename_i c hop
  split at h
  ·rename_i f hcal
   split at h
   ·rename_i g caps hg
    split at h
    ·exact h.elim
    ·rename_i F hF
     have hf := hg ▸ rep_ev hs f
     simp only [Rep] at hf
     obtain ⟨ps, hps, hfv⟩ := hf
     have hargs : RepL ρ (evL st c.args.toList ++ caps.map fun b => V.ptr b 0) (c.args.toList.map a.eval ++ ps.map fun p => Value.pointer (some (addrOf p 0))) :=
      (evL_rep hs _).append (caps_rep hps)
     obtain ⟨R, hk, hd, hall⟩ := vqcallV_sound (hΩq g F hF) h hargs hw1.1
     -- its value
     have hcalls := fun w hw => (hall w hw).2
     have hx : ∃ x, Rep ρ R x := by
      obtain ⟨e, w', fr, ⟨x, _, hx, _⟩, _⟩ := hcalls w1 hw1.1 []
      exact ⟨x, hx⟩
     obtain ⟨x, hx⟩ := hx
     refine ⟨R, x, hk, hx, fun w hw => ?_⟩
     obtain ⟨hent, hcall⟩ := hall w hw.1
     have harr : c.args.map a.eval ++ (ps.map fun p => Value.pointer (some (addrOf p 0))).toArray = (c.args.toList.map a.eval ++ ps.map fun p => Value.pointer (some (addrOf p 0))).toArray := by
      apply Array.toList_inj.1; simp
     have hr : (execOp a.eval o).run P w = .ok (.enter g (c.args.toList.map a.eval ++ ps.map fun p => Value.pointer (some (addrOf p 0))).toArray) w := by
      simp only [execOp, hop, resolve, hcal, hfv, Deferred.ofValue, Sem.run_bind, Sem.run_pure, Result.andThen_ok, invoke, Array.empty_append]
      rw [harr, hent]
     unfold Oper.quietAt
     rw [hr]
     refine ⟨rfl, hcall.mono fun e w' hE => ?_⟩
     obtain ⟨y, he, hy, hm', hkeep⟩ := hE
     refine ⟨by rw [he, det_unique hd hy hx], hm', hw.2.trans (hkeep.mono fun j _ hj => hown j hj)⟩
   ·exact h.elim
  ·exact plain h
 ·exact plain h

/-- What a guard says, said of the slots alone. -/
theorem vguard_slots {all : Array Oper} {o : Oper} {st : St} {k : Bool -> St -> Prop} (h : vguard all o st k) {ρ : List Place} {a : Act} (hs : RepL ρ st.slots a.tmps.toList) :
  ∃ b st', k b st' /\ RepL ρ st'.slots a.tmps.toList /\ st'.mem = st.mem /\ Region.wanted o (yielded all a.tmps) = b := by
 let w : World := default
 have hmem : MRel ([] : List Place) [] w := ⟨rfl, fun b blk p hb => by simp at hb, fun b b' blk blk' p p' hb => by simp at hb⟩
 unfold vguard at h
 split at h
 ·rename_i hg
  exact ⟨true, st, h, hs, rfl, by simp [Region.wanted, hg]⟩
 ·rename_i j want hg
  split at h
  ·exact h.elim
  ·rename_i oj hj
   split at h
   ·exact h.elim
   ·rename_i d hd
    have rep : ∀ x, a.tmps[d]? = some x -> Rep ρ (st.get d) x := by
     intro x hx
     have hr := rep_ev hs (.tmp d)
     simp only [ev, Act.eval, Array.getD_eq_getD_getElem?, hx, Option.getD_some] at hr
     exact hr
    have key : ∀ b, st.get d ≠ .undef -> (∀ x, a.tmps[d]? = some x -> x = .bool b) -> Region.wanted o (yielded all a.tmps) = (b == want) := by
     intro b hne hx
     have hlt : d < st.slots.length := by
      rcases Nat.lt_or_ge d st.slots.length with h' | h'
      ·exact h'
      ·exact absurd (by simp [St.get, List.getElem?_eq_none h']) hne
     have hlt' : d < a.tmps.size := by rw [hs.length] at hlt; simpa using hlt
     have hy : a.tmps[d]? = some (.bool b) := by
      rw [Array.getElem?_eq_getElem hlt']
      rw [hx _ (Array.getElem?_eq_getElem hlt')]
     have hyy : yielded all a.tmps j = some b := by simp [yielded, hj, hd, hy]
     simp [Region.wanted, hg, hyy]
    have setS : ∀ v, (∀ x, a.tmps[d]? = some x -> Rep ρ v x) -> RepL ρ (st.set d v).slots a.tmps.toList := by
     intro v hv
     refine RepL.of (by simpa [St.set] using hs.length) fun i u y hu hy => ?_
     simp only [St.set] at hu
     rw [List.getElem?_set] at hu
     by_cases hdi : d = i
     ·subst hdi
      by_cases hlt : d < st.slots.length
      ·simp [hlt] at hu
       subst hu
       exact hv y (by simpa using hy)
      ·simp [hlt] at hu
     ·simp only [hdi, if_false] at hu
      exact hs.get2 hu hy
    split at h
    ·rename_i b he
     refine ⟨_, st, h, hs, rfl, key b (by rw [he]; exact fun h => by cases h) (fun x hx => ?_)⟩
     have := rep x hx
     rw [he] at this
     simpa [Rep] using this
    ·rename_i b he
     have hx : ∀ x, a.tmps[d]? = some x -> x = .bool b := fun x hx => by
      have := rep x hx
      rw [he] at this
      simpa [Rep] using this
     have hw := key b (by rw [he]; exact fun h => by cases h) hx
     cases b with
     | true => exact ⟨_, _, h.1 rfl, setS _ (fun x hy => by rw [hx x hy]; rfl), rfl, hw⟩
     | false => exact ⟨_, _, h.2 rfl, setS _ (fun x hy => by rw [hx x hy]; rfl), rfl, hw⟩
    ·rename_i cs he
     split at h
     ·refine ⟨_, st, h, hs, rfl, ?_⟩
      have hyy : yielded all a.tmps j = none := by
       unfold yielded
       simp only [hj, Option.bind_some, hd]
       cases hx : a.tmps[d]? with
       | none => rfl
       | some x =>
        have := rep x hx
        rw [he] at this
        simp only [Rep, RepL] at this
        obtain ⟨xs, rfl, rfl⟩ := this
        rfl
      simp [Region.wanted, hg, hyy]
     ·exact h.elim
    ·exact h.elim

theorem put_slots {st : St} {ρ : List Place} {a : Act} (hs : RepL ρ st.slots a.tmps.toList) (d : Option Tmp) {v : V} {x : Value} (hx : Rep ρ v x) : RepL ρ (st.put d v).slots (a.put d x).tmps.toList := by
 cases d with
 | none => exact hs
 | some d =>
  simp only [St.put, St.set, Act.put, Array.toList_setIfInBounds]
  exact hs.set d hx
theorem put_mem (st : St) (d : Option Tmp) (v : V) : (st.put d v).mem = st.mem := by cases d <;> rfl
theorem put_defers (a : Act) (d : Option Tmp) (x : Value) : (a.put d x).defers = a.defers := by cases d <;> rfl

theorem vquiet_sound (hΩq : ∀ g F, Ωq g = some F -> OK P g F.spec) {all : Array Oper} {D : List Deferred} {W : Nat -> Prop} {w0 w1 : World} {ρ : List Place} {mem : List Blk} (hw1 : Cls W w0 ρ mem w1) (hown : ∀ j, Names ρ mem j -> W j \/ w0.heap.size <= j)
  {k : St -> Prop} {R : Act -> Prop} (hk : ∀ st' a', k st' -> st'.mem = mem -> RepL ρ st'.slots a'.tmps.toList -> a'.defers = D -> R a') :
  ∀ (l : List Oper) (st : St) (a : Act), vquiet P Ωq all l st k -> st.mem = mem -> RepL ρ st.slots a.tmps.toList -> a.defers = D -> wpQuiet P all (Cls W w0 ρ mem) R l a
 | [], st, a, h, hm, hs, hd => hk _ _ h hm hs hd
 | o :: r, st, a, h, hm, hs, hd => by
  simp only [vquiet] at h
  replace h := St.force_spec h
  obtain ⟨b, st', hb, hs', hm', hw⟩ := vguard_slots h hs
  unfold wpQuiet
  rw [hw]
  cases b with
  | true =>
   simp only [if_true]
   have hmm : st'.mem = mem := hm'.trans hm
   obtain ⟨v, x, hkv, hx, hq⟩ := vqop_sound hΩq hb hs' (by rw [hmm]; exact hw1) (by rw [hmm]; exact hown)
   rw [hmm] at hq
   exact ⟨x, hq, vquiet_sound hΩq hw1 hown hk r _ _ hkv (by rw [put_mem, hmm]) (put_slots hs' _ hx) (by rw [put_defers, hd])⟩
  | false =>
   simp only [Bool.false_eq_true, if_false]
   exact vquiet_sound hΩq hw1 hown hk r _ _ hb (by rw [put_mem, hm', hm]) (put_slots hs' _ (rep_skip ρ)) (by rw [put_defers, hd])

theorem deadMem_rel (ρ : List Place) : ∀ (m : List Blk) (w : World), ρ.length = m.length -> MRel ρ (deadMem m) w := by
 have hlen : ∀ m : List Blk, (deadMem m).length = m.length := by
  intro m
  induction m with
  | nil => rfl
  | cons b r ih => simp [deadMem, ih]
 have hdead : ∀ (m : List Blk) (b : Nat) (blk : Blk), (deadMem m)[b]? = some blk -> blk.cs.isDead = true := by
  intro m
  induction m with
  | nil => intro b blk h; simp [deadMem] at h
  | cons c r ih =>
   intro b blk h
   cases b with
   | zero => simp [deadMem] at h; subst h; rfl
   | succ b => exact ih b blk (by simpa [deadMem] using h)
 intro m w hl
 exact ⟨by rw [hlen, hl], fun b blk p hb _ => .inl (hdead m b blk hb), fun b b' blk blk' p p' hb _ _ _ _ hd => by rw [hdead m b blk hb] at hd; cases hd⟩
theorem pickPure_spec {ops : Array Oper} {listed : Array Bool} : ∀ {r : List Nat} {i : Nat}, pickPure P ops listed r = some i -> i ∈ r /\ ∃ o, ops[i]? = some o /\ o.guard = none /\ Region.free .any ops listed i = true
 | [], i, h => by simp [pickPure] at h
 | j :: r, i, h => by
  unfold pickPure at h
  split at h
  ·obtain ⟨h1, h2⟩ := pickPure_spec h
   exact ⟨List.mem_cons_of_mem _ h1, h2⟩
  ·rename_i o ho
   split at h
   ·rename_i hc
    injection h with h
    subst h
    simp only [Bool.and_eq_true, Option.isNone_iff_eq_none] at hc
    exact ⟨by simp, o, ho, hc.1.2, hc.2⟩
   ·obtain ⟨h1, h2⟩ := pickPure_spec h
    exact ⟨List.mem_cons_of_mem _ h1, h2⟩
theorem pickLoad_spec {wd : Bool} {ops : Array Oper} {listed : Array Bool} : ∀ {r : List Nat} {i : Nat}, pickLoad wd ops listed r = some i -> i ∈ r /\ ∃ o, ops[i]? = some o /\ o.guard = none /\ stillFree wd .any ops listed i = true
 | [], i, h => by simp [pickLoad] at h
 | j :: r, i, h => by
  unfold pickLoad at h
  split at h
  ·obtain ⟨h1, h2⟩ := pickLoad_spec h
   exact ⟨List.mem_cons_of_mem _ h1, h2⟩
  ·rename_i o ho
   split at h
   ·rename_i hc
    injection h with h
    subst h
    simp only [Bool.and_eq_true, Option.isNone_iff_eq_none] at hc
    exact ⟨by simp, o, ho, hc.1.2, hc.2⟩
   ·obtain ⟨h1, h2⟩ := pickLoad_spec h
    exact ⟨List.mem_cons_of_mem _ h1, h2⟩
theorem vall_spec {p : Nat -> Prop} : ∀ {l : List Nat}, vsched.vall l p -> ∀ i ∈ l, p i
 | [], _, i, h => by cases h
 | j :: r, ⟨h1, h2⟩, i, h => by
  rcases List.mem_cons.1 h with rfl | h
  ·exact h1
  ·exact vall_spec h2 i h
theorem vsched_sound {wd : Bool} (hΩ : ∀ f, OK P f (Ω f)) {ops : Array Oper} (hns : Region.noSelect ops = true) {D : List Deferred} {W : Nat -> Prop} {w0 : World} {ρ0 : List Place} {k : St -> Prop} {Q : Act -> World -> Prop} (hk : ∀ st' a' w' ρ', k st' -> SRel D W w0 ρ0 ρ' st' a' w' -> Q a' w') :
  ∀ (f : Nat) (listed : Array Bool) (st : St) (a : Act) (w : World) (ρ : List Place), vsched wd P Ω ops f listed st k -> SRel D W w0 ρ0 ρ st a w -> wpAny P .any ops (fun e a' w' => e = .normal /\ Q a' w') f listed a w
 | 0, listed, st, a, w, ρ, h, hs => by
  unfold vsched at h
  split at h
  ·rename_i hr
   exact ⟨hr, rfl, hk _ _ _ _ h hs⟩
  ·exact h.elim
 | f + 1, listed, st, a, w, ρ, h, hs => by
  unfold vsched at h
  replace h := St.force_spec h
  split at h
  ·rename_i hr
   exact wpAny_done hr ⟨rfl, hk _ _ _ _ h hs⟩ _
  ·rename_i i0 r hr
   split at h
   ·rename_i i hi
    obtain ⟨hmem, o, ho, hg, hfree⟩ := pickPure_spec hi
    rw [ho] at h
    simp only at h
    obtain ⟨v, hv, hgive⟩ := vval_sound (st := ⟨st.slots, deadMem st.mem⟩) hs.slots h
    unfold onlyDet at hv
    split at hv
    ·rename_i hdet
     have hall := fun w' => hgive w' (deadMem_rel ρ st.mem w' hs.mem.len)
     obtain ⟨x, hx, hxr⟩ := hall w
     have hy : Yields P ops o x a := by
      refine .inl ⟨by simp [Region.wanted, hg], fun w' => ?_⟩
      obtain ⟨y, hy, hyr⟩ := hall w'
      rw [det_unique hdet hxr hyr]
      exact hy
     refine wpAny_take ho hns hfree (by rw [hr]; simpa using hmem) (fun c a w hq => by cases hq.1) hy ?_
     exact vsched_sound hΩ hns hk f _ _ _ w ρ hv (hs.put o.dst hxr)
    ·exact hv.elim
   ·split at h
    ·rename_i i hi
     obtain ⟨hmem, o, ho, hg, hfree⟩ := pickLoad_spec hi
     rw [ho] at h
     simp only at h
     obtain ⟨v, hv, hgive⟩ := vval_sound hs.slots h
     unfold onlyDet at hv
     split at hv
     ·rename_i hdet
      obtain ⟨x, hx, hxr⟩ := hgive w hs.mem
      have hy : YieldsIf P ops (fun w' => Grows w w') o x a := by
       refine .inl ⟨by simp [Region.wanted, hg], fun w' hw' => ?_⟩
       obtain ⟨y, hy, hyr⟩ := hgive w' (hs.mem.keep fun k hk => hw'.2 k (hs.mem.lt hk))
       rw [det_unique hdet hxr hyr]
       exact hy
      refine wpAny_load ho (fun j o cs b hj => Region.noSelect_spec hns j o cs b hj) (fun c a w hq => by cases hq.1) f listed a w (fun j oj hj hne hun hno => stillFree_spec ho hfree j oj hj hne hun hno) (by rw [hr]; exact hmem) (Grows.refl w) hy ?_
      exact vsched_sound hΩ hns hk f _ _ _ w ρ hv (hs.put o.dst hxr)
     ·exact hv.elim
    ·refine wpAny_all hr (by simp) fun i hi => ?_
     have h1 := vall_spec h i hi
     cases ho : ops[i]? with
     | none => rw [ho] at h1; exact h1.elim
     | some o =>
      rw [ho] at h1
      simp only at h1
      obtain ⟨b, st', hb, hs', hw⟩ := vguard_sound h1 hs
      unfold wpOp
      simp only [ho, hw]
      cases b with
      | true =>
       simp only [if_true]
       exact .inl (vop_sound hΩ hb hs' fun st'' a'' w'' ρ'' hk'' hs'' => vsched_sound hΩ hns hk f _ _ a'' w'' ρ'' hk'' hs'')
      | false =>
       simp only [Bool.false_eq_true, if_false]
       exact vsched_sound hΩ hns hk f _ _ _ w ρ hb (hs'.put o.dst (rep_skip ρ))

/-! ### loads that sleep -/
/-- A load that is ready, and whose branch holds. -/
def Slept (P : Program) (ops : Array Oper) (Q : Exit -> Act -> World -> Prop) (f : Nat) (listed : Array Bool) (a : Act) (w : World) (z : Nat) : Prop :=
 ∃ oz x, ops[z]? = some oz /\ z ∈ Region.ready .any ops listed /\ YieldsIf P ops (fun w' => w' = w) oz x a /\ ∀ f', f = f' + 1 -> wpAny P .any ops Q f' (listed.setIfInBounds z true) (a.put oz.dst x) w
theorem yields_of_wpOp {ops : Array Oper} {Q : Exit -> Act -> World -> Prop} (hQ : ¬ LetsOut Q) {i : Nat} {o : Oper} {v : Value} {a : Act} {w : World} (hi : ops[i]? = some o) (hy : YieldsIf P ops (fun w' => w' = w) o v a) {K : Act -> World -> Prop} (h : wpOp P ops Q i K a w) : K (a.put o.dst v) w := by
 unfold wpOp at h
 simp only [hi] at h
 rcases hy with ⟨hw, hv⟩ | ⟨hw, rfl⟩
 ·simp only [hw, if_true] at h
  rcases h with h | h
  ·simp only [Oper.wp, hv w rfl, Oper.upon] at h
   exact h
  ·exact absurd h.2 hQ
 ·simp only [hw, Bool.false_eq_true, if_false] at h
  exact h
theorem Slept.next {ops : Array Oper} {Q : Exit -> Act -> World -> Prop} (hQ : ¬ LetsOut Q) (hns : Region.noSelect ops = true) {f : Nat} {listed : Array Bool} {a : Act} {w : World} {z i : Nat} {oi : Oper} {xi : Value} (hi : ops[i]? = some oi) (hr : i ∈ Region.ready .any ops listed) (hne : z ≠ i) (hap : ∀ oz, ops[z]? = some oz -> oz.apart ops oi = true)
  (hy : YieldsIf P ops (fun w' => w' = w) oi xi a) (h : Slept P ops Q (f + 1) listed a w z) : Slept P ops Q f (listed.setIfInBounds i true) (a.put oi.dst xi) w z := by
 obtain ⟨oz, x, hz, hrz, hyz, H⟩ := h
 have sel := Region.noSelect_spec hns
 obtain ⟨h1, h2, h3⟩ := Oper.apart_spec (hap oz hz)
 refine ⟨oz, x, hz, ready_mono hrz hne, hyz.of_same (execOp_put oz (fun cs b => sel z oz cs b hz) a oi.dst xi h3) (wanted_put oz a oi.dst xi h3), fun f' hf => ?_⟩
 subst hf
 have h4 := (H (f' + 1) rfl).2 i (ready_mono hr (Ne.symm hne))
 have hyi : YieldsIf P ops (fun w' => w' = w) oi xi (a.put oz.dst x) := hy.of_same (execOp_put oi (fun cs b => sel i oi cs b hi) a oz.dst x h1) (wanted_put oi a oz.dst x h1)
 have h5 := yields_of_wpOp hQ hi hyi h4
 rw [Array.setIfInBounds_comm _ _ hne, Act.put_comm a x xi h2] at h5
 exact h5
theorem sleepOf_mem {ops : Array Oper} {o : Oper} {z : Nat} : ∀ {Z : List Nat}, z ∈ sleepOf ops o Z -> z ∈ Z /\ ∀ oz, ops[z]? = some oz -> oz.apart ops o = true
 | [], h => by simp [sleepOf] at h
 | y :: r, h => by
  unfold sleepOf at h
  split at h
  ·rename_i oy hy
   split at h
   ·rename_i hap
    rcases List.mem_cons.1 h with rfl | h
    ·exact ⟨List.mem_cons_self .., fun oz hz => by rw [hy] at hz; injection hz with hz; rw [<- hz]; exact hap⟩
    ·obtain ⟨h1, h2⟩ := sleepOf_mem h
     exact ⟨List.mem_cons_of_mem _ h1, h2⟩
   ·obtain ⟨h1, h2⟩ := sleepOf_mem h
    exact ⟨List.mem_cons_of_mem _ h1, h2⟩
  ·obtain ⟨h1, h2⟩ := sleepOf_mem h
   exact ⟨List.mem_cons_of_mem _ h1, h2⟩
theorem hasN_mem {n : Nat} : ∀ {l : List Nat}, hasN n l = true -> n ∈ l
 | [], h => by simp [hasN] at h
 | a :: r, h => by
  unfold hasN at h
  split at h
  ·rename_i he
   rw [Nat.eq_of_beq_eq_true he]
   exact List.mem_cons_self ..
  ·exact List.mem_cons_of_mem _ (hasN_mem h)
theorem hasN_not {n : Nat} : ∀ {l : List Nat}, hasN n l = false -> n ∉ l
 | [], _, h => by cases h
 | a :: r, h, hm => by
  unfold hasN at h
  split at h
  ·cases h
  ·rename_i he
   rcases List.mem_cons.1 hm with rfl | hm
   ·rw [Nat.beq_refl] at he; cases he
   ·exact hasN_not h hm
theorem vallS_spec {ops : Array Oper} {load : List Nat -> Nat -> Prop} {act : Nat -> Prop} {S R M : Nat -> Prop} (hSR : ∀ i, S i -> R i) (hl : ∀ Z i, M i -> isLoadAt ops i = true -> i ∉ Z -> load Z i -> (∀ z ∈ Z, S z) -> S i) (ha : ∀ i, M i -> act i -> R i) :
  ∀ {l Z : List Nat}, (∀ i ∈ l, M i) -> vallS ops load act Z l -> (∀ z ∈ Z, S z) -> ∀ i ∈ l, R i
 | [], _, _, _, _, i, h => by cases h
 | j :: r, Z, hM, h, hZ, i, hm => by
  have hM' : ∀ i ∈ r, M i := fun i hi => hM i (List.mem_cons_of_mem _ hi)
  unfold vallS at h
  split at h
  ·rename_i hj
   rcases List.mem_cons.1 hm with rfl | hm
   ·exact hSR _ (hZ _ (hasN_mem hj))
   ·exact vallS_spec hSR hl ha hM' h hZ i hm
  ·rename_i hj
   split at h
   ·rename_i hld
    have h1 := hl Z j (hM j (List.mem_cons_self ..)) hld (hasN_not hj) h.1 hZ
    rcases List.mem_cons.1 hm with rfl | hm
    ·exact hSR _ h1
    ·exact vallS_spec hSR hl ha hM' h.2 (fun z hz => by
      rcases List.mem_cons.1 hz with rfl | hz
      ·exact h1
      ·exact hZ z hz) i hm
   ·have h1 := ha j (hM j (List.mem_cons_self ..)) h.1
    rcases List.mem_cons.1 hm with rfl | hm
    ·exact h1
    ·exact vallS_spec hSR hl ha hM' h.2 hZ i hm
theorem vschedS_sound (hΩ : ∀ f, OK P f (Ω f)) {ops : Array Oper} (hns : Region.noSelect ops = true) {D : List Deferred} {W : Nat -> Prop} {w0 : World} {ρ0 : List Place} {k : St -> Prop} {Q : Act -> World -> Prop} (hk : ∀ st' a' w' ρ', k st' -> SRel D W w0 ρ0 ρ' st' a' w' -> Q a' w') :
  ∀ (f : Nat) (listed : Array Bool) (Z : List Nat) (st : St) (a : Act) (w : World) (ρ : List Place), vschedS P Ω ops f listed Z st k -> SRel D W w0 ρ0 ρ st a w -> (∀ z ∈ Z, Slept P ops (fun e a' w' => e = .normal /\ Q a' w') f listed a w z) -> wpAny P .any ops (fun e a' w' => e = .normal /\ Q a' w') f listed a w
 | 0, listed, Z, st, a, w, ρ, h, hs, _ => by
  unfold vschedS at h
  split at h
  ·rename_i hr
   exact ⟨hr, rfl, hk _ _ _ _ h hs⟩
  ·exact h.elim
 | f + 1, listed, Z, st, a, w, ρ, h, hs, hZ => by
  have hQ : ¬ LetsOut (fun e a' w' => e = Exit.normal /\ Q a' w') := fun ⟨_, _, hq⟩ => by cases hq.1
  unfold vschedS at h
  replace h := forceA_spec h
  replace h := St.force_spec h
  -- a load's branch: what it gives
  have branch : ∀ (Z' : List Nat) (i : Nat) (o : Oper), ops[i]? = some o -> o.guard = none -> i ∈ Region.ready .any ops listed -> i ∉ Z' -> (∀ z ∈ Z', Slept P ops (fun e a' w' => e = .normal /\ Q a' w') (f + 1) listed a w z) ->
    vval P st o.op (onlyDet fun v => vschedS P Ω ops f (listed.setIfInBounds i true) (sleepOf ops o Z') (st.put o.dst v) k) ->
    ∃ x, (∃ v, v.det = true /\ Rep ρ v x /\ ∀ w', MRel ρ st.mem w' -> ∃ y, (execOp a.eval o).run P w' = .ok (.value y) w' /\ Rep ρ v y) /\ YieldsIf P ops (fun w' => w' = w) o x a /\ wpAny P .any ops (fun e a' w' => e = .normal /\ Q a' w') f (listed.setIfInBounds i true) (a.put o.dst x) w := by
   intro Z' i o ho hg hrdy hnot hZ' hv0
   obtain ⟨v, hv, hgive⟩ := vval_sound hs.slots hv0
   unfold onlyDet at hv
   split at hv
   ·rename_i hdet
    obtain ⟨x, hx, hxr⟩ := hgive w hs.mem
    have hy : YieldsIf P ops (fun w' => w' = w) o x a := .inl ⟨by simp [Region.wanted, hg], fun w' hw' => by subst hw'; exact hx⟩
    refine ⟨x, ⟨v, hdet, hxr, hgive⟩, hy, ?_⟩
    refine vschedS_sound hΩ hns hk f _ _ _ _ w ρ hv (hs.put o.dst hxr) fun z hz => ?_
    obtain ⟨h1, h2⟩ := sleepOf_mem hz
    exact Slept.next hQ hns ho hrdy (fun e => hnot (by rw [<- e]; exact h1)) h2 hy (hZ' z h1)
   ·exact hv.elim
  split at h
  ·rename_i hr
   exact wpAny_done hr ⟨rfl, hk _ _ _ _ h hs⟩ _
  ·rename_i i0 r hr
   split at h
   ·rename_i i hi
    obtain ⟨hmem, o, ho, hg, hfree⟩ := pickPure_spec hi
    rw [ho] at h
    simp only at h
    obtain ⟨v, hv, hgive⟩ := vval_sound (st := ⟨st.slots, deadMem st.mem⟩) hs.slots h
    unfold onlyDet at hv
    split at hv
    ·rename_i hdet
     have hall := fun w' => hgive w' (deadMem_rel ρ st.mem w' hs.mem.len)
     obtain ⟨x, hx, hxr⟩ := hall w
     have hy : Yields P ops o x a := by
      refine .inl ⟨by simp [Region.wanted, hg], fun w' => ?_⟩
      obtain ⟨y, hy, hyr⟩ := hall w'
      rw [det_unique hdet hxr hyr]
      exact hy
     by_cases hiZ : i ∈ Z
     ·obtain ⟨oz, xz, hoz, hrz, hyz, H⟩ := hZ i hiZ
      rw [ho] at hoz
      injection hoz with hoz
      subst hoz
      have hw : wpAny P .any ops (fun e a' w' => e = .normal /\ Q a' w') f (listed.setIfInBounds i true) (a.put o.dst xz) w := H f rfl
      have hxx : xz = x := by
       rcases hyz with ⟨_, h1⟩ | ⟨h1, _⟩
       ·have h2 := h1 w rfl
        rw [hx] at h2
        simp at h2
        exact h2.symm
       ·simp [Region.wanted, hg] at h1
      rw [hxx] at hw
      exact wpAny_take ho hns hfree (by rw [hr]; simpa using hmem) (fun c a w hq => by cases hq.1) hy hw
     ·refine wpAny_take ho hns hfree (by rw [hr]; simpa using hmem) (fun c a w hq => by cases hq.1) hy ?_
      refine vschedS_sound hΩ hns hk f _ _ _ _ w ρ hv (hs.put o.dst hxr) fun z hz => ?_
      obtain ⟨h1, h2⟩ := sleepOf_mem hz
      exact Slept.next hQ hns ho (by rw [hr]; simpa using hmem) (fun e => hiZ (by rw [<- e]; exact h1)) h2 hy.yieldsIf (hZ z h1)
    ·exact hv.elim
   ·split at h
    ·rename_i i hi
     have hi : pickLoad true ops listed (i0 :: r) = some i := by
      cases Z with
      | nil => exact hi
      | cons _ _ => cases hi
     obtain ⟨hmem, o, ho, hg, hfree⟩ := pickLoad_spec hi
     have hrdy : i ∈ Region.ready .any ops listed := by rw [hr]; exact hmem
     rw [ho] at h
     simp only at h
     obtain ⟨x, ⟨v, hdet, hxr, hgive⟩, hy0, hw⟩ := branch (match hasN i Z with | true => [] | false => Z) i o ho hg hrdy (by
      cases hin : hasN i Z
      ·exact hasN_not hin
      ·simp) (by
      cases hin : hasN i Z
      ·exact hZ
      ·simp) h
     have hy : YieldsIf P ops (fun w' => Grows w w') o x a := by
      refine .inl ⟨by simp [Region.wanted, hg], fun w' hw' => ?_⟩
      obtain ⟨y, hy, hyr⟩ := hgive w' (hs.mem.keep fun k hk => hw'.2 k (hs.mem.lt hk))
      rw [det_unique hdet hxr hyr]
      exact hy
     exact wpAny_load ho (fun j o cs b hj => Region.noSelect_spec hns j o cs b hj) (fun c a w hq => by cases hq.1) f listed a w (fun j oj hj hne hun hno => stillFree_spec ho hfree j oj hj hne hun hno) hrdy (Grows.refl w) hy hw
    ·refine wpAny_all hr (by simp) fun i hi => ?_
     refine vallS_spec (M := fun i => i ∈ Region.ready .any ops listed) (S := Slept P ops (fun e a' w' => e = .normal /\ Q a' w') (f + 1) listed a w)
      (R := fun i => wpOp P ops (fun e a' w' => e = .normal /\ Q a' w') i (wpAny P .any ops (fun e a' w' => e = .normal /\ Q a' w') f (listed.setIfInBounds i true)) a w) ?_ ?_ ?_ (fun i hi => by rw [hr]; exact hi) h hZ i hi
     ·exact fun i ⟨oz, x, hoz, _, hyz, H⟩ => hyz.wpOp hoz rfl (H f rfl)
     ·intro Z' i hrdy hld hnot hload hZ'
      unfold isLoadAt at hld
      cases ho : ops[i]? with
      | none => rw [ho] at hld; cases hld
      | some o =>
       rw [ho] at hld hload
       simp only [Bool.and_eq_true, Option.isNone_iff_eq_none] at hld
       obtain ⟨x, _, hy0, hw⟩ := branch Z' i o ho hld.2 hrdy hnot hZ' hload
       exact ⟨o, x, ho, hrdy, hy0, fun f' hf => by injection hf with hf; subst hf; exact hw⟩
     ·intro i hrdy h1
      cases ho : ops[i]? with
      | none => rw [ho] at h1; exact h1.elim
      | some o =>
       rw [ho] at h1
       simp only at h1
       obtain ⟨b, st', hb, hs', hw⟩ := vguard_sound h1 hs
       unfold wpOp
       simp only [ho, hw]
       cases b with
       | true =>
        simp only [if_true]
        exact .inl (vop_sound hΩ hb hs' fun st'' a'' w'' ρ'' hk'' hs'' => vschedS_sound hΩ hns hk f _ _ _ a'' w'' ρ'' hk'' hs'' fun z hz => by cases hz)
       | false =>
        simp only [Bool.false_eq_true, if_false]
        exact vschedS_sound hΩ hns hk f _ _ _ _ w ρ hb (hs'.put o.dst (rep_skip ρ)) fun z hz => by cases hz

theorem vstep_sound (hΩq : ∀ g F, Ωq g = some F -> OK P g F.spec) (hΩ : ∀ f, OK P f (Ω f)) {ops : Array Oper} {D : List Deferred} {W : Nat -> Prop} {w0 : World} {ρ0 : List Place} {i : Nat} {o : Oper} (ho : ops[i]? = some o) {st : St} {k : St -> Prop} (h : vstep P Ωq ops o st k) {Q : Exit -> Act -> World -> Prop} {K : Act -> World -> Prop}
  (hk : ∀ st' a' w' ρ', k st' -> SRel D W w0 ρ0 ρ' st' a' w' -> K a' w') {ρ : List Place} {a : Act} {w : World} (hs : SRel D W w0 ρ0 ρ st a w) : wpOp P ops Q i K a w := by
 unfold vstep at h
 obtain ⟨b, st', hb, hs', hw⟩ := vguard_sound h hs
 cases b with
 | false =>
  unfold wpOp
  simp only [ho, hw, Bool.false_eq_true, if_false]
  exact hk _ _ _ _ hb (hs'.put o.dst (rep_skip ρ))
 | true =>
  dsimp only at hb
  cases hl : lookB P Ωq o.op with
  | true =>
   rw [hl] at hb
   have hC : Cls W w0 ρ st'.mem w := ⟨hs'.mem, hs'.keep⟩
   obtain ⟨v, x, hkv, hx, hq⟩ := vqop_sound hΩq hb hs'.slots hC hs'.own
   have hY : qOp P ops (Cls W w0 ρ st'.mem) i (fun a' => a' = a.put o.dst x) a := by
    unfold qOp
    simp only [ho, hw, if_true]
    exact ⟨x, hq, rfl⟩
   refine wpOp_of_qOp hC (fun a' w' hw' ha' => ?_) hY
   rw [ha']
   refine hk _ _ _ ρ hkv ⟨put_slots hs'.slots _ hx, by rw [put_defers, hs'.nodefer], ?_, hw'.2, ?_, hs'.pre⟩
   ·rw [put_mem]; exact hw'.1
   ·rw [put_mem]; exact hs'.own
  | false =>
   rw [hl] at hb
   unfold wpOp
   simp only [ho, hw, if_true]
   exact .inl (vop_sound hΩ (vopC_op (Ω := Ω) hb) hs' fun st'' a'' w'' ρ'' hk'' hs'' => hk _ _ _ _ hk'' hs'')
theorem vschedA_sound (hΩq : ∀ g F, Ωq g = some F -> OK P g F.spec) (hΩ : ∀ f, OK P f (Ω f)) {ops : Array Oper} {D : List Deferred} {W : Nat -> Prop} {w0 : World} {ρ0 : List Place} {k : St -> Prop} {Q : Act -> World -> Prop} (hk : ∀ st' a' w' ρ', k st' -> SRel D W w0 ρ0 ρ' st' a' w' -> Q a' w') :
  ∀ (f : Nat) (listed : Array Bool) (st : St) (a : Act) (w : World) (ρ : List Place), vschedA P Ωq ops f listed st k -> SRel D W w0 ρ0 ρ st a w -> wpAny P .any ops (fun e a' w' => e = .normal /\ Q a' w') f listed a w
 | 0, listed, st, a, w, ρ, h, hs => by
  unfold vschedA at h
  split at h
  ·rename_i hr
   exact ⟨hr, rfl, hk _ _ _ _ h hs⟩
  ·exact h.elim
 | f + 1, listed, st, a, w, ρ, h, hs => by
  refine ⟨fun hr => ⟨rfl, hk _ _ _ _ (h.1 hr) hs⟩, fun i hi => ?_⟩
  obtain ⟨o, ho, hst⟩ := h.2 i hi
  exact vstep_sound hΩq hΩ ho hst (fun st' a' w' ρ' hk' hs' => vschedA_sound hΩq hΩ hk f _ _ a' w' ρ' hk' hs') hs

theorem vdraw_sound (hΩ : ∀ f, OK P f (Ω f)) (hΩq : ∀ g F, Ωq g = some F -> OK P g F.spec) {id : Nat} {ops : Array Oper} {st : St} {k : St -> Prop} {D : List Deferred} {W : Nat -> Prop} {w0 : World} {ρ0 : List Place} {J : St -> Option St} {fc : Bool} (h : vdraw fc P Ω Ωq ρ0.length J ops st k) {ρ : List Place} {a : Act} {w : World} (hs : SRel D W w0 ρ0 ρ st a w)
  {Q : Exit -> Act -> World -> Prop} (hk : ∀ st' a' w' ρ', k st' -> SRel D W w0 ρ0 ρ' st' a' w' -> Q .normal a' w') : (Code.region id ops true).wp P Q a w := by
 unfold vdraw at h
 split at h
 ·exact h.elim
 ·rename_i hm
  have hC : Cls W w0 ρ st.mem { w with drawn := w.drawn + 1 } :=
   ⟨hs.mem.keep fun _ _ => rfl, hs.keep.trans (Keep.drew _ w)⟩
  have back : ∀ st' a' w', st'.mem = st.mem -> RepL ρ st'.slots a'.tmps.toList -> a'.defers = D -> Cls W w0 ρ st.mem w' -> SRel D W w0 ρ0 ρ st' a' w' := fun st' a' w' e1 e2 e3 hc =>
   ⟨e2, e3, by rw [e1]; exact hc.1, hc.2, by rw [e1]; exact hs.own, hs.pre⟩
  have hs1 : SRel D W w0 ρ0 ρ st a { w with drawn := w.drawn + 1 } := back st a _ rfl hs.slots hs.nodefer hC
  split at h
  ·split at h
   ·exact h.elim
   ·rename_i hns
    refine Code.wp_mono (Q := fun e a' w' => e = .normal /\ Q .normal a' w') (fun e a' w' hq => by rw [hq.1]; exact hq.2) (wp_region_any hm ?_)
    exact vschedS_sound (Q := fun a' w' => Q .normal a' w') hΩ hns hk _ _ _ _ _ _ ρ h hs1 (fun z hz => by cases hz)
  split at h
  ·refine wp_region_quiet (C := Cls W w0 ρ st.mem) hm (chkB_spec h.1) hC ?_
   exact vquiet_sound hΩq hC hs.own (fun st' a' hk' e1 e2 e3 w' hc => hk _ _ _ _ hk' (back st' a' w' e1 e2 e3 hc)) ops.toList st a h.2 rfl hs.slots hs.nodefer
  ·split at h
   ·rename_i hB
    refine wp_region_acts (C := Cls W w0 ρ st.mem) _ hm hB hC ?_
    exact vquiet_sound hΩq hC hs.own (fun st' a' hk' e1 e2 e3 w' hc => vops_sound hΩ hk _ _ _ _ _ hk' (back st' a' w' e1 e2 e3 hc)) _ st a h.2 rfl hs.slots hs.nodefer
   ·split at h
    ·exact h.elim
    ·rename_i hns
     have runM : ∀ {k' : St -> Prop}, vschedM P Ωq ops ops.size (Array.replicate ops.size false) st k' -> (∀ st' a' w' ρ', k' st' -> SRel D W w0 ρ0 ρ' st' a' w' -> Q .normal a' w') -> (Code.region id ops true).wp P Q a w := by
      intro k' h' hk'
      refine Code.wp_mono (Q := fun e a' w' => e = .normal /\ Q .normal a' w') (fun e a' w' hq => by rw [hq.1]; exact hq.2) (wp_region_any hm ?_)
      exact vschedA_sound (Q := fun a' w' => Q .normal a' w') hΩq hΩ hk' _ _ _ _ _ ρ (vschedM_all _ _ _ h') hs1
     have run : ∀ {k' : St -> Prop}, vsched false P Ω ops ops.size (Array.replicate ops.size false) st k' -> (∀ st' a' w' ρ', k' st' -> SRel D W w0 ρ0 ρ' st' a' w' -> Q .normal a' w') -> (Code.region id ops true).wp P Q a w := by
      intro k' h' hk'
      refine Code.wp_mono (Q := fun e a' w' => e = .normal /\ Q .normal a' w') (fun e a' w' hq => by rw [hq.1]; exact hq.2) (wp_region_any hm ?_)
      exact vsched_sound (Q := fun a' w' => Q .normal a' w') hΩ hns hk' _ _ _ _ _ ρ h' hs1
     split at h
     ·split at h
      ·exact runM h hk
      ·rename_i st2 _
       refine runM h.1 fun st' a' w' ρ' hle hs' => ?_
       obtain ⟨ρ2, hs2⟩ := hs'.leSel hle
       exact hk _ _ _ _ h.2 hs2
     ·split at h
      ·exact run h hk
      ·rename_i st2 _
       refine run h.1 fun st' a' w' ρ' hle hs' => ?_
       obtain ⟨ρ2, hs2⟩ := hs'.leSel hle
       exact hk _ _ _ _ h.2 hs2

/-! ### code -/
theorem hasLab_of {l : Nat} : ∀ {c r : Code}, findLabel c l = some r -> hasLab l c = true
 | .seq a b, r, h => by
  simp only [findLabel] at h
  simp only [hasLab, Bool.or_eq_true]
  split at h
  ·rename_i h'; exact .inl (hasLab_of h')
  ·exact .inr (hasLab_of h)
 | .label l', r, h => by
  simp only [findLabel] at h
  simp only [hasLab]
  split at h
  ·assumption
  ·cases h
 | .skip, _, h | .region .., _, h | .cond .., _, h | .block .., _, h | .loop _, _, h | .rangeFunc .., _, h | .exit _, _, h | .scope _, _, h | .goto _, _, h | .ret, _, h | .refuse _, _, h => by simp [findLabel] at h
theorem hasLab_none {l : Nat} : ∀ {c : Code}, findLabel c l = none -> hasLab l c = false
 | .seq a b, h => by
  simp only [findLabel] at h
  simp only [hasLab, Bool.or_eq_false_iff]
  split at h
  ·cases h
  ·rename_i h'; exact ⟨hasLab_none h', hasLab_none h⟩
 | .label l', h => by
  simp only [findLabel] at h
  simp only [hasLab]
  split at h
  ·cases h
  ·rename_i h'; simpa using h'
 | .skip, _ | .region .., _ | .cond .., _ | .block .., _ | .loop _, _ | .rangeFunc .., _ | .exit _, _ | .scope _, _ | .goto _, _ | .ret, _ | .refuse _, _ => rfl
theorem labelIn_spec {l : Nat} : ∀ {c : Code}, labelIn c = some l -> ∃ r, findLabel c l = some r
 | .seq a b, h => by
  simp only [findLabel]
  simp only [labelIn] at h
  cases ha : findLabel a l with
  | some r => exact ⟨_, rfl⟩
  | none =>
   split at h
   ·rename_i l' hl'
    injection h with h
    subst h
    obtain ⟨r, hr⟩ := labelIn_spec hl'
    rw [ha] at hr; cases hr
   ·exact labelIn_spec h
 | .label l', h => by
  simp only [labelIn, Option.some.injEq] at h
  subst h
  exact ⟨.skip, by simp [findLabel]⟩
 | .skip, h | .region .., h | .cond .., h | .block .., h | .loop _, h | .rangeFunc .., h | .exit _, h | .scope _, h | .goto _, h | .ret, h | .refuse _, h => by simp [labelIn] at h
mutual
theorem vwp_sound (hΩ : ∀ f, OK P f (Ω f)) (hΩq : ∀ g F, Ωq g = some F -> OK P g F.spec) (ann : Nat -> St -> Option Ann) {D : List Deferred} {W : Nat -> Prop} {w0 : World} {ρ0 : List Place} : ∀ (c : Code) (st : St) (k : Exit -> St -> Prop) (Q : Exit -> Act -> World -> Prop) (a : Act) (w : World) (ρ : List Place),
  vwp P Ω Ωq ρ0.length ann c st k -> SRel D W w0 ρ0 ρ st a w -> (∀ e st' a' w' ρ', k e st' -> SRel D W w0 ρ0 ρ' st' a' w' -> Q e a' w') -> c.wp P Q a w
 | .skip, st, k, Q, a, w, ρ, h, hs, hk => wp_skip (hk _ _ _ _ _ h hs)
 | .label _, st, k, Q, a, w, ρ, h, hs, hk => wp_label (hk _ _ _ _ _ h hs)
 | .ret, st, k, Q, a, w, ρ, h, hs, hk => wp_ret (hk _ _ _ _ _ h hs)
 | .exit id, st, k, Q, a, w, ρ, h, hs, hk => wp_exit (hk _ _ _ _ _ h hs)
 | .seq x y, st, k, Q, a, w, ρ, h, hs, hk => by
  simp only [vwp] at h
  refine wp_seq (vwp_sound hΩ hΩq ann x st _ _ a w ρ h hs fun e st' a' w' ρ' hk' hs' => ?_)
  cases e with
  | normal => exact vwp_sound hΩ hΩq ann y st' k Q a' w' ρ' hk' hs' hk
  | _ => exact hk _ _ _ _ _ hk' hs'
 | .cond c x y, st, k, Q, a, w, ρ, h, hs, hk => by
  simp only [vwp] at h
  have hc := rep_ev hs.slots c
  split at h
  ·rename_i t he
   rw [he] at hc
   simp only [Rep] at hc
   cases t with
   | true => exact wp_cond_true hc (vwp_sound hΩ hΩq ann x st k Q a w ρ h hs hk)
   | false => exact wp_cond_false hc (vwp_sound hΩ hΩq ann y st k Q a w ρ h hs hk)
  ·rename_i t he
   rw [he] at hc
   simp only [Rep] at hc
   have at_ : ∀ d, c = .tmp d -> ∀ x, a.tmps[d]? = some x -> x = .bool t := by
    rintro d rfl x hx
    simp only [Act.eval, Array.getD_eq_getD_getElem?, hx, Option.getD_some] at hc
    exact hc
   split at h
   ·rename_i d
    cases t with
    | true => exact wp_cond_true hc (vwp_sound hΩ hΩq ann x _ k Q a w ρ (h.1 rfl) (hs.setSlot fun z hz => by rw [at_ d rfl z hz]; rfl) hk)
    | false => exact wp_cond_false hc (vwp_sound hΩ hΩq ann y _ k Q a w ρ (h.2 rfl) (hs.setSlot fun z hz => by rw [at_ d rfl z hz]; rfl) hk)
   ·cases t with
    | true => exact wp_cond_true hc (vwp_sound hΩ hΩq ann x st k Q a w ρ (h.1 rfl) hs hk)
    | false => exact wp_cond_false hc (vwp_sound hΩ hΩq ann y st k Q a w ρ (h.2 rfl) hs hk)
  ·exact h.elim
 | .block id c, st, k, Q, a, w, ρ, h, hs, hk => by
  simp only [vwp] at h
  refine wp_block (vwp_sound hΩ hΩq ann c st _ _ a w ρ h hs fun e st' a' w' ρ' hk' hs' => ?_)
  cases e with
  | exit i =>
   simp only [Exit.inBlock]
   simp only at hk'
   split at hk'
   ·rename_i hb
    rw [if_pos (Nat.eq_of_beq_eq_true hb)]
    exact hk _ _ _ _ _ hk' hs'
   ·rename_i hb
    rw [if_neg (Nat.ne_of_beq_eq_false hb)]
    exact hk _ _ _ _ _ hk' hs'
  | _ => exact hk _ _ _ _ _ hk' hs'
 | .region id ops draw, st, k, Q, a, w, ρ, h, hs, hk => by
  simp only [vwp] at h
  have go : ∀ (k' : St -> Prop), (match (generalizing := false) draw with | false => vops P Ω ops ops.toList st k' | true => vdraw (forced (ann (1000 + id) st)) P Ω Ωq ρ0.length (fun st => joinOf (ann (1000 + id) st) st) ops st k') ->
    (∀ st' a' w' ρ', k' st' -> SRel D W w0 ρ0 ρ' st' a' w' -> Q .normal a' w') -> (Code.region id ops draw).wp P Q a w := by
   intro k' h' hk'
   cases draw with
   | false => exact wp_region_list (vops_sound hΩ hk' _ st a w ρ h' hs)
   | true => exact vdraw_sound hΩ hΩq h' hs hk'
  unfold vjoin at h
  split at h
  ·exact go _ h fun st' a' w' ρ' hk' hs' => hk _ _ _ _ _ hk' hs'
  ·refine go _ h.1 fun st' a' w' ρ' hle hs' => ?_
   obtain ⟨ρ2, hs2⟩ := hs'.leSel hle
   exact hk _ _ _ _ _ h.2 hs2
 | .loop c, st, k, Q, a, w, ρ, h, hs, hk => by
  simp only [vwp] at h
  split at h
  ·exact h.elim
  ·rename_i A _
   split at h
   ·exact h.elim
   ·rename_i a0 _
    obtain ⟨h1, ⟨h2⟩, h3⟩ := h
    refine wp_loop_ghost (fun n a' w' => ∃ x ρ', A.inv x /\ A.meas x = n /\ SRel D W w0 ρ0 ρ' (A.head x) a' w') (A.meas a0) ?_ ?_
    ·obtain ⟨ρ', hs'⟩ := hs.leAt h1
     exact ⟨a0, ρ', h2, rfl, hs'⟩
    ·rintro n a' w' ⟨x, ρ', hinv, rfl, hs'⟩
     refine vwp_sound hΩ hΩq ann c (A.head x) _ _ a' w' ρ' (h3 x hinv) hs' fun e st'' a'' w'' ρ'' hk'' hs'' => ?_
     cases e with
     | normal =>
      simp only at hk''
      split at hk''
      ·exact hk''.elim
      ·rename_i x' _
       obtain ⟨g1, ⟨g2, g3⟩⟩ := hk''
       obtain ⟨ρ3, hs3⟩ := hs''.leAt g1
       exact ⟨_, g3, x', ρ3, g2, rfl, hs3⟩
     | _ => exact hk _ _ _ _ _ hk'' hs''
 | .rangeFunc .., st, k, Q, a, w, ρ, h, hs, hk => by simp [vwp] at h
 | .scope c, st, k, Q, a, w, ρ, h, hs, hk => by
  simp only [vwp] at h
  split at h
  ·exact h.elim
  ·rename_i l hl
   split at h
   ·refine wp_scope_straight (vwp_sound hΩ hΩq ann c st _ _ a w ρ h hs fun e st' a' w' ρ' hk' hs' => ?_)
    cases e with
    | goto l' => exact hk'.elim
    | _ => exact hk _ _ _ _ _ hk' hs'
   ·rename_i A _
    obtain ⟨h1, h2⟩ := h
    obtain ⟨rest, hrest⟩ := labelIn_spec hl
    refine wp_scope_jumps l (fun a' w' => ∃ n x ρ', A.inv x /\ A.meas x = n /\ SRel D W w0 ρ0 ρ' (A.head x) a' w')
     (fun a' w' => leastOf (fun n => ∃ x ρ', A.inv x /\ A.meas x = n /\ SRel D W w0 ρ0 ρ' (A.head x) a' w')) hrest ?_ ?_
    ·refine vwp_sound hΩ hΩq ann c st _ _ a w ρ h1 hs fun e st' a' w' ρ' hk' hs' => ?_
     cases e with
     | goto l' =>
      simp only at hk'
      split at hk'
      ·rename_i hb
       split at hk'
       ·exact hk'.elim
       ·rename_i x _
        obtain ⟨g1, ⟨g2⟩⟩ := hk'
        obtain ⟨ρ3, hs3⟩ := hs'.leAt g1
        exact show l' = l /\ _ from ⟨Nat.eq_of_beq_eq_true hb, _, x, ρ3, g2, rfl, hs3⟩
      ·exact hk'.elim
     | _ => exact hk _ _ _ _ _ hk' hs'
    ·rintro a' w' hJ
     obtain ⟨⟨x, ρ', hinv, hmeas, hs'⟩, _⟩ := leastOf_spec hJ
     refine vlab_sound hΩ hΩq ann l c rest hrest (A.head x) _ _ a' w' ρ' (h2 x hinv) hs' fun e st'' a'' w'' ρ'' hk'' hs'' => ?_
     cases e with
     | goto l' =>
      simp only at hk''
      split at hk''
      ·rename_i hb
       split at hk''
       ·exact hk''.elim
       ·rename_i x' _
        obtain ⟨g1, ⟨g2, g3⟩⟩ := hk''
        obtain ⟨ρ3, hs3⟩ := hs''.leAt g1
        refine show l' = l /\ _ /\ _ from ⟨Nat.eq_of_beq_eq_true hb, ⟨_, x', ρ3, g2, rfl, hs3⟩, ?_⟩
        rw [<- hmeas]
        exact Nat.lt_of_le_of_lt ((leastOf_spec (p := fun n => ∃ x ρ', A.inv x /\ A.meas x = n /\ SRel D W w0 ρ0 ρ' (A.head x) a'' w'') ⟨_, x', ρ3, g2, rfl, hs3⟩).2 _ ⟨x', ρ3, g2, rfl, hs3⟩) g3
      ·exact hk''.elim
     | _ => exact hk _ _ _ _ _ hk'' hs''
 | .goto _, st, k, Q, a, w, ρ, h, hs, hk => by
  simp only [vwp] at h
  exact wp_goto (hk _ _ _ _ _ h hs)
 | .refuse _, st, k, Q, a, w, ρ, h, hs, hk => by simp [vwp] at h
theorem vlab_sound (hΩ : ∀ f, OK P f (Ω f)) (hΩq : ∀ g F, Ωq g = some F -> OK P g F.spec) (ann : Nat -> St -> Option Ann) {D : List Deferred} {W : Nat -> Prop} {w0 : World} {ρ0 : List Place} (l : Nat) : ∀ (c rest : Code), findLabel c l = some rest -> ∀ (st : St) (k : Exit -> St -> Prop) (Q : Exit -> Act -> World -> Prop) (a : Act) (w : World) (ρ : List Place),
  vlab P Ω Ωq ρ0.length ann l c st k -> SRel D W w0 ρ0 ρ st a w -> (∀ e st' a' w' ρ', k e st' -> SRel D W w0 ρ0 ρ' st' a' w' -> Q e a' w') -> rest.wp P Q a w
 | .seq x y, rest, hf, st, k, Q, a, w, ρ, h, hs, hk => by
  simp only [vlab] at h
  simp only [findLabel] at hf
  split at hf
  ·rename_i r hr
   injection hf with hf
   subst hf
   rw [hasLab_of hr] at h
   simp only at h
   refine wp_seq (vlab_sound hΩ hΩq ann l x r hr st _ _ a w ρ h hs fun e st' a' w' ρ' hk' hs' => ?_)
   cases e with
   | normal => exact vwp_sound hΩ hΩq ann y st' k Q a' w' ρ' hk' hs' hk
   | _ => exact hk _ _ _ _ _ hk' hs'
  ·rename_i hn
   rw [hasLab_none hn] at h
   simp only at h
   exact vlab_sound hΩ hΩq ann l y rest hf st k Q a w ρ h hs hk
 | .label l', rest, hf, st, k, Q, a, w, ρ, h, hs, hk => by
  simp only [vlab] at h
  simp only [findLabel] at hf
  split at hf
  ·injection hf with hf
   subst hf
   split at h
   ·exact wp_skip (hk _ _ _ _ _ h hs)
   ·exact h.elim
  ·cases hf
 | .skip, _, hf, _, _, _, _, _, _, _, _, _ => by simp [findLabel] at hf
 | .region .., _, hf, _, _, _, _, _, _, _, _, _ => by simp [findLabel] at hf
 | .cond .., _, hf, _, _, _, _, _, _, _, _, _ => by simp [findLabel] at hf
 | .block .., _, hf, _, _, _, _, _, _, _, _, _ => by simp [findLabel] at hf
 | .loop _, _, hf, _, _, _, _, _, _, _, _, _ => by simp [findLabel] at hf
 | .rangeFunc .., _, hf, _, _, _, _, _, _, _, _, _ => by simp [findLabel] at hf
 | .exit _, _, hf, _, _, _, _, _, _, _, _, _ => by simp [findLabel] at hf
 | .scope _, _, hf, _, _, _, _, _, _, _, _, _ => by simp [findLabel] at hf
 | .goto _, _, hf, _, _, _, _, _, _, _, _, _ => by simp [findLabel] at hf
 | .ret, _, hf, _, _, _, _, _, _, _, _, _ => by simp [findLabel] at hf
 | .refuse _, _, hf, _, _, _, _, _, _, _, _, _ => by simp [findLabel] at hf
end
end
end Go.Vi
