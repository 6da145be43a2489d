/- What the conditions are worth: a call whose conditions hold returns, with a value that they let through. -/
import Derived.Test.YtbchncdchanomaaVic
import Derived.Maps.AppendAt
namespace Go.Vi
open Go.RowKit

section
variable {P : Program}

structure SRel (W : Nat → Prop) (w0 : World) (ρ0 : List Place) (ρ : List Place) (st : St) (a : Act) (w : World) : Prop where
  slots : RepL ρ st.slots a.tmps.toList
  nodefer : a.defers = []
  mem : MRel ρ st.mem w
  keep : Keep W w0 w
  own : ∀ j, Names ρ st.mem j → W j ∨ w0.heap.size ≤ j
  pre : ρ0 <+: ρ

/-- How a call ends. -/
def Ends (ρ : List Place) (m : List Blk) (w : World) (k : V → List Blk → Prop) (e : Ending) (w' : World) : Prop :=
  ∃ v m' ρ' x, e = .returned x ∧ k v m' ∧ ρ <+: ρ' ∧ Rep ρ' v x ∧ MRel ρ' m' w' ∧ Keep (Names ρ m) w w' ∧ ∀ j, Names ρ' m' j → Names ρ m j ∨ w.heap.size ≤ j

structure OK (P : Program) (f : FuncId) (S : VSpec) : Prop where
  enter : ∀ args m k, S args m k → ∀ xs w, (callFunc f xs).run P w = .ok (.enter f xs) w
  calls : ∀ args m k, S args m k → ∀ ρ w (xs : List Value), MRel ρ m w → RepL ρ args xs → Calls P f xs.toArray w (Ends ρ m w k)

theorem SRel.put {W : Nat → Prop} {w0 : World} {ρ0 : List Place} {ρ : List Place} {st : St} {a : Act} {w : World} (h : SRel W w0 ρ0 ρ st a w) (d : Option Tmp) {v : V} {x : Value} (hx : Rep ρ v x) : SRel W w0 ρ0 ρ (st.put d v) (a.put d x) w := by
  cases d with
  | none => exact h
  | some d =>
    refine ⟨?_, h.nodefer, h.mem, h.keep, h.own, h.pre⟩
    simp only [St.put, St.set, Act.put, Array.toList_setIfInBounds]
    exact h.slots.set d hx

theorem SRel.setSlot {W : Nat → Prop} {w0 : World} {ρ0 : List Place} {ρ : List Place} {st : St} {a : Act} {w : World} (h : SRel W w0 ρ0 ρ st a w) {d : Nat} {v : V} (hx : ∀ x, a.tmps[d]? = some x → Rep ρ v x) : SRel W w0 ρ0 ρ (st.set d v) a w := by
  refine ⟨?_, h.nodefer, h.mem, h.keep, h.own, h.pre⟩
  simp only [St.set]
  have hl := h.slots.length
  refine RepL.of (by simpa using hl) fun j u y hu hy => ?_
  rw [List.getElem?_set] at hu
  by_cases hdj : d = j
  · subst hdj
    by_cases hlt : d < st.slots.length
    · simp [hlt] at hu
      subst hu
      exact hx y (by simpa using hy)
    · simp [hlt] at hu
  · simp only [hdj, if_false] at hu
    exact h.slots.get2 hu hy

theorem isCell_one {ρ : List Place} {v : V} {x : Value} (h : isCell v = true) (hr : Rep ρ v x) : x.oneCell' = true := by
  cases v
  case raw y =>
    simp only [Rep] at hr
    subst hr
    cases x <;> first | rfl | (simp [isCell] at h)
  all_goals simp only [isCell, reduceCtorEq] at h
  all_goals simp only [Rep] at hr
  all_goals first
    | (subst hr; rfl)
    | (obtain ⟨p, _, rfl⟩ := hr; rfl)
    | (obtain ⟨p, _, (⟨_, _, rfl⟩ | ⟨_, rfl⟩)⟩ := hr <;> rfl)
    | (exact absurd h (by decide))

theorem SRel.new {W : Nat → Prop} {w0 : World} {ρ0 : List Place} {ρ : List Place} {st : St} {a : Act} {w : World} (h : SRel W w0 ρ0 ρ st a w) (d : Option Tmp) {cs : List V} {xs : Array Value} (hx : RepL ρ cs xs.toList) (e : TypeId) :
    ∃ ρ', ρ <+: ρ' ∧ SRel W w0 ρ0 ρ' (st.new d cs e) (a.put d (.pointer (some ⟨w.heap.size, 0, none⟩))) (w.alloc (.cells xs e)) := by
  have hm := h.mem.new hx e
  rw [Array.toArray_toList] at hm
  have hpre : ρ <+: ρ ++ [(⟨w.heap.size, 0, false⟩ : Place)] := List.prefix_append _ _
  refine ⟨_, hpre, ?_⟩
  have hs : SRel W w0 ρ0 (ρ ++ [⟨w.heap.size, 0, false⟩]) { st with mem := st.mem ++ [⟨.vals cs, e, .box⟩] } a (w.alloc (.cells xs e)) := by
    refine ⟨h.slots.mono hpre, h.nodefer, hm, h.keep.trans (Keep.alloc _ _ _), fun j hj => ?_, h.pre.trans hpre⟩
    obtain ⟨b, blk, p, hb, hp, hd, hg, rfl⟩ := hj
    by_cases hlt : b < st.mem.length
    · rw [List.getElem?_append_left hlt] at hb
      rw [List.getElem?_append_left (by rw [h.mem.len]; exact hlt)] at hp
      exact h.own _ ⟨b, blk, p, hb, hp, hd, hg, rfl⟩
    · have hbl : b = st.mem.length := by
        have := (List.getElem?_eq_some_iff.1 hb).1
        simp at this; omega
      subst hbl
      rw [← h.mem.len, List.getElem?_concat_length] at hp
      injection hp with hp
      subst hp
      exact .inr h.keep.size
  refine hs.put d ?_
  simp only [Rep]
  exact ⟨⟨w.heap.size, 0, false⟩, by rw [← h.mem.len, List.getElem?_concat_length], rfl⟩

/-- One cell stored. -/
theorem MRel.setCell {ρ : List Place} {m : List Blk} {w : World} (h : MRel ρ m w) {b : Nat} {p : Place} {cs cs' : Cells} {e : TypeId} {r : Kind} {i : Nat} {v : V} {x : Value} (hm : m[b]? = some ⟨cs, e, r⟩) (hp : ρ[b]? = some p)
    (hd : cs.isDead = false) (hi : i < cs.toVs.length) (hr : Rep ρ v x) (hcs : cs'.toVs = cs.toVs.set i v) :
    MRel ρ (m.set b ⟨cs', e, r⟩) (w.setCell (addrOf p i) x) ∧ p.ghost = false := by
  have hg : p.ghost = false := by
    rcases h.blks b _ p hm hp with h1 | ⟨_, _, h1⟩ | ⟨h1, _⟩
    · rw [hd] at h1; cases h1
    · simp only at h1; rw [h1] at hi; simp at hi
    · exact h1
  have hbl : b < m.length := (List.getElem?_eq_some_iff.1 hm).1
  have old : ∀ {c : Nat} {blk : Blk}, (m.set b ⟨cs', e, r⟩)[c]? = some blk → ∃ blk0, m[c]? = some blk0 ∧ (blk.cs.isDead = false → blk0.cs.isDead = false) ∧ (c ≠ b → blk0 = blk) ∧ (c = b → blk = ⟨cs', e, r⟩) := by
    intro c blk hc
    rw [List.getElem?_set] at hc
    by_cases hbc : b = c
    · subst hbc
      simp [hbl] at hc
      exact ⟨_, hm, fun _ => hd, fun h => absurd rfl h, fun _ => hc.symm⟩
    · simp only [hbc, if_false] at hc
      exact ⟨blk, hc, fun h => h, fun _ => rfl, fun h => absurd h.symm hbc⟩
  refine ⟨⟨by simp [h.len], fun c blk q hc hq => ?_, fun c c' blk blk' q q' hc hc' hq hq' hne hdc hdc' hgc hgc' => ?_⟩, hg⟩
  · obtain ⟨blk0, h0, hdd, hne, heq⟩ := old hc
    by_cases hcb : c = b
    · subst hcb
      have hblk := heq rfl
      subst hblk
      have hqp : q = p := by rw [hp] at hq; injection hq with hq; exact hq.symm
      subst hqp
      rcases h.blks c _ q hm hp with h1 | ⟨h1, _, _⟩ | ⟨_, cur, hcur, hrep, hsz⟩
      · rw [hd] at h1; cases h1
      · rw [hg] at h1; cases h1
      · have hl := hrep.length
        have hcl : cs.toVs.length ≤ cur.length := by rw [hl, List.length_take]; omega
        refine .inr (.inr ⟨hg, cur.set i x, ?_, ?_, ?_⟩)
        · simp only at hcur ⊢
          rw [show addrOf q i = ⟨q.blk, i, none⟩ from rfl, heap_set_any hcur]
          simp
        · simp only [hcs, List.length_set]
          rw [List.take_set]
          exact hrep.set i hr
        · simp only [hcs, List.length_set] at hsz ⊢
          exact hsz
    · have hblk := hne hcb
      subst hblk
      refine (h.blks c _ q h0 hq).keep fun hdc hgc => ?_
      refine heap_setCell_other w (addrOf p i) q.blk x ?_
      exact h.inj c b _ _ q p h0 hm hq hp hcb hdc hd hgc hg
  · obtain ⟨b0, h0, hd0, _, _⟩ := old hc
    obtain ⟨b0', h0', hd0', _, _⟩ := old hc'
    exact h.inj c c' b0 b0' q q' h0 h0' hq hq' hne (hd0 hdc) (hd0' hdc') hgc hgc'

theorem names_set {ρ : List Place} {m : List Blk} {b : Nat} {blk blk' : Blk} (hm : m[b]? = some blk) (hd : blk'.cs.isDead = false → blk.cs.isDead = false) {j : Nat} (h : Names ρ (m.set b blk') j) : Names ρ m j := by
  obtain ⟨c, bl, p, hc, hp, hdc, hg, rfl⟩ := h
  have hbl : b < m.length := (List.getElem?_eq_some_iff.1 hm).1
  rw [List.getElem?_set] at hc
  by_cases hbc : b = c
  · subst hbc
    simp [hbl] at hc
    subst hc
    exact ⟨b, blk, p, hm, hp, hd hdc, hg, rfl⟩
  · simp only [hbc, if_false] at hc
    exact ⟨c, bl, p, hc, hp, hdc, hg, rfl⟩

theorem Keep.setCell {p : Place} {i : Nat} {x : Value} (w : World) : Keep (· = p.blk) w (w.setCell (addrOf p i) x) :=
  ⟨rfl, rfl, rfl, by simp [World.setCell], fun k _ hn => heap_setCell_other w (addrOf p i) k x hn⟩

theorem storeCells_run {ρ : List Place} {p : Place} {b : Nat} {e : TypeId} {r : Kind} (hp : ρ[b]? = some p) : ∀ (vs : List V) (xs : List Value) (o i : Nat) (old : List V) (m : List Blk) (w : World), RepL ρ vs xs → allCells vs = true → MRel ρ m w →
    m[b]? = some ⟨.vals old, e, r⟩ → o + i + vs.length ≤ old.length →
    ∃ w', (storeCells (addrOf p o) xs i).run P w = .ok () w' ∧ MRel ρ (m.set b ⟨.vals (setCells old (o + i) vs), e, r⟩) w' ∧ Keep (· = p.blk) w w' ∧ (vs ≠ [] → p.ghost = false)
  | [], xs, o, i, old, m, w, hx, _, hm, hb, _ => by
    simp only [RepL] at hx
    subst hx
    refine ⟨w, rfl, ?_, Keep.refl _ _, fun h => absurd rfl h⟩
    simp only [setCells]
    have : m.set b ⟨.vals old, e, r⟩ = m := by
      apply List.ext_getElem?
      intro c
      rw [List.getElem?_set]
      by_cases hbc : b = c
      · subst hbc
        have hbl : b < m.length := (List.getElem?_eq_some_iff.1 hb).1
        simp only [hbl, if_true]
        exact hb.symm
      · simp [hbc]
    rw [this]
    exact hm
  | v :: vs, xs, o, i, old, m, w, hx, hc, hm, hb, hl => by
    simp only [RepL] at hx
    obtain ⟨x, xs', rfl, hvx, hx⟩ := hx
    simp only [allCells, Bool.and_eq_true] at hc
    simp only [List.length_cons] at hl
    have hlt : o + i < (Cells.vals old).toVs.length := by simp only [Cells.toVs]; omega
    have hold := getD_some (d := V.undef) hlt
    obtain ⟨y, hy, _, hf⟩ := hm.cell hb hp hold
    obtain ⟨hm1, hg⟩ := hm.setCell (cs' := .vals (old.set (o + i) v)) hb hp rfl hlt hvx rfl
    have hb1 : (m.set b ⟨.vals (old.set (o + i) v), e, r⟩)[b]? = some ⟨.vals (old.set (o + i) v), e, r⟩ := by
      have hbl : b < m.length := (List.getElem?_eq_some_iff.1 hb).1
      simp [hbl]
    obtain ⟨w', hrun, hm2, hk, _⟩ := storeCells_run hp vs xs' o (i + 1) (old.set (o + i) v) _ _ hx hc.2 hm1 hb1 (by simp; omega)
    refine ⟨w', ?_, ?_, (Keep.setCell w).trans (hk.mono fun k _ hk => .inl hk), fun _ => hg⟩
    · simp only [storeCells, Sem.run_bind, add_addrOf]
      rw [run_store P w _ x _ (isCell_one hc.1 hvx)]
      simp only [hy, hf, Bool.false_eq_true, if_false, Result.andThen_ok]
      exact hrun
    · rw [List.set_set] at hm2
      simpa only [setCells, Nat.add_assoc] using hm2

/-- One cell of a row stored. -/
theorem storeOne {W : Nat → Prop} {w0 : World} {ρ0 : List Place} {ρ : List Place} {st : St} {a : Act} {w : World} (hs : SRel W w0 ρ0 ρ st a w) {t : TypeId} {b o : Nat} {p : Place} {x : Value} {v : V} {cs cs' : Cells} {e : TypeId} {kd : Kind} {i : TypeInfo}
    (hp : ρ[b]? = some p) (hb : st.mem[b]? = some ⟨cs, e, kd⟩) (hi : P.info? t = some i) (hsz : i.size = 1) (hd : cs.isDead = false) (ho : o < cs.toVs.length) (hx : Rep ρ v x) (hv : isCell v = true) (hcs : cs'.toVs = cs.toVs.set o v) :
    ∃ w', (Instr.storeAt t (.pointer (some (addrOf p o))) x).run P w = .ok () w' ∧ SRel W w0 ρ0 ρ { st with mem := st.mem.set b ⟨cs', e, kd⟩ } a w' := by
  obtain ⟨y, hy, _, hf⟩ := hs.mem.cell hb hp (getD_some (d := V.undef) ho)
  obtain ⟨hm1, hg⟩ := hs.mem.setCell (cs' := cs') hb hp hd ho hx hcs
  have hone := isCell_one hv hx
  have hcells : x.cells = #[x] := by cases x <;> first | rfl | (simp [Value.oneCell'] at hone)
  refine ⟨w.setCell (addrOf p o) x, ?_, ⟨hs.slots, hs.nodefer, hm1, ?_, ?_, hs.pre⟩⟩
  · simp only [Instr.storeAt, Instr.sureAddr, Sem.run_bind, Sem.run_pure, Result.andThen_ok, storeVar, sizeOf, run_info hi, hsz, hcells, List.size_toArray, List.length_cons, List.length_nil, Nat.zero_add, ne_eq, not_true_eq_false, if_false, storeCells, add_addrOf, Nat.add_zero]
    rw [run_store P w _ x _ hone]
    simp only [hy, hf, Bool.false_eq_true, if_false, Result.andThen_ok]
  · refine hs.keep.trans ((Keep.setCell w).mono fun k _ hkp => ?_)
    subst hkp
    exact hs.own _ ⟨b, _, p, hb, hp, hd, hg, rfl⟩
  · intro j hj
    exact hs.own j (names_set hb (fun _ => hd) hj)

theorem vstore_sound {W : Nat → Prop} {w0 : World} {ρ0 : List Place} {ρ : List Place} {st : St} {a : Act} {w : World} (hs : SRel W w0 ρ0 ρ st a w) {t : TypeId} {b o : Nat} {ax x : Value} {v : V} {k : List Blk → Prop} (ha : Rep ρ (.ptr b o) ax) (hx : Rep ρ v x)
    (h : vstore P st.mem t b o v k) : ∃ m w', k m ∧ (Instr.storeAt t ax x).run P w = .ok () w' ∧ SRel W w0 ρ0 ρ { st with mem := m } a w' := by
  obtain ⟨p, hp, rfl⟩ := ptr_at b o ha
  unfold vstore at h
  split at h
  · exact h.elim
  · rename_i blk hb
    obtain ⟨cs, e, r⟩ := blk
    split at h
    · rename_i old hcs
      simp only at hcs
      subst hcs
      split at h
      · exact h.elim
      · rename_i vs hvs
        split at h
        · exact h.elim
        · rename_i i hi
          split at h
          · rename_i hc
            obtain ⟨h1, h2, h3⟩ := hc
            have hcells := cellsOfV_rep hvs hx
            obtain ⟨w', hrun, hm, hk, hg⟩ := storeCells_run (P := P) hp vs x.cells.toList o 0 old st.mem w hcells h3 hs.mem hb (by omega)
            refine ⟨_, w', h, ?_, ⟨hs.slots, hs.nodefer, hm, ?_, ?_, hs.pre⟩⟩
            · have hsz : x.cells.size = i.size := by rw [← h1, hcells.length]; simp
              simp only [Instr.storeAt, Instr.sureAddr, Sem.run_bind, Sem.run_pure, Result.andThen_ok, storeVar, sizeOf, run_info hi, hsz, ne_eq, not_true_eq_false, if_false]
              exact hrun
            · by_cases hnil : vs = []
              · subst hnil
                have hx0 : x.cells.toList = [] := by simpa [RepL] using hcells
                rw [hx0] at hrun
                have hww : w' = w := by
                  have : (storeCells (addrOf p o) [] 0).run P w = .ok () w := rfl
                  rw [this] at hrun
                  injection hrun with _ hrun
                  exact hrun.symm
                rw [hww]; exact hs.keep
              · refine hs.keep.trans (hk.mono fun k _ hkp => ?_)
                subst hkp
                exact hs.own _ ⟨b, _, p, hb, hp, rfl, hg hnil, rfl⟩
            · intro j hj
              exact hs.own j (names_set hb (fun _ => rfl) hj)
          · exact h.elim
    · rename_i kd l hcs
      simp only at hcs
      subst hcs
      split at h
      · rename_i kd' n
        split at h
        · exact h.elim
        · rename_i i hi
          split at h
          · rename_i hc
            obtain ⟨hsz, rfl⟩ := hc
            obtain ⟨⟨ho⟩, h⟩ := h
            obtain ⟨w', hrun, hs'⟩ := storeOne (P := P) (cs' := .ints kd (l.set o n)) hs hp hb hi hsz rfl (by simpa [Cells.toVs] using ho) hx rfl (by simp [Cells.toVs, List.map_set])
            exact ⟨_, w', h, hrun, hs'⟩
          · exact h.elim
      · exact h.elim
    · rename_i l hcs
      simp only at hcs
      subst hcs
      split at h
      · rename_i n
        split at h
        · exact h.elim
        · rename_i i hi
          split at h
          · rename_i hsz
            obtain ⟨⟨ho, h0, h1⟩, h⟩ := h
            have hn : ((UInt8.ofNat n.toNat).toNat : Int) = n := by
              rw [UInt8.toNat_ofNat']
              omega
            obtain ⟨w', hrun, hs'⟩ := storeOne (P := P) (cs' := .bytes (l.set o (UInt8.ofNat n.toNat))) hs hp hb hi hsz rfl (by simpa [Cells.toVs] using ho) hx rfl (by simp only [Cells.toVs, List.map_set]; rw [hn])
            exact ⟨_, w', h, hrun, hs'⟩
          · exact h.elim
      · exact h.elim
    · rename_i l hcs
      simp only at hcs
      subst hcs
      split at h
      · rename_i s
        split at h
        · exact h.elim
        · rename_i i hi
          split at h
          · rename_i hsz
            obtain ⟨⟨ho⟩, h⟩ := h
            obtain ⟨w', hrun, hs'⟩ := storeOne (P := P) (cs' := .strs (l.set o s)) hs hp hb hi hsz rfl (by simpa [Cells.toVs] using ho) hx rfl (by simp [Cells.toVs, List.map_set])
            exact ⟨_, w', h, hrun, hs'⟩
          · exact h.elim
      · exact h.elim
    · exact h.elim

/-- A new row. -/
theorem SRel.rowG {W : Nat → Prop} {w0 : World} {ρ0 : List Place} {ρ : List Place} {st : St} {a : Act} {w w' : World} (h : SRel W w0 ρ0 ρ st a w) (d : Option Tmp) {n cap : Nat} {cs : Cells} {cur : List Value} {e : TypeId} {kd : Kind}
    (hk : Keep (fun _ => False) w w') (hh : w'.heap[w.heap.size]? = some (.cells cur.toArray e (frz kd cur.length))) (hcur : RepL ρ cs.toVs (cur.take cs.toVs.length)) (hfit : match (generalizing := false) kd with | .box => cur.length = cs.toVs.length | .rows s => cur.length = cap * s ∧ cap ≤ maxLen | _ => cur.length = cap ∧ cap ≤ maxLen) :
    ∃ ρ', ρ <+: ρ' ∧ SRel W w0 ρ0 ρ' (st.row d n cs e kd) (a.put d (.slice (some ⟨w.heap.size, 0, none⟩) n cap)) w' := by
  have hpre : ρ <+: ρ ++ [(⟨w.heap.size, cap, false⟩ : Place)] := List.prefix_append _ _
  have hm := h.mem.add (w' := w') (p := ⟨w.heap.size, cap, false⟩) (blk := ⟨cs, e, kd⟩) (fun k hk' => hk.block k (h.mem.lt hk') (fun f => f)) (fun _ hn => by have := h.mem.lt hn; simp at this)
    (.inr (.inr ⟨rfl, cur, hh, hcur.mono hpre, hfit⟩))
  refine ⟨_, hpre, ?_⟩
  have hs : SRel W w0 ρ0 (ρ ++ [⟨w.heap.size, cap, false⟩]) { st with mem := st.mem ++ [⟨cs, e, kd⟩] } a w' := by
    refine ⟨h.slots.mono hpre, h.nodefer, hm, h.keep.trans (hk.mono fun _ _ f => f.elim), fun j hj => ?_, h.pre.trans hpre⟩
    obtain ⟨b, blk, p, hb, hp, hd, hg, rfl⟩ := hj
    by_cases hlt : b < st.mem.length
    · rw [List.getElem?_append_left hlt] at hb
      rw [List.getElem?_append_left (by rw [h.mem.len]; exact hlt)] at hp
      exact h.own _ ⟨b, blk, p, hb, hp, hd, hg, rfl⟩
    · have hbl : b = st.mem.length := by
        have := (List.getElem?_eq_some_iff.1 hb).1
        simp at this; omega
      subst hbl
      rw [← h.mem.len, List.getElem?_concat_length] at hp
      injection hp with hp
      subst hp
      exact .inr h.keep.size
  refine hs.put d ?_
  simp only [Rep]
  exact ⟨⟨w.heap.size, cap, false⟩, by rw [← h.mem.len, List.getElem?_concat_length], .inr ⟨rfl, rfl⟩⟩

theorem SRel.row {W : Nat → Prop} {w0 : World} {ρ0 : List Place} {ρ : List Place} {st : St} {a : Act} {w w' : World} (h : SRel W w0 ρ0 ρ st a w) (d : Option Tmp) {n cap : Nat} {cs : Cells} {cur : List Value} {e : TypeId} {kd : Kind}
    (hk : Keep (fun _ => False) w w') (hh : w'.heap[w.heap.size]? = some (.cells cur.toArray e (frz kd cur.length))) (hkd : kd = .row ∨ kd = .marked) (hcur : RepL ρ cs.toVs (cur.take cs.toVs.length)) (hl : cur.length = cap) (hcap : cap ≤ maxLen) :
    ∃ ρ', ρ <+: ρ' ∧ SRel W w0 ρ0 ρ' (st.row d n cs e kd) (a.put d (.slice (some ⟨w.heap.size, 0, none⟩) n cap)) w' :=
  h.rowG d hk hh hcur (by rcases hkd with rfl | rfl <;> exact ⟨hl, hcap⟩)

/-! ### append -/
theorem Cells.app_spec {sz n m : Nat} {a b c : Cells} {p : Prop} (h : Cells.app sz n m a b = some (p, c)) (hp : p) :
    a.isDead = false ∧ b.isDead = false ∧ c.isDead = false ∧ a.toVs.length = n * sz ∧ m * sz ≤ b.toVs.length ∧ c.toVs = a.toVs ++ b.toVs.take (m * sz) ∧ ∀ v ∈ b.toVs, isCell v = true := by
  unfold Cells.app at h
  split at h
  · injection h with h; injection h with h1 h2; subst h1; subst h2
    refine ⟨rfl, rfl, rfl, by simpa [Cells.toVs] using hp.1, by simpa [Cells.toVs] using hp.2, by simp [Cells.toVs, List.map_take], fun v hv => ?_⟩
    obtain ⟨x, _, rfl⟩ := List.mem_map.1 hv
    rfl
  · split at h
    · rename_i hk
      have hk := of_decide_eq_true hk
      subst hk
      injection h with h; injection h with h1 h2; subst h1; subst h2
      refine ⟨rfl, rfl, rfl, by simpa [Cells.toVs] using hp.1, by simpa [Cells.toVs] using hp.2, by simp [Cells.toVs, List.map_take], fun v hv => ?_⟩
      obtain ⟨x, _, rfl⟩ := List.mem_map.1 hv
      rfl
    · cases h
  · injection h with h; injection h with h1 h2; subst h1; subst h2
    refine ⟨rfl, rfl, rfl, by simpa [Cells.toVs] using hp.1, by simpa [Cells.toVs] using hp.2, by simp [Cells.toVs, List.map_take], fun v hv => ?_⟩
    obtain ⟨x, _, rfl⟩ := List.mem_map.1 hv
    rfl
  · cases h
theorem Kind.rowOf_spec {k : Kind} {sz : Nat} (h : k.rowOf sz = true) : (∀ n, frz k n = (0, 0)) ∧ k.isRow = true ∧
    ∀ (len tv cap : Nat), (match (generalizing := false) k with | .box => len = tv | .rows s => len = cap * s ∧ cap ≤ maxLen | _ => len = cap ∧ cap ≤ maxLen) ↔ (len = cap * sz ∧ cap ≤ maxLen) := by
  cases k with
  | box => cases h
  | marked => cases h
  | row =>
    have : sz = 1 := Nat.eq_of_beq_eq_true h
    subst this
    exact ⟨fun _ => rfl, rfl, fun len tv cap => by simp⟩
  | rows s =>
    have : s = sz := Nat.eq_of_beq_eq_true h
    subst this
    exact ⟨fun _ => rfl, rfl, fun len tv cap => by simp⟩
theorem rowKind_rowOf (sz : Nat) : (rowKind sz).rowOf sz = true := by
  unfold rowKind
  split
  · rfl
  · exact Nat.beq_refl _
theorem none0_toVs {c : Cells} : c.none0.toVs = [] := by cases c <;> rfl

/-- A block that is no longer spoken of. -/
theorem MRel.kill {ρ : List Place} {m : List Blk} {w : World} (h : MRel ρ m w) (b : Nat) (e : TypeId) (kd : Kind) : MRel ρ (m.set b ⟨.dead, e, kd⟩) w := by
  have old : ∀ {c : Nat} {blk : Blk}, (m.set b ⟨.dead, e, kd⟩)[c]? = some blk → blk.cs.isDead = false → c ≠ b ∧ m[c]? = some blk := by
    intro c blk hc hd
    rw [List.getElem?_set] at hc
    split at hc
    · split at hc
      · injection hc with hc; subst hc; cases hd
      · cases hc
    · rename_i hne
      exact ⟨fun e => hne e.symm, hc⟩
  refine ⟨by simp [h.len], fun c blk p hc hp => ?_, fun c c' blk blk' p p' hc hc' hp hp' hne hd hd' hg hg' => ?_⟩
  · by_cases hd : blk.cs.isDead = true
    · exact .inl hd
    · exact h.blks c blk p (old hc (by simpa using hd)).2 hp
  · exact h.inj c c' blk blk' p p' (old hc hd).2 (old hc' hd').2 hp hp' hne hd hd' hg hg'
theorem names_kill {ρ : List Place} {m : List Blk} {w : World} (hm : MRel ρ m w) {b : Nat} {e : TypeId} {kd : Kind} {blk : Blk} {p : Place} (hb : m[b]? = some blk) (hp : ρ[b]? = some p) (hd : blk.cs.isDead = false) {k : Nat}
    (h : Names ρ (m.set b ⟨.dead, e, kd⟩) k) : Names ρ m k ∧ (p.ghost = false → k ≠ p.blk) := by
  obtain ⟨c, bl, q, hc, hq, hdc, hg, rfl⟩ := h
  rw [List.getElem?_set] at hc
  split at hc
  · split at hc
    · injection hc with hc; subst hc; cases hdc
    · cases hc
  · rename_i hne
    exact ⟨⟨c, bl, q, hc, hq, hdc, hg, rfl⟩, fun hpg => hm.inj c b bl blk q p hc hb hq hp (fun e => hne e.symm) hdc hd hg hpg⟩

theorem append_sound {newb : Blk} {W : Nat → Prop} {w0 : World} {ρ0 : List Place} {ρ : List Place} {st : St} {a : Act} {w : World} (hs : SRel W w0 ρ0 ρ st a w) {t ty e : TypeId} {i : TypeInfo} {z : Value} (ht : P.underlying t = some (.slice e)) (hi : P.info? e = some i) (hz : i.zero = some z)
    (hzs : z.cells.size = i.size) (hsz : 0 < i.size) (hby : i.bytes ≤ 64) {sv xv : Value} {n m b' : Nat} {blk' : Blk} (hx : Rep ρ (.row b' m) xv) (hb' : st.mem[b']? = some blk') (hd' : blk'.cs.isDead = false)
    {mem1 : List Blk} (hm1 : MRel ρ mem1 w) (hn1 : ∀ k, Names ρ mem1 k → Names ρ st.mem k) (hown : ∃ xs old, w.ownsRow 0 e i.size sv n xs ∧ RepL ρ old xs ∧ (∀ k, sv.ownBlock = some k → Names ρ st.mem k ∧ ¬ Names ρ mem1 k) ∧
      ∃ cs : Cells, cs.isDead = false ∧ cs.toVs = old ++ blk'.cs.toVs.take (m * i.size) ∧ ∃ kd : Kind, kd.rowOf i.size = true ∧ m * i.size ≤ blk'.cs.toVs.length ∧ (∀ v ∈ blk'.cs.toVs, isCell v = true) ∧ 0 < m ∧ n + m ≤ 1000000000 ∧ newb = (⟨cs, e, kd⟩ : Blk)) (d : Option Tmp) :
    ∃ v' w' ρ', (Builtin.append_ #[t, t] ty #[sv, xv]).run P w = .ok v' w' ∧ SRel W w0 ρ0 ρ' (St.put { st with mem := mem1 ++ [newb] } d (.row mem1.length (n + m))) (a.put d v') w' := by
  obtain ⟨xs, old, hsv, hold, hblk, cs, hcd, hcs, kd, hkd, hml, hcell, hm0, hsmall, rfl⟩ := hown
  obtain ⟨p', hp', hf'⟩ := row_form hx
  rcases hf' with ⟨_, hn0, _⟩ | ⟨hg', rfl⟩
  · omega
  rcases hs.mem.blks b' blk' p' hb' hp' with hdd | ⟨hgg, _⟩ | ⟨_, cur', hcur', hrep', _⟩
  · rw [hd'] at hdd; cases hdd
  · rw [hg'] at hgg; cases hgg
  have hl' := hrep'.length
  have hcl' : blk'.cs.toVs.length ≤ cur'.length := by rw [hl', List.length_take]; omega
  have hnews : RepL ρ (blk'.cs.toVs.take (m * i.size)) (cur'.take (m * i.size)) := by
    have := hrep'.sub 0 (m * i.size)
    simp only [List.drop_zero, List.take_take, Nat.min_eq_left hml] at this
    exact this
  obtain ⟨v', w', hrun, hown', hgrow, hnil, hat⟩ := run_append_own_at (P := P) w 0 t ty e i z i.size i.bytes ht hi hz rfl rfl hzs hsz sv n xs hsv (addrOf p' 0) m p'.cap (cur'.take (m * i.size)) (by rw [List.length_take]; omega)
    (fun j u hu => by
      rw [add_addrOf, Nat.zero_add]
      unfold addrOf
      rw [cell_of_row w p'.blk j cur'.toArray blk'.elem _ hcur']
      rw [List.getElem?_take] at hu
      split at hu
      · simpa using hu
      · cases hu)
    (fun u hu => by
      obtain ⟨j, hj⟩ := List.mem_iff_getElem?.1 hu
      have hjl : j < (blk'.cs.toVs.take (m * i.size)).length := by
        have := (List.getElem?_eq_some_iff.1 hj).1
        rw [hnews.length]; exact this
      have hv := getD_some (d := V.undef) hjl
      have hr := hnews.get2 hv hj
      refine isCell_one (hcell _ ?_) hr
      exact List.mem_of_mem_take (List.mem_of_getElem? hv))
    (by unfold maxLen; omega) (by
      have : (n + m) * i.bytes ≤ 1000000000 * 64 := Nat.mul_le_mul hsmall hby
      omega) (Nat.zero_le _)
  have hv' : v' ≠ .slice none 0 0 := fun h => by have := (hnil.1 h).2; omega
  rcases hown'.2 with ⟨h, _⟩ | ⟨g, cap, cur, rfl, _, hheap, hncap, hcap, hsize, htake⟩
  · exact absurd h hv'
  have hgat : sv.ownBlock = some g ∨ g = w.heap.size := by
    rcases hat with h | h
    · exact .inl (h.symm.trans rfl)
    · exact .inr (by simpa [Value.ownBlock] using h)
  have hkeepW : Keep (fun k => sv.ownBlock = some k) w w' := ⟨hgrow.os, hgrow.tape, hgrow.output, hgrow.size, fun k hk hn => hgrow.block k hk (fun h => hn h.symm)⟩
  have hpre : ρ <+: ρ ++ [(⟨g, cap, false⟩ : Place)] := List.prefix_append _ _
  have hrepn : RepL ρ (old ++ blk'.cs.toVs.take (m * i.size)) (xs ++ cur'.take (m * i.size)) := hold.append hnews
  have hlen := hown'.1
  have hmem := hm1.add (w' := w') (p := ⟨g, cap, false⟩) (blk := ⟨cs, e, kd⟩) (fun k hk => hgrow.block k (hm1.lt hk) (fun h => (hblk k h.symm).2 hk)) (fun _ hN => by
      rcases hgat with h | h
      · exact (hblk g h).2 hN
      · have := hm1.lt hN; simp only at this; omega)
    (.inr (.inr ⟨rfl, cur.toList, by simp only [(Kind.rowOf_spec hkd).1]; simpa using hheap, by
      simp only [hcs]
      have hl2 : (old ++ blk'.cs.toVs.take (m * i.size)).length = (n + m) * i.size := by rw [hrepn.length, hlen]
      rw [hl2, htake]
      exact hrepn.mono hpre, by
      have := ((Kind.rowOf_spec hkd).2.2 cur.toList.length cs.toVs.length cap).2 ⟨by simpa using hsize, hcap⟩
      exact this⟩))
  refine ⟨_, w', ρ ++ [⟨g, cap, false⟩], hrun, ?_⟩
  refine SRel.put (st := { st with mem := mem1 ++ [⟨cs, e, kd⟩] }) ⟨hs.slots.mono hpre, hs.nodefer, hmem, hs.keep.trans (hkeepW.mono fun k _ hk => hs.own k (hblk k hk).1), fun j hj => ?_, hs.pre.trans hpre⟩ _ ?_
  · obtain ⟨c, bl, q, hc, hq, hd, hg, rfl⟩ := hj
    by_cases hlt : c < mem1.length
    · rw [List.getElem?_append_left hlt] at hc
      rw [List.getElem?_append_left (by rw [hm1.len]; exact hlt)] at hq
      exact hs.own _ (hn1 _ ⟨c, bl, q, hc, hq, hd, hg, rfl⟩)
    · have hcl : c = mem1.length := by
        have := (List.getElem?_eq_some_iff.1 hc).1
        simp at this; omega
      subst hcl
      rw [← hm1.len, List.getElem?_concat_length] at hq
      injection hq with hq
      subst hq
      rcases hgat with h | h
      · exact hs.own _ (hblk g h).1
      · exact .inr (by simp only; rw [h]; exact hs.keep.size)
  · simp only [Rep]
    exact ⟨⟨g, cap, false⟩, by rw [← hm1.len, List.getElem?_concat_length], .inr ⟨rfl, rfl⟩⟩

theorem vappend_sound {W : Nat → Prop} {w0 : World} {ρ0 : List Place} {ρ : List Place} {st : St} {a : Act} {w : World} (hs : SRel W w0 ρ0 ρ st a w) {t ty : TypeId} {s x : V} {sv xv : Value} (hs1 : Rep ρ s sv) (hx : Rep ρ x xv) {k : Nat → List Blk → Prop}
    (h : vappend P t st.mem s x k) (d : Option Tmp) :
    ∃ n m v' w' ρ', k n m ∧ (Builtin.append_ #[t, t] ty #[sv, xv]).run P w = .ok v' w' ∧ SRel W w0 ρ0 ρ' (St.put { st with mem := m } d (.row st.mem.length n)) (a.put d v') w' := by
  unfold vappend at h
  split at h
  · rename_i b' m
    split at h
    · rename_i blk' e hb' ht
      split at h
      · exact h.elim
      · rename_i i hi
        split at h
        · exact h.elim
        · rename_i z hz
          replace h := withSize_spec h
          split at h
          · rename_i b n
            split at h
            · exact h.elim
            · rename_i blk hb
              split at h
              · exact h.elim
              · rename_i p cs happ
                split at h
                · rename_i hc
                  obtain ⟨c1, c2, c3, c4, c5⟩ := hc
                  obtain ⟨⟨hp, hm0, hsmall⟩, h⟩ := h
                  obtain ⟨a1, a2, a3, a4, a5, a6, a7⟩ := Cells.app_spec happ hp
                  obtain ⟨pl, hpl, hf⟩ := row_form hs1
                  have hown : ∃ xs old, w.ownsRow 0 e i.size sv n xs ∧ RepL ρ old xs ∧ old = blk.cs.toVs ∧ (∀ k, sv.ownBlock = some k → pl.ghost = false ∧ k = pl.blk) := by
                    rcases hs.mem.blks b blk pl hb hpl with hdd | ⟨hgg, _, hnil⟩ | ⟨hgg, cur, hcur, hrep, hfit⟩
                    · rw [a1] at hdd; cases hdd
                    · rcases hf with ⟨_, hn0, rfl⟩ | ⟨hg, _⟩
                      · subst hn0
                        exact ⟨[], [], World.ownsRow_nil w 0 e i.size, by simp [RepL], hnil.symm, fun k hk => by simp [Value.ownBlock] at hk⟩
                      · rw [hg] at hgg; cases hgg
                    · rcases hf with ⟨hg, _⟩ | ⟨_, rfl⟩
                      · rw [hg] at hgg; cases hgg
                      · have hfit' := ((Kind.rowOf_spec c5).2.2 _ _ _).1 hfit
                        have hl := hrep.length
                        have hle : n * i.size ≤ cur.length := by rw [← a4, hl, List.length_take]; omega
                        refine ⟨cur.take (n * i.size), blk.cs.toVs, ⟨by rw [List.length_take]; omega, .inr ⟨pl.blk, pl.cap, cur.toArray, rfl, Nat.zero_le _, ?_, ?_, hfit'.2, by simpa using hfit'.1, by simp⟩⟩, by rw [← a4]; exact hrep, rfl, fun k hk => ?_⟩
                        · rw [(Kind.rowOf_spec c5).1] at hcur
                          rw [← c4]; exact hcur
                        · rw [hfit'.1] at hle
                          exact Nat.le_of_mul_le_mul_right hle c2
                        · simp only [Value.ownBlock, addrOf, Option.some.injEq] at hk
                          exact ⟨hgg, hk.symm⟩
                  obtain ⟨xs, old, o1, o2, o3, o4⟩ := hown
                  have hnm : ∀ k, sv.ownBlock = some k → Names ρ st.mem k ∧ ¬ Names ρ (st.mem.set b ⟨.dead, blk.elem, blk.kind⟩) k := fun k hk => by
                    obtain ⟨hg, rfl⟩ := o4 k hk
                    exact ⟨⟨b, blk, pl, hb, hpl, a1, hg, rfl⟩, fun hN => (names_kill hs.mem hb hpl a1 hN).2 hg rfl⟩
                  obtain ⟨v', w', ρ', r1, r2⟩ := append_sound (P := P) (ty := ty) (newb := ⟨cs, e, blk.kind⟩) hs ht hi hz c1 c2 c3 hx hb' a2 (hs.mem.kill b blk.elem blk.kind) (fun k hk => (names_kill hs.mem hb hpl a1 hk).1)
                    ⟨xs, old, o1, o2, hnm, cs, a3, by rw [a6, o3], blk.kind, c5, a5, a7, hm0, hsmall, rfl⟩ d
                  rw [List.length_set] at r2
                  exact ⟨_, _, v', w', ρ', h, r1, r2⟩
                · exact h.elim
          · split at h
            · exact h.elim
            · rename_i p cs happ
              split at h
              · rename_i hc
                obtain ⟨c1, c2, c3⟩ := hc
                obtain ⟨⟨hp, hm0, hsmall⟩, h⟩ := h
                obtain ⟨a1, a2, a3, a4, a5, a6, a7⟩ := Cells.app_spec happ hp
                simp only [Rep] at hs1
                subst hs1
                obtain ⟨v', w', ρ', r1, r2⟩ := append_sound (P := P) (ty := ty) (newb := ⟨cs, e, rowKind i.size⟩) hs ht hi hz c1 c2 c3 hx hb' a2 hs.mem (fun k hk => hk)
                  ⟨[], [], World.ownsRow_nil w 0 e i.size, by simp [RepL], fun k hk => by simp [Value.ownBlock] at hk, cs, a3, by rw [a6, none0_toVs], rowKind i.size, rowKind_rowOf _, a5, a7, hm0, by omega, rfl⟩ d
                rw [Nat.zero_add] at r2
                exact ⟨_, _, v', w', ρ', h, r1, r2⟩
              · exact h.elim
          · exact h.elim
    · exact h.elim
  · exact h.elim

/-! ### calls -/
theorem addNew_spec : ∀ (ns l : List Nat), l.Nodup → (addNew l ns).Nodup ∧ (∀ n ∈ l, n ∈ addNew l ns) ∧ ∀ n ∈ ns, n ∈ addNew l ns
  | [], l, h => ⟨h, fun _ h => h, fun _ h => by cases h⟩
  | n :: ns, l, h => by
    simp only [addNew]
    by_cases hc : l.contains n = true
    · rw [if_pos hc]
      obtain ⟨h1, h2, h3⟩ := addNew_spec ns l h
      refine ⟨h1, h2, fun m hm => ?_⟩
      rcases List.mem_cons.1 hm with rfl | hm
      · exact h2 _ (by simpa using hc)
      · exact h3 _ hm
    · rw [if_neg hc]
      have hn : n ∉ l := by simpa using hc
      obtain ⟨h1, h2, h3⟩ := addNew_spec ns (l ++ [n]) (by
        rw [List.nodup_append]
        exact ⟨h, by simp, fun a ha b hb => by
          simp at hb; subst hb; rintro rfl; exact hn ha⟩)
      refine ⟨h1, fun m hm => h2 _ (by simp [hm]), fun m hm => ?_⟩
      rcases List.mem_cons.1 hm with rfl | hm
      · exact h2 _ (by simp)
      · exact h3 _ hm

theorem get_idxOf {a : Nat} : ∀ {l : List Nat}, a ∈ l → l[l.idxOf a]? = some a
  | [], h => by cases h
  | b :: l, h => by
    rw [List.idxOf_cons]
    by_cases hb : b = a
    · subst hb; simp
    · have hba : (b == a) = false := by simpa using hb
      rw [hba]
      simp only [cond_false, List.getElem?_cons_succ]
      rcases List.mem_cons.1 h with h | h
      · exact absurd h.symm hb
      · exact get_idxOf h

theorem pickMem_spec {mem : List Blk} : ∀ {ns : List Nat} {m : List Blk}, pickMem mem ns = some m →
    m.length = ns.length ∧ ∀ (i n : Nat), ns[i]? = some n → ∃ blk, mem[n]? = some blk ∧ m[i]? = some blk ∧ blk.cs.isDead = false
  | [], m, h => by
    simp only [pickMem, Option.some.injEq] at h
    subst h
    exact ⟨rfl, fun i n hi => by simp at hi⟩
  | n :: ns, m, h => by
    simp only [pickMem] at h
    split at h
    · cases h
    · rename_i blk hb
      split at h
      · cases h
      · rename_i hd
        split at h
        · cases h
        · rename_i r hr
          injection h with h
          subst h
          obtain ⟨h1, h2⟩ := pickMem_spec hr
          refine ⟨by simp [h1], fun i n' hi => ?_⟩
          cases i with
          | zero => simp at hi; subst hi; exact ⟨blk, hb, rfl, hd⟩
          | succ i => simpa using h2 i n' (by simpa using hi)

theorem updMem_length : ∀ (ns : List Nat) (m' mem : List Blk), (updMem mem ns m').length = mem.length
  | [], m', mem => by simp [updMem]
  | n :: ns, [], mem => by simp [updMem]
  | n :: ns, b :: bs, mem => by simp [updMem, updMem_length ns bs]

theorem updMem_other : ∀ (ns : List Nat) (m' mem : List Blk) {c : Nat}, c ∉ ns → (updMem mem ns m')[c]? = mem[c]?
  | [], m', mem, c, _ => by simp [updMem]
  | n :: ns, [], mem, c, _ => by simp [updMem]
  | n :: ns, b :: bs, mem, c, hc => by
    simp only [List.mem_cons, not_or] at hc
    simp only [updMem]
    rw [updMem_other ns bs _ hc.2, List.getElem?_set, if_neg (fun h => hc.1 h.symm)]

theorem updMem_at : ∀ (ns : List Nat) (m' mem : List Blk) {i c : Nat} {blk : Blk}, ns.Nodup → ns[i]? = some c → m'[i]? = some blk → c < mem.length → (updMem mem ns m')[c]? = some blk
  | [], m', mem, i, c, blk, _, h, _, _ => by simp at h
  | n :: ns, [], mem, i, c, blk, _, _, h, _ => by simp at h
  | n :: ns, b :: bs, mem, i, c, blk, hn, hi, hb, hc => by
    simp only [List.nodup_cons] at hn
    simp only [updMem]
    cases i with
    | zero =>
      simp at hi hb
      subst hi; subst hb
      rw [updMem_other ns bs _ hn.1, List.getElem?_set, if_pos rfl, if_pos hc]
    | succ i =>
      simp at hi hb
      exact updMem_at ns bs _ hn.2 hi hb (by simpa using hc)

mutual
theorem Rep.rename {ρ ρl : List Place} {f : Nat → Nat} : ∀ {v : V} {x : Value}, (∀ n ∈ v.names, ρl[f n]? = ρ[n]?) → Rep ρ v x → Rep ρl (v.rename f) x
  | .undef, _, _, _ => by simp [V.rename, Rep]
  | .int k m, x, _, h => by simpa [V.rename, Rep] using h
  | .bool b, x, _, h => by simpa [V.rename, Rep] using h
  | .lit b, x, _, h => by simpa [V.rename, Rep] using h
  | .str s, x, _, h => by simpa [V.rename, Rep] using h
  | .ptr b o, x, hb, h => by
    simp only [Rep, V.rename] at h ⊢
    rw [hb b (by simp [V.names])]; exact h
  | .nilp, x, _, h => by simpa [V.rename, Rep] using h
  | .raw _, x, _, h => by simpa [V.rename, Rep] using h
  | .row b m, x, hb, h => by
    simp only [Rep, V.rename] at h ⊢
    rw [hb b (by simp [V.names])]; exact h
  | .fn _ caps, x, hb, h => by
    simp only [Rep, V.rename] at h ⊢
    obtain ⟨ps, h1, h2⟩ := h
    refine ⟨ps, ?_, h2⟩
    rw [← h1, List.map_map]
    exact List.map_congr_left fun b hm => hb b (by simpa [V.names] using hm)
  | .agg cs, x, hb, h => by
    simp only [Rep, V.rename] at h ⊢
    obtain ⟨xs, h1, h2⟩ := h
    exact ⟨xs, h1, RepL.rename (by simpa [V.names] using hb) h2⟩
  | .tup cs, x, hb, h => by
    simp only [Rep, V.rename] at h ⊢
    obtain ⟨xs, h1, h2⟩ := h
    exact ⟨xs, h1, RepL.rename (by simpa [V.names] using hb) h2⟩
theorem RepL.rename {ρ ρl : List Place} {f : Nat → Nat} : ∀ {vs : List V} {xs : List Value}, (∀ n ∈ namesL vs, ρl[f n]? = ρ[n]?) → RepL ρ vs xs → RepL ρl (renameL f vs) xs
  | [], xs, _, h => by simpa [renameL, RepL] using h
  | v :: vs, xs, hb, h => by
    simp only [RepL, renameL] at h ⊢
    obtain ⟨x, r, h1, h2, h3⟩ := h
    exact ⟨x, r, h1, Rep.rename (fun n hn => hb n (by simp [namesL, hn])) h2, RepL.rename (fun n hn => hb n (by simp [namesL, hn])) h3⟩
end

theorem underL_map {α : Type} (f : α → V) (hf : ∀ x, (f x).under 0 = true) : ∀ l : List α, underL 0 (l.map f) = true
  | [] => rfl
  | x :: l => by simp [underL, hf x, underL_map f hf l]
theorem closed_toVs {cs : Cells} (h : closedCs cs = true) : underL 0 cs.toVs = true := by
  cases cs with
  | vals vs => exact h
  | ints k l => exact underL_map _ (fun _ => rfl) l
  | bytes l => exact underL_map _ (fun _ => rfl) l
  | strs l => exact underL_map _ (fun _ => rfl) l
  | dead => rfl
theorem BRel.closed {ρ ρ' : List Place} {p : Place} {blk : Blk} {w : World} (hc : closedCs blk.cs = true) (h : BRel ρ p blk w) : BRel ρ' p blk w := by
  rcases h with h | ⟨h1, h2, h3⟩ | ⟨h1, cur, hcur, hr, hs⟩
  · exact .inl h
  · exact .inr (.inl ⟨h1, h2, h3⟩)
  · exact .inr (.inr ⟨h1, cur, hcur, hr.closed (closed_toVs hc), hs⟩)
theorem allClosed_get : ∀ {m : List Blk} {i : Nat} {blk : Blk}, allClosed m = true → m[i]? = some blk → closedCs blk.cs = true
  | [], i, blk, _, h => by simp at h
  | b :: bs, i, blk, hc, h => by
    simp only [allClosed, Bool.and_eq_true] at hc
    cases i with
    | zero => simp at h; subst h; exact hc.1
    | succ i => exact allClosed_get hc.2 (by simpa using h)

theorem blt_no {i n : Nat} (h : ¬ i < n) : Nat.blt i n = false := by
  cases hb : Nat.blt i n with
  | false => rfl
  | true => exact absurd (Nat.blt_eq.mp hb) h
theorem blt_yes {i n : Nat} (h : i < n) : Nat.blt i n = true := Nat.blt_eq.mpr h
theorem newNames_spec (n : Nat) : ∀ (l : List Nat) (i : Nat), i ∈ l → i < n ∨ i ∈ newNames n l
  | [], i, h => by cases h
  | a :: l, i, h => by
    simp only [newNames]
    rcases List.mem_cons.1 h with rfl | h
    · by_cases hlt : i < n
      · exact .inl hlt
      · rw [blt_no hlt]
        exact .inr (by simp)
    · rcases newNames_spec n l i h with h' | h'
      · exact .inl h'
      · refine .inr ?_
        split
        · exact h'
        · exact List.mem_cons_of_mem _ h'
theorem newNames_ge (n : Nat) : ∀ (l : List Nat) (i : Nat), i ∈ newNames n l → n ≤ i
  | [], i, h => by cases h
  | a :: l, i, h => by
    simp only [newNames] at h
    split at h
    · exact newNames_ge n l i h
    · rename_i hb
      rcases List.mem_cons.1 h with rfl | h
      · exact Nat.le_of_not_lt fun hlt => by rw [blt_yes hlt] at hb; cases hb
      · exact newNames_ge n l i h
theorem addNew_sub : ∀ (ns l : List Nat) (i : Nat), i ∈ addNew l ns → i ∈ l ∨ i ∈ ns
  | [], l, i, h => .inl h
  | n :: ns, l, i, h => by
    simp only [addNew] at h
    rcases addNew_sub ns _ i h with h' | h'
    · split at h'
      · exact .inl h'
      · rcases List.mem_append.1 h' with h'' | h''
        · exact .inl h''
        · exact .inr (by simp at h''; simp [h''])
    · exact .inr (List.mem_cons_of_mem _ h')

/-- Blocks of a callee's memory come over. -/
theorem MRel.take {ρ' : List Place} {m' : List Blk} {w' : World} (hm' : MRel ρ' m' w') : ∀ (nn : List Nat) (extra : List Blk) (ρ : List Place) (m : List Blk), pickMem m' nn = some extra → allClosed extra = true → nn.Nodup → MRel ρ m w' →
    (∀ i, i ∈ nn → ∀ p, ρ'[i]? = some p → p.ghost = false → ¬ Names ρ m p.blk) →
    ∃ q : List Place, q.length = nn.length ∧ (∀ (j i : Nat), nn[j]? = some i → q[j]? = ρ'[i]?) ∧ MRel (ρ ++ q) (m ++ extra) w' ∧
      ∀ k, Names (ρ ++ q) (m ++ extra) k → Names ρ m k ∨ ∃ i blk p, i ∈ nn ∧ m'[i]? = some blk ∧ ρ'[i]? = some p ∧ blk.cs.isDead = false ∧ p.ghost = false ∧ p.blk = k
  | [], extra, ρ, m, hp, _, _, hm, _ => by
    simp only [pickMem, Option.some.injEq] at hp
    subst hp
    exact ⟨[], rfl, fun j i h => by simp at h, by simpa using hm, fun k hk => .inl (by simpa using hk)⟩
  | i :: nn, extra, ρ, m, hp, hc, hn, hm, hf => by
    simp only [pickMem] at hp
    split at hp
    · cases hp
    · rename_i blk hb
      split at hp
      · cases hp
      · rename_i hlive
        split at hp
        · cases hp
        · rename_i r hr
          injection hp with hp
          subst hp
          simp only [allClosed, Bool.and_eq_true] at hc
          simp only [List.nodup_cons] at hn
          have hil : i < ρ'.length := by rw [hm'.len]; exact (List.getElem?_eq_some_iff.1 hb).1
          have hpi : ρ'[i]? = some ρ'[i] := List.getElem?_eq_getElem hil
          have hB : BRel (ρ ++ [ρ'[i]]) ρ'[i] blk w' := (hm'.blks i blk _ hb hpi).closed hc.1
          have hm1 := hm.add (w' := w') (fun _ _ => rfl) (fun hg => hf i (by simp) _ hpi hg) hB
          -- what the one block adds
          have one : ∀ k, Names (ρ ++ [ρ'[i]]) (m ++ [blk]) k → Names ρ m k ∨ (ρ'[i].ghost = false ∧ ρ'[i].blk = k) := by
            intro k ⟨c, bl, p, h1, h2, h3, h4, h5⟩
            by_cases hlt : c < m.length
            · rw [List.getElem?_append_left hlt] at h1
              rw [List.getElem?_append_left (by rw [hm.len]; exact hlt)] at h2
              exact .inl ⟨c, bl, p, h1, h2, h3, h4, h5⟩
            · have hcl : c = m.length := by
                have := (List.getElem?_eq_some_iff.1 h1).1
                simp at this; omega
              subst hcl
              rw [← hm.len, List.getElem?_concat_length] at h2
              injection h2 with h2
              subst h2
              exact .inr ⟨h4, h5⟩
          obtain ⟨q, hq1, hq2, hq3, hq4⟩ := MRel.take hm' nn r (ρ ++ [ρ'[i]]) (m ++ [blk]) hr hc.2 hn.2 hm1 (fun j hj p hpj hg hN => by
            rcases one _ hN with h | ⟨h1, h2⟩
            · exact hf j (List.mem_cons_of_mem _ hj) p hpj hg h
            · obtain ⟨_, _, hpk⟩ := pickMem_spec hr |>.2 _ j (get_idxOf hj)
              exact hm'.inj i j blk _ _ p hb (pickMem_spec hr |>.2 _ j (get_idxOf hj)).choose_spec.1 hpi hpj (fun e => hn.1 (e ▸ hj)) hlive (pickMem_spec hr |>.2 _ j (get_idxOf hj)).choose_spec.2.2 h1 hg h2)
          refine ⟨ρ'[i] :: q, by simp [hq1], fun j i' hj => ?_, ?_, fun k hk => ?_⟩
          · cases j with
            | zero => simp at hj; subst hj; simp
            | succ j => simpa using hq2 j i' (by simpa using hj)
          · simpa [List.append_assoc] using hq3
          · have hk' : Names (ρ ++ [ρ'[i]] ++ q) (m ++ [blk] ++ r) k := by simpa [List.append_assoc] using hk
            rcases hq4 k hk' with h | ⟨j, bl, p, h1, h2⟩
            · rcases one k h with h | ⟨h1, h2⟩
              · exact .inl h
              · exact .inr ⟨i, blk, _, by simp, hb, hpi, hlive, h1, h2⟩
            · exact .inr ⟨j, bl, p, List.mem_cons_of_mem _ h1, h2⟩

theorem vcall_sound {f : FuncId} {S : VSpec} (hok : OK P f S) {args : List V} {mem : List Blk} {k : V → List Blk → Prop} (h : vcall S args mem k) {ρ : List Place} {w : World} {xs : List Value} (hm : MRel ρ mem w) (hx : RepL ρ args xs) :
    (∀ ys w, (callFunc f ys).run P w = .ok (.enter f ys) w) ∧
    Calls P f xs.toArray w fun e w' => ∃ v mem' ρ2 x, e = .returned x ∧ k v mem' ∧ ρ <+: ρ2 ∧ Rep ρ2 v x ∧ MRel ρ2 mem' w' ∧ Keep (Names ρ mem) w w' ∧ ∀ j, Names ρ2 mem' j → Names ρ mem j ∨ w.heap.size ≤ j := by
  unfold vcall at h
  simp only at h
  obtain ⟨hnd, _, hcov⟩ := addNew_spec (namesL args) [] (by simp)
  generalize addNew [] (namesL args) = ns at h hnd hcov
  split at h
  · exact h.elim
  · rename_i m hpick
    split at h
    · exact h.elim
    · rename_i hcl
      obtain ⟨hlen, hget⟩ := pickMem_spec hpick
      let ρl : List Place := ns.map fun n => (ρ[n]?).getD ⟨0, 0, true⟩
      have hρ : ∀ (i n : Nat), ns[i]? = some n → ρl[i]? = ρ[n]? := by
        intro i n hi
        obtain ⟨blk, hb, _, _⟩ := hget i n hi
        have hn : n < ρ.length := by rw [hm.len]; exact (List.getElem?_eq_some_iff.1 hb).1
        simp only [ρl, List.getElem?_map, hi, Option.map_some, List.getElem?_eq_getElem hn, Option.getD_some]
      have hml : MRel ρl m w := by
        refine ⟨by simp [ρl, hlen], fun i blk p hi hp => ?_, fun i j blk blk' p p' hi hj hp hp' hne hd hd' hg hg' => ?_⟩
        · have hil : i < ns.length := by rw [← hlen]; exact (List.getElem?_eq_some_iff.1 hi).1
          obtain ⟨blk1, hb1, hb2, _⟩ := hget i _ (List.getElem?_eq_getElem hil)
          rw [hi] at hb2
          injection hb2 with hb2
          subst hb2
          rw [hρ i _ (List.getElem?_eq_getElem hil)] at hp
          exact (hm.blks _ _ p hb1 hp).closed (allClosed_get hcl hi)
        · have hil : i < ns.length := by rw [← hlen]; exact (List.getElem?_eq_some_iff.1 hi).1
          have hjl : j < ns.length := by rw [← hlen]; exact (List.getElem?_eq_some_iff.1 hj).1
          obtain ⟨blk1, hb1, hb2, _⟩ := hget i _ (List.getElem?_eq_getElem hil)
          obtain ⟨blk2, hb3, hb4, _⟩ := hget j _ (List.getElem?_eq_getElem hjl)
          rw [hi] at hb2; injection hb2 with hb2; subst hb2
          rw [hj] at hb4; injection hb4 with hb4; subst hb4
          rw [hρ i _ (List.getElem?_eq_getElem hil)] at hp
          rw [hρ j _ (List.getElem?_eq_getElem hjl)] at hp'
          refine hm.inj _ _ _ _ p p' hb1 hb3 hp hp' (fun e => hne ?_) hd hd' hg hg'
          exact (List.getElem_inj hnd).1 e
      have hxl : RepL ρl (renameL ns.idxOf args) xs := hx.rename (fun n hn => hρ _ n (get_idxOf (hcov n hn)))
      refine ⟨hok.enter _ _ _ h, (hok.calls _ _ _ h ρl w xs hml hxl).mono fun e w' hE => ?_⟩
      obtain ⟨v, m', ρ', x, rfl, hk, hpre, hv, hm', hkeep, hown⟩ := hE
      obtain ⟨nnd, _, nncov⟩ := addNew_spec (newNames ns.length v.names) [] (by simp)
      have nnge : ∀ i, i ∈ addNew [] (newNames ns.length v.names) → ns.length ≤ i := fun i hi => by
        rcases addNew_sub _ _ i hi with h | h
        · cases h
        · exact newNames_ge _ _ i h
      generalize addNew [] (newNames ns.length v.names) = nn at hk nnd nncov nnge
      split at hk
      · exact hk.elim
      · rename_i extra hextra
        split at hk
        · rename_i hcl' hcle
          have hlen' : ns.length ≤ m'.length := by
            rw [← hm'.len]
            have := hpre.length_le
            simpa [ρl] using this
          have hnames : ∀ {j : Nat}, Names ρl m j → Names ρ mem j := by
            intro j ⟨i, blk, p, hi, hp, hd, hg, hj⟩
            have hil : i < ns.length := by rw [← hlen]; exact (List.getElem?_eq_some_iff.1 hi).1
            obtain ⟨blk1, hb1, hb2, _⟩ := hget i _ (List.getElem?_eq_getElem hil)
            rw [hi] at hb2; injection hb2 with hb2; subst hb2
            rw [hρ i _ (List.getElem?_eq_getElem hil)] at hp
            exact ⟨_, blk, p, hb1, hp, hd, hg, hj⟩
          -- what a block of the new memory is
          have cases : ∀ {c : Nat} {blk : Blk}, (updMem mem ns m')[c]? = some blk →
              (c ∉ ns ∧ mem[c]? = some blk) ∨ (∃ (i : Nat) (blk0 : Blk), ns[i]? = some c ∧ m'[i]? = some blk ∧ mem[c]? = some blk0 ∧ blk0.cs.isDead = false ∧ closedCs blk.cs = true) := by
            intro c blk hc
            by_cases hcn : c ∈ ns
            · have hi := get_idxOf hcn
              obtain ⟨blk0, hb0, _, hd0⟩ := hget _ _ hi
              have hil : ns.idxOf c < ns.length := (List.getElem?_eq_some_iff.1 hi).1
              have hbi : m'[ns.idxOf c]? = some (m'[ns.idxOf c]'(by omega)) := List.getElem?_eq_getElem (by omega)
              have hat := updMem_at ns m' mem hnd hi hbi (List.getElem?_eq_some_iff.1 hb0).1
              rw [hc] at hat
              injection hat with hat
              rw [← hat] at hbi
              refine .inr ⟨_, blk0, hi, hbi, hb0, hd0, allClosed_get (m := m'.take ns.length) (i := ns.idxOf c) hcl' ?_⟩
              rw [List.getElem?_take, if_pos hil]; exact hbi
            · rw [updMem_other ns m' mem hcn] at hc
              exact .inl ⟨hcn, hc⟩
          have oldLive : ∀ {c : Nat} {blk : Blk}, (updMem mem ns m')[c]? = some blk → blk.cs.isDead = false → ∃ blk0, mem[c]? = some blk0 ∧ blk0.cs.isDead = false := by
            intro c blk hc hd
            rcases cases hc with ⟨_, h0⟩ | ⟨i, blk0, _, _, h0, hd0, _⟩
            · exact ⟨blk, h0, hd⟩
            · exact ⟨blk0, h0, hd0⟩
          -- a block that the callee may have written is none of the others
          have apart : ∀ {c : Nat} {blk : Blk} {p : Place} {j : Nat}, c ∉ ns → mem[c]? = some blk → ρ[c]? = some p → blk.cs.isDead = false → p.ghost = false → Names ρl m j → p.blk ≠ j := by
            rintro c blk p j hcn h0 hp hd hg ⟨i, blk1, p1, hi, hp1, hd1, hg1, heq⟩ hpj
            have hil : i < ns.length := by rw [← hlen]; exact (List.getElem?_eq_some_iff.1 hi).1
            obtain ⟨blk2, hb1, hb2, _⟩ := hget i _ (List.getElem?_eq_getElem hil)
            rw [hi] at hb2; injection hb2 with hb2; subst hb2
            rw [hρ i _ (List.getElem?_eq_getElem hil)] at hp1
            refine hm.inj _ c _ blk p1 p hb1 h0 hp1 hp (fun e => hcn ?_) hd1 hd hg1 hg (heq.trans hpj.symm)
            rw [← e]; exact List.getElem_mem hil
          have hupd : MRel ρ (updMem mem ns m') w' := by
            refine ⟨by rw [updMem_length]; exact hm.len, fun c blk p hc hp => ?_, fun c c' blk blk' p p' hc hc' hp hp' hne hd hd' hg hg' => ?_⟩
            · rcases cases hc with ⟨hcn, h0⟩ | ⟨i, blk0, hi, hbi, h0, _, hcc⟩
              · exact (hm.blks c blk p h0 hp).keep fun hd hg => hkeep.block _ ((hm.blks c blk p h0 hp).lt hd hg) fun hN => apart hcn h0 hp hd hg hN rfl
              · have hp' : ρ'[i]? = some p := getElem?_pre hpre (by rw [hρ i c hi]; exact hp)
                exact (hm'.blks i blk p hbi hp').closed hcc
            · obtain ⟨b0, h0, hd0⟩ := oldLive hc hd
              obtain ⟨b0', h0', hd0'⟩ := oldLive hc' hd'
              exact hm.inj c c' b0 b0' p p' h0 h0' hp hp' hne hd0 hd0' hg hg'
          have hsub : ∀ j, Names ρ (updMem mem ns m') j → Names ρ mem j := fun j ⟨c, blk, p, hc, hp, hd, hg, hj⟩ => by
            obtain ⟨b0, h0, hd0⟩ := oldLive hc hd
            exact ⟨c, b0, p, h0, hp, hd0, hg, hj⟩
          obtain ⟨q, hq1, hq2, hq3, hq4⟩ := hm'.take nn extra ρ (updMem mem ns m') hextra hcle nnd hupd (fun i hi p hpi hg hN => by
            obtain ⟨c, blk, pc, hc, hpc, hd, hgc, hj⟩ := hN
            obtain ⟨bi, hbi, _, hdi⟩ := (pickMem_spec hextra).2 _ i (get_idxOf hi)
            rcases cases hc with ⟨hcn, h0⟩ | ⟨i0, blk0, hi0, hbi0, h0, _, _⟩
            · rcases hown _ ⟨i, bi, p, hbi, hpi, hdi, hg, rfl⟩ with hN | hN
              · exact apart hcn h0 hpc hd hgc hN hj
              · have := (hm.blks c blk pc h0 hpc).lt hd hgc
                omega
            · have hpc' : ρ'[i0]? = some pc := getElem?_pre hpre (by rw [hρ i0 c hi0]; exact hpc)
              have hi0l : i0 < ns.length := (List.getElem?_eq_some_iff.1 hi0).1
              have := nnge i hi
              exact hm'.inj i0 i blk bi pc p hbi0 hbi hpc' hpi (by omega) hd hdi hgc hg hj)
          refine ⟨_, _, ρ ++ q, x, rfl, hk, List.prefix_append _ _, hv.rename (fun n hn => ?_), hq3, hkeep.mono fun _ _ hj => hnames hj, fun j hj => ?_⟩
          · unfold backName
            by_cases hlt : n < ns.length
            · rw [blt_yes hlt]
              simp only
              have hnn : ns[n]? = some (ns.getD n 0) := getD_some hlt
              have hin : ns.getD n 0 < ρ.length := by
                obtain ⟨blk, hb, _, _⟩ := hget n _ hnn
                rw [hm.len]; exact (List.getElem?_eq_some_iff.1 hb).1
              rw [List.getElem?_append_left hin, ← hρ n _ hnn]
              have hll : n < ρl.length := by simpa [ρl] using hlt
              rw [List.getElem?_eq_getElem hll]
              exact (getElem?_pre hpre (List.getElem?_eq_getElem hll)).symm
            · rw [blt_no hlt]
              simp only
              have hin : n ∈ nn := nncov n ((newNames_spec ns.length v.names n hn).resolve_left hlt)
              rw [← hq2 _ n (get_idxOf hin), ← hm.len, List.getElem?_append_right (Nat.le_add_right _ _), Nat.add_sub_cancel_left]
          · rcases hq4 j hj with h | ⟨i, blk, p, hi, hb, hp, hd, hg, hpj⟩
            · exact .inl (hsub j h)
            · rcases hown j ⟨i, blk, p, hb, hp, hd, hg, hpj⟩ with h | h
              · exact .inl (hnames h)
              · exact .inr h
        · exact hk.elim
end
end Go.Vi
