/- Operations, regions, code, functions: sound. -/
import Derived.Test.YtccahaefpbkelaaVid
namespace Go.Vi
open Go.RowKit

section
variable {P : Program} {Ω : FuncId → VSpec}

theorem evL_rep {ρ : List Place} {st : St} {a : Act} (h : RepL ρ st.slots a.tmps.toList) : ∀ xs : List Operand, RepL ρ (evL st xs) (xs.map a.eval)
  | [] => by simp [evL, RepL]
  | x :: xs => by simp only [evL, RepL, List.map_cons]; exact ⟨_, _, rfl, rep_ev h x, evL_rep h xs⟩

theorem caps_rep {ρ : List Place} : ∀ {caps : List Nat} {ps : List Place}, caps.map (ρ[·]?) = ps.map some → RepL ρ (caps.map fun b => V.ptr b 0) (ps.map fun p => Value.pointer (some (addrOf p 0)))
  | [], [], _ => by simp [RepL]
  | [], _ :: _, h => by simp at h
  | _ :: _, [], h => by simp at h
  | c :: caps, p :: ps, h => by
    simp only [List.map_cons, List.cons.injEq] at h
    simp only [List.map_cons, RepL]
    exact ⟨_, _, rfl, by simp only [Rep]; exact ⟨p, h.1, rfl⟩, caps_rep h.2⟩

theorem zeroCells_spec {t : TypeId} {cs : List V} (h : zeroCells P t = some cs) : ∃ z, (∀ w, (zeroValue t).run P w = .ok z w) ∧ ∀ ρ, RepL ρ cs z.cells.toList := by
  unfold zeroCells at h
  split at h
  · cases h
  · rename_i i hi
    split at h
    · cases h
    · rename_i z hz
      injection h with h
      subst h
      exact ⟨z, fun w => by simp [zeroValue, run_info hi, hz], fun ρ => repL_cellsV ρ _⟩

/-- One operation. -/
theorem vop_sound (hΩ : ∀ f, OK P f (Ω f)) {o : Oper} {st : St} {k : St → Prop} (h : vop P Ω o st k) {W : Nat → Prop} {w0 : World} {ρ0 : List Place} {ρ : List Place} {a : Act} {w : World} (hs : SRel W w0 ρ0 ρ st a w)
    {next : Act → World → Prop} {Q : Exit → Act → World → Prop} (hk : ∀ st' a' w' ρ', k st' → SRel W w0 ρ0 ρ' st' a' w' → next a' w') : o.wp P a w next Q := by
  have plain : vval P st o.op (fun v => k (st.put o.dst v)) → o.wp P a w next Q := by
    intro h
    obtain ⟨v, hv, hr⟩ := vval_sound hs.slots h
    obtain ⟨x, hx, hrx⟩ := hr w hs.mem
    unfold Oper.wp
    rw [hx, Oper.upon_value]
    exact hk _ _ _ _ hv (hs.put _ hrx)
  unfold vop at h
  split at h
  · rename_i e hop
    split at h
    · exact h.elim
    · rename_i cs hcs
      obtain ⟨z, hz, hzr⟩ := zeroCells_spec hcs
      obtain ⟨ρ', _, hs'⟩ := hs.new o.dst (hzr ρ) e
      unfold Oper.wp
      have hrun : (execOp a.eval o).run P w = .ok (.value (.pointer (some ⟨w.heap.size, 0, none⟩))) (w.alloc (.cells z.cells e)) := by
        simp only [execOp, hop, Instr.alloc, Sem.run_bind, hz, Result.andThen_ok]
        rfl
      rw [hrun, Oper.upon_value]
      exact hk _ _ _ _ h hs'
  · rename_i e x hop
    split at h
    · exact h.elim
    · rename_i cs hcs
      obtain ⟨ρ', _, hs'⟩ := hs.new o.dst (cellsOfV_rep hcs (rep_ev hs.slots x)) e
      unfold Oper.wp
      have hrun : (execOp a.eval o).run P w = .ok (.value (.pointer (some ⟨w.heap.size, 0, none⟩))) (w.alloc (.cells (a.eval x).cells e)) := by
        simp only [execOp, hop, Instr.box, Sem.run_bind]
        rfl
      rw [hrun, Oper.upon_value]
      exact hk _ _ _ _ h hs'
  · rename_i t ad x hop
    split at h
    · rename_i b off he
      obtain ⟨m, w', hkm, hrun, hs'⟩ := vstore_sound hs (he ▸ rep_ev hs.slots ad) (rep_ev hs.slots x) h
      unfold Oper.wp
      have hr : (execOp a.eval o).run P w = .ok .skip w' := by
        simp only [execOp, hop, Sem.run_bind, hrun, Result.andThen_ok, Sem.run_pure]
      rw [hr, Oper.upon_skip]
      exact hk _ _ _ _ hkm (hs'.put _ (by simp [Rep]))
    · exact h.elim
  · rename_i c hop
    split at h
    · rename_i f hcal
      split at h
      · rename_i g caps hg
        have hf := hg ▸ rep_ev hs.slots f
        simp only [Rep] at hf
        obtain ⟨ps, hps, hfv⟩ := hf
        have hargs : RepL ρ (evL st c.args.toList ++ caps.map fun b => V.ptr b 0) (c.args.toList.map a.eval ++ ps.map fun p => Value.pointer (some (addrOf p 0))) :=
          (evL_rep hs.slots _).append (caps_rep hps)
        obtain ⟨hent, hcall⟩ := vcall_sound (hΩ g) h hs.mem hargs
        unfold Oper.wp
        have hr : (execOp a.eval o).run P w = .ok (.enter g (c.args.toList.map a.eval ++ ps.map fun p => Value.pointer (some (addrOf p 0))).toArray) w := by
          have harr : c.args.map a.eval ++ (ps.map fun p => Value.pointer (some (addrOf p 0))).toArray = (c.args.toList.map a.eval ++ ps.map fun p => Value.pointer (some (addrOf p 0))).toArray := by
            apply Array.toList_inj.1; simp
          simp only [execOp, hop, resolve, hcal, hfv, Deferred.ofValue, Sem.run_bind, Sem.run_pure, Result.andThen_ok, invoke, Array.empty_append]
          rw [harr, hent]
        rw [hr, Oper.upon_enter]
        refine hcall.mono fun e w' hE => ?_
        obtain ⟨v, mem', x, rfl, hkv, hv, hm', hkeep, hnames⟩ := hE
        refine hk _ _ _ ρ hkv ?_
        refine SRel.put (st := { st with mem := mem' }) ⟨hs.slots, hs.nodefer, hm', hs.keep.trans (hkeep.mono fun j _ hj => hs.own j hj), fun j hj => hs.own j (hnames j hj), hs.pre⟩ _ hv
      · exact h.elim
    · exact plain h
  · exact plain h

/-- The guard. -/
theorem vguard_sound {all : Array Oper} {o : Oper} {st : St} {k : Bool → St → Prop} (h : vguard all o st k) {W : Nat → Prop} {w0 : World} {ρ0 : List Place} {ρ : List Place} {a : Act} {w : World} (hs : SRel W w0 ρ0 ρ st a w) :
    ∃ b st', k b st' ∧ SRel W w0 ρ0 ρ st' a w ∧ Region.wanted o (yielded all a.tmps) = b := by
  unfold vguard at h
  split at h
  · rename_i hg
    exact ⟨true, st, h, hs, by simp [Region.wanted, hg]⟩
  · rename_i j want hg
    split at h
    · exact h.elim
    · rename_i oj hj
      split at h
      · exact h.elim
      · rename_i d hd
        have key : ∀ b, Rep ρ (st.get d) (.bool b) → (∀ x, a.tmps[d]? = some x → x = .bool b) → st.get d ≠ .undef → Region.wanted o (yielded all a.tmps) = (b == want) := by
          intro b _ hx hne
          have hlt : d < st.slots.length := by
            rcases Nat.lt_or_ge d st.slots.length with h' | h'
            · exact h'
            · exact absurd (by simp [St.get, List.getElem?_eq_none h']) hne
          have hlt' : d < a.tmps.size := by rw [hs.slots.length] at hlt; simpa using hlt
          have hy : a.tmps[d]? = some (.bool b) := by
            rw [Array.getElem?_eq_getElem hlt']
            rw [hx _ (Array.getElem?_eq_getElem hlt')]
          have hyy : yielded all a.tmps j = some b := by simp [yielded, hj, hd, hy]
          simp [Region.wanted, hg, hyy]
        have rep : ∀ x, a.tmps[d]? = some x → Rep ρ (st.get d) x := by
          intro x hx
          have hr := rep_ev hs.slots (.tmp d)
          simp only [ev, Act.eval, Array.getD_eq_getD_getElem?, hx, Option.getD_some] at hr
          exact hr
        split at h
        · rename_i b he
          refine ⟨_, st, h, hs, key b (by rw [he]; rfl) (fun x hx => ?_) (by rw [he]; exact fun h => by cases h)⟩
          have := rep x hx
          rw [he] at this
          simpa [Rep] using this
        · rename_i b he
          have hx : ∀ x, a.tmps[d]? = some x → x = .bool b := fun x hx => by
            have := rep x hx
            rw [he] at this
            simpa [Rep] using this
          have hw := key b (by rw [he]; rfl) hx (by rw [he]; exact fun h => by cases h)
          cases b with
          | true => exact ⟨_, _, h.1 rfl, hs.setSlot (fun x hy => by rw [hx x hy]; rfl), hw⟩
          | false => exact ⟨_, _, h.2 rfl, hs.setSlot (fun x hy => by rw [hx x hy]; rfl), hw⟩
        · exact h.elim

theorem vops_sound (hΩ : ∀ f, OK P f (Ω f)) {all : Array Oper} {Q : Exit → Act → World → Prop} {W : Nat → Prop} {w0 : World} {ρ0 : List Place} {k : St → Prop} (hk : ∀ st' a' w' ρ', k st' → SRel W w0 ρ0 ρ' st' a' w' → Q .normal a' w') :
    ∀ (l : List Oper) (st : St) (a : Act) (w : World) (ρ : List Place), vops P Ω all l st k → SRel W w0 ρ0 ρ st a w → wpList P all Q l a w
  | [], st, a, w, ρ, h, hs => wpList_nil (hk _ _ _ _ h hs)
  | o :: r, st, a, w, ρ, h, hs => by
    simp only [vops] at h
    obtain ⟨b, st', hb, hs', hw⟩ := vguard_sound h hs
    refine wpList_step fun K hK => ?_
    rw [hw]
    cases b with
    | true =>
      simp only [if_true]
      exact vop_sound hΩ hb hs' fun st'' a'' w'' ρ'' hk'' hs'' => hK _ _ (vops_sound hΩ hk r st'' a'' w'' ρ'' hk'' hs'')
    | false =>
      simp only [Bool.false_eq_true, if_false]
      exact hK _ _ (vops_sound hΩ hk r _ _ w ρ hb (hs'.put o.dst (by simp [Rep])))

/-! ### a weaker state -/
mutual
theorem leV_rep {ρ : List Place} : ∀ {v u : V} {x : Value}, leV v u → Rep ρ v x → Rep ρ u x
  | v, .undef, x, _, _ => by simp [Rep]
  | .int k n, .int k' n', x, h, hr => by simp only [leV] at h; obtain ⟨rfl, rfl⟩ := h; exact hr
  | .bool b, .bool b', x, h, hr => by simp only [leV] at h; subst h; exact hr
  | .lit b, .bool b', x, h, hr => by simp only [leV] at h; subst h; simpa [Rep] using hr
  | .lit b, .lit b', x, h, hr => by simp only [leV] at h; subst h; exact hr
  | .bool b, .lit b', x, h, hr => by simp only [leV] at h; subst h; simpa [Rep] using hr
  | .str s, .str s', x, h, hr => by simp only [leV] at h; subst h; exact hr
  | .ptr b o, .ptr b' o', x, h, hr => by simp only [leV] at h; obtain ⟨rfl, rfl⟩ := h; exact hr
  | .nilp, .nilp, x, _, hr => hr
  | .row b n, .row b' n', x, h, hr => by simp only [leV] at h; obtain ⟨rfl, rfl⟩ := h; exact hr
  | .fn f c, .fn f' c', x, h, hr => by simp only [leV] at h; obtain ⟨rfl, rfl⟩ := h; exact hr
  | .agg cs, .agg cs', x, h, hr => by
    simp only [leV] at h
    simp only [Rep] at hr ⊢
    obtain ⟨xs, e, hl⟩ := hr
    exact ⟨xs, e, leL_rep h hl⟩
  | .tup cs, .tup cs', x, h, hr => by
    simp only [leV] at h
    simp only [Rep] at hr ⊢
    obtain ⟨xs, e, hl⟩ := hr
    exact ⟨xs, e, leL_rep h hl⟩
  | .undef, .int _ _, _, h, _ | .undef, .bool _, _, h, _ | .undef, .lit _, _, h, _ | .undef, .str _, _, h, _ | .undef, .ptr _ _, _, h, _ | .undef, .nilp, _, h, _ | .undef, .row _ _, _, h, _ | .undef, .fn _ _, _, h, _ | .undef, .agg _, _, h, _ | .undef, .tup _, _, h, _ => by simp [leV] at h
  | .int _ _, .bool _, _, h, _ | .int _ _, .lit _, _, h, _ | .int _ _, .str _, _, h, _ | .int _ _, .ptr _ _, _, h, _ | .int _ _, .nilp, _, h, _ | .int _ _, .row _ _, _, h, _ | .int _ _, .fn _ _, _, h, _ | .int _ _, .agg _, _, h, _ | .int _ _, .tup _, _, h, _ => by simp [leV] at h
  | .bool _, .int _ _, _, h, _ | .bool _, .str _, _, h, _ | .bool _, .ptr _ _, _, h, _ | .bool _, .nilp, _, h, _ | .bool _, .row _ _, _, h, _ | .bool _, .fn _ _, _, h, _ | .bool _, .agg _, _, h, _ | .bool _, .tup _, _, h, _ => by simp [leV] at h
  | .lit _, .int _ _, _, h, _ | .lit _, .str _, _, h, _ | .lit _, .ptr _ _, _, h, _ | .lit _, .nilp, _, h, _ | .lit _, .row _ _, _, h, _ | .lit _, .fn _ _, _, h, _ | .lit _, .agg _, _, h, _ | .lit _, .tup _, _, h, _ => by simp [leV] at h
  | .str _, .int _ _, _, h, _ | .str _, .bool _, _, h, _ | .str _, .lit _, _, h, _ | .str _, .ptr _ _, _, h, _ | .str _, .nilp, _, h, _ | .str _, .row _ _, _, h, _ | .str _, .fn _ _, _, h, _ | .str _, .agg _, _, h, _ | .str _, .tup _, _, h, _ => by simp [leV] at h
  | .ptr _ _, .int _ _, _, h, _ | .ptr _ _, .bool _, _, h, _ | .ptr _ _, .lit _, _, h, _ | .ptr _ _, .str _, _, h, _ | .ptr _ _, .nilp, _, h, _ | .ptr _ _, .row _ _, _, h, _ | .ptr _ _, .fn _ _, _, h, _ | .ptr _ _, .agg _, _, h, _ | .ptr _ _, .tup _, _, h, _ => by simp [leV] at h
  | .nilp, .int _ _, _, h, _ | .nilp, .bool _, _, h, _ | .nilp, .lit _, _, h, _ | .nilp, .str _, _, h, _ | .nilp, .ptr _ _, _, h, _ | .nilp, .row _ _, _, h, _ | .nilp, .fn _ _, _, h, _ | .nilp, .agg _, _, h, _ | .nilp, .tup _, _, h, _ => by simp [leV] at h
  | .row _ _, .int _ _, _, h, _ | .row _ _, .bool _, _, h, _ | .row _ _, .lit _, _, h, _ | .row _ _, .str _, _, h, _ | .row _ _, .ptr _ _, _, h, _ | .row _ _, .nilp, _, h, _ | .row _ _, .fn _ _, _, h, _ | .row _ _, .agg _, _, h, _ | .row _ _, .tup _, _, h, _ => by simp [leV] at h
  | .fn _ _, .int _ _, _, h, _ | .fn _ _, .bool _, _, h, _ | .fn _ _, .lit _, _, h, _ | .fn _ _, .str _, _, h, _ | .fn _ _, .ptr _ _, _, h, _ | .fn _ _, .nilp, _, h, _ | .fn _ _, .row _ _, _, h, _ | .fn _ _, .agg _, _, h, _ | .fn _ _, .tup _, _, h, _ => by simp [leV] at h
  | .agg _, .int _ _, _, h, _ | .agg _, .bool _, _, h, _ | .agg _, .lit _, _, h, _ | .agg _, .str _, _, h, _ | .agg _, .ptr _ _, _, h, _ | .agg _, .nilp, _, h, _ | .agg _, .row _ _, _, h, _ | .agg _, .fn _ _, _, h, _ | .agg _, .tup _, _, h, _ => by simp [leV] at h
  | .tup _, .int _ _, _, h, _ | .tup _, .bool _, _, h, _ | .tup _, .lit _, _, h, _ | .tup _, .str _, _, h, _ | .tup _, .ptr _ _, _, h, _ | .tup _, .nilp, _, h, _ | .tup _, .row _ _, _, h, _ | .tup _, .fn _ _, _, h, _ | .tup _, .agg _, _, h, _ => by simp [leV] at h
theorem leL_rep {ρ : List Place} : ∀ {vs us : List V} {xs : List Value}, leL vs us → RepL ρ vs xs → RepL ρ us xs
  | [], [], xs, _, hr => hr
  | v :: vs, u :: us, xs, h, hr => by
    simp only [leL] at h
    simp only [RepL] at hr ⊢
    obtain ⟨x, r, e, h1, h2⟩ := hr
    split at h
    · exact ⟨x, r, e, by simp [Rep], leL_rep h h2⟩
    · exact ⟨x, r, e, leV_rep h.1 h1, leL_rep h.2 h2⟩
  | [], _ :: _, _, h, _ => by simp [leL] at h
  | _ :: _, [], _, h, _ => by simp [leL] at h
end

theorem leMem_get : ∀ {m m' : List Blk}, leMem m m' → m'.length ≤ m.length ∧ ∀ (b : Nat) (c : Blk), m'[b]? = some c → ∃ d, m[b]? = some d ∧ d.elem = c.elem ∧ d.isRow = c.isRow ∧ leCells d.cs c.cs
  | m, [], _ => ⟨by simp, fun b c h => by simp at h⟩
  | d :: m, c :: m', h => by
    simp only [leMem] at h
    obtain ⟨⟨h1, h2, h3⟩, h4⟩ := h
    obtain ⟨hl, hg⟩ := leMem_get h4
    refine ⟨by simpa using hl, fun b e hb => ?_⟩
    cases b with
    | zero => simp at hb; subst hb; exact ⟨d, rfl, h1, h2, h3⟩
    | succ b => simpa using hg b e (by simpa using hb)
  | [], _ :: _, h => by simp [leMem] at h

theorem leCells_live {c d : Cells} (h : leCells c d) (hd : d.isDead = false) : c.isDead = false := by
  cases c <;> cases d <;> simp [leCells, Cells.isDead] at h hd ⊢
theorem leCells_rep {ρ : List Place} {c d : Cells} (h : leCells c d) (hd : d.isDead = false) {xs : List Value} (hr : RepL ρ c.toVs xs) : RepL ρ d.toVs xs := by
  cases c <;> cases d <;> simp only [leCells, Cells.isDead, reduceCtorEq] at h hd
  · exact leL_rep h hr
  · obtain ⟨rfl, rfl⟩ := h; exact hr
  · subst h; exact hr
  · subst h; exact hr
theorem leL_length : ∀ {vs us : List V}, leL vs us → vs.length = us.length
  | [], [], _ => rfl
  | _ :: vs, _ :: us, h => by
    simp only [leL] at h
    split at h
    · simp [leL_length h]
    · simp [leL_length h.2]
  | [], _ :: _, h => by simp [leL] at h
  | _ :: _, [], h => by simp [leL] at h
theorem leCells_length {c d : Cells} (h : leCells c d) (hd : d.isDead = false) : c.toVs.length = d.toVs.length := by
  cases c <;> cases d <;> simp only [leCells, Cells.isDead, reduceCtorEq] at h hd
  · exact leL_length h
  · obtain ⟨rfl, rfl⟩ := h; rfl
  · subst h; rfl
  · subst h; rfl

theorem memUnder_get {n : Nat} : ∀ {m : List Blk} {b : Nat} {c : Blk}, memUnder n m = true → m[b]? = some c → underL n c.cs.toVs = true
  | [], b, c, _, h => by simp at h
  | d :: m, b, c, hu, h => by
    simp only [memUnder, Bool.and_eq_true] at hu
    cases b with
    | zero =>
      simp at h; subst h
      have h1 := hu.1
      cases hcs : d.cs with
      | vals vs => rw [hcs] at h1; exact h1
      | ints k l => simp only [Cells.toVs]; exact und_map _ (fun _ => rfl) l
      | bytes l => simp only [Cells.toVs]; exact und_map _ (fun _ => rfl) l
      | strs l => simp only [Cells.toVs]; exact und_map _ (fun _ => rfl) l
      | dead => rfl
    | succ b => exact memUnder_get hu.2 (by simpa using h)
where
  und_map {n : Nat} {α : Type} (f : α → V) (hf : ∀ x, (f x).under n = true) : ∀ l : List α, underL n (l.map f) = true
    | [] => rfl
    | x :: l => by simp [underL, hf x, und_map f hf l]

/-- Less may be known of a state. -/
theorem SRel.le {W : Nat → Prop} {w0 : World} {ρ0 : List Place} {ρ : List Place} {st st' : St} {a : Act} {w : World} (hs : SRel W w0 ρ0 ρ st a w) (h : leSt ρ0.length st st') : ∃ ρ', SRel W w0 ρ0 ρ' st' a w := by
  obtain ⟨h1, h2, h3⟩ := h
  have h3 := chkB_spec h3
  simp only [Bool.and_eq_true] at h3
  obtain ⟨hn0, hu, hmu⟩ := h3
  obtain ⟨hlen, hget⟩ := leMem_get h2
  refine ⟨ρ.take st'.mem.length, ⟨(leL_rep h1 hs.slots).takeρ hu, hs.nodefer, ⟨?_, fun b c p hb hp => ?_, fun b b' c c' p p' hb hb' hp hp' hne hd hd' hg hg' => ?_⟩, hs.keep, fun j ⟨b, c, p, hb, hp, hd, hg, hj⟩ => ?_, ?_⟩⟩
  · rw [List.length_take, hs.mem.len]; omega
  · obtain ⟨d, hd, he, hr, hle⟩ := hget b c hb
    have hbl : b < st'.mem.length := (List.getElem?_eq_some_iff.1 hb).1
    rw [List.getElem?_take, if_pos hbl] at hp
    by_cases hdead : c.cs.isDead = true
    · exact .inl hdead
    · have hlive : c.cs.isDead = false := by simpa using hdead
      rcases hs.mem.blks b d p hd hp with h' | ⟨g1, g2, g3⟩ | ⟨g1, cur, hc, hrep, hsz⟩
      · rw [leCells_live hle hlive] at h'; cases h'
      · refine .inr (.inl ⟨g1, hr ▸ g2, ?_⟩)
        have := leCells_length hle hlive
        rw [g3] at this
        exact List.eq_nil_of_length_eq_zero this.symm
      · have hll := leCells_length hle hlive
        refine .inr (.inr ⟨g1, cur, he ▸ hc, ?_, ?_⟩)
        · rw [← hll]
          exact (leCells_rep hle hlive hrep).takeρ (memUnder_get hmu hb)
        · rw [← hr, ← hll]; exact hsz
  · obtain ⟨d, hdm, _, _, hle⟩ := hget b c hb
    obtain ⟨d', hdm', _, _, hle'⟩ := hget b' c' hb'
    have hbl : b < st'.mem.length := (List.getElem?_eq_some_iff.1 hb).1
    have hbl' : b' < st'.mem.length := (List.getElem?_eq_some_iff.1 hb').1
    rw [List.getElem?_take, if_pos hbl] at hp
    rw [List.getElem?_take, if_pos hbl'] at hp'
    exact hs.mem.inj b b' d d' p p' hdm hdm' hp hp' hne (leCells_live hle hd) (leCells_live hle' hd') hg hg'
  · obtain ⟨d, hdm, _, _, hle⟩ := hget b c hb
    have hbl : b < st'.mem.length := (List.getElem?_eq_some_iff.1 hb).1
    rw [List.getElem?_take, if_pos hbl] at hp
    exact hs.own j ⟨b, d, p, hdm, hp, leCells_live hle hd, hg, hj⟩
  · obtain ⟨t, ht⟩ := hs.pre
    have hn : ρ0.length ≤ st'.mem.length := by simpa using hn0
    rw [← ht, List.take_append, List.take_of_length_le hn]
    exact List.prefix_append _ _

/-! ### code -/
theorem vwp_sound (hΩ : ∀ f, OK P f (Ω f)) (ann : Nat → St → Option Ann) {W : Nat → Prop} {w0 : World} {ρ0 : List Place} : ∀ (c : Code) (st : St) (k : Exit → St → Prop) (Q : Exit → Act → World → Prop) (a : Act) (w : World) (ρ : List Place),
    vwp P Ω ρ0.length ann c st k → SRel W w0 ρ0 ρ st a w → (∀ e st' a' w' ρ', k e st' → SRel W w0 ρ0 ρ' st' a' w' → Q e a' w') → c.wp P Q a w
  | .skip, st, k, Q, a, w, ρ, h, hs, hk => wp_skip (hk _ _ _ _ _ h hs)
  | .label _, st, k, Q, a, w, ρ, h, hs, hk => wp_label (hk _ _ _ _ _ h hs)
  | .ret, st, k, Q, a, w, ρ, h, hs, hk => wp_ret (hk _ _ _ _ _ h hs)
  | .exit id, st, k, Q, a, w, ρ, h, hs, hk => wp_exit (hk _ _ _ _ _ h hs)
  | .seq x y, st, k, Q, a, w, ρ, h, hs, hk => by
    simp only [vwp] at h
    refine wp_seq (vwp_sound hΩ ann x st _ _ a w ρ h hs fun e st' a' w' ρ' hk' hs' => ?_)
    cases e with
    | normal => exact vwp_sound hΩ ann y st' k Q a' w' ρ' hk' hs' hk
    | _ => exact hk _ _ _ _ _ hk' hs'
  | .cond c x y, st, k, Q, a, w, ρ, h, hs, hk => by
    simp only [vwp] at h
    have hc := rep_ev hs.slots c
    split at h
    · rename_i t he
      rw [he] at hc
      simp only [Rep] at hc
      cases t with
      | true => exact wp_cond_true hc (vwp_sound hΩ ann x st k Q a w ρ h hs hk)
      | false => exact wp_cond_false hc (vwp_sound hΩ ann y st k Q a w ρ h hs hk)
    · rename_i t he
      rw [he] at hc
      simp only [Rep] at hc
      have at_ : ∀ d, c = .tmp d → ∀ x, a.tmps[d]? = some x → x = .bool t := by
        rintro d rfl x hx
        simp only [Act.eval, Array.getD_eq_getD_getElem?, hx, Option.getD_some] at hc
        exact hc
      split at h
      · rename_i d
        cases t with
        | true => exact wp_cond_true hc (vwp_sound hΩ ann x _ k Q a w ρ (h.1 rfl) (hs.setSlot fun z hz => by rw [at_ d rfl z hz]; rfl) hk)
        | false => exact wp_cond_false hc (vwp_sound hΩ ann y _ k Q a w ρ (h.2 rfl) (hs.setSlot fun z hz => by rw [at_ d rfl z hz]; rfl) hk)
      · cases t with
        | true => exact wp_cond_true hc (vwp_sound hΩ ann x st k Q a w ρ (h.1 rfl) hs hk)
        | false => exact wp_cond_false hc (vwp_sound hΩ ann y st k Q a w ρ (h.2 rfl) hs hk)
    · exact h.elim
  | .block id c, st, k, Q, a, w, ρ, h, hs, hk => by
    simp only [vwp] at h
    refine wp_block (vwp_sound hΩ ann c st _ _ a w ρ h hs fun e st' a' w' ρ' hk' hs' => ?_)
    cases e with
    | exit i =>
      simp only [Exit.inBlock]
      simp only at hk'
      split at hk'
      · rename_i hb
        rw [if_pos (Nat.eq_of_beq_eq_true hb)]
        exact hk _ _ _ _ _ hk' hs'
      · rename_i hb
        rw [if_neg (Nat.ne_of_beq_eq_false hb)]
        exact hk _ _ _ _ _ hk' hs'
    | _ => exact hk _ _ _ _ _ hk' hs'
  | .region id ops draw, st, k, Q, a, w, ρ, h, hs, hk => by
    simp only [vwp] at h
    split at h
    · exact wp_region_list (vops_sound hΩ (fun st' a' w' ρ' hk' hs' => hk _ _ _ _ _ hk' hs') _ st a w ρ h hs)
    · exact h.elim
  | .loop c, st, k, Q, a, w, ρ, h, hs, hk => by
    simp only [vwp] at h
    split at h
    · exact h.elim
    · rename_i A _
      split at h
      · exact h.elim
      · rename_i a0 _
        obtain ⟨h1, ⟨h2⟩, h3⟩ := h
        refine wp_loop_ghost (fun n a' w' => ∃ x ρ', A.inv x ∧ A.meas x = n ∧ SRel W w0 ρ0 ρ' (A.head x) a' w') (A.meas a0) ?_ ?_
        · obtain ⟨ρ', hs'⟩ := hs.le h1
          exact ⟨a0, ρ', h2, rfl, hs'⟩
        · rintro n a' w' ⟨x, ρ', hinv, rfl, hs'⟩
          refine vwp_sound hΩ ann c (A.head x) _ _ a' w' ρ' (h3 x hinv) hs' fun e st'' a'' w'' ρ'' hk'' hs'' => ?_
          cases e with
          | normal =>
            simp only at hk''
            split at hk''
            · exact hk''.elim
            · rename_i x' _
              obtain ⟨g1, ⟨g2, g3⟩⟩ := hk''
              obtain ⟨ρ3, hs3⟩ := hs''.le g1
              exact ⟨_, g3, x', ρ3, g2, rfl, hs3⟩
          | _ => exact hk _ _ _ _ _ hk'' hs''
  | .rangeFunc .., st, k, Q, a, w, ρ, h, hs, hk => by simp [vwp] at h
  | .scope _, st, k, Q, a, w, ρ, h, hs, hk => by simp [vwp] at h
  | .goto _, st, k, Q, a, w, ρ, h, hs, hk => by simp [vwp] at h
  | .refuse _, st, k, Q, a, w, ρ, h, hs, hk => by simp [vwp] at h
end
end Go.Vi
