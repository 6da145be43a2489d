/- Functions: from the conditions of a body to a contract. -/
import Derived.Test.YtpkokghbkamelaaDoorVie
namespace Go.Vi
open Go.RowKit

section
variable {P : Program} {Ω : FuncId -> VSpec} {Ωq : FuncId -> Option FSpec}

def resOf (tmps : Array Value) : ResultVar -> Sem Value
 | .tmp t => pure (tmps.getD t undef)
 | .cell a t => do loadVar t (<- asAddr (tmps.getD a undef))

theorem vres_sound {st : St} {ρ : List Place} {tmps : Array Value} (hs : RepL ρ st.slots tmps.toList) {w : World} (hm : MRel ρ st.mem w) : ∀ (rs : List ResultVar) (k : List V -> Prop), vres P st rs k ->
  ∃ vs xs, k vs /\ RepL ρ vs xs /\ (rs.mapM (resOf tmps)).run P w = .ok xs w
 | [], k, h => ⟨[], [], h, by simp [RepL], rfl⟩
 | .tmp t :: r, k, h => by
  simp only [vres] at h
  obtain ⟨vs, xs, hk, hr, hrun⟩ := vres_sound hs hm r _ h
  have hv : Rep ρ (st.get t) (tmps.getD t undef) := rep_ev (a := ⟨tmps, []⟩) hs (.tmp t)
  refine ⟨_, tmps.getD t undef :: xs, hk, by simp only [RepL]; exact ⟨_, _, rfl, hv, hr⟩, ?_⟩
  simp only [List.mapM_cons, resOf, Sem.run_bind, Sem.run_pure, Result.andThen_ok, hrun]
 | .cell a t :: r, k, h => by
  simp only [vres] at h
  split at h
  ·rename_i b o he
   have hp : Rep ρ (st.get a) (tmps.getD a undef) := rep_ev (a := ⟨tmps, []⟩) hs (.tmp a)
   rw [he] at hp
   obtain ⟨v, hv, hg⟩ := vload_sound (P := P) (k := fun v => vres P st r fun vs => k (v :: vs)) hp h
   obtain ⟨x, hx, hrx⟩ := hg w hm
   obtain ⟨p, hpp, hpe⟩ := ptr_at b o hp
   obtain ⟨vs, xs, hk, hr, hrun⟩ := vres_sound hs hm r _ hv
   refine ⟨_, x :: xs, hk, by simp only [RepL]; exact ⟨_, _, rfl, hrx, hr⟩, ?_⟩
   rw [hpe] at hx
   simp only [Instr.loadAt, Instr.sureAddr, Sem.run_bind, Sem.run_pure, Result.andThen_ok] at hx
   simp only [List.mapM_cons, resOf, Sem.run_bind, Sem.run_pure, Result.andThen_ok, hpe, asAddr, hx, hrun]
  ·exact h.elim

def outOf : List Value -> Value
 | [x] => x
 | xs => .tuple xs.toArray

theorem results_run {fn : Func} {tmps : Array Value} {w : World} {xs : List Value} (h : (fn.results.toList.mapM (resOf tmps)).run P w = .ok xs w) :
  (results fn tmps).run P w = .ok (outOf xs) w := by
 have e : results fn tmps = (do let vs <- fn.results.mapM (resOf tmps); pure (if h : vs.size = 1 then vs[0] else .tuple vs)) := by
  unfold results
  congr 1
 rw [e, Array.mapM_eq_mapM_toList]
 simp only [Sem.run_bind, Sem.run_map, h, Result.andThen_ok, Sem.run_pure]
 match xs with
 | [] => rfl
 | [x] => rfl
 | x :: y :: r => simp [outOf]

/-- A body's conditions give a contract. -/
theorem vbody_ok (hΩ : ∀ f, OK P f (Ω f)) (hΩq : ∀ g F, Ωq g = some F -> OK P g F.spec) (ann : Nat -> St -> Option Ann) (f : FuncId) : OK P f (vbody P Ω Ωq ann f) := by
 constructor
 ·intro args m k h xs w
  unfold vbody at h
  split at h
  ·exact h.elim
  ·rename_i fn hf
   split at h
   ·exact h.elim
   ·rename_i hname
    split at h
    ·exact h.elim
    ·rename_i c hb
     simp only [callFunc, Sem.run_bind, run_program, Result.andThen_ok, hf, hname, hb, Bool.false_eq_true, if_false, Option.isNone_some]
     rfl
 ·intro args m k h ρ w xs hm hx
  unfold vbody at h
  split at h
  ·exact h.elim
  ·rename_i fn hf
   split at h
   ·exact h.elim
   ·split at h
    ·exact h.elim
    ·rename_i c hb
     refine calls_of_wp hf hb ?_
     have hlen := hx.length
     have hs : SRel [] (Names ρ m) w ρ ρ (vinit fn args m) { tmps := xs.toArray ++ Array.replicate (fn.ntmps - xs.toArray.size) undef, defers := [] } w := by
      refine ⟨?_, rfl, hm, Keep.refl _ _, fun j hj => .inl hj, List.prefix_refl _⟩
      simp only [vinit, Array.toList_append, List.size_toArray, Array.toList_replicate]
      rw [hlen]
      exact hx.append (rep_undef _)
     refine vwp_sound (ρ0 := ρ) hΩ hΩq ann c _ _ _ _ w ρ (by rw [hm.len]; exact h) hs fun e st' a' w' ρ' hk hs' => ?_
     have fin : (vres P st' fn.results.toList fun vs => (match vs with | [v] => k v st'.mem | vs => k (.tup vs) st'.mem)) ->
       a'.defers = [] /\ ∃ v, (results fn a'.tmps).run P w' = .ok v w' /\ Ends ρ m w k (.returned v) w' := by
      intro hv
      obtain ⟨vs, ys, hkv, hr, hrun⟩ := vres_sound hs'.slots hs'.mem _ _ hv
      refine ⟨hs'.nodefer, _, results_run hrun, ?_⟩
      have hval : ∃ v x, k v st'.mem /\ Rep ρ' v x /\ outOf ys = x := by
       split at hkv
       ·rename_i v
        simp only [RepL] at hr
        obtain ⟨x, r, rfl, hv, rfl⟩ := hr
        exact ⟨v, x, hkv, hv, rfl⟩
       ·rename_i hne
        refine ⟨.tup vs, .tuple ys.toArray, hkv, by simp only [Rep]; exact ⟨ys, rfl, hr⟩, ?_⟩
        have hl := hr.length
        match ys, vs, hl, hne with
        | [], _, _, _ => rfl
        | [_], [v], _, hne => exact absurd rfl (hne v)
        | _ :: _ :: _, _, _, _ => rfl
      obtain ⟨v, x, h1, h2, h3⟩ := hval
      rw [h3]
      exact ⟨v, st'.mem, ρ', x, rfl, h1, hs'.pre, h2, hs'.mem, hs'.keep, hs'.own⟩
     cases e with
     | normal => exact fin hk
     | ret => exact fin hk
     | exit i => exact hk.elim
     | goto l => exact hk.elim
     | panic ch => exact hk.elim
     | outgrown => exact hk.elim
where
 rep_undef {ρ : List Place} : ∀ n : Nat, RepL ρ (List.replicate n V.undef) (List.replicate n undef)
  | 0 => by simp [RepL]
  | n + 1 => by simp only [List.replicate_succ, RepL]; exact ⟨_, _, rfl, by simp [Rep], rep_undef n⟩

theorem none_ok (f : FuncId) : OK P f fun _ _ _ => False := ⟨fun _ _ _ h => h.elim, fun _ _ _ h => h.elim⟩

/-- Contracts where there are some, bodies elsewhere. -/
structure Tab.Ok (P : Program) (T : Tab) : Prop where
 specs : ∀ f S, T.specs f = some S -> OK P f S
 looks : ∀ f F, T.looks f = some F -> OK P f F.spec
theorem Tab.none_ok : Tab.none.Ok P := ⟨fun _ _ h => (by cases h), fun _ _ h => (by cases h)⟩
theorem vin_ok {T : Tab} (hT : T.Ok P) (ann : FuncId -> Nat -> St -> Option Ann) : ∀ (n : Nat) (f : FuncId), OK P f (vin P T ann n f)
 | 0, f => by
  unfold vin
  cases h : T.specs f with
  | none => exact Go.Vi.none_ok f
  | some S => exact hT.specs f S h
 | n + 1, f => by
  unfold vin
  cases h : T.specs f with
  | none => exact vbody_ok (fun g => vin_ok hT ann n g) hT.looks (ann f) f
  | some S => exact hT.specs f S h

theorem OK.weaken {f : FuncId} {S T : VSpec} (h : OK P f S) (hw : ∀ args m k, T args m k -> S args m k) : OK P f T :=
 ⟨fun args m k ht => h.enter args m k (hw _ _ _ ht), fun args m k ht => h.calls args m k (hw _ _ _ ht)⟩

/-- Less said of the end. -/
theorem OK.le {f : FuncId} {S T : VSpec} (h : OK P f S) (hT : ∀ args m k, T args m k -> ∃ R M, k R M /\ S args m fun v m' => leSt m.length ⟨[v], m'⟩ ⟨[R], M⟩) : OK P f T := by
 refine ⟨fun args m k ht => ?_, fun args m k ht ρ w xs hm hx => ?_⟩
 ·obtain ⟨R, M, _, hS⟩ := hT args m k ht
  exact h.enter args m _ hS
 ·obtain ⟨R, M, hk, hS⟩ := hT args m k ht
  refine (h.calls args m _ hS ρ w xs hm hx).mono fun e w' hE => ?_
  obtain ⟨v, m', ρ', x, he, hle, hpre, hv, hm', hkeep, hown⟩ := hE
  have hs : SRel [] (Names ρ m) w ρ ρ' ⟨[v], m'⟩ ⟨#[x], []⟩ w' := ⟨by simp only [RepL]; exact ⟨x, [], rfl, hv, rfl⟩, rfl, hm', hkeep, hown, hpre⟩
  obtain ⟨ρ2, hs2⟩ := hs.le (by rw [hm.len]; exact hle)
  have hsl := hs2.slots
  simp only [RepL] at hsl
  obtain ⟨y, r, hy, hR, _⟩ := hsl
  have hyx : y = x := by
   injection hy with hy _
   exact hy.symm
  exact ⟨R, M, ρ2, x, he, hk, hs2.pre, hyx ▸ hR, hs2.mem, hs2.keep, hs2.own⟩

/-- The end of a call that hands back a value without names. -/
def retP (R : V) (v : V) : Prop := leV v R /\ chkB (R.under 0)
theorem retP_leSt {R v : V} (h : retP R v) (m : List Blk) : leSt 0 ⟨[v], m⟩ ⟨[R], []⟩ := by
 refine ⟨?_, by cases m <;> simp [leMem], by simp [chkB, memUnder, underL, chkB_spec h.2]⟩
 simp only [leL]
 split
 ·trivial
 ·exact ⟨h.1, trivial⟩
/-- A contract in closed form. -/
theorem OK.ofF {f : FuncId} {S : VSpec} {F : FSpec} (h : OK P f S) (hF : ∀ args m p R, F args m = some (p, R) -> p -> m = [] /\ At (S args m fun v _ => retP R v)) : OK P f F.spec := by
 refine ⟨fun args m k ht => ?_, fun args m k ht ρ w xs hm hx => ?_⟩
 ·unfold FSpec.spec at ht
  split at ht
  ·rename_i p R he
   exact h.enter args m _ (hF args m p R he ht.1.out).2.out
  ·exact ht.elim
 ·unfold FSpec.spec at ht
  split at ht
  ·rename_i p R he
   obtain ⟨hm0, ⟨hS⟩⟩ := hF args m p R he ht.1.out
   subst hm0
   refine (h.calls args [] _ hS ρ w xs hm hx).mono fun e w' hE => ?_
   obtain ⟨v, m', ρ', x, he, hle, hpre, hv, hm', hkeep, hown⟩ := hE
   have hs : SRel [] (Names ρ []) w ρ ρ' ⟨[v], m'⟩ ⟨#[x], []⟩ w' := ⟨by simp only [RepL]; exact ⟨x, [], rfl, hv, rfl⟩, rfl, hm', hkeep, hown, hpre⟩
   obtain ⟨ρ2, hs2⟩ := hs.le (by rw [hm.len]; exact retP_leSt hle m')
   have hsl := hs2.slots
   simp only [RepL] at hsl
   obtain ⟨y, r, hy, hR, _⟩ := hsl
   have hyx : y = x := by
    injection hy with hy _
    exact hy.symm
   exact ⟨R, [], ρ2, x, he, ht.2, hs2.pre, hyx ▸ hR, hs2.mem, hs2.keep, hs2.own⟩
  ·exact ht.elim
/-! ### a contract is met by what is known to the letter too -/
mutual
def V.unlit : V -> V
 | .lit b => .bool b
 | .agg cs => .agg (unlitL cs)
 | v => v
def unlitL : List V -> List V
 | [] => []
 | v :: vs => v.unlit :: unlitL vs
end
mutual
theorem unlit_rep {ρ : List Place} : ∀ {v : V} {x : Value}, Rep ρ v x -> Rep ρ v.unlit x
 | .lit b, x, h => by simpa [V.unlit, Rep] using h
 | .agg cs, x, h => by
  simp only [Rep, V.unlit] at h ⊢
  obtain ⟨xs, h1, h2⟩ := h
  exact ⟨xs, h1, unlitL_rep h2⟩
 | .undef, x, h | .int _ _, x, h | .bool _, x, h | .str _, x, h | .ptr _ _, x, h | .nilp, x, h | .raw _, x, h | .row _ _, x, h | .fn _ _, x, h | .mp _, x, h | .arr _ _, x, h | .emp, x, h | .gp _ _, x, h | .elt _ _ _ _, x, h | .sub _ _ _ _, x, h | .inr _ _ _, x, h | .iptr _ _ _, x, h | .view _ _ _ _ _, x, h | .tup _, x, h => h
theorem unlitL_rep {ρ : List Place} : ∀ {vs : List V} {xs : List Value}, RepL ρ vs xs -> RepL ρ (unlitL vs) xs
 | [], xs, h => h
 | v :: vs, xs, h => by
  simp only [RepL, unlitL] at h ⊢
  obtain ⟨x, r, h1, h2, h3⟩ := h
  exact ⟨x, r, h1, unlit_rep h2, unlitL_rep h3⟩
end
def FSpec.wide (F : FSpec) : FSpec := fun args m => F (unlitL args) m
def GSpec.wide (G : GSpec) : GSpec := fun args m => G (unlitL args) m
theorem OK.wide {f : FuncId} {F : FSpec} (h : OK P f F.spec) : OK P f F.wide.spec :=
 ⟨fun args m k hs => h.enter (unlitL args) m k hs, fun args m k hs ρ w xs hm hx => h.calls (unlitL args) m k hs ρ w xs hm (unlitL_rep hx)⟩
theorem OK.wideG {f : FuncId} {G : GSpec} (h : OK P f G.spec) : OK P f G.wide.spec :=
 ⟨fun args m k hs => h.enter (unlitL args) m k hs, fun args m k hs ρ w xs hm hx => h.calls (unlitL args) m k hs ρ w xs hm (unlitL_rep hx)⟩
def Tab.add (T : Tab) (f : FuncId) (F : FSpec) : Tab := ⟨fun g => if g = f then some F.wide.spec else T.specs g, fun g => if g = f then some F.wide else T.looks g⟩
theorem Tab.Ok.add {T : Tab} (hT : T.Ok P) {f : FuncId} {F : FSpec} (h : OK P f F.spec) : (T.add f F).Ok P := by
 refine ⟨fun g S hg => ?_, fun g G hg => ?_⟩
 ·simp only [Tab.add] at hg
  split at hg
  ·rename_i e; injection hg with hg; subst e; subst hg; exact h.wide
  ·exact hT.specs g S hg
 ·simp only [Tab.add] at hg
  split at hg
  ·rename_i e; injection hg with hg; subst e; subst hg; exact h.wide
  ·exact hT.looks g G hg

/-- The end of a call that hands back what is new, or writes. -/
def retG (n0 : Nat) (R : V) (M : List Blk) (v : V) (m' : List Blk) : Prop := leSel n0 ⟨[v], m'⟩ ⟨[R], M⟩
theorem OK.ofG {f : FuncId} {S : VSpec} {G : GSpec} (h : OK P f S) (hG : ∀ args m p R M, G args m = some (p, R, M) -> p -> At (S args m (retG m.length R M))) : OK P f G.spec := by
 refine ⟨fun args m k ht => ?_, fun args m k ht ρ w xs hm hx => ?_⟩
 ·unfold GSpec.spec at ht
  split at ht
  ·rename_i p R M he
   exact h.enter args m _ (hG args m p R M he ht.1.out).out
  ·exact ht.elim
 ·unfold GSpec.spec at ht
  split at ht
  ·rename_i p R M he
   obtain ⟨hS⟩ := hG args m p R M he ht.1.out
   refine (h.calls args m _ hS ρ w xs hm hx).mono fun e w' hE => ?_
   obtain ⟨v, m', ρ', x, he, hle, hpre, hv, hm', hkeep, hown⟩ := hE
   have hs : SRel [] (Names ρ m) w ρ ρ' ⟨[v], m'⟩ ⟨#[x], []⟩ w' := ⟨by simp only [RepL]; exact ⟨x, [], rfl, hv, rfl⟩, rfl, hm', hkeep, hown, hpre⟩
   obtain ⟨ρ2, hs2⟩ := hs.leSel (by rw [hm.len]; exact hle)
   have hsl := hs2.slots
   simp only [RepL] at hsl
   obtain ⟨y, r, hy, hR, _⟩ := hsl
   have hyx : y = x := by
    injection hy with hy _
    exact hy.symm
   exact ⟨R, M, ρ2, x, he, ht.2, hs2.pre, hyx ▸ hR, hs2.mem, hs2.keep, hs2.own⟩
  ·exact ht.elim
/-- A contract of a function that looks at what it is handed. -/
theorem OK.ofFM {f : FuncId} {S : VSpec} {F : FSpec} (h : OK P f S) (hF : ∀ args m p R, F args m = some (p, R) -> p -> At (S args m (retG m.length R m))) : OK P f F.spec := by
 have hG : OK P f (GSpec.spec fun args m => (F args m).map fun x => (x.1, x.2, m)) := h.ofG fun args m p R M he hp => by
  cases hFa : F args m with
  | none => rw [hFa] at he; cases he
  | some x =>
   obtain ⟨q, r⟩ := x
   rw [hFa] at he
   injection he with he
   injection he with h1 h2
   injection h2 with h2 h3
   subst h1; subst h2; subst h3
   exact hF args m q r hFa hp
 refine hG.weaken fun args m k ht => ?_
 unfold FSpec.spec at ht
 unfold GSpec.spec
 dsimp only
 cases hFa : F args m with
 | none => rw [hFa] at ht; exact ht.elim
 | some x =>
  obtain ⟨q, r⟩ := x
  rw [hFa] at ht
  exact ht
def Tab.addG (T : Tab) (f : FuncId) (G : GSpec) : Tab := ⟨fun g => if g = f then some G.wide.spec else T.specs g, T.looks⟩
theorem Tab.Ok.addG {T : Tab} (hT : T.Ok P) {f : FuncId} {G : GSpec} (h : OK P f G.spec) : (T.addG f G).Ok P := by
 refine ⟨fun g S hg => ?_, hT.looks⟩
 simp only [Tab.addG] at hg
 split at hg
 ·rename_i e; injection hg with hg; subst e; subst hg; exact h.wideG
 ·exact hT.specs g S hg

/-- What a caller from outside has of it. -/
theorem OK.call {f : FuncId} {S : VSpec} (h : OK P f S) {args : List V} {k : V -> List Blk -> Prop} (hS : At (S args [] k)) {xs : List Value} (hx : RepL [] args xs) (w : World) :
  Calls P f xs.toArray w fun e w' => ∃ v m' ρ' x, e = .returned x /\ k v m' /\ Rep ρ' v x /\ Below w.heap.size w w' := by
 refine (h.calls args [] k hS.out [] w xs ⟨rfl, fun b blk p hb => by simp at hb, fun b b' blk blk' p p' hb => by simp at hb⟩ hx).mono fun e w' hE => ?_
 obtain ⟨v, m', ρ', x, he, hk, _, hv, _, hkeep, _⟩ := hE
 refine ⟨v, m', ρ', x, he, hk, hv, (hkeep.mono (W' := fun _ => False) fun j _ hj => ?_).below⟩
 obtain ⟨b, blk, p, hb, _⟩ := hj
 simp at hb
/-- The same, where arguments lie in memory. -/
theorem OK.callM {f : FuncId} {S : VSpec} (h : OK P f S) {args : List V} {m : List Blk} {k : V -> List Blk -> Prop} (hS : At (S args m k)) {ρ : List Place} {w : World} (hm : MRel ρ m w) (ha : ∀ (i : Nat) (blk : Blk), m[i]? = some blk -> blk.kind.isArg = true) {xs : List Value} (hx : RepL ρ args xs) :
  Calls P f xs.toArray w fun e w' => ∃ v m' ρ' x, e = .returned x /\ k v m' /\ Rep ρ' v x /\ Below w.heap.size w w' := by
 refine (h.calls args m k hS.out ρ w xs hm hx).mono fun e w' hE => ?_
 obtain ⟨v, m', ρ', x, he, hk, _, hv, _, hkeep, _⟩ := hE
 refine ⟨v, m', ρ', x, he, hk, hv, (hkeep.mono (W' := fun _ => False) fun j _ hj => ?_).below⟩
 obtain ⟨b, blk, p, hb, _, _, _, hq, _⟩ := hj
 have hq : blk.kind.isArg = false := hq
 rw [ha b blk hb] at hq
 cases hq
end
end Go.Vi
