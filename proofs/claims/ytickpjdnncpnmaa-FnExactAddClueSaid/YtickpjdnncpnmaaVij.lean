/- Contracts of callees that are proved elsewhere, for every world. -/
import Derived.Test.YtickpjdnncpnmaaVif
namespace Go.Vi
open Go.RowKit

section
variable {P : Program}
def hasBody (P : Program) (f : FuncId) : Bool :=
 match P.funcs[f]? with
 | none => false
 | some fn => !(fn.name == "runtime.NumGoroutine") && fn.body.isSome
theorem hasBody_enter {f : FuncId} (h : hasBody P f = true) (xs : Array Value) (w : World) : (callFunc f xs).run P w = .ok (.enter f xs) w := by
 unfold hasBody at h
 split at h
 ·cases h
 ·rename_i fn hf
  simp only [Bool.and_eq_true, Bool.not_eq_true'] at h
  obtain ⟨c, hb⟩ := Option.isSome_iff_exists.1 h.2
  simp only [callFunc, Sem.run_bind, run_program, Result.andThen_ok, hf, h.1, hb, Bool.false_eq_true, if_false, Option.isNone_some]
  rfl
/-- Nothing of the caller's goes in, nothing that was there turns. -/
theorem OK.ofCalls {f : FuncId} {F : FSpec} (he : hasBody P f = true)
  (hc : ∀ args m p R, F args m = some (p, R) -> p -> m = [] /\ ∀ xs, RepL [] args xs -> ∀ w, Calls P f xs.toArray w fun e w' => ∃ x, e = .returned x /\ Rep [] R x /\ Below w.heap.size w w') : OK P f F.spec := by
 refine ⟨fun args m k ht xs w => hasBody_enter he xs w, fun args m k ht ρ w xs hm hx => ?_⟩
 unfold FSpec.spec at ht
 split at ht
 ·rename_i p R hF
  obtain ⟨rfl, h⟩ := hc args m p R hF ht.1.out
  obtain rfl : ρ = [] := List.eq_nil_of_length_eq_zero hm.len
  refine (h xs hx w).mono fun e w' ⟨x, hE, hR, hB⟩ => ?_
  exact ⟨R, [], [], x, hE, ht.2, List.prefix_refl _, hR, ⟨rfl, fun b blk p hb => by simp at hb, fun b b' blk blk' p p' hb => by simp at hb⟩, Keep.of_below hB, fun j hj => Or.inl hj⟩
 ·exact ht.elim
/-- A callee that hands back a new row of texts, and turns nothing that was there. -/
theorem OK.ofCallsRow {f : FuncId} {G : GSpec} (he : hasBody P f = true)
  (hc : ∀ args m p R M, G args m = some (p, R, M) -> p -> m = [] /\ ∃ (l : List (List UInt8)) (e : TypeId), R = .row 0 l.length /\ M = [⟨.strs l, e, .row⟩] /\ ∀ xs, RepL [] args xs -> ∀ w, Calls P f xs.toArray w fun en w' => ∃ cells : List Value,
   en = .returned (.slice (some ⟨w.heap.size, 0, none⟩) l.length cells.length) /\ w' = w.alloc (.cells cells.toArray e) /\ cells.take l.length = l.map (fun s => .string (ofL s)) /\ cells.length <= maxLen) : OK P f G.spec := by
 refine ⟨fun args m k ht xs w => hasBody_enter he xs w, fun args m k ht ρ w xs hm hx => ?_⟩
 unfold GSpec.spec at ht
 split at ht
 ·rename_i p R M hG
  obtain ⟨rfl, l, e, rfl, rfl, h⟩ := hc args m p R M hG ht.1.out
  obtain rfl : ρ = [] := List.eq_nil_of_length_eq_zero hm.len
  refine (h xs hx w).mono fun en w' ⟨cells, hE, hw, hcs, hl⟩ => ?_
  subst hw
  have hrep : RepL [(⟨w.heap.size, cells.length, false, 0, none, []⟩ : Place)] (Cells.strs l).toVs (cells.take (Cells.strs l).toVs.length) := by
   have hlen : (Cells.strs l).toVs.length = l.length := by simp [Cells.toVs]
   rw [hlen, hcs]
   refine RepL.of (by simp [Cells.toVs]) fun i v y hv hy => ?_
   simp only [Cells.toVs, List.getElem?_map] at hv hy
   cases hli : l[i]? with
   | none => rw [hli] at hv; cases hv
   | some s =>
    rw [hli] at hv hy
    simp only [Option.map_some, Option.some.injEq] at hv hy
    subst hv; subst hy
    rfl
  refine ⟨.row 0 l.length, [⟨.strs l, e, .row⟩], [⟨w.heap.size, cells.length, false, 0, none, []⟩], _, hE, ht.2, List.nil_prefix, ?_, ⟨rfl, fun b blk q hb hq => ?_, fun b b' blk blk' q q' hb hb' _ _ hne => ?_⟩, Keep.alloc _ _ _, fun j hj => ?_⟩
  ·simp only [Rep]
   exact ⟨_, rfl, .inr ⟨rfl, rfl⟩⟩
  ·cases b with
   | zero =>
    simp only [List.getElem?_cons_zero, Option.some.injEq] at hb hq
    subst hb; subst hq
    exact .inr (.inr (.inl ⟨rfl, cells, heap_alloc_new w _, hrep, ⟨rfl, hl⟩, rfl, rfl⟩))
   | succ b => simp at hb
  ·cases b with
   | zero =>
    cases b' with
    | zero => exact absurd rfl hne
    | succ b' => simp at hb'
   | succ b => simp at hb
  ·obtain ⟨b, blk, q, hb, hq, _, _, _, hjf⟩ := hj
   cases b with
   | zero =>
    simp only [List.getElem?_cons_zero, Option.some.injEq] at hq hb
    subst hq; subst hb
    rw [foot_one rfl, List.mem_singleton] at hjf
    subst hjf
    exact .inr (Nat.le_refl _)
   | succ b => simp at hb
 ·exact ht.elim
end
end Go.Vi
