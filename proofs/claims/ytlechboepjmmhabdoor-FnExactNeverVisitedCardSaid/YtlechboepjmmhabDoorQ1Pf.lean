/- The periods' conditions hold. -/
import Derived.Test.YtlechboepjmmhabDoorQ1Vc
import Derived.Test.YtlechboepjmmhabDoorQ1Spec
namespace Go.Vi
theorem vc_laws_toWorld (wr : List UInt8) (ww wh : Int) (wc : List UInt8) (wx wy wd : Int) (_ : True) : VC_laws_toWorld wr ww wh wc wx wy wd (retP (wdV ⟨wr, ww, wh, wc, wx, wy, wd⟩)) := by
  unfold VC_laws_toWorld
  simp [retP, leV, leL, chkB, V.under, underL, wdV]
theorem szW_le {w : Wd} {left : Int} (h : 0 ≤ left) : szW w left ≤ left := by
  unfold szW
  cases decide (left - w.r.length < 0) <;> cases decide (left - w.r.length - w.c.length < 0) <;> simp only [cond_true, cond_false] <;> omega
theorem untilF_succ (p : Wd → Bool) (least : Int) (n : Nat) (s : Int) (v : Wd) : untilF p least (n + 1) s v = bif decide (least ≤ s) && p v then some s else untilF p least n (s + 1) (stepW v) := rfl
theorem unt_split {s : Int} (h0 : 0 ≤ s) (h : s ≤ 4000) : (4001 - s).toNat = (4001 - (s + 1)).toNat + 1 := by omega
theorem unt_hit {p : Wd → Bool} {least : Int} {w0 : Wd} {s : Int} {v : Wd} (h : untInv p least w0 (s, v)) (hs : s ≤ 4000) (hl : least ≤ s) (hp : p v = true) : untilF p least 4001 0 w0 = some s := by
  obtain ⟨_, h1, _, h3⟩ := h
  simp only at h1 h3
  rw [← h3, unt_split h1 hs, untilF_succ, hp]
  simp [hl]
theorem unt_next {p : Wd → Bool} {least : Int} {w0 : Wd} {s : Int} {v : Wd} (h : untInv p least w0 (s, v)) (hs : s ≤ 4000) (hn : (decide (least ≤ s) && p v) = false) : untInv p least w0 (s + 1, stepW v) ∧ (4001 - (s + 1)).toNat < (4001 - s).toNat := by
  obtain ⟨hg, h1, _, h3⟩ := h
  simp only at hg h1 h3
  refine ⟨⟨good_step hg, by simp only; omega, by simp only; omega, ?_⟩, by omega⟩
  simp only
  rw [← h3, unt_split h1 hs, untilF_succ, hn]
  rfl
theorem unt_end {p : Wd → Bool} {least : Int} {w0 : Wd} {s : Int} {v : Wd} (h : untInv p least w0 (s, v)) (hs : ¬ s ≤ 4000) : untilF p least 4001 0 w0 = none := by
  obtain ⟨_, _, _, h3⟩ := h
  simp only at h3
  rw [← h3, show (4001 - s).toNat = 0 by omega]
  rfl
theorem unt_start {p : Wd → Bool} {least : Int} {w : Wd} (hg : goodB w = true) : untInv p least w (0, w) := ⟨hg, Int.le_refl _, by simp only; omega, rfl⟩
theorem now_start {p : Wd → Bool} {w : Wd} (hg : goodB w = true) : nowInv p w (1, w) := by
  refine ⟨hg, Int.le_refl _, by simp only; omega, ?_⟩
  have e : untilF p 1 4001 0 w = bif decide ((1 : Int) ≤ 0) && p w then some 0 else untilF p 1 4000 (0 + 1) (stepW w) := untilF_succ p 1 4000 0 w
  rw [e, show decide ((1 : Int) ≤ 0) = false from rfl, Bool.false_and, cond_false]
  rfl
theorem now_hit {p : Wd → Bool} {w0 : Wd} {s : Int} {v : Wd} (h : nowInv p w0 (s, v)) (hs : s ≤ 4000) (hp : p (stepW v) = true) : untilF p 1 4001 0 w0 = some s := by
  obtain ⟨_, h1, _, h3⟩ := h
  simp only at h1 h3
  rw [← h3, unt_split (by omega) hs, untilF_succ, hp]
  simp [h1]
theorem now_next {p : Wd → Bool} {w0 : Wd} {s : Int} {v : Wd} (h : nowInv p w0 (s, v)) (hs : s ≤ 4000) (hp : p (stepW v) = false) : nowInv p w0 (s + 1, stepW v) ∧ (4001 - (s + 1)).toNat < (4001 - s).toNat := by
  obtain ⟨hg, h1, _, h3⟩ := h
  simp only at hg h1 h3
  refine ⟨⟨good_step hg, by simp only; omega, by simp only; omega, ?_⟩, by omega⟩
  simp only
  rw [← h3, unt_split (by omega) hs, untilF_succ, hp, Bool.and_false]
  rfl
theorem now_end {p : Wd → Bool} {w0 : Wd} {s : Int} {v : Wd} (h : nowInv p w0 (s, v)) (hs : ¬ s ≤ 4000) : untilF p 1 4001 0 w0 = none := by
  obtain ⟨_, _, _, h3⟩ := h
  simp only at h3
  rw [← h3, show (4001 - s).toNat = 0 by omega]
  rfl
theorem eqs_pPer {w v : Wd} : (v.r == w.r && (v.w == w.w && (v.h == w.h && (v.c == w.c && (v.x == w.x && (v.y == w.y && (v.d == w.d && true))))))) = pPer w v := by
  unfold pPer eqW
  simp [Bool.and_assoc]
theorem retP_some {u : Option Int} {n : Int} (h : u = some n) : retP (.tup [.int .i64 (optI u), .bool u.isSome]) (.tup [.int .i64 n, .lit true]) := by
  subst h
  simp [retP, leV, leL, chkB, V.under, underL, optI]
theorem retP_none {u : Option Int} (h : u = none) : retP (.tup [.int .i64 (optI u), .bool u.isSome]) (.tup [.int .i64 0, .lit false]) := by
  subst h
  simp [retP, leV, leL, chkB, V.under, underL, optI]
theorem retP_optb {u : Option Int} {b : Bool} (h : b = u.isSome) : retP (.tup [.int .i64 (optI u), .bool u.isSome]) (.tup [.int .i64 (optI u), .bool b]) := by
  subst h
  simp [retP, leV, leL, chkB, V.under, underL]
theorem untilW_no {b : Bool} {p : Wd → Bool} {l : Int} {w : Wd} (h : b = false) : untilW b p l w = none := by
  subst h; rfl
theorem untilW_yes {b : Bool} {p : Wd → Bool} {l : Int} {w : Wd} (h : b = true) : untilW b p l w = untilF p l 4001 0 w := by
  subst h; rfl
theorem until_ge {p : Wd → Bool} {l : Int} : ∀ (n : Nat) (s : Int) (v : Wd) (k : Int), untilF p l n s v = some k → s ≤ k ∧ l ≤ k
  | 0, s, v, k, h => by cases h
  | n + 1, s, v, k, h => by
    rw [untilF_succ] at h
    cases hb : (decide (l ≤ s) && p v) with
    | true =>
      rw [hb] at h
      injection h with h
      simp only [Bool.and_eq_true, decide_eq_true_eq] at hb
      omega
    | false =>
      rw [hb] at h
      have := until_ge n (s + 1) (stepW v) k h
      omega
/-- A closure's end: a truth value, and one block more than came in. -/
theorem retG_clo {q r : Bool} {v : V} {zr wr zc wc : List UInt8} {zw zh zx zy zd ww wh wx wy wd : Int} {e e' : TypeId} (h : v = .bool q ∧ q = r ∨ v = .lit q ∧ q = r) : retG 1 (.bool r) [⟨.vals [.str zr, .int .i64 zw, .int .i64 zh, .str zc, .int .i64 zx, .int .i64 zy, .int .i64 zd], e, .box⟩] v
    [⟨.vals [.str zr, .int .i64 zw, .int .i64 zh, .str zc, .int .i64 zx, .int .i64 zy, .int .i64 zd], e, .box⟩, ⟨.vals [.str wr, .int .i64 ww, .int .i64 wh, .str wc, .int .i64 wx, .int .i64 wy, .int .i64 wd], e', .box⟩] := by
  rcases h with ⟨rfl, rfl⟩ | ⟨rfl, rfl⟩ <;>
  · unfold retG leSel leSelBy autoSel
    simp [pairsL, pairsV, idPairs, pairsIn, selOf, lookN, selMem, chkB, nodupSel, hasSel, prefSel, leSt, leL, leV, nilToL, V.nilTo, selL, V.sel, Cells.selN, leMem, leCells, memUnder, underL, V.under]
theorem vc_spec_loPeriod (wr : List UInt8) (ww wh : Int) (wc : List UInt8) (wx wy wd : Int) (hg : goodB ⟨wr, ww, wh, wc, wx, wy, wd⟩ = true) : VC_spec_loPeriod wr ww wh wc wx wy wd
    (retP (.int .i64 (optI (untilW (goodB ⟨wr, ww, wh, wc, wx, wy, wd⟩) (pPer ⟨wr, ww, wh, wc, wx, wy, wd⟩) 1 ⟨wr, ww, wh, wc, wx, wy, wd⟩)))) := by
  unfold VC_spec_loPeriod
  rw [untilW_yes hg]
  refine ⟨by simp, ⟨now_start hg⟩, fun a ha => ⟨fun hs => ?_, fun hs => ?_⟩⟩
  · obtain ⟨s, v⟩ := a
    have hs := of_decide_eq_true hs
    simp only at hs ⊢
    have hb : 1 ≤ s := ha.2.1
    have e := eqs_pPer (w := ⟨wr, ww, wh, wc, wx, wy, wd⟩) (v := stepW v)
    simp only at e
    rw [wrap64_in (x := s + 1) (by omega), e]
    exact ⟨⟨ha.1⟩, fun hp => by rw [retP_int, now_hit ha hs hp]; rfl, fun hp => ⟨by simp, ⟨now_next ha hs hp⟩⟩⟩
  · have hs := of_decide_eq_false hs
    rw [retP_int, now_end ha hs]
    rfl
theorem vc_impl_PeriodOf_1 (wr : List UInt8) (ww wh : Int) (wc : List UInt8) (wx wy wd : Int) (zr : List UInt8) (zw zh : Int) (zc : List UInt8) (zx zy zd : Int) (_ : True) : VC_impl_PeriodOf_1 wr ww wh wc wx wy wd zr zw zh zc zx zy zd
    (retG 1 (.bool (pPer ⟨zr, zw, zh, zc, zx, zy, zd⟩ ⟨wr, ww, wh, wc, wx, wy, wd⟩)) [⟨.vals [.str zr, .int .i64 zw, .int .i64 zh, .str zc, .int .i64 zx, .int .i64 zy, .int .i64 zd], 27, .box⟩]) := by
  unfold VC_impl_PeriodOf_1
  rw [← eqs_pPer]
  exact retG_clo (.inl ⟨rfl, rfl⟩)
theorem vc_impl_StepsBetween_1 (wr : List UInt8) (ww wh : Int) (wc : List UInt8) (wx wy wd : Int) (zr : List UInt8) (zw zh : Int) (zc : List UInt8) (zx zy zd : Int) (_ : True) : VC_impl_StepsBetween_1 wr ww wh wc wx wy wd zr zw zh zc zx zy zd
    (retG 1 (.bool (pPer ⟨zr, zw, zh, zc, zx, zy, zd⟩ ⟨wr, ww, wh, wc, wx, wy, wd⟩)) [⟨.vals [.str zr, .int .i64 zw, .int .i64 zh, .str zc, .int .i64 zx, .int .i64 zy, .int .i64 zd], 27, .box⟩]) := by
  unfold VC_impl_StepsBetween_1
  rw [← eqs_pPer]
  exact retG_clo (.inl ⟨rfl, rfl⟩)
theorem vc_impl_AntPeriod_1 (wr : List UInt8) (ww wh : Int) (wc : List UInt8) (wx wy wd : Int) (zr : List UInt8) (zw zh : Int) (zc : List UInt8) (zx zy zd : Int) (_ : True) : VC_impl_AntPeriod_1 wr ww wh wc wx wy wd zr zw zh zc zx zy zd
    (retG 1 (.bool (pAnt ⟨zr, zw, zh, zc, zx, zy, zd⟩ ⟨wr, ww, wh, wc, wx, wy, wd⟩)) [⟨.vals [.str zr, .int .i64 zw, .int .i64 zh, .str zc, .int .i64 zx, .int .i64 zy, .int .i64 zd], 27, .box⟩]) := by
  unfold VC_impl_AntPeriod_1
  exact ⟨fun h1 => ⟨fun h2 => retG_clo (.inl ⟨rfl, by simp only [pAnt, h1, h2, Bool.true_and]⟩), fun h2 => retG_clo (.inr ⟨rfl, by simp only [pAnt, h1, h2, Bool.true_and, Bool.false_and]⟩)⟩, fun h1 => retG_clo (.inr ⟨rfl, by simp only [pAnt, h1, Bool.false_and]⟩)⟩
theorem vc_impl_FirstReturn_1 (wr : List UInt8) (ww wh : Int) (wc : List UInt8) (wx wy wd : Int) (zr : List UInt8) (zw zh : Int) (zc : List UInt8) (zx zy zd : Int) (_ : True) : VC_impl_FirstReturn_1 wr ww wh wc wx wy wd zr zw zh zc zx zy zd
    (retG 1 (.bool (pRet ⟨zr, zw, zh, zc, zx, zy, zd⟩ ⟨wr, ww, wh, wc, wx, wy, wd⟩)) [⟨.vals [.str zr, .int .i64 zw, .int .i64 zh, .str zc, .int .i64 zx, .int .i64 zy, .int .i64 zd], 27, .box⟩]) := by
  unfold VC_impl_FirstReturn_1
  exact ⟨fun h1 => retG_clo (.inl ⟨rfl, by simp only [pRet, h1, Bool.true_and]⟩), fun h1 => retG_clo (.inr ⟨rfl, by simp only [pRet, h1, Bool.false_and]⟩)⟩
theorem vc_spec_PeriodOf (wr : List UInt8) (ww wh : Int) (wc : List UInt8) (wx wy wd : Int) (_ : True) : VC_spec_PeriodOf wr ww wh wc wx wy wd
    (retP (.tup [.int .i64 (optI (untilW (goodB ⟨wr, ww, wh, wc, wx, wy, wd⟩) (pPer ⟨wr, ww, wh, wc, wx, wy, wd⟩) 1 ⟨wr, ww, wh, wc, wx, wy, wd⟩)), .bool (untilW (goodB ⟨wr, ww, wh, wc, wx, wy, wd⟩) (pPer ⟨wr, ww, wh, wc, wx, wy, wd⟩) 1 ⟨wr, ww, wh, wc, wx, wy, wd⟩).isSome])) := by
  unfold VC_spec_PeriodOf
  refine ⟨⟨trivial⟩, fun hg => ?_, fun hg => ⟨⟨by simpa using hg⟩, retP_optb ?_⟩⟩
  · exact retP_none (untilW_no (by simpa using hg))
  · rw [untilW_yes (by simpa using hg)]
    cases h : untilF (pPer ⟨wr, ww, wh, wc, wx, wy, wd⟩) 1 4001 0 ⟨wr, ww, wh, wc, wx, wy, wd⟩ with
    | none => rfl
    | some k =>
      have := (until_ge _ _ _ _ h).2
      simp only [optI, Option.isSome_some]
      exact decide_eq_true (by omega)
theorem vc_impl_PeriodOf (wr : List UInt8) (ww wh : Int) (wc : List UInt8) (wx wy wd : Int) (_ : True) : VC_impl_PeriodOf wr ww wh wc wx wy wd
    (retP (.tup [.int .i64 (optI (untilW (goodB ⟨wr, ww, wh, wc, wx, wy, wd⟩) (pPer ⟨wr, ww, wh, wc, wx, wy, wd⟩) 1 ⟨wr, ww, wh, wc, wx, wy, wd⟩)), .bool (untilW (goodB ⟨wr, ww, wh, wc, wx, wy, wd⟩) (pPer ⟨wr, ww, wh, wc, wx, wy, wd⟩) 1 ⟨wr, ww, wh, wc, wx, wy, wd⟩).isSome])) := by
  unfold VC_impl_PeriodOf
  refine ⟨⟨trivial⟩, fun hg => retP_none (untilW_no (by simpa using hg)), fun hg => ?_⟩
  simp only [Bool.not_eq_false'] at hg
  rw [untilW_yes hg]
  refine ⟨by simp, ⟨unt_start hg⟩, fun a ha => ⟨fun hs => ?_, fun hs => ?_⟩⟩
  · obtain ⟨s, v⟩ := a
    have hs := of_decide_eq_true hs
    simp only at hs ⊢
    have hb : 0 ≤ s := ha.2.1
    have ha : untInv (pPer ⟨wr, ww, wh, wc, wx, wy, wd⟩) 1 ⟨wr, ww, wh, wc, wx, wy, wd⟩ (s, v) := ha
    rw [wrap64_in (x := s + 1) (by omega)]
    refine ⟨fun h1 => ⟨⟨trivial⟩, fun hp => retP_some (unt_hit ha hs (of_decide_eq_true h1) hp), fun hp => ⟨⟨ha.1⟩, by simp, ⟨by have hn := unt_next ha hs (by rw [hp, Bool.and_false]); exact hn⟩⟩⟩, fun h1 => ⟨⟨ha.1⟩, by simp, ⟨by have hn := unt_next ha hs (by rw [show decide (1 ≤ s) = false from h1, Bool.false_and]); exact hn⟩⟩⟩
  · obtain ⟨s, v⟩ := a
    have ha : untInv (pPer ⟨wr, ww, wh, wc, wx, wy, wd⟩) 1 ⟨wr, ww, wh, wc, wx, wy, wd⟩ (s, v) := ha
    exact retP_none (unt_end ha (of_decide_eq_false hs))
theorem vc_spec_AntPeriod (wr : List UInt8) (ww wh : Int) (wc : List UInt8) (wx wy wd : Int) (_ : True) : VC_spec_AntPeriod wr ww wh wc wx wy wd
    (retP (.tup [.int .i64 (optI (untilW (goodB ⟨wr, ww, wh, wc, wx, wy, wd⟩) (pAnt ⟨wr, ww, wh, wc, wx, wy, wd⟩) 1 ⟨wr, ww, wh, wc, wx, wy, wd⟩)), .bool (untilW (goodB ⟨wr, ww, wh, wc, wx, wy, wd⟩) (pAnt ⟨wr, ww, wh, wc, wx, wy, wd⟩) 1 ⟨wr, ww, wh, wc, wx, wy, wd⟩).isSome])) := by
  unfold VC_spec_AntPeriod
  refine ⟨⟨trivial⟩, fun hg => retP_none (untilW_no (by simpa using hg)), fun hg => ?_⟩
  simp only [Bool.not_eq_false'] at hg
  rw [untilW_yes hg]
  refine ⟨by simp, ⟨now_start hg⟩, fun a ha => ⟨fun hs => ?_, fun hs => ?_⟩⟩
  · obtain ⟨s, v⟩ := a
    have hs := of_decide_eq_true hs
    simp only at hs ⊢
    have hb : 1 ≤ s := ha.2.1
    rw [wrap64_in (x := s + 1) (by omega)]
    exact ⟨⟨ha.1⟩, ⟨fun h0 => ⟨fun h1 => ⟨fun h2 => retP_some (now_hit ha hs (by simp [pAnt, h0, h1, h2])), fun h2 => ⟨by simp, ⟨now_next ha hs (by simp [pAnt, h0, h1, h2])⟩⟩⟩, fun h1 => ⟨by simp, ⟨now_next ha hs (by simp [pAnt, h0, h1])⟩⟩⟩, fun h0 => ⟨by simp, ⟨now_next ha hs (by simp [pAnt, h0])⟩⟩⟩⟩
  · obtain ⟨s, v⟩ := a
    exact retP_none (now_end ha (of_decide_eq_false hs))
theorem vc_impl_AntPeriod (wr : List UInt8) (ww wh : Int) (wc : List UInt8) (wx wy wd : Int) (_ : True) : VC_impl_AntPeriod wr ww wh wc wx wy wd
    (retP (.tup [.int .i64 (optI (untilW (goodB ⟨wr, ww, wh, wc, wx, wy, wd⟩) (pAnt ⟨wr, ww, wh, wc, wx, wy, wd⟩) 1 ⟨wr, ww, wh, wc, wx, wy, wd⟩)), .bool (untilW (goodB ⟨wr, ww, wh, wc, wx, wy, wd⟩) (pAnt ⟨wr, ww, wh, wc, wx, wy, wd⟩) 1 ⟨wr, ww, wh, wc, wx, wy, wd⟩).isSome])) := by
  unfold VC_impl_AntPeriod
  refine ⟨⟨trivial⟩, fun hg => retP_none (untilW_no (by simpa using hg)), fun hg => ?_⟩
  simp only [Bool.not_eq_false'] at hg
  rw [untilW_yes hg]
  refine ⟨by simp, ⟨unt_start hg⟩, fun a ha => ⟨fun hs => ?_, fun hs => ?_⟩⟩
  · obtain ⟨s, v⟩ := a
    have hs := of_decide_eq_true hs
    simp only at hs ⊢
    have hb : 0 ≤ s := ha.2.1
    have ha : untInv (pAnt ⟨wr, ww, wh, wc, wx, wy, wd⟩) 1 ⟨wr, ww, wh, wc, wx, wy, wd⟩ (s, v) := ha
    rw [wrap64_in (x := s + 1) (by omega)]
    refine ⟨fun h1 => ⟨⟨trivial⟩, fun hp => retP_some (unt_hit ha hs (of_decide_eq_true h1) hp), fun hp => ⟨⟨ha.1⟩, by simp, ⟨by have hn := unt_next ha hs (by rw [hp, Bool.and_false]); exact hn⟩⟩⟩, fun h1 => ⟨⟨ha.1⟩, by simp, ⟨by have hn := unt_next ha hs (by rw [show decide (1 ≤ s) = false from h1, Bool.false_and]); exact hn⟩⟩⟩
  · obtain ⟨s, v⟩ := a
    have ha : untInv (pAnt ⟨wr, ww, wh, wc, wx, wy, wd⟩) 1 ⟨wr, ww, wh, wc, wx, wy, wd⟩ (s, v) := ha
    exact retP_none (unt_end ha (of_decide_eq_false hs))
theorem vc_spec_FirstReturn (wr : List UInt8) (ww wh : Int) (wc : List UInt8) (wx wy wd : Int) (_ : True) : VC_spec_FirstReturn wr ww wh wc wx wy wd
    (retP (.tup [.int .i64 (optI (untilW (goodB ⟨wr, ww, wh, wc, wx, wy, wd⟩) (pRet ⟨wr, ww, wh, wc, wx, wy, wd⟩) 1 ⟨wr, ww, wh, wc, wx, wy, wd⟩)), .bool (untilW (goodB ⟨wr, ww, wh, wc, wx, wy, wd⟩) (pRet ⟨wr, ww, wh, wc, wx, wy, wd⟩) 1 ⟨wr, ww, wh, wc, wx, wy, wd⟩).isSome])) := by
  unfold VC_spec_FirstReturn
  refine ⟨⟨trivial⟩, fun hg => retP_none (untilW_no (by simpa using hg)), fun hg => ?_⟩
  simp only [Bool.not_eq_false'] at hg
  rw [untilW_yes hg]
  refine ⟨by simp, ⟨now_start hg⟩, fun a ha => ⟨fun hs => ?_, fun hs => ?_⟩⟩
  · obtain ⟨s, v⟩ := a
    have hs := of_decide_eq_true hs
    simp only at hs ⊢
    have hb : 1 ≤ s := ha.2.1
    rw [wrap64_in (x := s + 1) (by omega)]
    exact ⟨⟨ha.1⟩, ⟨fun h0 => ⟨fun h1 => retP_some (now_hit ha hs (by simp [pRet, h0, h1])), fun h1 => ⟨by simp, ⟨now_next ha hs (by simp [pRet, h0, h1])⟩⟩⟩, fun h0 => ⟨by simp, ⟨now_next ha hs (by simp [pRet, h0])⟩⟩⟩⟩
  · obtain ⟨s, v⟩ := a
    exact retP_none (now_end ha (of_decide_eq_false hs))
theorem vc_impl_FirstReturn (wr : List UInt8) (ww wh : Int) (wc : List UInt8) (wx wy wd : Int) (_ : True) : VC_impl_FirstReturn wr ww wh wc wx wy wd
    (retP (.tup [.int .i64 (optI (untilW (goodB ⟨wr, ww, wh, wc, wx, wy, wd⟩) (pRet ⟨wr, ww, wh, wc, wx, wy, wd⟩) 1 ⟨wr, ww, wh, wc, wx, wy, wd⟩)), .bool (untilW (goodB ⟨wr, ww, wh, wc, wx, wy, wd⟩) (pRet ⟨wr, ww, wh, wc, wx, wy, wd⟩) 1 ⟨wr, ww, wh, wc, wx, wy, wd⟩).isSome])) := by
  unfold VC_impl_FirstReturn
  refine ⟨⟨trivial⟩, fun hg => retP_none (untilW_no (by simpa using hg)), fun hg => ?_⟩
  simp only [Bool.not_eq_false'] at hg
  rw [untilW_yes hg]
  refine ⟨by simp, ⟨unt_start hg⟩, fun a ha => ⟨fun hs => ?_, fun hs => ?_⟩⟩
  · obtain ⟨s, v⟩ := a
    have hs := of_decide_eq_true hs
    simp only at hs ⊢
    have hb : 0 ≤ s := ha.2.1
    have ha : untInv (pRet ⟨wr, ww, wh, wc, wx, wy, wd⟩) 1 ⟨wr, ww, wh, wc, wx, wy, wd⟩ (s, v) := ha
    rw [wrap64_in (x := s + 1) (by omega)]
    refine ⟨fun h1 => ⟨⟨trivial⟩, fun hp => retP_some (unt_hit ha hs (of_decide_eq_true h1) hp), fun hp => ⟨⟨ha.1⟩, by simp, ⟨by have hn := unt_next ha hs (by rw [hp, Bool.and_false]); exact hn⟩⟩⟩, fun h1 => ⟨⟨ha.1⟩, by simp, ⟨by have hn := unt_next ha hs (by rw [show decide (1 ≤ s) = false from h1, Bool.false_and]); exact hn⟩⟩⟩
  · obtain ⟨s, v⟩ := a
    have ha : untInv (pRet ⟨wr, ww, wh, wc, wx, wy, wd⟩) 1 ⟨wr, ww, wh, wc, wx, wy, wd⟩ (s, v) := ha
    exact retP_none (unt_end ha (of_decide_eq_false hs))
theorem vc_spec_StepsBetween (wr : List UInt8) (ww wh : Int) (wc : List UInt8) (wx wy wd : Int) (vr : List UInt8) (vw vh : Int) (vc : List UInt8) (vx vy vd : Int) (_ : True) : VC_spec_StepsBetween wr ww wh wc wx wy wd vr vw vh vc vx vy vd
    (retP (.tup [.int .i64 (optI (untilW (goodB ⟨wr, ww, wh, wc, wx, wy, wd⟩ && goodB ⟨vr, vw, vh, vc, vx, vy, vd⟩) (pPer ⟨vr, vw, vh, vc, vx, vy, vd⟩) 0 ⟨wr, ww, wh, wc, wx, wy, wd⟩)), .bool (untilW (goodB ⟨wr, ww, wh, wc, wx, wy, wd⟩ && goodB ⟨vr, vw, vh, vc, vx, vy, vd⟩) (pPer ⟨vr, vw, vh, vc, vx, vy, vd⟩) 0 ⟨wr, ww, wh, wc, wx, wy, wd⟩).isSome])) := by
  unfold VC_spec_StepsBetween
  refine ⟨⟨trivial⟩, fun hg => retP_none (untilW_no (by simp only [Bool.not_eq_true'] at hg; rw [hg, Bool.false_and])), fun hg => ⟨⟨trivial⟩, fun hv => retP_none (untilW_no (by simp only [Bool.not_eq_true'] at hv; rw [hv, Bool.and_false])), fun hv => ?_⟩⟩
  simp only [Bool.not_eq_false'] at hg hv
  rw [untilW_yes (by rw [hg, hv]; rfl)]
  refine ⟨by simp, ⟨unt_start hg⟩, fun a ha => ⟨fun hs => ?_, fun hs => ?_⟩⟩
  · obtain ⟨s, v⟩ := a
    have hs := of_decide_eq_true hs
    simp only at hs ⊢
    have hb : 0 ≤ s := ha.2.1
    have e := eqs_pPer (w := ⟨vr, vw, vh, vc, vx, vy, vd⟩) (v := v)
    simp only at e
    rw [wrap64_in (x := s + 1) (by omega), e]
    exact ⟨fun hp => retP_some (unt_hit ha hs hb hp), fun hp => ⟨⟨ha.1⟩, by simp, ⟨by have hn := unt_next ha hs (by rw [hp, Bool.and_false]); exact hn⟩⟩⟩
  · obtain ⟨s, v⟩ := a
    exact retP_none (unt_end ha (of_decide_eq_false hs))
theorem vc_impl_StepsBetween (wr : List UInt8) (ww wh : Int) (wc : List UInt8) (wx wy wd : Int) (vr : List UInt8) (vw vh : Int) (vc : List UInt8) (vx vy vd : Int) (_ : True) : VC_impl_StepsBetween wr ww wh wc wx wy wd vr vw vh vc vx vy vd
    (retP (.tup [.int .i64 (optI (untilW (goodB ⟨wr, ww, wh, wc, wx, wy, wd⟩ && goodB ⟨vr, vw, vh, vc, vx, vy, vd⟩) (pPer ⟨vr, vw, vh, vc, vx, vy, vd⟩) 0 ⟨wr, ww, wh, wc, wx, wy, wd⟩)), .bool (untilW (goodB ⟨wr, ww, wh, wc, wx, wy, wd⟩ && goodB ⟨vr, vw, vh, vc, vx, vy, vd⟩) (pPer ⟨vr, vw, vh, vc, vx, vy, vd⟩) 0 ⟨wr, ww, wh, wc, wx, wy, wd⟩).isSome])) := by
  unfold VC_impl_StepsBetween
  refine ⟨⟨trivial⟩, fun hv => retP_none (untilW_no (by simp only [Bool.not_eq_true'] at hv; rw [hv, Bool.and_false])), fun hv => ⟨⟨trivial⟩, fun hg => retP_none (untilW_no (by simp only [Bool.not_eq_true'] at hg; rw [hg, Bool.false_and])), fun hg => ?_⟩⟩
  simp only [Bool.not_eq_false'] at hg hv
  rw [untilW_yes (by rw [hg, hv]; rfl)]
  refine ⟨by simp, ⟨unt_start hg⟩, fun a ha => ⟨fun hs => ?_, fun hs => ?_⟩⟩
  · obtain ⟨s, v⟩ := a
    have hs := of_decide_eq_true hs
    simp only at hs ⊢
    have hb : 0 ≤ s := ha.2.1
    have ha : untInv (pPer ⟨vr, vw, vh, vc, vx, vy, vd⟩) 0 ⟨wr, ww, wh, wc, wx, wy, wd⟩ (s, v) := ha
    rw [wrap64_in (x := s + 1) (by omega)]
    refine ⟨fun h1 => ⟨⟨trivial⟩, fun hp => retP_some (unt_hit ha hs (of_decide_eq_true h1) hp), fun hp => ⟨⟨ha.1⟩, by simp, ⟨by have hn := unt_next ha hs (by rw [hp, Bool.and_false]); exact hn⟩⟩⟩, fun h1 => ⟨⟨ha.1⟩, by simp, ⟨by have hn := unt_next ha hs (by rw [show decide (0 ≤ s) = false from h1, Bool.false_and]); exact hn⟩⟩⟩
  · obtain ⟨s, v⟩ := a
    have ha : untInv (pPer ⟨vr, vw, vh, vc, vx, vy, vd⟩) 0 ⟨wr, ww, wh, wc, wx, wy, wd⟩ (s, v) := ha
    exact retP_none (unt_end ha (of_decide_eq_false hs))
end Go.Vi
