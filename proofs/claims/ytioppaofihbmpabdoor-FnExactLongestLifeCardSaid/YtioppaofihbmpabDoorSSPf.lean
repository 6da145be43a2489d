/- How the laws compare and mark rows of texts: the conditions hold. -/
import Derived.Test.YtioppaofihbmpabDoorSSVc
import Derived.Test.YtioppaofihbmpabDoorSSSpec
namespace Go.Vi
theorem retG_s2l {q r : Bool} {a b : List (List UInt8)} {e f : TypeId} {k g : Kind} {J : List Blk} (h : q = r) : retG 2 (.bool r) [⟨.strs a, e, k⟩, ⟨.strs b, f, g⟩] (.lit q) (⟨.strs a, e, k⟩ :: ⟨.strs b, f, g⟩ :: J) := by
  subst h
  unfold retG leSel leSelBy autoSel
  simp [pairsL, pairsV, idPairs, pairsIn, selOf, lookN, selMem, chkB, nodupSel, hasSel, prefSel, leSt, leL, leV, nilToL, V.nilTo, selL, V.sel, Cells.selN, leMem, leCells, memUnder, underL, V.under]
theorem retG_s1 {q r : Int} {a : List (List UInt8)} {e : TypeId} {k : Kind} {J : List Blk} (h : q = r) : retG 1 (.int .i64 r) [⟨.strs a, e, k⟩] (.int .i64 q) (⟨.strs a, e, k⟩ :: J) := by
  subst h
  unfold retG leSel leSelBy autoSel
  simp [pairsL, pairsV, idPairs, pairsIn, selOf, lookN, selMem, chkB, nodupSel, hasSel, prefSel, leSt, leL, leV, nilToL, V.nilTo, selL, V.sel, Cells.selN, leMem, leCells, memUnder, underL, V.under]
theorem retG_ws1 {q r : Int} {a b : List (List UInt8)} {e : TypeId} {k : Kind} {J : List Blk} (h : q = r) (hb : b = a) : retG 1 (.int .i64 r) [⟨.strs a, e, k⟩] (.int .i64 q) (⟨.strs b, e, k⟩ :: J) := by
  subst hb; exact retG_s1 h
theorem vc_laws_eqStringS (n m : Nat) (a b : List (List UInt8)) (e : TypeId) (k : Kind) (f : TypeId) (q : Kind) (h : a.length = n ∧ b.length = m ∧ n ≤ 2000000 ∧ m ≤ 2000000) : VC_laws_eqStringS n m a b e k f q (retG 2 (.bool (a == b)) [⟨.strs a, e, k⟩, ⟨.strs b, f, q⟩]) := by
  obtain ⟨rfl, rfl, h1, h2⟩ := h
  unfold VC_laws_eqStringS
  refine ⟨fun hne => retG_s2l ?_, fun heq => ⟨⟨by simp, ⟨⟨ek_refl e k, rfl⟩, ⟨ek_refl f q, rfl⟩, trivial⟩, trivial⟩, ?_, fun i hi => ⟨fun hc => ?_, fun hc => retG_s2l ?_⟩⟩⟩
  · symm
    rw [beq_eq_false_iff_ne]
    rintro rfl
    simp at hne
  · simp only [bne_eq_false_iff_eq] at heq
    exact ⟨by omega, by omega, by omega, h1, rfl⟩
  · have hc := of_decide_eq_true hc
    obtain ⟨g1, g2, g3, g4, g5⟩ := hi
    have hla : i.toNat < a.length := by omega
    have hlb : i.toNat < b.length := by omega
    rw [mk_wrap (x := i + 1) (by omega)]
    refine ⟨trivial, ⟨g1, hc⟩, ⟨hla⟩, ⟨by omega, by omega⟩, ⟨hlb⟩, fun hn => retG_s2l ?_, fun he => ⟨⟨by simp, ⟨⟨ek_refl e k, rfl⟩, ⟨ek_refl f q, rfl⟩, trivial⟩, trivial⟩, ⟨⟨by omega, by omega, g3, g4, ?_⟩, by omega⟩⟩⟩
    · exact (ne_at (i := i.toNat) (d := []) (by simpa [bne] using hn)).symm
    · have he : a.getD i.toNat [] = b.getD i.toNat [] := by simpa using he
      rw [show (i + 1).toNat = i.toNat + 1 by omega, take_snoc hla [], take_snoc hlb [], g5, he]
  · have hc := of_decide_eq_false hc
    obtain ⟨g1, g2, g3, g4, g5⟩ := hi
    rw [List.take_of_length_le (by omega), List.take_of_length_le (by omega)] at g5
    simp [g5]
theorem digF_any : ∀ (f g n : Nat) (l : List UInt8), n ≤ f → n ≤ g → digF f n l = digF g n l
  | 0, 0, _, _, _, _ => rfl
  | 0, g + 1, n, l, h, _ => by
    have : n = 0 := by omega
    subst this; rfl
  | f + 1, 0, n, l, _, h => by
    have : n = 0 := by omega
    subst this; rfl
  | f + 1, g + 1, n, l, h1, h2 => by
    unfold digF
    by_cases hn : n = 0
    · rw [decide_eq_true hn]; rfl
    · rw [decide_eq_false hn]
      exact digF_any f g (n / 10) _ (by omega) (by omega)
theorem digF_step {n : Nat} (h : 0 < n) (l : List UInt8) : digF n n l = digF (n / 10) (n / 10) (UInt8.ofNat (48 + n % 10) :: l) := by
  obtain ⟨m, rfl⟩ : ∃ m, n = m + 1 := ⟨n - 1, by omega⟩
  show (bif decide (m + 1 = 0) then l else digF m ((m + 1) / 10) (UInt8.ofNat (48 + (m + 1) % 10) :: l)) = _
  rw [decide_eq_false (by omega)]
  exact digF_any _ _ _ _ (by omega) (Nat.le_refl _)
theorem u8_ins {x : Int} (h : 0 ≤ x ∧ x ≤ 255) : IntKind.wrap .u8 x = x := IntWalk.u8_in _ (by omega)
theorem vc_laws_markText (k : Int) (h : 0 ≤ k ∧ k ≤ 100000000) : VC_laws_markText k (retP (.str (mtx k))) := by
  unfold VC_laws_markText
  simp only [at_iff, true_and, and_true]
  refine ⟨fun h0 => ?_, fun h0 => ⟨⟨h.1, by simp; omega, rfl⟩, fun q hq => ⟨fun hc => ?_, fun hc => ?_⟩⟩⟩
  · unfold mtx; rw [h0]; exact (retP_str _ _).2 rfl
  · have hc := of_decide_eq_true hc
    obtain ⟨q, l⟩ := q
    obtain ⟨g0, g1, g2⟩ := hq
    dsimp only at *
    obtain ⟨m, rfl⟩ : ∃ m : Nat, q = m := ⟨q.toNat, by omega⟩
    have e1 : Int.tmod (m : Int) 10 = ((m % 10 : Nat) : Int) := rfl
    have e2 : Int.tdiv (m : Int) 10 = ((m / 10 : Nat) : Int) := rfl
    rw [e1, e2, mk_wrap (x := 48 + ((m % 10 : Nat) : Int)) (by omega), mk_wrap (x := ((m / 10 : Nat) : Int)) (by omega), u8_ins (by omega)]
    have e3 : (48 + ((m % 10 : Nat) : Int)).toNat = 48 + m % 10 := by omega
    simp only [List.map_cons, List.map_nil, e3, List.take_succ_cons, List.take_zero, List.cons_append, List.nil_append, List.length_cons, List.length_nil, Int.toNat_natCast] at *
    refine ⟨by decide, fun x hx => ?_, by omega, by omega, by decide, ⟨by omega, ?_, ?_⟩, by omega⟩
    · rw [List.mem_singleton] at hx; omega
    · simp only [List.length_cons]; omega
    · show digF (m / 10) (m / 10) _ = _
      rw [← digF_step (by omega)]
      exact g2
  · have hc := of_decide_eq_false hc
    have h0 := of_decide_eq_false h0
    obtain ⟨q, l⟩ := q
    obtain ⟨g0, g1, g2⟩ := hq
    dsimp only at *
    have : q = 0 := by omega
    subst this
    have g2 : l = digF k.toNat k.toNat [] := g2
    refine ⟨by simp; omega, ?_⟩
    unfold mtx
    rw [decide_eq_false (by omega), g2]
    exact (retP_str _ _).2 rfl
theorem rampS_len (k : Int) (n : Nat) : (rampS k n).length = n := by simp [rampS]
theorem rampS_succ (k : Int) (n : Nat) : rampS k (n + 1) = rampS k n ++ [mtx (k + (n : Int))] := by simp [rampS, List.range_succ]
theorem mrkS_len {a : List (List UInt8)} {k : Int} {i : Nat} (h : i ≤ a.length) : (mrkS a k i).length = a.length := by
  simp only [mrkS, List.length_append, rampS_len, List.length_drop]
  omega
theorem mrkS_set {a : List (List UInt8)} {k v : Int} {i : Nat} (h : i < a.length) (hv : v = k + (i : Int)) : (mrkS a k i).set i (mtx v) = mrkS a k (i + 1) := by
  subst hv
  unfold mrkS
  rw [List.set_append_right _ _ (by rw [rampS_len]; exact Nat.le_refl _), rampS_len, Nat.sub_self, List.drop_eq_getElem_cons h, List.set_cons_zero, rampS_succ, List.append_assoc]
  rfl
theorem vc_laws_markStringS (k : Int) (n : Nat) (a : List (List UInt8)) (h : a.length = n ∧ n ≤ 2000000 ∧ 0 ≤ k ∧ k ≤ 10000000) : VC_laws_markStringS k n a (retG 1 (.int .i64 (k + (n : Nat))) [⟨.strs (rampS k n), 9, .row⟩]) := by
  obtain ⟨rfl, h1, h2, h3⟩ := h
  unfold VC_laws_markStringS
  simp only [at_iff, true_and, and_true]
  refine ⟨by simp [mrkS, rampS], ⟨by omega, by omega⟩, fun i hi => ⟨fun hc => ?_, fun hc => ?_⟩⟩
  · have hc := of_decide_eq_true hc
    obtain ⟨g1, g2⟩ := hi
    rw [mk_wrap (x := i + 1) (by omega), mk_wrap (x := k + i + 1) (by omega), mrkS_set (by omega) (show k + i = k + ((i.toNat : Nat) : Int) by omega), mrkS_len (by omega), show (i + 1).toNat = i.toNat + 1 by omega]
    refine ⟨⟨by omega, by omega⟩, ⟨g1, hc⟩, by omega, ⟨by omega, rfl⟩, ⟨by omega, by omega⟩, by omega⟩
  · have hc := of_decide_eq_false hc
    obtain ⟨g1, g2⟩ := hi
    have e : i.toNat = a.length := by omega
    refine retG_ws1 (by omega) ?_
    unfold mrkS
    rw [e, List.drop_length, List.append_nil]
theorem vc_laws_heldStringS (q : Int) (n : Nat) (a : List (List UInt8)) (h : a.length = n ∧ n ≤ 2000000 ∧ 0 ≤ q ∧ q ≤ 10000000) : VC_laws_heldStringS q n a (retG 1 (.int .i64 (bif a == rampS q n then q + (n : Nat) else -1)) [⟨.strs a, 9, .row⟩]) := by
  obtain ⟨rfl, h1, h2, h3⟩ := h
  unfold VC_laws_heldStringS
  simp only [at_iff, true_and, and_true]
  refine ⟨by simp, ⟨⟨by omega, by omega⟩, by simp [rampS]⟩, fun i ⟨⟨g1, g2⟩, g3⟩ => ⟨fun hc => ?_, fun hc => retG_s1 ?_⟩⟩
  · have hc := of_decide_eq_true hc
    have hil : i.toNat < a.length := by omega
    rw [mk_wrap (x := i + 1) (by omega), mk_wrap (x := q + i + 1) (by omega)]
    refine ⟨⟨g1, hc⟩, hil, ⟨by omega, by omega⟩, fun hn => retG_s1 ?_, fun hy => ⟨by omega, ⟨⟨by omega, by omega⟩, ?_⟩, by omega⟩⟩
    · have hne : (a == rampS q a.length) = false := by
        refine ne_at (i := i.toNat) (d := []) ?_
        rw [show (rampS q a.length).getD i.toNat [] = mtx (q + i) by
          simp [rampS, List.getD_eq_getElem?_getD, hil]
          congr 1
          omega]
        simpa [bne] using hn
      rw [hne]; rfl
    · have hy : a.getD i.toNat [] = mtx (q + i) := by simpa using hy
      rw [show (i + 1).toNat = i.toNat + 1 by omega, take_snoc hil [], rampS_succ, g3, hy, show q + ((i.toNat : Nat) : Int) = q + i by omega]
  · have hc := of_decide_eq_false hc
    have e : i.toNat = a.length := by omega
    rw [e, List.take_length] at g3
    rw [← g3]
    simp
    omega
end Go.Vi
