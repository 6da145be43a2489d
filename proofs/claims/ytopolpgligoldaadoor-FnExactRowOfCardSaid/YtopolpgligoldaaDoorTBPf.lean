/- Tables, a row by its state and its tint: the conditions hold. -/
import Derived.Test.YtopolpgligoldaaDoorTBVc
import Derived.Test.YtopolpgligoldaaDoorTBSpec
namespace Go.Vi
set_option linter.unusedVariables false
set_option linter.unusedSimpArgs false
theorem retG_t1 {a a' b b' : Int} {t t' : List UInt8} {q r : Bool} {c : List Sc} {sh : List Sh} {e : TypeId} {k : Kind} {J : List Blk} (h1 : a' = a) (h2 : t' = t) (h3 : b' = b) (h : q = r) :
    retG 1 (.tup [.agg [.int .i64 a, .str t, .int .i64 b], .bool r]) [⟨.recs sh c, e, k⟩] (.tup [.agg [.int .i64 a', .str t', .int .i64 b'], .lit q]) (⟨.recs sh c, e, k⟩ :: J) := by
  subst h1; subst h2; subst h3; subst h
  unfold retG leSel leSelBy autoSel
  simp [pairsL, pairsV, idPairs, pairsIn, selOf, lookN, selMem, chkB, nodupSel, hasSel, prefSel, leSt, leL, leV, nilToL, V.nilTo, selL, V.sel, Cells.selN, leMem, leCells, memUnder, underL, V.under]
theorem retG_t2 {a a' b b' : Int} {t t' : List UInt8} {q r : Bool} {c : List Sc} {sh : List Sh} {e f : TypeId} {k g : Kind} {g0 g1 g2 g3 : List UInt8} {J : List Blk} (h1 : a' = a) (h2 : t' = t) (h3 : b' = b) (h : q = r) :
    retG 2 (.tup [.agg [.int .i64 a, .str t, .int .i64 b], .bool r]) [⟨.recs sh c, e, k⟩, ⟨.vals [.str g0, .str g1, .str g2, .str g3], f, g⟩] (.tup [.agg [.int .i64 a', .str t', .int .i64 b'], .lit q]) (⟨.recs sh c, e, k⟩ :: ⟨.vals [.str g0, .str g1, .str g2, .str g3], f, g⟩ :: J) := by
  subst h1; subst h2; subst h3; subst h
  unfold retG leSel leSelBy autoSel
  simp [pairsL, pairsV, idPairs, pairsIn, selOf, lookN, selMem, chkB, nodupSel, hasSel, prefSel, leSt, leL, leV, nilToL, V.nilTo, selL, V.sel, Cells.selN, leMem, leCells, memUnder, underL, V.under]
theorem rof_no {s i p q : Int} {l : List Row3} (h : rofB s i l p q = false) : (0 : Int) = (rofF s i l p q).a ∧ ([] : List UInt8) = (rofF s i l p q).t ∧ (0 : Int) = (rofF s i l p q).b ∧ false = rofB s i l p q := by
  unfold rofF
  rw [h]
  exact ⟨rfl, rfl, rfl, rfl⟩
theorem tab_bd {s i : Int} {l : List Row3} (h : tabB s i l = true) : (1 ≤ s ∧ s ≤ 4) ∧ (1 ≤ i ∧ i ≤ 4) ∧ (l.length : Int) = s * i := by
  unfold tabB at h
  simp only [Bool.and_eq_true, decide_eq_true_eq, inB_eq] at h
  exact ⟨h.1.1.1, h.1.1.2, h.1.2⟩
theorem rof_bd {s i p q : Int} {l : List Row3} (h : tabB s i l = true) (hp : inB p 0 (s - 1) = true) (hq : inB q 0 (i - 1) = true) : 0 ≤ p * i ∧ p * i ≤ 16 ∧ 0 ≤ q ∧ q ≤ 3 ∧ 0 ≤ p * i + q ∧ p * i + q < l.length := by
  obtain ⟨h1, h2, h3⟩ := tab_bd h
  have hp := inB_eq.1 hp
  have hq := inB_eq.1 hq
  have a : 0 ≤ p * i := Int.mul_nonneg (by omega) (by omega)
  have b : p * i ≤ (s - 1) * i := Int.mul_le_mul_of_nonneg_right (by omega) (by omega)
  have c : s * i ≤ 4 * 4 := Int.mul_le_mul h1.2 h2.2 (by omega) (by omega)
  rw [Int.sub_mul, Int.one_mul] at b
  omega
theorem rof_yes {s i p q : Int} {l : List Row3} (h : tabB s i l = true) (hp : inB p 0 (s - 1) = true) (hq : inB q 0 (i - 1) = true) : rofF s i l p q = l.getD (p * i + q).toNat default ∧ true = rofB s i l p q := by
  unfold rofF rofB
  rw [h, hp, hq]
  exact ⟨rfl, rfl⟩
theorem vc_spec_RowOf (p q s i : Int) (n : Nat) (c : List Sc) (h : is3 c n ∧ n ≤ 2000000) : VC_spec_RowOf p q s i n c (retG 1 (.tup [.agg [.int .i64 (rofF s i (rows3 c) p q).a, .str (rofF s i (rows3 c) p q).t, .int .i64 (rofF s i (rows3 c) p q).b], .bool (rofB s i (rows3 c) p q)]) [⟨.recs [.int .i64, .str, .int .i64] c, 43, .rows 3⟩]) := by
  have h0 := h
  obtain ⟨⟨hc, hn⟩, h2⟩ := h
  unfold VC_spec_RowOf
  clear h0
  rw [show (is3 c n ∧ n ≤ 2000000) = True from eq_true ⟨⟨hc, hn⟩, h2⟩]
  generalize rows3 c = l at hc hn ⊢
  subst hc; subst hn
  have hlen := flat3_length l
  refine ⟨⟨trivial⟩, fun h1 => ?_, fun h1 => ?_⟩
  · simp only [Bool.not_eq_true'] at h1
    obtain ⟨e1, e2, e3, e4⟩ := rof_no (p := p) (q := q) (show rofB s i l p q = false by unfold rofB; rw [h1]; rfl)
    exact retG_t1 e1 e2 e3 e4
  simp only [Bool.not_eq_false'] at h1
  obtain ⟨b1, b2, b3⟩ := tab_bd h1
  rw [wrap64_in (x := s - 1) (by omega), wrap64_in (x := i - 1) (by omega)]
  refine ⟨⟨trivial⟩, fun h2 => ?_, fun h2 => ⟨⟨trivial⟩, fun h3 => ?_, fun h3 => ?_⟩⟩
  · simp only [Bool.not_eq_true'] at h2
    obtain ⟨e1, e2, e3, e4⟩ := rof_no (q := q) (show rofB s i l p q = false by unfold rofB; rw [h2, Bool.and_false]; rfl)
    exact retG_t1 e1 e2 e3 e4
  · simp only [Bool.not_eq_true'] at h3
    obtain ⟨e1, e2, e3, e4⟩ := rof_no (show rofB s i l p q = false by unfold rofB; rw [h3, Bool.and_false])
    exact retG_t1 e1 e2 e3 e4
  · simp only [Bool.not_eq_false'] at h2 h3
    obtain ⟨c1, c2, c3, c4, c5, c6⟩ := rof_bd h1 h2 h3
    obtain ⟨e1, e2⟩ := rof_yes h1 h2 h3
    rw [wrap64_in (x := p * i) (by omega), wrap64_in (x := p * i + q) (by omega)]
    obtain ⟨f0, f1, f2⟩ := flat3_get l (p * i + q).toNat ⟨0, []⟩ (by omega)
    rw [f0, f1, f2, e1]
    exact ⟨⟨c5, c6⟩, ⟨by omega, by omega⟩, retG_t1 rfl rfl rfl e2⟩
theorem vc_impl_RowOf (p q s i : Int) (n : Nat) (c : List Sc) (g0 g1 g2 g3 : List UInt8) (h : is3 c n ∧ n ≤ 2000000 ∧ isSg g0 g1 g2 g3) : VC_impl_RowOf p q s i n c g0 g1 g2 g3 (retG 2 (.tup [.agg [.int .i64 (rofF s i (rows3 c) p q).a, .str (rofF s i (rows3 c) p q).t, .int .i64 (rofF s i (rows3 c) p q).b], .bool (rofB s i (rows3 c) p q)]) [⟨.recs [.int .i64, .str, .int .i64] c, 43, .rows 3⟩, ⟨.vals [.str g0, .str g1, .str g2, .str g3], 9, .gl 0⟩]) := by
  obtain ⟨⟨hc, hn⟩, h2, hg⟩ := h
  unfold VC_impl_RowOf
  rw [show (is3 c n ∧ n ≤ 2000000 ∧ isSg g0 g1 g2 g3) = True from eq_true ⟨⟨hc, hn⟩, h2, hg⟩]
  generalize rows3 c = l at hc hn ⊢
  subst hc; subst hn
  have hlen := flat3_length l
  refine ⟨⟨trivial⟩, fun h1 => ?_, fun h1 => ?_⟩
  · simp only [Bool.not_eq_true'] at h1
    obtain ⟨e1, e2, e3, e4⟩ := rof_no (p := p) (q := q) (show rofB s i l p q = false by unfold rofB; rw [h1]; rfl)
    exact retG_t2 e1 e2 e3 e4
  simp only [Bool.not_eq_false'] at h1
  obtain ⟨b1, b2, b3⟩ := tab_bd h1
  rw [wrap64_in (x := s - 1) (by omega), wrap64_in (x := i - 1) (by omega)]
  refine ⟨⟨trivial⟩, fun h2 => ?_, fun h2 => ⟨⟨trivial⟩, fun h3 => ?_, fun h3 => ?_⟩⟩
  · simp only [Bool.not_eq_true'] at h2
    obtain ⟨e1, e2, e3, e4⟩ := rof_no (q := q) (show rofB s i l p q = false by unfold rofB; rw [h2, Bool.and_false]; rfl)
    exact retG_t2 e1 e2 e3 e4
  · simp only [Bool.not_eq_true'] at h3
    obtain ⟨e1, e2, e3, e4⟩ := rof_no (show rofB s i l p q = false by unfold rofB; rw [h3, Bool.and_false])
    exact retG_t2 e1 e2 e3 e4
  · simp only [Bool.not_eq_false'] at h2 h3
    obtain ⟨c1, c2, c3, c4, c5, c6⟩ := rof_bd h1 h2 h3
    obtain ⟨e1, e2⟩ := rof_yes h1 h2 h3
    rw [wrap64_in (x := p * i) (by omega), wrap64_in (x := p * i + q) (by omega)]
    obtain ⟨f0, f1, f2⟩ := flat3_get l (p * i + q).toNat ⟨0, []⟩ (by omega)
    rw [f0, f1, f2, e1]
    exact ⟨⟨c5, c6⟩, ⟨by omega, by omega⟩, retG_t2 rfl rfl rfl e2⟩
end Go.Vi
