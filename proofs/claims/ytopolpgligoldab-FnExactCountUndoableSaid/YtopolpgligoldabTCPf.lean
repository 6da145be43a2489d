/- Tables counted: the conditions hold. -/
import Derived.Test.YtopolpgligoldabTCVc
import Derived.Test.YtopolpgligoldabTCSpec
namespace Go.Vi
theorem wrap64_in {x : Int} (h : -9223372036854775808 ≤ x ∧ x ≤ 9223372036854775807) : IntKind.wrap .i64 x = x := IntWalk.i64_in _ (by omega)
theorem inB_eq {n lo hi : Int} : inB n lo hi = true ↔ lo ≤ n ∧ n ≤ hi := by unfold inB; simp
theorem mul_bd {s t : Int} (h : inB s 1 4 = true) (g : inB t 1 4 = true) : 1 ≤ s * t ∧ s * t ≤ 16 := by
  rw [inB_eq] at h g
  have : s = 1 ∨ s = 2 ∨ s = 3 ∨ s = 4 := by omega
  rcases this with rfl | rfl | rfl | rfl <;> omega
theorem cnt_bd {s t : Int} (h : cntB s t = true) : 1 ≤ s * t ∧ s * t ≤ 4 := by
  unfold cntB at h
  simp only [Bool.and_eq_true, decide_eq_true_eq] at h
  have := mul_bd h.1.1 h.1.2
  omega
theorem vc_spec_l1In (n lo hi : Int) (_ : True) : VC_spec_l1In n lo hi (retP (.bool (inB n lo hi))) := by
  unfold VC_spec_l1In inB
  simp only [retP_bool, retP_lit]
  refine ⟨fun h => ?_, fun h => ?_⟩
  all_goals (simp_all; try omega)
theorem vc_impl_within (n lo hi : Int) (_ : True) : VC_impl_within n lo hi (retP (.bool (inB n lo hi))) := by
  unfold VC_impl_within inB
  simp only [retP_bool, retP_lit]
  refine ⟨fun h => ?_, fun h => ?_⟩
  all_goals (simp_all; try omega)
/-! ### ends of calls that look -/
theorem vc_spec_taRows (states tints : Int) (_ : True) : VC_spec_taRows states tints (retP (.bool (cntB states tints))) := by
  unfold VC_spec_taRows cntB
  simp only [retP_bool, retP_lit, at_iff, true_and]
  refine ⟨fun h1 => ⟨fun h2 => ?_, fun h2 => ?_⟩, fun h1 => ?_⟩
  · have := mul_bd h1 h2
    rw [wrap64_in (by omega), h1, h2]; simp
  · rw [h1, h2]; rfl
  · rw [h1]; rfl
theorem vc_impl_isTableSize (states tints : Int) (_ : True) : VC_impl_isTableSize states tints (retP (.bool (inB states 1 4 && inB tints 1 4))) := by
  unfold VC_impl_isTableSize
  simp only [retP_bool, retP_lit, at_iff, true_and]
  exact ⟨fun h => by rw [h]; rfl, fun h => by rw [h]; rfl⟩
theorem vc_impl_isCounted (states tints : Int) (_ : True) : VC_impl_isCounted states tints (retP (.bool (cntB states tints))) := by
  unfold VC_impl_isCounted cntB
  simp only [retP_bool, retP_lit, at_iff, true_and]
  refine ⟨fun h => ?_, fun h => ?_⟩
  · have h' := h
    simp only [Bool.and_eq_true] at h'
    have := mul_bd h'.1 h'.2
    rw [wrap64_in (by omega), h]; simp
  · rw [h]; rfl
theorem pow_bd {n : Int} {k : Nat} (h : 0 ≤ n ∧ n ≤ 16) (hk : k ≤ 4) : 0 ≤ n ^ k ∧ n ^ k ≤ 65536 := by
  have : k = 0 ∨ k = 1 ∨ k = 2 ∨ k = 3 ∨ k = 4 := by omega
  obtain ⟨m, rfl⟩ := Int.eq_ofNat_of_zero_le h.1
  have hm : m ≤ 16 := by omega
  have h1 : m ^ k ≤ 16 ^ k := Nat.pow_le_pow_left hm k
  have h2 : 16 ^ k ≤ 16 ^ 4 := Nat.pow_le_pow_right (by omega) hk
  have e : ((m : Int) ^ k) = ((m ^ k : Nat) : Int) := by simp
  have h3 : (16 : Nat) ^ 4 = 65536 := by decide
  rw [e]
  omega
theorem vc_spec_taPower (n by_ : Int) (h : 0 ≤ n ∧ n ≤ 16 ∧ 0 ≤ by_ ∧ by_ ≤ 4) : VC_spec_taPower n by_ (retP (.int .i64 (n ^ by_.toNat))) := by
  unfold VC_spec_taPower
  simp only [retP_int, at_iff, true_and, and_true]
  refine ⟨by simp, ⟨h.2.2.1, Int.le_refl _⟩, fun a ha => ⟨fun hp => ?_, fun hp => ?_⟩⟩
  · have hp := of_decide_eq_true hp
    rw [wrap64_in (x := a - 1) (by omega)]
    have e : (by_ - (a - 1)).toNat = (by_ - a).toNat + 1 := by omega
    have hb := pow_bd (n := n) (k := (by_ - (a - 1)).toNat) ⟨h.1, h.2.1⟩ (by omega)
    rw [e, Int.pow_succ] at hb
    rw [e, Int.pow_succ, wrap64_in (by omega)]
    exact ⟨rfl, by omega, by omega⟩
  · have hp := of_decide_eq_false hp
    have : a = 0 := by omega
    subst this
    simp
theorem vc_spec_CountTables (states tints : Int) (_ : True) : VC_spec_CountTables states tints (retP (.tup [.int .i64 (ctF states tints), .bool (cntB states tints)])) := by
  unfold VC_spec_CountTables
  simp only [at_iff, true_and]
  refine ⟨fun h => ?_, fun h => ?_⟩
  · have h : cntB states tints = false := by simpa using h
    simp [retP, leV, leL, chkB, V.under, underL, ctF, h]
  · have h : cntB states tints = true := by simpa using h
    have hb := cnt_bd h
    rw [wrap64_in (x := states * tints) (by omega), wrap64_in (by omega)]
    refine ⟨by omega, ?_⟩
    simp [retP, leV, leL, chkB, V.under, underL, ctF, h]
theorem vc_impl_CountTables (states tints : Int) (_ : True) : VC_impl_CountTables states tints (retP (.tup [.int .i64 (ctF states tints), .bool (cntB states tints)])) := by
  unfold VC_impl_CountTables
  simp only [at_iff, true_and, and_true]
  refine ⟨fun h => ?_, fun h => ?_⟩
  · have h : cntB states tints = false := by simpa using h
    simp [retP, leV, leL, chkB, V.under, underL, ctF, h]
  · have h : cntB states tints = true := by simpa using h
    have hb := cnt_bd h
    rw [wrap64_in (x := states * tints) (by omega)]
    generalize hn : states * tints = n at *
    refine ⟨by simp, ⟨by omega, by omega⟩, fun a ha => ⟨fun hp => ?_, fun hp => ?_⟩⟩
    · have hp := of_decide_eq_true hp
      rw [wrap64_in (x := a + 1) (by omega), wrap64_in (x := 4 * n) (by omega)]
      have e : (a + 1).toNat = a.toNat + 1 := by omega
      have hb := pow_bd (n := 4 * n) (k := (a + 1).toNat) (by omega) (by omega)
      rw [e, Int.pow_succ] at hb
      rw [e, Int.pow_succ, wrap64_in (by omega)]
      exact ⟨rfl, by omega, by omega⟩
    · have hp := of_decide_eq_false hp
      have : a = n := by omega
      subst this
      simp [retP, leV, leL, chkB, V.under, underL, ctF, h, hn]
theorem fact_bd {k : Nat} (hk : k ≤ 4) : 0 ≤ (4 : Int) ^ k * factI k ∧ (4 : Int) ^ k * factI k ≤ 6144 := by
  have : k = 0 ∨ k = 1 ∨ k = 2 ∨ k = 3 ∨ k = 4 := by omega
  rcases this with rfl | rfl | rfl | rfl | rfl <;> decide
theorem fact_bd2 {n k : Nat} (hn : n ≤ 4) (hk : k ≤ 4) : 0 ≤ (4 : Int) ^ n * factI k ∧ (4 : Int) ^ n * factI k ≤ 6144 := by
  have h1 : n = 0 ∨ n = 1 ∨ n = 2 ∨ n = 3 ∨ n = 4 := by omega
  have h2 : k = 0 ∨ k = 1 ∨ k = 2 ∨ k = 3 ∨ k = 4 := by omega
  rcases h1 with rfl | rfl | rfl | rfl | rfl <;> rcases h2 with rfl | rfl | rfl | rfl | rfl <;> decide
theorem vc_spec_CountUndoable (states tints : Int) (_ : True) : VC_spec_CountUndoable states tints (retP (.tup [.int .i64 (cuF states tints), .bool (cntB states tints)])) := by
  unfold VC_spec_CountUndoable
  simp only [at_iff, true_and, and_true]
  refine ⟨fun h => ?_, fun h => ?_⟩
  · have h : cntB states tints = false := by simpa using h
    simp [retP, leV, leL, chkB, V.under, underL, cuF, h]
  · have h : cntB states tints = true := by simpa using h
    have hb := cnt_bd h
    rw [wrap64_in (x := states * tints) (by omega)]
    generalize hn : states * tints = n at *
    refine ⟨by omega, by simp [factI], by omega, fun a ha => ⟨fun hp => ?_, fun hp => ?_⟩⟩
    · have hp := of_decide_eq_true hp
      rw [wrap64_in (x := a + 1) (by omega)]
      have e : (a + 1 - 1).toNat = (a - 1).toNat + 1 := by omega
      have hb := fact_bd2 (n := n.toNat) (k := (a + 1 - 1).toNat) (by omega) (by omega)
      have ee : (((a - 1).toNat : Nat) : Int) + 1 = a := by omega
      rw [e] at hb ⊢
      simp only [factI, ee] at hb ⊢
      rw [← Int.mul_assoc] at hb ⊢
      rw [wrap64_in (by omega)]
      exact ⟨rfl, by omega, by omega⟩
    · have hp := of_decide_eq_false hp
      have : (a - 1).toNat = n.toNat := by omega
      simp [retP, leV, leL, chkB, V.under, underL, cuF, h, hn, this]
theorem vc_impl_CountUndoable (states tints : Int) (_ : True) : VC_impl_CountUndoable states tints (retP (.tup [.int .i64 (cuF states tints), .bool (cntB states tints)])) := by
  unfold VC_impl_CountUndoable
  simp only [at_iff, true_and, and_true]
  refine ⟨fun h => ?_, fun h => ?_⟩
  · have h : cntB states tints = false := by simpa using h
    simp [retP, leV, leL, chkB, V.under, underL, cuF, h]
  · have h : cntB states tints = true := by simpa using h
    have hb := cnt_bd h
    rw [wrap64_in (x := states * tints) (by omega)]
    generalize hn : states * tints = n at *
    refine ⟨by simp [factI], by omega, fun a ha => ⟨fun hp => ?_, fun hp => ?_⟩⟩
    · have hp := of_decide_eq_true hp
      rw [wrap64_in (x := a + 1) (by omega), wrap64_in (x := 4 * (a + 1)) (by omega)]
      have e : (a + 1).toNat = a.toNat + 1 := by omega
      have hb := fact_bd (k := (a + 1).toNat) (by omega)
      have ee : ((a.toNat : Nat) : Int) + 1 = a + 1 := by omega
      rw [e] at hb ⊢
      simp only [factI, ee, Int.pow_succ] at hb ⊢
      have e2 : (4 : Int) ^ a.toNat * 4 * (factI a.toNat * (a + 1)) = 4 ^ a.toNat * factI a.toNat * (4 * (a + 1)) := by
        rw [Int.mul_assoc, Int.mul_assoc]; congr 1; rw [← Int.mul_assoc, Int.mul_comm 4 (factI a.toNat), Int.mul_assoc]
      rw [e2] at hb ⊢
      rw [wrap64_in (by omega)]
      exact ⟨rfl, by omega, by omega⟩
    · have hp := of_decide_eq_false hp
      have : a = n := by omega
      subst this
      simp [retP, leV, leL, chkB, V.under, underL, cuF, h, hn]
end Go.Vi
