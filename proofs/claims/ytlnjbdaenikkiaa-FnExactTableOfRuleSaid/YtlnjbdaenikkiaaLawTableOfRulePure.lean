/- The conditions of FnExactTableOfRule. -/
import Derived.Test.YtlnjbdaenikkiaaTLPf
namespace Go.Vi
set_option linter.unusedVariables false
set_option linter.unusedSimpArgs false
def VC_LawTableOfRule (a0 : List UInt8) (K : V → Prop) : Prop := (decide ((↑(List.length a0) : Int) > (1048576 : Int)) = true → K (V.lit true)) ∧ (decide ((↑(List.length a0) : Int) 
  > (1048576 : Int)) = false → At True ∧ At True ∧ At (is3 (flat3 (rlR a0)) (List.length (rlR a0)) ∧ is3 (flat3 (rlR a0)) (List.length (rlR a0)) ∧ List.length (rlR a0) ≤ (2000000 : Nat) 
  ∧ List.length (rlR a0) ≤ (2000000 : Nat)) ∧ ((!((((bif rlB a0 then (1 : Int) else (0 : Int)) == bif rlB a0 then (1 : Int) else (0 : Int)) && (bif rlB a0 then (↑(List.length a0) : Int) 
  else (0 : Int)) == bif rlB a0 then (↑(List.length a0) : Int) else (0 : Int)) && rows3 (flat3 (rlR a0)) == rows3 (flat3 (rlR a0)))) = true → K (V.lit false)) ∧ ((!((((bif rlB a0 then 
  (1 : Int) else (0 : Int)) == bif rlB a0 then (1 : Int) else (0 : Int)) && (bif rlB a0 then (↑(List.length a0) : Int) else (0 : Int)) == bif rlB a0 then (↑(List.length a0) : Int) else 
  (0 : Int)) && rows3 (flat3 (rlR a0)) == rows3 (flat3 (rlR a0)))) = false → ((!rlB a0 == rlB a0) = true → K (V.lit false)) ∧ ((!rlB a0 == rlB a0) = false → At (is3 (flat3 (rlR a0)) (List.length 
  (rlR a0)) ∧ List.length (rlR a0) ≤ (2000000 : Nat) ∧ (0 : Int) ≤ (1 : Int) ∧ (1 : Int) ≤ (1000000 : Int)) ∧ At (is3 (flat3 (mkR (1 : Int) (List.length (rlR a0)))) (List.length (rlR 
  a0)) ∧ List.length (rlR a0) ≤ (2000000 : Nat) ∧ (0 : Int) ≤ (1 : Int) ∧ (1 : Int) ≤ (1000000 : Int)) ∧ (decide ((bif decide (rows3 (flat3 (mkR (1 : Int) (List.length (rlR a0)))) = mkR 
  (1 : Int) (List.length (rlR a0))) then (1 : Int) + (↑((3 : Nat) * List.length (rlR a0)) : Int) else (-1 : Int)) < (0 : Int)) = true → K (V.lit false)) ∧ (decide ((bif decide (rows3 
  (flat3 (mkR (1 : Int) (List.length (rlR a0)))) = mkR (1 : Int) (List.length (rlR a0))) then (1 : Int) + (↑((3 : Nat) * List.length (rlR a0)) : Int) else (-1 : Int)) < (0 : Int)) = false 
  → (((bif decide (rows3 (flat3 (mkR (1 : Int) (List.length (rlR a0)))) = mkR (1 : Int) (List.length (rlR a0))) then (1 : Int) + (↑((3 : Nat) * List.length (rlR a0)) : Int) else (-1 : 
  Int)) != (1 : Int) + (↑((3 : Nat) * List.length (rlR a0)) : Int)) = true → K (V.lit false)) ∧ (((bif decide (rows3 (flat3 (mkR (1 : Int) (List.length (rlR a0)))) = mkR (1 : Int) (List.length 
  (rlR a0))) then (1 : Int) + (↑((3 : Nat) * List.length (rlR a0)) : Int) else (-1 : Int)) != (1 : Int) + (↑((3 : Nat) * List.length (rlR a0)) : Int)) = false → At True ∧ At (is3 (flat3 
  (rlR a0)) (List.length (rlR a0)) ∧ is3 (flat3 (rlR a0)) (List.length (rlR a0)) ∧ List.length (rlR a0) ≤ (2000000 : Nat) ∧ List.length (rlR a0) ≤ (2000000 : Nat)) ∧ ((!((((bif rlB a0 
  then (1 : Int) else (0 : Int)) == bif rlB a0 then (1 : Int) else (0 : Int)) && (bif rlB a0 then (↑(List.length a0) : Int) else (0 : Int)) == bif rlB a0 then (↑(List.length a0) : Int) 
  else (0 : Int)) && rows3 (flat3 (rlR a0)) == rows3 (flat3 (rlR a0)))) = true → K (V.lit false)) ∧ ((!((((bif rlB a0 then (1 : Int) else (0 : Int)) == bif rlB a0 then (1 : Int) else 
  (0 : Int)) && (bif rlB a0 then (↑(List.length a0) : Int) else (0 : Int)) == bif rlB a0 then (↑(List.length a0) : Int) else (0 : Int)) && rows3 (flat3 (rlR a0)) == rows3 (flat3 (rlR 
  a0)))) = false → ((!rlB a0 == rlB a0) = true → K (V.lit false)) ∧ ((!rlB a0 == rlB a0) = false → At (is3 (flat3 (mkR (1 : Int) (List.length (rlR a0)))) (List.length (rlR a0)) ∧ List.length 
  (rlR a0) ≤ (2000000 : Nat) ∧ (0 : Int) ≤ (1 : Int) ∧ (1 : Int) ≤ (1000000 : Int)) ∧ (decide ((bif decide (rows3 (flat3 (mkR (1 : Int) (List.length (rlR a0)))) = mkR (1 : Int) (List.length 
  (rlR a0))) then (1 : Int) + (↑((3 : Nat) * List.length (rlR a0)) : Int) else (-1 : Int)) < (0 : Int)) = true → K (V.lit false)) ∧ (decide ((bif decide (rows3 (flat3 (mkR (1 : Int) (List.length 
  (rlR a0)))) = mkR (1 : Int) (List.length (rlR a0))) then (1 : Int) + (↑((3 : Nat) * List.length (rlR a0)) : Int) else (-1 : Int)) < (0 : Int)) = false → (((bif decide (rows3 (flat3 
  (mkR (1 : Int) (List.length (rlR a0)))) = mkR (1 : Int) (List.length (rlR a0))) then (1 : Int) + (↑((3 : Nat) * List.length (rlR a0)) : Int) else (-1 : Int)) != (1 : Int) + (↑((3 : 
  Nat) * List.length (rlR a0)) : Int)) = true → K (V.lit false)) ∧ (((bif decide (rows3 (flat3 (mkR (1 : Int) (List.length (rlR a0)))) = mkR (1 : Int) (List.length (rlR a0))) then (1 
  : Int) + (↑((3 : Nat) * List.length (rlR a0)) : Int) else (-1 : Int)) != (1 : Int) + (↑((3 : Nat) * List.length (rlR a0)) : Int)) = false → K (V.lit true))))))))))

theorem vc_LawTableOfRule (a0 : List UInt8) (ha0 : (a0.length : Int) ≤ 9223372036854775807) : VC_LawTableOfRule a0 (retP (.bool true)) := by
  unfold VC_LawTableOfRule
  refine ⟨fun _ => by simp only [retP_lit], fun _ => ?_⟩
  have hn : (rlR a0).length ≤ 2000000 := by
    unfold rlR
    cases hb : rlB a0
    · simp
    · have := (rlB_facts hb).2.1
      rw [cond_true, rl_len]
      omega
  generalize rlR a0 = M at hn ⊢
  have hF := is3_flat M
  have hmk : is3 (flat3 (mkR 1 M.length)) M.length := by
    have := is3_flat (mkR 1 M.length)
    rw [mkR_len] at this
    exact this
  have hneg : ∀ n : Nat, decide ((1 : Int) + ((3 * n : Nat) : Int) < 0) = false := fun n => decide_eq_false (by omega)
  simp only [at_iff, retP_lit, hn, hF, hmk, rows3_flat, hneg, beq_self_eq_true, Bool.not_true, Bool.and_self, decide_true, cond_true, bne_self_eq_false, Bool.false_eq_true, false_implies, true_and, and_true, and_self, forall_const, Int.reduceLE, show (0 : Int) ≤ 1 from by decide]
end Go.Vi
