/- The conditions of FnExactTableText. -/
import Derived.Test.YtlnjbdaenikkiaaDoorTYPf
namespace Go.Vi
set_option linter.unusedVariables false
set_option linter.unusedSimpArgs false
def VC_LawTableText (a0s : Int) (a0i : Int) (a0rn : Nat) (a0r : List Sc) (g0 : List UInt8) (g1 : List UInt8) (g2 : List UInt8) (g3 : List UInt8) (K : V → Prop) : Prop := At (((0 : Int) 
  ≤ (1048576 : Int) ∧ (1048576 : Int) ≤ (1048576 : Int)) ∧ (↑a0rn : Int) ≤ (9223372036854775807 : Int) ∧ is3 a0r a0rn ∧ ∀ (r : Row3), r ∈ rows3 a0r → (↑(List.length (Row3.t r)) : Int) 
  ≤ (9223372036854775807 : Int)) ∧ (decide (szT (rows3 a0r) (1048576 : Int) < (0 : Int)) = true → K (V.lit true)) ∧ (decide (szT (rows3 a0r) (1048576 : Int) < (0 : Int)) = false → At 
  (is3 a0r a0rn ∧ a0rn ≤ (2000000 : Nat)) ∧ At (is3 a0r a0rn ∧ a0rn ≤ (2000000 : Nat)) ∧ At (is3 a0r a0rn ∧ a0rn ≤ (2000000 : Nat)) ∧ At (is3 a0r a0rn ∧ a0rn ≤ (2000000 : Nat) ∧ isSg 
  g0 g1 g2 g3) ∧ ((!(bif tabB a0s a0i (rows3 a0r) then txT a0s a0i (rows3 a0r) else []) == bif tabB a0s a0i (rows3 a0r) then txT a0s a0i (rows3 a0r) else []) = true → K (V.lit false)) 
  ∧ ((!(bif tabB a0s a0i (rows3 a0r) then txT a0s a0i (rows3 a0r) else []) == bif tabB a0s a0i (rows3 a0r) then txT a0s a0i (rows3 a0r) else []) = false → ((!tabB a0s a0i (rows3 a0r) 
  == tabB a0s a0i (rows3 a0r)) = true → K (V.lit false)) ∧ ((!tabB a0s a0i (rows3 a0r) == tabB a0s a0i (rows3 a0r)) = false → (((At (is3 a0r a0rn ∧ a0rn ≤ (2000000 : Nat)) ∧ (At (is3 
  a0r a0rn ∧ is3 a0r a0rn ∧ a0rn ≤ (2000000 : Nat) ∧ a0rn ≤ (2000000 : Nat)) ∧ ((!(a0s == a0s && a0i == a0i && rows3 a0r == rows3 a0r)) = true → K (V.lit false)) ∧ ((!(a0s == a0s && a0i 
  == a0i && rows3 a0r == rows3 a0r)) = false → K (V.lit true))) ∧ True) ∧ True) ∧ True) ∧ (((At (is3 a0r a0rn ∧ a0rn ≤ (2000000 : Nat)) ∧ (At (is3 a0r a0rn ∧ is3 a0r a0rn ∧ a0rn ≤ (2000000 
  : Nat) ∧ a0rn ≤ (2000000 : Nat)) ∧ ((!(a0s == a0s && a0i == a0i && rows3 a0r == rows3 a0r)) = true → K (V.lit false)) ∧ ((!(a0s == a0s && a0i == a0i && rows3 a0r == rows3 a0r)) = false 
  → K (V.lit true))) ∧ True) ∧ True) ∧ (At (is3 a0r a0rn ∧ a0rn ≤ (2000000 : Nat)) ∧ ((At (is3 a0r a0rn ∧ is3 a0r a0rn ∧ a0rn ≤ (2000000 : Nat) ∧ a0rn ≤ (2000000 : Nat)) ∧ ((!(a0s == 
  a0s && a0i == a0i && rows3 a0r == rows3 a0r)) = true → K (V.lit false)) ∧ ((!(a0s == a0s && a0i == a0i && rows3 a0r == rows3 a0r)) = false → K (V.lit true))) ∧ True) ∧ True) ∧ True) 
  ∧ True)))

theorem vc_LawTableText (a0s : Int) (a0i : Int) (a0rn : Nat) (a0r : List Sc) (g0 g1 g2 g3 : List UInt8) (ha0s : -9223372036854775808 ≤ a0s ∧ a0s ≤ 9223372036854775807) (ha0i : -9223372036854775808 ≤ a0i ∧ a0i ≤ 9223372036854775807) (ha0r : (a0rn : Int) ≤ 9223372036854775807 ∧ is3 a0r a0rn ∧ ∀ r ∈ rows3 a0r, (r.t.length : Int) ≤ 9223372036854775807) (hg : isSg g0 g1 g2 g3) : VC_LawTableText a0s a0i a0rn a0r g0 g1 g2 g3 (retP (.bool true)) := by
  unfold VC_LawTableText
  have hs : ¬ szT (rows3 a0r) 1048576 < 0 → a0rn ≤ 2000000 := fun h => by
    have hn := ha0r.2.1.2
    unfold szT at h
    by_cases hd : (1048576 : Int) - (rows3 a0r).length < 0
    · rw [decide_eq_true hd] at h
      exact absurd (show (-1 : Int) < 0 by omega) h
    · omega
  refine ⟨⟨⟨by omega, by omega⟩, ha0r⟩, fun h => by simp [retP_lit], fun h => ?_⟩
  have hn := hs (of_decide_eq_false h)
  have hI := ha0r.2.1
  simp only [at_iff, retP_lit, hI, hn, hg, beq_self_eq_true, Bool.not_true, Bool.and_self, Bool.false_eq_true, false_implies, true_and, and_true, and_self, forall_const]
end Go.Vi
