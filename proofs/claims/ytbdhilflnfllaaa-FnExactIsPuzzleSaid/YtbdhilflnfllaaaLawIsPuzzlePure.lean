/- The conditions of FnExactIsPuzzle. -/
import Derived.Test.YtbdhilflnfllaaaPAPf
namespace Go.Vi
set_option linter.unusedVariables false
set_option linter.unusedSimpArgs false
def VC_LawIsPuzzle (a0r : List UInt8) (a0w : Int) (a0h : Int) (a0cn : Nat) (a0c : List Int) (K : V → Prop) : Prop := At ((0 : Int) ≤ (1048576 : Int) ∧ (1048576 : Int) ≤ (1000000000 
  : Int) ∧ (↑a0cn : Int) ≤ (9223372036854775807 : Int) ∧ (↑(List.length a0r) : Int) ≤ (9223372036854775807 : Int)) ∧ (decide (szP a0r a0cn (1048576 : Int) < (0 : Int)) = true → K (V.lit 
  true)) ∧ (decide (szP a0r a0cn (1048576 : Int) < (0 : Int)) = false → At (List.length a0c = a0cn * (3 : Nat) ∧ a0cn ≤ (2000000 : Nat)) ∧ At (List.length a0c = a0cn * (3 : Nat) ∧ a0cn 
  ≤ (2000000 : Nat)) ∧ At (List.length a0c = a0cn * (3 : Nat) ∧ a0cn ≤ (2000000 : Nat)) ∧ At (List.length a0c = a0cn * (3 : Nat) ∧ a0cn ≤ (2000000 : Nat)) ∧ ((!goodZ a0r a0w a0h a0cn 
  a0c == goodZ a0r a0w a0h a0cn a0c) = true → K (V.lit false)) ∧ ((!goodZ a0r a0w a0h a0cn a0c == goodZ a0r a0w a0h a0cn a0c) = false → (((At (List.length a0c = a0cn * (3 : Nat) ∧ a0cn 
  ≤ (2000000 : Nat)) ∧ (At (List.length a0c = (3 : Nat) * a0cn ∧ List.length a0c = (3 : Nat) * a0cn ∧ a0cn ≤ (2000000 : Nat) ∧ a0cn ≤ (2000000 : Nat)) ∧ ((!(a0r == a0r && a0c == a0c && 
  a0w == a0w && a0h == a0h)) = true → K (V.lit false)) ∧ ((!(a0r == a0r && a0c == a0c && a0w == a0w && a0h == a0h)) = false → K (V.lit true))) ∧ True) ∧ True) ∧ True) ∧ (((At (List.length 
  a0c = a0cn * (3 : Nat) ∧ a0cn ≤ (2000000 : Nat)) ∧ (At (List.length a0c = (3 : Nat) * a0cn ∧ List.length a0c = (3 : Nat) * a0cn ∧ a0cn ≤ (2000000 : Nat) ∧ a0cn ≤ (2000000 : Nat)) ∧ 
  ((!(a0r == a0r && a0c == a0c && a0w == a0w && a0h == a0h)) = true → K (V.lit false)) ∧ ((!(a0r == a0r && a0c == a0c && a0w == a0w && a0h == a0h)) = false → K (V.lit true))) ∧ True) 
  ∧ True) ∧ (At (List.length a0c = a0cn * (3 : Nat) ∧ a0cn ≤ (2000000 : Nat)) ∧ ((At (List.length a0c = (3 : Nat) * a0cn ∧ List.length a0c = (3 : Nat) * a0cn ∧ a0cn ≤ (2000000 : Nat) 
  ∧ a0cn ≤ (2000000 : Nat)) ∧ ((!(a0r == a0r && a0c == a0c && a0w == a0w && a0h == a0h)) = true → K (V.lit false)) ∧ ((!(a0r == a0r && a0c == a0c && a0w == a0w && a0h == a0h)) = false 
  → K (V.lit true))) ∧ True) ∧ True) ∧ True) ∧ True))

theorem vc_LawIsPuzzle (a0r : List UInt8) (a0w : Int) (a0h : Int) (a0cn : Nat) (a0c : List Int) (ha0r : (a0r.length : Int) ≤ 9223372036854775807) (ha0w : -9223372036854775808 ≤ a0w ∧ a0w ≤ 9223372036854775807) (ha0h : -9223372036854775808 ≤ a0h ∧ a0h ≤ 9223372036854775807) (ha0c : a0c.length = a0cn * 3 ∧ (a0cn : Int) ≤ 9223372036854775807) : VC_LawIsPuzzle a0r a0w a0h a0cn a0c (retP (.bool true)) := by
  unfold VC_LawIsPuzzle
  refine ⟨⟨by omega, by omega, ha0c.2, ha0r⟩, fun _ => (retP_lit _ _).2 rfl, fun hc => ?_⟩
  have hn := szP_n (of_decide_eq_false hc)
  have h3 : a0c.length = 3 * a0cn := by omega
  simp [retP_lit, h3, hn, Nat.mul_comm]
end Go.Vi
