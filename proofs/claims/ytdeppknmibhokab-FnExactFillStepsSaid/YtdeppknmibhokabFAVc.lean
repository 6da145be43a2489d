/- The conditions, reckoned out by program: texts alone. -/
import Derived.Test.YtdeppknmibhokabFADefs
namespace Go.Vi
set_option linter.unusedVariables false
def VC_spec_l1In (n : Int) (lo : Int) (hi : Int) (K : V → Prop) : Prop :=
  (decide (n ≥ lo) = true → K (V.bool (decide (n ≤ hi)))) ∧ (decide (n ≥ lo) = false → K (V.lit false))

def VC_impl_within (n : Int) (lo : Int) (hi : Int) (K : V → Prop) : Prop :=
  (decide (lo ≤ n) = true → K (V.bool (decide (n ≤ hi)))) ∧ (decide (lo ≤ n) = false → K (V.lit false))

def VC_spec_l1Least (a : Int) (b : Int) (K : V → Prop) : Prop :=
  (decide (a < b) = true → K (V.int IntKind.i64 a)) ∧ (decide (a < b) = false → K (V.int IntKind.i64 b))

def VC_spec_l1Most (a : Int) (b : Int) (K : V → Prop) : Prop :=
  (decide (a > b) = true → K (V.int IntKind.i64 a)) ∧ (decide (a > b) = false → K (V.int IntKind.i64 b))

def VC_spec_roFill (walkers : Int) (K : V → Prop) : Prop := At ((0 : Int) ≤ (101 : Int) ∧ (101 : Int) ≤ (101 : Int) ∧ (101 : Int) ≤ (1000000000 : Int)) ∧ At ((0 : Int) ≤ (101 : Int) 
  ∧ (101 : Int) ≤ (101 : Int) ∧ (101 : Int) ≤ (1000000000 : Int)) ∧ (((True ∧ walkers = walkers) ∧ ((0 : Nat) = (0 : Nat) ∧ (101 : Nat) = (101 : Nat)) ∧ ((1 : Nat) = (1 : Nat) ∧ (101 
  : Nat) = (101 : Nat)) ∧ (True ∧ (50 : Int) = Ln.low (sOut (Int.toNat (walkers - walkers)))) ∧ (True ∧ (50 : Int) = Ln.high (sOut (Int.toNat (walkers - walkers)))) ∧ (True ∧ (0 : Int) 
  = Ln.steps (sOut (Int.toNat (walkers - walkers)))) ∧ True) ∧ ((True ∧ List.replicate (Int.toNat (101 : Int)) false = Ln.full (sOut (Int.toNat (walkers - walkers)))) ∧ (True ∧ List.replicate 
  (Int.toNat (101 : Int)) false = Ln.right (sOut (Int.toNat (walkers - walkers)))) ∧ True) ∧ True) ∧ At (outInv walkers walkers) ∧ ∀ (a : Int), outInv walkers a → (decide (a > (0 : Int)) 
  = true → (((True ∧ a = a) ∧ ((0 : Nat) = (0 : Nat) ∧ (101 : Nat) = (101 : Nat)) ∧ ((1 : Nat) = (1 : Nat) ∧ (101 : Nat) = (101 : Nat)) ∧ (True ∧ Ln.low (sOut (Int.toNat (walkers - a))) 
  = Ln.low (sOut (Int.toNat (walkers - a)))) ∧ (True ∧ Ln.high (sOut (Int.toNat (walkers - a))) = Ln.high (sOut (Int.toNat (walkers - a)))) ∧ (True ∧ Ln.steps (sOut (Int.toNat (walkers 
  - a))) = Ln.steps (sOut (Int.toNat (walkers - a)))) ∧ (True ∧ (50 : Int) = Wk.pos (sAt (Ln.full (sOut (Int.toNat (walkers - a)))) { right := Ln.right (sOut (Int.toNat (walkers - a))), pos := (50 : Int), steps := Ln.steps (sOut (Int.toNat (walkers - a))) } 
  (Int.toNat (Ln.steps (sOut (Int.toNat (walkers - a))) - Ln.steps (sOut (Int.toNat (walkers - a))))))) ∧ True) ∧ ((True ∧ Ln.full (sOut (Int.toNat (walkers - a))) = Ln.full (sOut (Int.toNat 
  (walkers - a)))) ∧ (True ∧ Ln.right (sOut (Int.toNat (walkers - a))) = Wk.right (sAt (Ln.full (sOut (Int.toNat (walkers - a)))) { right := Ln.right (sOut (Int.toNat (walkers - a))), pos := (50 : Int), steps := Ln.steps (sOut (Int.toNat (walkers - a))) } 
  (Int.toNat (Ln.steps (sOut (Int.toNat (walkers - a))) - Ln.steps (sOut (Int.toNat (walkers - a))))))) ∧ True) ∧ True) ∧ At (inInv (Ln.full (sOut (Int.toNat (walkers - a)))) (Ln.right 
  (sOut (Int.toNat (walkers - a)))) (Ln.steps (sOut (Int.toNat (walkers - a)))) (Ln.steps (sOut (Int.toNat (walkers - a))))) ∧ ∀ (a_3 : Int), inInv (Ln.full (sOut (Int.toNat (walkers 
  - a)))) (Ln.right (sOut (Int.toNat (walkers - a)))) (Ln.steps (sOut (Int.toNat (walkers - a)))) a_3 → At ((0 : Int) ≤ Wk.pos (sAt (Ln.full (sOut (Int.toNat (walkers - a)))) { right := Ln.right (sOut (Int.toNat (walkers - a))), pos := (50 : Int), steps := Ln.steps (sOut (Int.toNat (walkers - a))) } 
  (Int.toNat (a_3 - Ln.steps (sOut (Int.toNat (walkers - a)))))) ∧ Wk.pos (sAt (Ln.full (sOut (Int.toNat (walkers - a)))) { right := Ln.right (sOut (Int.toNat (walkers - a))), pos := (50 : Int), steps := Ln.steps (sOut (Int.toNat (walkers - a))) } 
  (Int.toNat (a_3 - Ln.steps (sOut (Int.toNat (walkers - a)))))) < (↑(101 : Nat) : Int)) ∧ At (Int.toNat (Wk.pos (sAt (Ln.full (sOut (Int.toNat (walkers - a)))) { right := Ln.right (sOut (Int.toNat (walkers - a))), pos := (50 : Int), steps := Ln.steps (sOut (Int.toNat (walkers - a))) } 
  (Int.toNat (a_3 - Ln.steps (sOut (Int.toNat (walkers - a))))))) < List.length (Ln.full (sOut (Int.toNat (walkers - a))))) ∧ (List.getD (Ln.full (sOut (Int.toNat (walkers - a)))) (Int.toNat 
  (Wk.pos (sAt (Ln.full (sOut (Int.toNat (walkers - a)))) { right := Ln.right (sOut (Int.toNat (walkers - a))), pos := (50 : Int), steps := Ln.steps (sOut (Int.toNat (walkers - a))) } 
  (Int.toNat (a_3 - Ln.steps (sOut (Int.toNat (walkers - a)))))))) false = true → At ((0 : Int) ≤ Wk.pos (sAt (Ln.full (sOut (Int.toNat (walkers - a)))) { right := Ln.right (sOut (Int.toNat (walkers - a))), pos := (50 : Int), steps := Ln.steps (sOut (Int.toNat (walkers - a))) } 
  (Int.toNat (a_3 - Ln.steps (sOut (Int.toNat (walkers - a)))))) ∧ Wk.pos (sAt (Ln.full (sOut (Int.toNat (walkers - a)))) { right := Ln.right (sOut (Int.toNat (walkers - a))), pos := (50 : Int), steps := Ln.steps (sOut (Int.toNat (walkers - a))) } 
  (Int.toNat (a_3 - Ln.steps (sOut (Int.toNat (walkers - a)))))) < (↑(101 : Nat) : Int)) ∧ At (Int.toNat (Wk.pos (sAt (Ln.full (sOut (Int.toNat (walkers - a)))) { right := Ln.right (sOut (Int.toNat (walkers - a))), pos := (50 : Int), steps := Ln.steps (sOut (Int.toNat (walkers - a))) } 
  (Int.toNat (a_3 - Ln.steps (sOut (Int.toNat (walkers - a))))))) < List.length (Wk.right (sAt (Ln.full (sOut (Int.toNat (walkers - a)))) { right := Ln.right (sOut (Int.toNat (walkers - a))), pos := (50 : Int), steps := Ln.steps (sOut (Int.toNat (walkers - a))) } 
  (Int.toNat (a_3 - Ln.steps (sOut (Int.toNat (walkers - a)))))))) ∧ (List.getD (Wk.right (sAt (Ln.full (sOut (Int.toNat (walkers - a)))) { right := Ln.right (sOut (Int.toNat (walkers - a))), pos := (50 : Int), steps := Ln.steps (sOut (Int.toNat (walkers - a))) } 
  (Int.toNat (a_3 - Ln.steps (sOut (Int.toNat (walkers - a))))))) (Int.toNat (Wk.pos (sAt (Ln.full (sOut (Int.toNat (walkers - a)))) { right := Ln.right (sOut (Int.toNat (walkers - a))), pos := (50 : Int), steps := Ln.steps (sOut (Int.toNat (walkers - a))) } 
  (Int.toNat (a_3 - Ln.steps (sOut (Int.toNat (walkers - a)))))))) false = true → At ((0 : Int) ≤ Wk.pos (sAt (Ln.full (sOut (Int.toNat (walkers - a)))) { right := Ln.right (sOut (Int.toNat (walkers - a))), pos := (50 : Int), steps := Ln.steps (sOut (Int.toNat (walkers - a))) } 
  (Int.toNat (a_3 - Ln.steps (sOut (Int.toNat (walkers - a)))))) ∧ Wk.pos (sAt (Ln.full (sOut (Int.toNat (walkers - a)))) { right := Ln.right (sOut (Int.toNat (walkers - a))), pos := (50 : Int), steps := Ln.steps (sOut (Int.toNat (walkers - a))) } 
  (Int.toNat (a_3 - Ln.steps (sOut (Int.toNat (walkers - a)))))) < (↑(101 : Nat) : Int)) ∧ At (Int.toNat (Wk.pos (sAt (Ln.full (sOut (Int.toNat (walkers - a)))) { right := Ln.right (sOut (Int.toNat (walkers - a))), pos := (50 : Int), steps := Ln.steps (sOut (Int.toNat (walkers - a))) } 
  (Int.toNat (a_3 - Ln.steps (sOut (Int.toNat (walkers - a))))))) < List.length (Wk.right (sAt (Ln.full (sOut (Int.toNat (walkers - a)))) { right := Ln.right (sOut (Int.toNat (walkers - a))), pos := (50 : Int), steps := Ln.steps (sOut (Int.toNat (walkers - a))) } 
  (Int.toNat (a_3 - Ln.steps (sOut (Int.toNat (walkers - a)))))))) ∧ At ((0 : Int) ≤ Wk.pos (sAt (Ln.full (sOut (Int.toNat (walkers - a)))) { right := Ln.right (sOut (Int.toNat (walkers - a))), pos := (50 : Int), steps := Ln.steps (sOut (Int.toNat (walkers - a))) } 
  (Int.toNat (a_3 - Ln.steps (sOut (Int.toNat (walkers - a)))))) ∧ Wk.pos (sAt (Ln.full (sOut (Int.toNat (walkers - a)))) { right := Ln.right (sOut (Int.toNat (walkers - a))), pos := (50 : Int), steps := Ln.steps (sOut (Int.toNat (walkers - a))) } 
  (Int.toNat (a_3 - Ln.steps (sOut (Int.toNat (walkers - a)))))) < (↑(101 : Nat) : Int)) ∧ At (Int.toNat (Wk.pos (sAt (Ln.full (sOut (Int.toNat (walkers - a)))) { right := Ln.right (sOut (Int.toNat (walkers - a))), pos := (50 : Int), steps := Ln.steps (sOut (Int.toNat (walkers - a))) } 
  (Int.toNat (a_3 - Ln.steps (sOut (Int.toNat (walkers - a))))))) < List.length (Wk.right (sAt (Ln.full (sOut (Int.toNat (walkers - a)))) { right := Ln.right (sOut (Int.toNat (walkers - a))), pos := (50 : Int), steps := Ln.steps (sOut (Int.toNat (walkers - a))) } 
  (Int.toNat (a_3 - Ln.steps (sOut (Int.toNat (walkers - a)))))))) ∧ (((True ∧ a = a) ∧ ((0 : Nat) = (0 : Nat) ∧ (101 : Nat) = (101 : Nat)) ∧ ((1 : Nat) = (1 : Nat) ∧ (101 : Nat) = (101 
  : Nat)) ∧ (True ∧ Ln.low (sOut (Int.toNat (walkers - a))) = Ln.low (sOut (Int.toNat (walkers - a)))) ∧ (True ∧ Ln.high (sOut (Int.toNat (walkers - a))) = Ln.high (sOut (Int.toNat (walkers 
  - a)))) ∧ (True ∧ IntKind.wrap IntKind.i64 (a_3 + (1 : Int)) = IntKind.wrap IntKind.i64 (a_3 + (1 : Int))) ∧ (True ∧ IntKind.wrap IntKind.i64 (Wk.pos (sAt (Ln.full (sOut (Int.toNat 
  (walkers - a)))) { right := Ln.right (sOut (Int.toNat (walkers - a))), pos := (50 : Int), steps := Ln.steps (sOut (Int.toNat (walkers - a))) } (Int.toNat (a_3 - Ln.steps (sOut (Int.toNat 
  (walkers - a)))))) + (1 : Int)) = Wk.pos (sAt (Ln.full (sOut (Int.toNat (walkers - a)))) { right := Ln.right (sOut (Int.toNat (walkers - a))), pos := (50 : Int), steps := Ln.steps (sOut (Int.toNat (walkers - a))) } 
  (Int.toNat (IntKind.wrap IntKind.i64 (a_3 + (1 : Int)) - Ln.steps (sOut (Int.toNat (walkers - a))))))) ∧ True) ∧ ((True ∧ Ln.full (sOut (Int.toNat (walkers - a))) = Ln.full (sOut (Int.toNat 
  (walkers - a)))) ∧ (True ∧ (List.set (Wk.right (sAt (Ln.full (sOut (Int.toNat (walkers - a)))) { right := Ln.right (sOut (Int.toNat (walkers - a))), pos := (50 : Int), steps := Ln.steps (sOut (Int.toNat (walkers - a))) } 
  (Int.toNat (a_3 - Ln.steps (sOut (Int.toNat (walkers - a))))))) (Int.toNat (Wk.pos (sAt (Ln.full (sOut (Int.toNat (walkers - a)))) { right := Ln.right (sOut (Int.toNat (walkers - a))), pos := (50 : Int), steps := Ln.steps (sOut (Int.toNat (walkers - a))) } 
  (Int.toNat (a_3 - Ln.steps (sOut (Int.toNat (walkers - a)))))))) !List.getD (Wk.right (sAt (Ln.full (sOut (Int.toNat (walkers - a)))) { right := Ln.right (sOut (Int.toNat (walkers - a))), pos := (50 : Int), steps := Ln.steps (sOut (Int.toNat (walkers - a))) } 
  (Int.toNat (a_3 - Ln.steps (sOut (Int.toNat (walkers - a))))))) (Int.toNat (Wk.pos (sAt (Ln.full (sOut (Int.toNat (walkers - a)))) { right := Ln.right (sOut (Int.toNat (walkers - a))), pos := (50 : Int), steps := Ln.steps (sOut (Int.toNat (walkers - a))) } 
  (Int.toNat (a_3 - Ln.steps (sOut (Int.toNat (walkers - a)))))))) false) = Wk.right (sAt (Ln.full (sOut (Int.toNat (walkers - a)))) { right := Ln.right (sOut (Int.toNat (walkers - a))), pos := (50 : Int), steps := Ln.steps (sOut (Int.toNat (walkers - a))) } 
  (Int.toNat (IntKind.wrap IntKind.i64 (a_3 + (1 : Int)) - Ln.steps (sOut (Int.toNat (walkers - a))))))) ∧ True) ∧ True) ∧ At (inInv (Ln.full (sOut (Int.toNat (walkers - a)))) (Ln.right 
  (sOut (Int.toNat (walkers - a)))) (Ln.steps (sOut (Int.toNat (walkers - a)))) (IntKind.wrap IntKind.i64 (a_3 + (1 : Int))) ∧ Int.toNat ((↑fuelW : Int) - (IntKind.wrap IntKind.i64 (a_3 
  + (1 : Int)) - Ln.steps (sOut (Int.toNat (walkers - a))))) < Int.toNat ((↑fuelW : Int) - (a_3 - Ln.steps (sOut (Int.toNat (walkers - a))))))) ∧ (List.getD (Wk.right (sAt (Ln.full (sOut 
  (Int.toNat (walkers - a)))) { right := Ln.right (sOut (Int.toNat (walkers - a))), pos := (50 : Int), steps := Ln.steps (sOut (Int.toNat (walkers - a))) } (Int.toNat (a_3 - Ln.steps 
  (sOut (Int.toNat (walkers - a))))))) (Int.toNat (Wk.pos (sAt (Ln.full (sOut (Int.toNat (walkers - a)))) { right := Ln.right (sOut (Int.toNat (walkers - a))), pos := (50 : Int), steps := Ln.steps (sOut (Int.toNat (walkers - a))) } 
  (Int.toNat (a_3 - Ln.steps (sOut (Int.toNat (walkers - a)))))))) false = false → At ((0 : Int) ≤ Wk.pos (sAt (Ln.full (sOut (Int.toNat (walkers - a)))) { right := Ln.right (sOut (Int.toNat (walkers - a))), pos := (50 : Int), steps := Ln.steps (sOut (Int.toNat (walkers - a))) } 
  (Int.toNat (a_3 - Ln.steps (sOut (Int.toNat (walkers - a)))))) ∧ Wk.pos (sAt (Ln.full (sOut (Int.toNat (walkers - a)))) { right := Ln.right (sOut (Int.toNat (walkers - a))), pos := (50 : Int), steps := Ln.steps (sOut (Int.toNat (walkers - a))) } 
  (Int.toNat (a_3 - Ln.steps (sOut (Int.toNat (walkers - a)))))) < (↑(101 : Nat) : Int)) ∧ At (Int.toNat (Wk.pos (sAt (Ln.full (sOut (Int.toNat (walkers - a)))) { right := Ln.right (sOut (Int.toNat (walkers - a))), pos := (50 : Int), steps := Ln.steps (sOut (Int.toNat (walkers - a))) } 
  (Int.toNat (a_3 - Ln.steps (sOut (Int.toNat (walkers - a))))))) < List.length (Wk.right (sAt (Ln.full (sOut (Int.toNat (walkers - a)))) { right := Ln.right (sOut (Int.toNat (walkers - a))), pos := (50 : Int), steps := Ln.steps (sOut (Int.toNat (walkers - a))) } 
  (Int.toNat (a_3 - Ln.steps (sOut (Int.toNat (walkers - a)))))))) ∧ At ((0 : Int) ≤ Wk.pos (sAt (Ln.full (sOut (Int.toNat (walkers - a)))) { right := Ln.right (sOut (Int.toNat (walkers - a))), pos := (50 : Int), steps := Ln.steps (sOut (Int.toNat (walkers - a))) } 
  (Int.toNat (a_3 - Ln.steps (sOut (Int.toNat (walkers - a)))))) ∧ Wk.pos (sAt (Ln.full (sOut (Int.toNat (walkers - a)))) { right := Ln.right (sOut (Int.toNat (walkers - a))), pos := (50 : Int), steps := Ln.steps (sOut (Int.toNat (walkers - a))) } 
  (Int.toNat (a_3 - Ln.steps (sOut (Int.toNat (walkers - a)))))) < (↑(101 : Nat) : Int)) ∧ At (Int.toNat (Wk.pos (sAt (Ln.full (sOut (Int.toNat (walkers - a)))) { right := Ln.right (sOut (Int.toNat (walkers - a))), pos := (50 : Int), steps := Ln.steps (sOut (Int.toNat (walkers - a))) } 
  (Int.toNat (a_3 - Ln.steps (sOut (Int.toNat (walkers - a))))))) < List.length (Wk.right (sAt (Ln.full (sOut (Int.toNat (walkers - a)))) { right := Ln.right (sOut (Int.toNat (walkers - a))), pos := (50 : Int), steps := Ln.steps (sOut (Int.toNat (walkers - a))) } 
  (Int.toNat (a_3 - Ln.steps (sOut (Int.toNat (walkers - a)))))))) ∧ (((True ∧ a = a) ∧ ((0 : Nat) = (0 : Nat) ∧ (101 : Nat) = (101 : Nat)) ∧ ((1 : Nat) = (1 : Nat) ∧ (101 : Nat) = (101 
  : Nat)) ∧ (True ∧ Ln.low (sOut (Int.toNat (walkers - a))) = Ln.low (sOut (Int.toNat (walkers - a)))) ∧ (True ∧ Ln.high (sOut (Int.toNat (walkers - a))) = Ln.high (sOut (Int.toNat (walkers 
  - a)))) ∧ (True ∧ IntKind.wrap IntKind.i64 (a_3 + (1 : Int)) = IntKind.wrap IntKind.i64 (a_3 + (1 : Int))) ∧ (True ∧ IntKind.wrap IntKind.i64 (Wk.pos (sAt (Ln.full (sOut (Int.toNat 
  (walkers - a)))) { right := Ln.right (sOut (Int.toNat (walkers - a))), pos := (50 : Int), steps := Ln.steps (sOut (Int.toNat (walkers - a))) } (Int.toNat (a_3 - Ln.steps (sOut (Int.toNat 
  (walkers - a)))))) + (-1 : Int)) = Wk.pos (sAt (Ln.full (sOut (Int.toNat (walkers - a)))) { right := Ln.right (sOut (Int.toNat (walkers - a))), pos := (50 : Int), steps := Ln.steps (sOut (Int.toNat (walkers - a))) } 
  (Int.toNat (IntKind.wrap IntKind.i64 (a_3 + (1 : Int)) - Ln.steps (sOut (Int.toNat (walkers - a))))))) ∧ True) ∧ ((True ∧ Ln.full (sOut (Int.toNat (walkers - a))) = Ln.full (sOut (Int.toNat 
  (walkers - a)))) ∧ (True ∧ (List.set (Wk.right (sAt (Ln.full (sOut (Int.toNat (walkers - a)))) { right := Ln.right (sOut (Int.toNat (walkers - a))), pos := (50 : Int), steps := Ln.steps (sOut (Int.toNat (walkers - a))) } 
  (Int.toNat (a_3 - Ln.steps (sOut (Int.toNat (walkers - a))))))) (Int.toNat (Wk.pos (sAt (Ln.full (sOut (Int.toNat (walkers - a)))) { right := Ln.right (sOut (Int.toNat (walkers - a))), pos := (50 : Int), steps := Ln.steps (sOut (Int.toNat (walkers - a))) } 
  (Int.toNat (a_3 - Ln.steps (sOut (Int.toNat (walkers - a)))))))) !List.getD (Wk.right (sAt (Ln.full (sOut (Int.toNat (walkers - a)))) { right := Ln.right (sOut (Int.toNat (walkers - a))), pos := (50 : Int), steps := Ln.steps (sOut (Int.toNat (walkers - a))) } 
  (Int.toNat (a_3 - Ln.steps (sOut (Int.toNat (walkers - a))))))) (Int.toNat (Wk.pos (sAt (Ln.full (sOut (Int.toNat (walkers - a)))) { right := Ln.right (sOut (Int.toNat (walkers - a))), pos := (50 : Int), steps := Ln.steps (sOut (Int.toNat (walkers - a))) } 
  (Int.toNat (a_3 - Ln.steps (sOut (Int.toNat (walkers - a)))))))) false) = Wk.right (sAt (Ln.full (sOut (Int.toNat (walkers - a)))) { right := Ln.right (sOut (Int.toNat (walkers - a))), pos := (50 : Int), steps := Ln.steps (sOut (Int.toNat (walkers - a))) } 
  (Int.toNat (IntKind.wrap IntKind.i64 (a_3 + (1 : Int)) - Ln.steps (sOut (Int.toNat (walkers - a))))))) ∧ True) ∧ True) ∧ At (inInv (Ln.full (sOut (Int.toNat (walkers - a)))) (Ln.right 
  (sOut (Int.toNat (walkers - a)))) (Ln.steps (sOut (Int.toNat (walkers - a)))) (IntKind.wrap IntKind.i64 (a_3 + (1 : Int))) ∧ Int.toNat ((↑fuelW : Int) - (IntKind.wrap IntKind.i64 (a_3 
  + (1 : Int)) - Ln.steps (sOut (Int.toNat (walkers - a))))) < Int.toNat ((↑fuelW : Int) - (a_3 - Ln.steps (sOut (Int.toNat (walkers - a)))))))) ∧ (List.getD (Ln.full (sOut (Int.toNat 
  (walkers - a)))) (Int.toNat (Wk.pos (sAt (Ln.full (sOut (Int.toNat (walkers - a)))) { right := Ln.right (sOut (Int.toNat (walkers - a))), pos := (50 : Int), steps := Ln.steps (sOut (Int.toNat (walkers - a))) } 
  (Int.toNat (a_3 - Ln.steps (sOut (Int.toNat (walkers - a)))))))) false = false → At ((0 : Int) ≤ Wk.pos (sAt (Ln.full (sOut (Int.toNat (walkers - a)))) { right := Ln.right (sOut (Int.toNat (walkers - a))), pos := (50 : Int), steps := Ln.steps (sOut (Int.toNat (walkers - a))) } 
  (Int.toNat (a_3 - Ln.steps (sOut (Int.toNat (walkers - a)))))) ∧ Wk.pos (sAt (Ln.full (sOut (Int.toNat (walkers - a)))) { right := Ln.right (sOut (Int.toNat (walkers - a))), pos := (50 : Int), steps := Ln.steps (sOut (Int.toNat (walkers - a))) } 
  (Int.toNat (a_3 - Ln.steps (sOut (Int.toNat (walkers - a)))))) < (↑(101 : Nat) : Int)) ∧ At (Int.toNat (Wk.pos (sAt (Ln.full (sOut (Int.toNat (walkers - a)))) { right := Ln.right (sOut (Int.toNat (walkers - a))), pos := (50 : Int), steps := Ln.steps (sOut (Int.toNat (walkers - a))) } 
  (Int.toNat (a_3 - Ln.steps (sOut (Int.toNat (walkers - a))))))) < List.length (Ln.full (sOut (Int.toNat (walkers - a))))) ∧ At True ∧ At True ∧ (((True ∧ IntKind.wrap IntKind.i64 (a 
  - (1 : Int)) = IntKind.wrap IntKind.i64 (a - (1 : Int))) ∧ ((0 : Nat) = (0 : Nat) ∧ (101 : Nat) = (101 : Nat)) ∧ ((1 : Nat) = (1 : Nat) ∧ (101 : Nat) = (101 : Nat)) ∧ (True ∧ min (Ln.low 
  (sOut (Int.toNat (walkers - a)))) (Wk.pos (sAt (Ln.full (sOut (Int.toNat (walkers - a)))) { right := Ln.right (sOut (Int.toNat (walkers - a))), pos := (50 : Int), steps := Ln.steps (sOut (Int.toNat (walkers - a))) } 
  (Int.toNat (a_3 - Ln.steps (sOut (Int.toNat (walkers - a))))))) = Ln.low (sOut (Int.toNat (walkers - IntKind.wrap IntKind.i64 (a - (1 : Int)))))) ∧ (True ∧ max (Ln.high (sOut (Int.toNat 
  (walkers - a)))) (Wk.pos (sAt (Ln.full (sOut (Int.toNat (walkers - a)))) { right := Ln.right (sOut (Int.toNat (walkers - a))), pos := (50 : Int), steps := Ln.steps (sOut (Int.toNat (walkers - a))) } 
  (Int.toNat (a_3 - Ln.steps (sOut (Int.toNat (walkers - a))))))) = Ln.high (sOut (Int.toNat (walkers - IntKind.wrap IntKind.i64 (a - (1 : Int)))))) ∧ (True ∧ a_3 = Ln.steps (sOut (Int.toNat 
  (walkers - IntKind.wrap IntKind.i64 (a - (1 : Int)))))) ∧ True) ∧ ((True ∧ List.set (Ln.full (sOut (Int.toNat (walkers - a)))) (Int.toNat (Wk.pos (sAt (Ln.full (sOut (Int.toNat (walkers 
  - a)))) { right := Ln.right (sOut (Int.toNat (walkers - a))), pos := (50 : Int), steps := Ln.steps (sOut (Int.toNat (walkers - a))) } (Int.toNat (a_3 - Ln.steps (sOut (Int.toNat (walkers 
  - a)))))))) true = Ln.full (sOut (Int.toNat (walkers - IntKind.wrap IntKind.i64 (a - (1 : Int)))))) ∧ (True ∧ Wk.right (sAt (Ln.full (sOut (Int.toNat (walkers - a)))) { right := Ln.right (sOut (Int.toNat (walkers - a))), pos := (50 : Int), steps := Ln.steps (sOut (Int.toNat (walkers - a))) } 
  (Int.toNat (a_3 - Ln.steps (sOut (Int.toNat (walkers - a)))))) = Ln.right (sOut (Int.toNat (walkers - IntKind.wrap IntKind.i64 (a - (1 : Int)))))) ∧ True) ∧ True) ∧ At (outInv walkers 
  (IntKind.wrap IntKind.i64 (a - (1 : Int))) ∧ Int.toNat (IntKind.wrap IntKind.i64 (a - (1 : Int))) < Int.toNat a))) ∧ (decide (a > (0 : Int)) = false → K (V.tup [V.int IntKind.i64 (IntKind.wrap 
  IntKind.i64 (Ln.low (sOut (Int.toNat (walkers - a))) - (50 : Int))), V.int IntKind.i64 (IntKind.wrap IntKind.i64 (Ln.high (sOut (Int.toNat (walkers - a))) - (50 : Int))), V.int IntKind.i64 
  (Ln.steps (sOut (Int.toNat (walkers - a))))]))

def VC_impl_filledBy (walkers : Int) (K : V → Prop) : Prop :=
  At True ∧
  ((!inB walkers (1 : Int) (40 : Int)) = true →
      K
        (V.tup
          [V.agg [V.int IntKind.i64 (0 : Int), V.int IntKind.i64 (0 : Int), V.int IntKind.i64 (0 : Int)],
            V.lit false])) ∧
    ((!inB walkers (1 : Int) (40 : Int)) = false →
      (((True ∧ walkers = walkers) ∧
            ((0 : Nat) = (0 : Nat) ∧ (0 : Nat) = (0 : Nat)) ∧
              ((1 : Nat) = (1 : Nat) ∧ (0 : Nat) = (0 : Nat)) ∧
                (2 : Nat) = (2 : Nat) ∧
                  (True ∧
                      IntKind.wrap IntKind.i64 (walkers - (1 : Int)) = IntKind.wrap IntKind.i64 (walkers - (1 : Int))) ∧
                    (True ∧ (0 : Int) = (0 : Int)) ∧ True) ∧
          ((True ∧
                (True ∧ (0 : Int) = (0 : Int)) ∧
                  (True ∧ (0 : Int) = (0 : Int)) ∧ (True ∧ (0 : Int) = (0 : Int)) ∧ True) ∧
              (True ∧
                  (True ∧ (0 : Int) = Lm.lo (mOut (Int.toNat (0 : Int)))) ∧
                    (True ∧ (0 : Int) = Lm.hi (mOut (Int.toNat (0 : Int)))) ∧
                      (True ∧ (0 : Int) = Lm.steps (mOut (Int.toNat (0 : Int)))) ∧ True) ∧
                (True ∧ [] = Lm.m (mOut (Int.toNat (0 : Int)))) ∧ True) ∧
            True) ∧
        At ((0 : Int) ≤ (0 : Int) ∧ (0 : Int) ≤ IntKind.wrap IntKind.i64 (walkers - (1 : Int))) ∧
          ∀ (a : Int),
            (0 : Int) ≤ a ∧ a ≤ IntKind.wrap IntKind.i64 (walkers - (1 : Int)) →
              (decide (a < IntKind.wrap IntKind.i64 (walkers - (1 : Int))) = true →
                  (((True ∧ walkers = walkers) ∧
                        ((0 : Nat) = (0 : Nat) ∧ (0 : Nat) = (0 : Nat)) ∧
                          ((1 : Nat) = (1 : Nat) ∧ (0 : Nat) = (0 : Nat)) ∧
                            (2 : Nat) = (2 : Nat) ∧
                              (True ∧
                                  (0 : Int) =
                                    Wm.cell
                                      (mAt (Lm.lo (mOut (Int.toNat a))) (Lm.hi (mOut (Int.toNat a)))
                                        { m := Lm.m (mOut (Int.toNat a)), cell := (0 : Int),
                                          steps := Lm.steps (mOut (Int.toNat a)) }
                                        (Int.toNat (Lm.steps (mOut (Int.toNat a)) - Lm.steps (mOut (Int.toNat a)))))) ∧
                                (True ∧
                                    IntKind.wrap IntKind.i64 (walkers - (1 : Int)) =
                                      IntKind.wrap IntKind.i64 (walkers - (1 : Int))) ∧
                                  (True ∧ a = a) ∧ True) ∧
                      ((True ∧
                            (True ∧ (0 : Int) = (0 : Int)) ∧
                              (True ∧ (0 : Int) = (0 : Int)) ∧ (True ∧ (0 : Int) = (0 : Int)) ∧ True) ∧
                          (True ∧
                              (True ∧ Lm.lo (mOut (Int.toNat a)) = Lm.lo (mOut (Int.toNat a))) ∧
                                (True ∧ Lm.hi (mOut (Int.toNat a)) = Lm.hi (mOut (Int.toNat a))) ∧
                                  (True ∧ Lm.steps (mOut (Int.toNat a)) = Lm.steps (mOut (Int.toNat a))) ∧ True) ∧
                            (True ∧
                                Lm.m (mOut (Int.toNat a)) =
                                  Wm.m
                                    (mAt (Lm.lo (mOut (Int.toNat a))) (Lm.hi (mOut (Int.toNat a)))
                                      { m := Lm.m (mOut (Int.toNat a)), cell := (0 : Int),
                                        steps := Lm.steps (mOut (Int.toNat a)) }
                                      (Int.toNat (Lm.steps (mOut (Int.toNat a)) - Lm.steps (mOut (Int.toNat a)))))) ∧
                              True) ∧
                        True) ∧
                    At
                        (inInvM (Lm.m (mOut (Int.toNat a))) (Lm.lo (mOut (Int.toNat a))) (Lm.hi (mOut (Int.toNat a)))
                          (Lm.steps (mOut (Int.toNat a))) (Lm.steps (mOut (Int.toNat a)))) ∧
                      ∀ (a_3 : Int),
                        inInvM (Lm.m (mOut (Int.toNat a))) (Lm.lo (mOut (Int.toNat a))) (Lm.hi (mOut (Int.toNat a)))
                            (Lm.steps (mOut (Int.toNat a))) a_3 →
                          At True ∧
                            (inB
                                    (Wm.cell
                                      (mAt (Lm.lo (mOut (Int.toNat a))) (Lm.hi (mOut (Int.toNat a)))
                                        { m := Lm.m (mOut (Int.toNat a)), cell := (0 : Int),
                                          steps := Lm.steps (mOut (Int.toNat a)) }
                                        (Int.toNat (a_3 - Lm.steps (mOut (Int.toNat a))))))
                                    (Lm.lo (mOut (Int.toNat a))) (Lm.hi (mOut (Int.toNat a))) =
                                  true →
                                At
                                    (keysFit [KS.plain, KS.int IntKind.i64]
                                          (Wm.m
                                            (mAt (Lm.lo (mOut (Int.toNat a))) (Lm.hi (mOut (Int.toNat a)))
                                              { m := Lm.m (mOut (Int.toNat a)), cell := (0 : Int),
                                                steps := Lm.steps (mOut (Int.toNat a)) }
                                              (Int.toNat (a_3 - Lm.steps (mOut (Int.toNat a)))))) =
                                        true ∧
                                      valsBool
                                          (Wm.m
                                            (mAt (Lm.lo (mOut (Int.toNat a))) (Lm.hi (mOut (Int.toNat a)))
                                              { m := Lm.m (mOut (Int.toNat a)), cell := (0 : Int),
                                                steps := Lm.steps (mOut (Int.toNat a)) }
                                              (Int.toNat (a_3 - Lm.steps (mOut (Int.toNat a)))))) =
                                        true) ∧
                                  (lookTF
                                          (V.int IntKind.i64
                                            (Wm.cell
                                              (mAt (Lm.lo (mOut (Int.toNat a))) (Lm.hi (mOut (Int.toNat a)))
                                                { m := Lm.m (mOut (Int.toNat a)), cell := (0 : Int),
                                                  steps := Lm.steps (mOut (Int.toNat a)) }
                                                (Int.toNat (a_3 - Lm.steps (mOut (Int.toNat a)))))))
                                          (Wm.m
                                            (mAt (Lm.lo (mOut (Int.toNat a))) (Lm.hi (mOut (Int.toNat a)))
                                              { m := Lm.m (mOut (Int.toNat a)), cell := (0 : Int),
                                                steps := Lm.steps (mOut (Int.toNat a)) }
                                              (Int.toNat (a_3 - Lm.steps (mOut (Int.toNat a)))))) =
                                        true →
                                      At
                                          (keysFit [KS.plain, KS.int IntKind.i64]
                                                (Wm.m
                                                  (mAt (Lm.lo (mOut (Int.toNat a))) (Lm.hi (mOut (Int.toNat a)))
                                                    { m := Lm.m (mOut (Int.toNat a)), cell := (0 : Int),
                                                      steps := Lm.steps (mOut (Int.toNat a)) }
                                                    (Int.toNat (a_3 - Lm.steps (mOut (Int.toNat a)))))) =
                                              true ∧
                                            valsBool
                                                (Wm.m
                                                  (mAt (Lm.lo (mOut (Int.toNat a))) (Lm.hi (mOut (Int.toNat a)))
                                                    { m := Lm.m (mOut (Int.toNat a)), cell := (0 : Int),
                                                      steps := Lm.steps (mOut (Int.toNat a)) }
                                                    (Int.toNat (a_3 - Lm.steps (mOut (Int.toNat a)))))) =
                                              true) ∧
                                        At
                                            (keysFit [KS.plain, KS.int IntKind.i64]
                                                (Wm.m
                                                  (mAt (Lm.lo (mOut (Int.toNat a))) (Lm.hi (mOut (Int.toNat a)))
                                                    { m := Lm.m (mOut (Int.toNat a)), cell := (0 : Int),
                                                      steps := Lm.steps (mOut (Int.toNat a)) }
                                                    (Int.toNat (a_3 - Lm.steps (mOut (Int.toNat a)))))) =
                                              true) ∧
                                          (((True ∧ walkers = walkers) ∧
                                                ((0 : Nat) = (0 : Nat) ∧ (0 : Nat) = (0 : Nat)) ∧
                                                  ((1 : Nat) = (1 : Nat) ∧ (0 : Nat) = (0 : Nat)) ∧
                                                    (2 : Nat) = (2 : Nat) ∧
                                                      (True ∧
                                                          IntKind.wrap IntKind.i64
                                                              (Wm.cell
                                                                  (mAt (Lm.lo (mOut (Int.toNat a)))
                                                                    (Lm.hi (mOut (Int.toNat a)))
                                                                    { m := Lm.m (mOut (Int.toNat a)), cell := (0 : Int),
                                                                      steps := Lm.steps (mOut (Int.toNat a)) }
                                                                    (Int.toNat (a_3 - Lm.steps (mOut (Int.toNat a))))) +
                                                                (1 : Int)) =
                                                            Wm.cell
                                                              (mAt (Lm.lo (mOut (Int.toNat a)))
                                                                (Lm.hi (mOut (Int.toNat a)))
                                                                { m := Lm.m (mOut (Int.toNat a)), cell := (0 : Int),
                                                                  steps := Lm.steps (mOut (Int.toNat a)) }
                                                                (Int.toNat
                                                                  (IntKind.wrap IntKind.i64 (a_3 + (1 : Int)) -
                                                                    Lm.steps (mOut (Int.toNat a)))))) ∧
                                                        (True ∧
                                                            IntKind.wrap IntKind.i64 (walkers - (1 : Int)) =
                                                              IntKind.wrap IntKind.i64 (walkers - (1 : Int))) ∧
                                                          (True ∧ a = a) ∧ True) ∧
                                              ((True ∧
                                                    (True ∧ (0 : Int) = (0 : Int)) ∧
                                                      (True ∧ (0 : Int) = (0 : Int)) ∧
                                                        (True ∧ (0 : Int) = (0 : Int)) ∧ True) ∧
                                                  (True ∧
                                                      (True ∧ Lm.lo (mOut (Int.toNat a)) = Lm.lo (mOut (Int.toNat a))) ∧
                                                        (True ∧
                                                            Lm.hi (mOut (Int.toNat a)) = Lm.hi (mOut (Int.toNat a))) ∧
                                                          (True ∧
                                                              IntKind.wrap IntKind.i64 (a_3 + (1 : Int)) =
                                                                IntKind.wrap IntKind.i64 (a_3 + (1 : Int))) ∧
                                                            True) ∧
                                                    (True ∧
                                                        putK
                                                            (V.int IntKind.i64
                                                              (Wm.cell
                                                                (mAt (Lm.lo (mOut (Int.toNat a)))
                                                                  (Lm.hi (mOut (Int.toNat a)))
                                                                  { m := Lm.m (mOut (Int.toNat a)), cell := (0 : Int),
                                                                    steps := Lm.steps (mOut (Int.toNat a)) }
                                                                  (Int.toNat (a_3 - Lm.steps (mOut (Int.toNat a)))))))
                                                            (V.bool
                                                              !lookTF
                                                                  (V.int IntKind.i64
                                                                    (Wm.cell
                                                                      (mAt (Lm.lo (mOut (Int.toNat a)))
                                                                        (Lm.hi (mOut (Int.toNat a)))
                                                                        { m := Lm.m (mOut (Int.toNat a)),
                                                                          cell := (0 : Int),
                                                                          steps := Lm.steps (mOut (Int.toNat a)) }
                                                                        (Int.toNat
                                                                          (a_3 - Lm.steps (mOut (Int.toNat a)))))))
                                                                  (Wm.m
                                                                    (mAt (Lm.lo (mOut (Int.toNat a)))
                                                                      (Lm.hi (mOut (Int.toNat a)))
                                                                      { m := Lm.m (mOut (Int.toNat a)),
                                                                        cell := (0 : Int),
                                                                        steps := Lm.steps (mOut (Int.toNat a)) }
                                                                      (Int.toNat
                                                                        (a_3 - Lm.steps (mOut (Int.toNat a)))))))
                                                            (Wm.m
                                                              (mAt (Lm.lo (mOut (Int.toNat a)))
                                                                (Lm.hi (mOut (Int.toNat a)))
                                                                { m := Lm.m (mOut (Int.toNat a)), cell := (0 : Int),
                                                                  steps := Lm.steps (mOut (Int.toNat a)) }
                                                                (Int.toNat (a_3 - Lm.steps (mOut (Int.toNat a)))))) =
                                                          Wm.m
                                                            (mAt (Lm.lo (mOut (Int.toNat a)))
                                                              (Lm.hi (mOut (Int.toNat a)))
                                                              { m := Lm.m (mOut (Int.toNat a)), cell := (0 : Int),
                                                                steps := Lm.steps (mOut (Int.toNat a)) }
                                                              (Int.toNat
                                                                (IntKind.wrap IntKind.i64 (a_3 + (1 : Int)) -
                                                                  Lm.steps (mOut (Int.toNat a)))))) ∧
                                                      True) ∧
                                                True) ∧
                                            At
                                              (inInvM (Lm.m (mOut (Int.toNat a))) (Lm.lo (mOut (Int.toNat a)))
                                                  (Lm.hi (mOut (Int.toNat a))) (Lm.steps (mOut (Int.toNat a)))
                                                  (IntKind.wrap IntKind.i64 (a_3 + (1 : Int))) ∧
                                                Int.toNat
                                                    ((↑fuelW : Int) -
                                                      (IntKind.wrap IntKind.i64 (a_3 + (1 : Int)) -
                                                        Lm.steps (mOut (Int.toNat a)))) <
                                                  Int.toNat ((↑fuelW : Int) - (a_3 - Lm.steps (mOut (Int.toNat a)))))) ∧
                                    (lookTF
                                          (V.int IntKind.i64
                                            (Wm.cell
                                              (mAt (Lm.lo (mOut (Int.toNat a))) (Lm.hi (mOut (Int.toNat a)))
                                                { m := Lm.m (mOut (Int.toNat a)), cell := (0 : Int),
                                                  steps := Lm.steps (mOut (Int.toNat a)) }
                                                (Int.toNat (a_3 - Lm.steps (mOut (Int.toNat a)))))))
                                          (Wm.m
                                            (mAt (Lm.lo (mOut (Int.toNat a))) (Lm.hi (mOut (Int.toNat a)))
                                              { m := Lm.m (mOut (Int.toNat a)), cell := (0 : Int),
                                                steps := Lm.steps (mOut (Int.toNat a)) }
                                              (Int.toNat (a_3 - Lm.steps (mOut (Int.toNat a)))))) =
                                        false →
                                      At
                                          (keysFit [KS.plain, KS.int IntKind.i64]
                                                (Wm.m
                                                  (mAt (Lm.lo (mOut (Int.toNat a))) (Lm.hi (mOut (Int.toNat a)))
                                                    { m := Lm.m (mOut (Int.toNat a)), cell := (0 : Int),
                                                      steps := Lm.steps (mOut (Int.toNat a)) }
                                                    (Int.toNat (a_3 - Lm.steps (mOut (Int.toNat a)))))) =
                                              true ∧
                                            valsBool
                                                (Wm.m
                                                  (mAt (Lm.lo (mOut (Int.toNat a))) (Lm.hi (mOut (Int.toNat a)))
                                                    { m := Lm.m (mOut (Int.toNat a)), cell := (0 : Int),
                                                      steps := Lm.steps (mOut (Int.toNat a)) }
                                                    (Int.toNat (a_3 - Lm.steps (mOut (Int.toNat a)))))) =
                                              true) ∧
                                        At
                                            (keysFit [KS.plain, KS.int IntKind.i64]
                                                (Wm.m
                                                  (mAt (Lm.lo (mOut (Int.toNat a))) (Lm.hi (mOut (Int.toNat a)))
                                                    { m := Lm.m (mOut (Int.toNat a)), cell := (0 : Int),
                                                      steps := Lm.steps (mOut (Int.toNat a)) }
                                                    (Int.toNat (a_3 - Lm.steps (mOut (Int.toNat a)))))) =
                                              true) ∧
                                          (((True ∧ walkers = walkers) ∧
                                                ((0 : Nat) = (0 : Nat) ∧ (0 : Nat) = (0 : Nat)) ∧
                                                  ((1 : Nat) = (1 : Nat) ∧ (0 : Nat) = (0 : Nat)) ∧
                                                    (2 : Nat) = (2 : Nat) ∧
                                                      (True ∧
                                                          IntKind.wrap IntKind.i64
                                                              (Wm.cell
                                                                  (mAt (Lm.lo (mOut (Int.toNat a)))
                                                                    (Lm.hi (mOut (Int.toNat a)))
                                                                    { m := Lm.m (mOut (Int.toNat a)), cell := (0 : Int),
                                                                      steps := Lm.steps (mOut (Int.toNat a)) }
                                                                    (Int.toNat (a_3 - Lm.steps (mOut (Int.toNat a))))) +
                                                                (-1 : Int)) =
                                                            Wm.cell
                                                              (mAt (Lm.lo (mOut (Int.toNat a)))
                                                                (Lm.hi (mOut (Int.toNat a)))
                                                                { m := Lm.m (mOut (Int.toNat a)), cell := (0 : Int),
                                                                  steps := Lm.steps (mOut (Int.toNat a)) }
                                                                (Int.toNat
                                                                  (IntKind.wrap IntKind.i64 (a_3 + (1 : Int)) -
                                                                    Lm.steps (mOut (Int.toNat a)))))) ∧
                                                        (True ∧
                                                            IntKind.wrap IntKind.i64 (walkers - (1 : Int)) =
                                                              IntKind.wrap IntKind.i64 (walkers - (1 : Int))) ∧
                                                          (True ∧ a = a) ∧ True) ∧
                                              ((True ∧
                                                    (True ∧ (0 : Int) = (0 : Int)) ∧
                                                      (True ∧ (0 : Int) = (0 : Int)) ∧
                                                        (True ∧ (0 : Int) = (0 : Int)) ∧ True) ∧
                                                  (True ∧
                                                      (True ∧ Lm.lo (mOut (Int.toNat a)) = Lm.lo (mOut (Int.toNat a))) ∧
                                                        (True ∧
                                                            Lm.hi (mOut (Int.toNat a)) = Lm.hi (mOut (Int.toNat a))) ∧
                                                          (True ∧
                                                              IntKind.wrap IntKind.i64 (a_3 + (1 : Int)) =
                                                                IntKind.wrap IntKind.i64 (a_3 + (1 : Int))) ∧
                                                            True) ∧
                                                    (True ∧
                                                        putK
                                                            (V.int IntKind.i64
                                                              (Wm.cell
                                                                (mAt (Lm.lo (mOut (Int.toNat a)))
                                                                  (Lm.hi (mOut (Int.toNat a)))
                                                                  { m := Lm.m (mOut (Int.toNat a)), cell := (0 : Int),
                                                                    steps := Lm.steps (mOut (Int.toNat a)) }
                                                                  (Int.toNat (a_3 - Lm.steps (mOut (Int.toNat a)))))))
                                                            (V.bool
                                                              !lookTF
                                                                  (V.int IntKind.i64
                                                                    (Wm.cell
                                                                      (mAt (Lm.lo (mOut (Int.toNat a)))
                                                                        (Lm.hi (mOut (Int.toNat a)))
                                                                        { m := Lm.m (mOut (Int.toNat a)),
                                                                          cell := (0 : Int),
                                                                          steps := Lm.steps (mOut (Int.toNat a)) }
                                                                        (Int.toNat
                                                                          (a_3 - Lm.steps (mOut (Int.toNat a)))))))
                                                                  (Wm.m
                                                                    (mAt (Lm.lo (mOut (Int.toNat a)))
                                                                      (Lm.hi (mOut (Int.toNat a)))
                                                                      { m := Lm.m (mOut (Int.toNat a)),
                                                                        cell := (0 : Int),
                                                                        steps := Lm.steps (mOut (Int.toNat a)) }
                                                                      (Int.toNat
                                                                        (a_3 - Lm.steps (mOut (Int.toNat a)))))))
                                                            (Wm.m
                                                              (mAt (Lm.lo (mOut (Int.toNat a)))
                                                                (Lm.hi (mOut (Int.toNat a)))
                                                                { m := Lm.m (mOut (Int.toNat a)), cell := (0 : Int),
                                                                  steps := Lm.steps (mOut (Int.toNat a)) }
                                                                (Int.toNat (a_3 - Lm.steps (mOut (Int.toNat a)))))) =
                                                          Wm.m
                                                            (mAt (Lm.lo (mOut (Int.toNat a)))
                                                              (Lm.hi (mOut (Int.toNat a)))
                                                              { m := Lm.m (mOut (Int.toNat a)), cell := (0 : Int),
                                                                steps := Lm.steps (mOut (Int.toNat a)) }
                                                              (Int.toNat
                                                                (IntKind.wrap IntKind.i64 (a_3 + (1 : Int)) -
                                                                  Lm.steps (mOut (Int.toNat a)))))) ∧
                                                      True) ∧
                                                True) ∧
                                            At
                                              (inInvM (Lm.m (mOut (Int.toNat a))) (Lm.lo (mOut (Int.toNat a)))
                                                  (Lm.hi (mOut (Int.toNat a))) (Lm.steps (mOut (Int.toNat a)))
                                                  (IntKind.wrap IntKind.i64 (a_3 + (1 : Int))) ∧
                                                Int.toNat
                                                    ((↑fuelW : Int) -
                                                      (IntKind.wrap IntKind.i64 (a_3 + (1 : Int)) -
                                                        Lm.steps (mOut (Int.toNat a)))) <
                                                  Int.toNat
                                                    ((↑fuelW : Int) - (a_3 - Lm.steps (mOut (Int.toNat a))))))) ∧
                              (inB
                                    (Wm.cell
                                      (mAt (Lm.lo (mOut (Int.toNat a))) (Lm.hi (mOut (Int.toNat a)))
                                        { m := Lm.m (mOut (Int.toNat a)), cell := (0 : Int),
                                          steps := Lm.steps (mOut (Int.toNat a)) }
                                        (Int.toNat (a_3 - Lm.steps (mOut (Int.toNat a))))))
                                    (Lm.lo (mOut (Int.toNat a))) (Lm.hi (mOut (Int.toNat a))) =
                                  false →
                                (((True ∧ walkers = walkers) ∧
                                      ((0 : Nat) = (0 : Nat) ∧ (0 : Nat) = (0 : Nat)) ∧
                                        ((1 : Nat) = (1 : Nat) ∧ (0 : Nat) = (0 : Nat)) ∧
                                          (2 : Nat) = (2 : Nat) ∧
                                            (True ∧
                                                IntKind.wrap IntKind.i64 (walkers - (1 : Int)) =
                                                  IntKind.wrap IntKind.i64 (walkers - (1 : Int))) ∧
                                              (True ∧
                                                  IntKind.wrap IntKind.i64 (a + (1 : Int)) =
                                                    IntKind.wrap IntKind.i64 (a + (1 : Int))) ∧
                                                True) ∧
                                    ((True ∧
                                          (True ∧ (0 : Int) = (0 : Int)) ∧
                                            (True ∧ (0 : Int) = (0 : Int)) ∧ (True ∧ (0 : Int) = (0 : Int)) ∧ True) ∧
                                        (True ∧
                                            (True ∧
                                                (if
                                                      Wm.cell
                                                          (mAt (Lm.lo (mOut (Int.toNat a))) (Lm.hi (mOut (Int.toNat a)))
                                                            { m := Lm.m (mOut (Int.toNat a)), cell := (0 : Int),
                                                              steps := Lm.steps (mOut (Int.toNat a)) }
                                                            (Int.toNat (a_3 - Lm.steps (mOut (Int.toNat a))))) <
                                                        Lm.lo (mOut (Int.toNat a)) then
                                                    Wm.cell
                                                      (mAt (Lm.lo (mOut (Int.toNat a))) (Lm.hi (mOut (Int.toNat a)))
                                                        { m := Lm.m (mOut (Int.toNat a)), cell := (0 : Int),
                                                          steps := Lm.steps (mOut (Int.toNat a)) }
                                                        (Int.toNat (a_3 - Lm.steps (mOut (Int.toNat a)))))
                                                  else Lm.lo (mOut (Int.toNat a))) =
                                                  Lm.lo (mOut (Int.toNat (IntKind.wrap IntKind.i64 (a + (1 : Int)))))) ∧
                                              (True ∧
                                                  (if
                                                        Lm.hi (mOut (Int.toNat a)) <
                                                          Wm.cell
                                                            (mAt (Lm.lo (mOut (Int.toNat a)))
                                                              (Lm.hi (mOut (Int.toNat a)))
                                                              { m := Lm.m (mOut (Int.toNat a)), cell := (0 : Int),
                                                                steps := Lm.steps (mOut (Int.toNat a)) }
                                                              (Int.toNat (a_3 - Lm.steps (mOut (Int.toNat a))))) then
                                                      Wm.cell
                                                        (mAt (Lm.lo (mOut (Int.toNat a))) (Lm.hi (mOut (Int.toNat a)))
                                                          { m := Lm.m (mOut (Int.toNat a)), cell := (0 : Int),
                                                            steps := Lm.steps (mOut (Int.toNat a)) }
                                                          (Int.toNat (a_3 - Lm.steps (mOut (Int.toNat a)))))
                                                    else Lm.hi (mOut (Int.toNat a))) =
                                                    Lm.hi
                                                      (mOut (Int.toNat (IntKind.wrap IntKind.i64 (a + (1 : Int)))))) ∧
                                                (True ∧
                                                    a_3 =
                                                      Lm.steps
                                                        (mOut (Int.toNat (IntKind.wrap IntKind.i64 (a + (1 : Int)))))) ∧
                                                  True) ∧
                                          (True ∧
                                              Wm.m
                                                  (mAt (Lm.lo (mOut (Int.toNat a))) (Lm.hi (mOut (Int.toNat a)))
                                                    { m := Lm.m (mOut (Int.toNat a)), cell := (0 : Int),
                                                      steps := Lm.steps (mOut (Int.toNat a)) }
                                                    (Int.toNat (a_3 - Lm.steps (mOut (Int.toNat a))))) =
                                                Lm.m (mOut (Int.toNat (IntKind.wrap IntKind.i64 (a + (1 : Int)))))) ∧
                                            True) ∧
                                      True) ∧
                                  At
                                    (((0 : Int) ≤ IntKind.wrap IntKind.i64 (a + (1 : Int)) ∧
                                        IntKind.wrap IntKind.i64 (a + (1 : Int)) ≤
                                          IntKind.wrap IntKind.i64 (walkers - (1 : Int))) ∧
                                      Int.toNat
                                          (IntKind.wrap IntKind.i64 (walkers - (1 : Int)) -
                                            IntKind.wrap IntKind.i64 (a + (1 : Int))) <
                                        Int.toNat (IntKind.wrap IntKind.i64 (walkers - (1 : Int)) - a)))) ∧
                (decide (a < IntKind.wrap IntKind.i64 (walkers - (1 : Int))) = false →
                  K
                    (V.tup
                      [V.agg
                          [V.int IntKind.i64 (Lm.lo (mOut (Int.toNat a))),
                            V.int IntKind.i64 (Lm.hi (mOut (Int.toNat a))),
                            V.int IntKind.i64 (Lm.steps (mOut (Int.toNat a)))],
                        V.lit true])))

def VC_spec_FillLine (walkers : Int) (K : V → Prop) : Prop :=
  At True ∧
  ((!inB walkers (1 : Int) (40 : Int)) = true →
      K (V.tup [V.int IntKind.i64 (0 : Int), V.int IntKind.i64 (0 : Int), V.lit false])) ∧
    ((!inB walkers (1 : Int) (40 : Int)) = false →
      At ((1 : Int) ≤ walkers ∧ walkers ≤ (40 : Int)) ∧
        K (V.tup [V.int IntKind.i64 (fLo walkers), V.int IntKind.i64 (fHi walkers), V.lit true]))

def VC_spec_FillSteps (walkers : Int) (K : V → Prop) : Prop :=
  At True ∧
  ((!inB walkers (1 : Int) (40 : Int)) = true → K (V.tup [V.int IntKind.i64 (0 : Int), V.lit false])) ∧
    ((!inB walkers (1 : Int) (40 : Int)) = false →
      At ((1 : Int) ≤ walkers ∧ walkers ≤ (40 : Int)) ∧ K (V.tup [V.int IntKind.i64 (fSt walkers), V.lit true]))

def VC_impl_FillLine (walkers : Int) (K : V → Prop) : Prop :=
  At True ∧
  True ∧
    K
      (V.tup
        [V.int IntKind.i64 (bif inB walkers (1 : Int) (40 : Int) then fLo walkers else (0 : Int)),
          V.int IntKind.i64 (bif inB walkers (1 : Int) (40 : Int) then fHi walkers else (0 : Int)),
          V.bool (inB walkers (1 : Int) (40 : Int))])

def VC_impl_FillSteps (walkers : Int) (K : V → Prop) : Prop :=
  At True ∧
  K
    (V.tup
      [V.int IntKind.i64 (bif inB walkers (1 : Int) (40 : Int) then fSt walkers else (0 : Int)),
        V.bool (inB walkers (1 : Int) (40 : Int))])

end Go.Vi
