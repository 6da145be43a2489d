/- The conditions of FnExactLinesUsed. -/
import Derived.Test.YtopolpgligoldacREPf
namespace Go.Vi
set_option linter.unusedVariables false
def VC_LawLinesUsed (a0on : Nat) (a0o : List (List Int)) (a0rn : Nat) (a0r : List Int) (a1 : Int) (a2 : Int) (K : V → Prop) : Prop := At ((0 : Int) ≤ (1048576 : Int) ∧ (1048576 : Int) 
  ≤ (1048576 : Int) ∧ (↑a0on : Int) ≤ (9223372036854775807 : Int) ∧ List.length a0o = a0on ∧ (∀ (r : List Int), r ∈ a0o → (↑(List.length r) : Int) ≤ (9223372036854775807 : Int)) ∧ List.length 
  a0r = a0rn ∧ (↑a0rn : Int) ≤ (9223372036854775807 : Int)) ∧ (decide (szR a0o a0r (1048576 : Int) < (0 : Int)) = true → K (V.lit true)) ∧ (decide (szR a0o a0r (1048576 : Int) < (0 : 
  Int)) = false → At (List.length a0o = a0on ∧ List.length a0r = a0rn ∧ smallM a0o ∧ a0rn ≤ (2000000 : Nat)) ∧ At (List.length a0o = a0on ∧ List.length a0r = a0rn ∧ smallM a0o ∧ a0rn 
  ≤ (2000000 : Nat)) ∧ At (List.length a0o = a0on ∧ List.length a0r = a0rn ∧ smallM a0o ∧ a0rn ≤ (2000000 : Nat)) ∧ At (List.length a0o = a0on ∧ List.length a0r = a0rn ∧ smallM a0o ∧ 
  a0rn ≤ (2000000 : Nat)) ∧ At (List.length (usedM a0o a0r a0on a1 a2) = numW a0o a0r a0on a1 a2 a0on ∧ List.length (usedM a0o a0r a0on a1 a2) = numW a0o a0r a0on a1 a2 a0on ∧ smallM 
  (usedM a0o a0r a0on a1 a2) ∧ smallM (usedM a0o a0r a0on a1 a2)) ∧ ((!usedM a0o a0r a0on a1 a2 == usedM a0o a0r a0on a1 a2) = true → K (V.lit false)) ∧ ((!usedM a0o a0r a0on a1 a2 == 
  usedM a0o a0r a0on a1 a2) = false → ((!wkOk a0o a0r a0on a1 a2 == wkOk a0o a0r a0on a1 a2) = true → K (V.lit false)) ∧ ((!wkOk a0o a0r a0on a1 a2 == wkOk a0o a0r a0on a1 a2) = false 
  → (((At (List.length a0o = a0on ∧ List.length a0r = a0rn ∧ smallM a0o ∧ a0rn ≤ (2000000 : Nat)) ∧ (At (List.length a0o = a0on ∧ List.length a0r = a0rn ∧ smallM a0o ∧ a0rn ≤ (2000000 
  : Nat) ∧ List.length a0o = a0on ∧ List.length a0r = a0rn ∧ smallM a0o ∧ a0rn ≤ (2000000 : Nat)) ∧ ((!(a0o == a0o && a0r == a0r)) = true → K (V.lit false)) ∧ ((!(a0o == a0o && a0r == 
  a0r)) = false → At (List.length a0o = a0on ∧ List.length a0r = a0rn ∧ smallM a0o ∧ a0rn ≤ (2000000 : Nat) ∧ (0 : Int) ≤ (1 : Int) ∧ (1 : Int) ≤ (1000 : Int)) ∧ (decide ((1 : Int) + 
  (↑(totL a0o) : Int) + (↑a0rn : Int) < (0 : Int)) = true → K (V.lit false)) ∧ (decide ((1 : Int) + (↑(totL a0o) : Int) + (↑a0rn : Int) < (0 : Int)) = false → At (List.length (usedM a0o 
  a0r a0on a1 a2) = numW a0o a0r a0on a1 a2 a0on ∧ List.length (usedM a0o a0r a0on a1 a2) = numW a0o a0r a0on a1 a2 a0on ∧ smallM (usedM a0o a0r a0on a1 a2) ∧ smallM (usedM a0o a0r a0on 
  a1 a2)) ∧ ((!usedM a0o a0r a0on a1 a2 == usedM a0o a0r a0on a1 a2) = true → K (V.lit false)) ∧ ((!usedM a0o a0r a0on a1 a2 == usedM a0o a0r a0on a1 a2) = false → ((!wkOk a0o a0r a0on 
  a1 a2 == wkOk a0o a0r a0on a1 a2) = true → K (V.lit false)) ∧ ((!wkOk a0o a0r a0on a1 a2 == wkOk a0o a0r a0on a1 a2) = false → At (List.length (usedM a0o a0r a0on a1 a2) = numW a0o 
  a0r a0on a1 a2 a0on ∧ smallM (usedM a0o a0r a0on a1 a2) ∧ (0 : Int) ≤ (1 : Int) ∧ (1 : Int) ≤ (1000000 : Int)) ∧ At (List.length (rampM (1 : Int) (usedM a0o a0r a0on a1 a2)) = numW 
  a0o a0r a0on a1 a2 a0on ∧ smallM (rampM (1 : Int) (usedM a0o a0r a0on a1 a2)) ∧ (0 : Int) ≤ (1 : Int) ∧ (1 : Int) ≤ (1000000 : Int)) ∧ (decide ((bif rampM (1 : Int) (usedM a0o a0r a0on 
  a1 a2) == rampM (1 : Int) (rampM (1 : Int) (usedM a0o a0r a0on a1 a2)) then (1 : Int) + (↑(totL (rampM (1 : Int) (usedM a0o a0r a0on a1 a2))) : Int) else (-1 : Int)) < (0 : Int)) = 
  true → K (V.lit false)) ∧ (decide ((bif rampM (1 : Int) (usedM a0o a0r a0on a1 a2) == rampM (1 : Int) (rampM (1 : Int) (usedM a0o a0r a0on a1 a2)) then (1 : Int) + (↑(totL (rampM (1 
  : Int) (usedM a0o a0r a0on a1 a2))) : Int) else (-1 : Int)) < (0 : Int)) = false → (((bif rampM (1 : Int) (usedM a0o a0r a0on a1 a2) == rampM (1 : Int) (rampM (1 : Int) (usedM a0o a0r 
  a0on a1 a2)) then (1 : Int) + (↑(totL (rampM (1 : Int) (usedM a0o a0r a0on a1 a2))) : Int) else (-1 : Int)) != (1 : Int) + (↑(totL (usedM a0o a0r a0on a1 a2)) : Int)) = true → K (V.lit 
  false)) ∧ (((bif rampM (1 : Int) (usedM a0o a0r a0on a1 a2) == rampM (1 : Int) (rampM (1 : Int) (usedM a0o a0r a0on a1 a2)) then (1 : Int) + (↑(totL (rampM (1 : Int) (usedM a0o a0r 
  a0on a1 a2))) : Int) else (-1 : Int)) != (1 : Int) + (↑(totL (usedM a0o a0r a0on a1 a2)) : Int)) = false → At (List.length a0o = a0on ∧ List.length a0r = a0rn ∧ smallM a0o ∧ a0rn ≤ 
  (2000000 : Nat)) ∧ At (List.length a0o = a0on ∧ List.length a0r = a0rn ∧ smallM a0o ∧ a0rn ≤ (2000000 : Nat)) ∧ At (List.length (usedM a0o a0r a0on a1 a2) = numW a0o a0r a0on a1 a2 
  a0on ∧ List.length (usedM a0o a0r a0on a1 a2) = numW a0o a0r a0on a1 a2 a0on ∧ smallM (usedM a0o a0r a0on a1 a2) ∧ smallM (usedM a0o a0r a0on a1 a2)) ∧ ((!usedM a0o a0r a0on a1 a2 == 
  usedM a0o a0r a0on a1 a2) = true → K (V.lit false)) ∧ ((!usedM a0o a0r a0on a1 a2 == usedM a0o a0r a0on a1 a2) = false → ((!wkOk a0o a0r a0on a1 a2 == wkOk a0o a0r a0on a1 a2) = true 
  → K (V.lit false)) ∧ ((!wkOk a0o a0r a0on a1 a2 == wkOk a0o a0r a0on a1 a2) = false → At (List.length (rampM (1 : Int) (usedM a0o a0r a0on a1 a2)) = numW a0o a0r a0on a1 a2 a0on ∧ smallM 
  (rampM (1 : Int) (usedM a0o a0r a0on a1 a2)) ∧ (0 : Int) ≤ (1 : Int) ∧ (1 : Int) ≤ (1000000 : Int)) ∧ (decide ((bif rampM (1 : Int) (usedM a0o a0r a0on a1 a2) == rampM (1 : Int) (rampM 
  (1 : Int) (usedM a0o a0r a0on a1 a2)) then (1 : Int) + (↑(totL (rampM (1 : Int) (usedM a0o a0r a0on a1 a2))) : Int) else (-1 : Int)) < (0 : Int)) = true → K (V.lit false)) ∧ (decide 
  ((bif rampM (1 : Int) (usedM a0o a0r a0on a1 a2) == rampM (1 : Int) (rampM (1 : Int) (usedM a0o a0r a0on a1 a2)) then (1 : Int) + (↑(totL (rampM (1 : Int) (usedM a0o a0r a0on a1 a2))) 
  : Int) else (-1 : Int)) < (0 : Int)) = false → (((bif rampM (1 : Int) (usedM a0o a0r a0on a1 a2) == rampM (1 : Int) (rampM (1 : Int) (usedM a0o a0r a0on a1 a2)) then (1 : Int) + (↑(totL 
  (rampM (1 : Int) (usedM a0o a0r a0on a1 a2))) : Int) else (-1 : Int)) != (1 : Int) + (↑(totL (usedM a0o a0r a0on a1 a2)) : Int)) = true → K (V.lit false)) ∧ (((bif rampM (1 : Int) (usedM 
  a0o a0r a0on a1 a2) == rampM (1 : Int) (rampM (1 : Int) (usedM a0o a0r a0on a1 a2)) then (1 : Int) + (↑(totL (rampM (1 : Int) (usedM a0o a0r a0on a1 a2))) : Int) else (-1 : Int)) != 
  (1 : Int) + (↑(totL (usedM a0o a0r a0on a1 a2)) : Int)) = false → K (V.lit true)))))))))))) ∧ True) ∧ True) ∧ True) ∧ (((At (List.length a0o = a0on ∧ List.length a0r = a0rn ∧ smallM 
  a0o ∧ a0rn ≤ (2000000 : Nat)) ∧ (At (List.length a0o = a0on ∧ List.length a0r = a0rn ∧ smallM a0o ∧ a0rn ≤ (2000000 : Nat) ∧ List.length a0o = a0on ∧ List.length a0r = a0rn ∧ smallM 
  a0o ∧ a0rn ≤ (2000000 : Nat)) ∧ ((!(a0o == a0o && a0r == a0r)) = true → K (V.lit false)) ∧ ((!(a0o == a0o && a0r == a0r)) = false → At (List.length a0o = a0on ∧ List.length a0r = a0rn 
  ∧ smallM a0o ∧ a0rn ≤ (2000000 : Nat) ∧ (0 : Int) ≤ (1 : Int) ∧ (1 : Int) ≤ (1000 : Int)) ∧ (decide ((1 : Int) + (↑(totL a0o) : Int) + (↑a0rn : Int) < (0 : Int)) = true → K (V.lit false)) 
  ∧ (decide ((1 : Int) + (↑(totL a0o) : Int) + (↑a0rn : Int) < (0 : Int)) = false → At (List.length (usedM a0o a0r a0on a1 a2) = numW a0o a0r a0on a1 a2 a0on ∧ List.length (usedM a0o 
  a0r a0on a1 a2) = numW a0o a0r a0on a1 a2 a0on ∧ smallM (usedM a0o a0r a0on a1 a2) ∧ smallM (usedM a0o a0r a0on a1 a2)) ∧ ((!usedM a0o a0r a0on a1 a2 == usedM a0o a0r a0on a1 a2) = 
  true → K (V.lit false)) ∧ ((!usedM a0o a0r a0on a1 a2 == usedM a0o a0r a0on a1 a2) = false → ((!wkOk a0o a0r a0on a1 a2 == wkOk a0o a0r a0on a1 a2) = true → K (V.lit false)) ∧ ((!wkOk 
  a0o a0r a0on a1 a2 == wkOk a0o a0r a0on a1 a2) = false → At (List.length (usedM a0o a0r a0on a1 a2) = numW a0o a0r a0on a1 a2 a0on ∧ smallM (usedM a0o a0r a0on a1 a2) ∧ (0 : Int) ≤ 
  (1 : Int) ∧ (1 : Int) ≤ (1000000 : Int)) ∧ At (List.length (rampM (1 : Int) (usedM a0o a0r a0on a1 a2)) = numW a0o a0r a0on a1 a2 a0on ∧ smallM (rampM (1 : Int) (usedM a0o a0r a0on 
  a1 a2)) ∧ (0 : Int) ≤ (1 : Int) ∧ (1 : Int) ≤ (1000000 : Int)) ∧ (decide ((bif rampM (1 : Int) (usedM a0o a0r a0on a1 a2) == rampM (1 : Int) (rampM (1 : Int) (usedM a0o a0r a0on a1 
  a2)) then (1 : Int) + (↑(totL (rampM (1 : Int) (usedM a0o a0r a0on a1 a2))) : Int) else (-1 : Int)) < (0 : Int)) = true → K (V.lit false)) ∧ (decide ((bif rampM (1 : Int) (usedM a0o 
  a0r a0on a1 a2) == rampM (1 : Int) (rampM (1 : Int) (usedM a0o a0r a0on a1 a2)) then (1 : Int) + (↑(totL (rampM (1 : Int) (usedM a0o a0r a0on a1 a2))) : Int) else (-1 : Int)) < (0 : 
  Int)) = false → (((bif rampM (1 : Int) (usedM a0o a0r a0on a1 a2) == rampM (1 : Int) (rampM (1 : Int) (usedM a0o a0r a0on a1 a2)) then (1 : Int) + (↑(totL (rampM (1 : Int) (usedM a0o 
  a0r a0on a1 a2))) : Int) else (-1 : Int)) != (1 : Int) + (↑(totL (usedM a0o a0r a0on a1 a2)) : Int)) = true → K (V.lit false)) ∧ (((bif rampM (1 : Int) (usedM a0o a0r a0on a1 a2) == 
  rampM (1 : Int) (rampM (1 : Int) (usedM a0o a0r a0on a1 a2)) then (1 : Int) + (↑(totL (rampM (1 : Int) (usedM a0o a0r a0on a1 a2))) : Int) else (-1 : Int)) != (1 : Int) + (↑(totL (usedM 
  a0o a0r a0on a1 a2)) : Int)) = false → At (List.length a0o = a0on ∧ List.length a0r = a0rn ∧ smallM a0o ∧ a0rn ≤ (2000000 : Nat)) ∧ At (List.length a0o = a0on ∧ List.length a0r = a0rn 
  ∧ smallM a0o ∧ a0rn ≤ (2000000 : Nat)) ∧ At (List.length (usedM a0o a0r a0on a1 a2) = numW a0o a0r a0on a1 a2 a0on ∧ List.length (usedM a0o a0r a0on a1 a2) = numW a0o a0r a0on a1 a2 
  a0on ∧ smallM (usedM a0o a0r a0on a1 a2) ∧ smallM (usedM a0o a0r a0on a1 a2)) ∧ ((!usedM a0o a0r a0on a1 a2 == usedM a0o a0r a0on a1 a2) = true → K (V.lit false)) ∧ ((!usedM a0o a0r 
  a0on a1 a2 == usedM a0o a0r a0on a1 a2) = false → ((!wkOk a0o a0r a0on a1 a2 == wkOk a0o a0r a0on a1 a2) = true → K (V.lit false)) ∧ ((!wkOk a0o a0r a0on a1 a2 == wkOk a0o a0r a0on 
  a1 a2) = false → At (List.length (rampM (1 : Int) (usedM a0o a0r a0on a1 a2)) = numW a0o a0r a0on a1 a2 a0on ∧ smallM (rampM (1 : Int) (usedM a0o a0r a0on a1 a2)) ∧ (0 : Int) ≤ (1 : 
  Int) ∧ (1 : Int) ≤ (1000000 : Int)) ∧ (decide ((bif rampM (1 : Int) (usedM a0o a0r a0on a1 a2) == rampM (1 : Int) (rampM (1 : Int) (usedM a0o a0r a0on a1 a2)) then (1 : Int) + (↑(totL 
  (rampM (1 : Int) (usedM a0o a0r a0on a1 a2))) : Int) else (-1 : Int)) < (0 : Int)) = true → K (V.lit false)) ∧ (decide ((bif rampM (1 : Int) (usedM a0o a0r a0on a1 a2) == rampM (1 : 
  Int) (rampM (1 : Int) (usedM a0o a0r a0on a1 a2)) then (1 : Int) + (↑(totL (rampM (1 : Int) (usedM a0o a0r a0on a1 a2))) : Int) else (-1 : Int)) < (0 : Int)) = false → (((bif rampM 
  (1 : Int) (usedM a0o a0r a0on a1 a2) == rampM (1 : Int) (rampM (1 : Int) (usedM a0o a0r a0on a1 a2)) then (1 : Int) + (↑(totL (rampM (1 : Int) (usedM a0o a0r a0on a1 a2))) : Int) else 
  (-1 : Int)) != (1 : Int) + (↑(totL (usedM a0o a0r a0on a1 a2)) : Int)) = true → K (V.lit false)) ∧ (((bif rampM (1 : Int) (usedM a0o a0r a0on a1 a2) == rampM (1 : Int) (rampM (1 : Int) 
  (usedM a0o a0r a0on a1 a2)) then (1 : Int) + (↑(totL (rampM (1 : Int) (usedM a0o a0r a0on a1 a2))) : Int) else (-1 : Int)) != (1 : Int) + (↑(totL (usedM a0o a0r a0on a1 a2)) : Int)) 
  = false → K (V.lit true)))))))))))) ∧ True) ∧ True) ∧ (At (List.length a0o = a0on ∧ List.length a0r = a0rn ∧ smallM a0o ∧ a0rn ≤ (2000000 : Nat)) ∧ ((At (List.length a0o = a0on ∧ List.length 
  a0r = a0rn ∧ smallM a0o ∧ a0rn ≤ (2000000 : Nat) ∧ List.length a0o = a0on ∧ List.length a0r = a0rn ∧ smallM a0o ∧ a0rn ≤ (2000000 : Nat)) ∧ ((!(a0o == a0o && a0r == a0r)) = true → K 
  (V.lit false)) ∧ ((!(a0o == a0o && a0r == a0r)) = false → At (List.length a0o = a0on ∧ List.length a0r = a0rn ∧ smallM a0o ∧ a0rn ≤ (2000000 : Nat) ∧ (0 : Int) ≤ (1 : Int) ∧ (1 : Int) 
  ≤ (1000 : Int)) ∧ (decide ((1 : Int) + (↑(totL a0o) : Int) + (↑a0rn : Int) < (0 : Int)) = true → K (V.lit false)) ∧ (decide ((1 : Int) + (↑(totL a0o) : Int) + (↑a0rn : Int) < (0 : Int)) 
  = false → At (List.length (usedM a0o a0r a0on a1 a2) = numW a0o a0r a0on a1 a2 a0on ∧ List.length (usedM a0o a0r a0on a1 a2) = numW a0o a0r a0on a1 a2 a0on ∧ smallM (usedM a0o a0r a0on 
  a1 a2) ∧ smallM (usedM a0o a0r a0on a1 a2)) ∧ ((!usedM a0o a0r a0on a1 a2 == usedM a0o a0r a0on a1 a2) = true → K (V.lit false)) ∧ ((!usedM a0o a0r a0on a1 a2 == usedM a0o a0r a0on 
  a1 a2) = false → ((!wkOk a0o a0r a0on a1 a2 == wkOk a0o a0r a0on a1 a2) = true → K (V.lit false)) ∧ ((!wkOk a0o a0r a0on a1 a2 == wkOk a0o a0r a0on a1 a2) = false → At (List.length 
  (usedM a0o a0r a0on a1 a2) = numW a0o a0r a0on a1 a2 a0on ∧ smallM (usedM a0o a0r a0on a1 a2) ∧ (0 : Int) ≤ (1 : Int) ∧ (1 : Int) ≤ (1000000 : Int)) ∧ At (List.length (rampM (1 : Int) 
  (usedM a0o a0r a0on a1 a2)) = numW a0o a0r a0on a1 a2 a0on ∧ smallM (rampM (1 : Int) (usedM a0o a0r a0on a1 a2)) ∧ (0 : Int) ≤ (1 : Int) ∧ (1 : Int) ≤ (1000000 : Int)) ∧ (decide ((bif 
  rampM (1 : Int) (usedM a0o a0r a0on a1 a2) == rampM (1 : Int) (rampM (1 : Int) (usedM a0o a0r a0on a1 a2)) then (1 : Int) + (↑(totL (rampM (1 : Int) (usedM a0o a0r a0on a1 a2))) : Int) 
  else (-1 : Int)) < (0 : Int)) = true → K (V.lit false)) ∧ (decide ((bif rampM (1 : Int) (usedM a0o a0r a0on a1 a2) == rampM (1 : Int) (rampM (1 : Int) (usedM a0o a0r a0on a1 a2)) then 
  (1 : Int) + (↑(totL (rampM (1 : Int) (usedM a0o a0r a0on a1 a2))) : Int) else (-1 : Int)) < (0 : Int)) = false → (((bif rampM (1 : Int) (usedM a0o a0r a0on a1 a2) == rampM (1 : Int) 
  (rampM (1 : Int) (usedM a0o a0r a0on a1 a2)) then (1 : Int) + (↑(totL (rampM (1 : Int) (usedM a0o a0r a0on a1 a2))) : Int) else (-1 : Int)) != (1 : Int) + (↑(totL (usedM a0o a0r a0on 
  a1 a2)) : Int)) = true → K (V.lit false)) ∧ (((bif rampM (1 : Int) (usedM a0o a0r a0on a1 a2) == rampM (1 : Int) (rampM (1 : Int) (usedM a0o a0r a0on a1 a2)) then (1 : Int) + (↑(totL 
  (rampM (1 : Int) (usedM a0o a0r a0on a1 a2))) : Int) else (-1 : Int)) != (1 : Int) + (↑(totL (usedM a0o a0r a0on a1 a2)) : Int)) = false → At (List.length a0o = a0on ∧ List.length a0r 
  = a0rn ∧ smallM a0o ∧ a0rn ≤ (2000000 : Nat)) ∧ At (List.length a0o = a0on ∧ List.length a0r = a0rn ∧ smallM a0o ∧ a0rn ≤ (2000000 : Nat)) ∧ At (List.length (usedM a0o a0r a0on a1 a2) 
  = numW a0o a0r a0on a1 a2 a0on ∧ List.length (usedM a0o a0r a0on a1 a2) = numW a0o a0r a0on a1 a2 a0on ∧ smallM (usedM a0o a0r a0on a1 a2) ∧ smallM (usedM a0o a0r a0on a1 a2)) ∧ ((!usedM 
  a0o a0r a0on a1 a2 == usedM a0o a0r a0on a1 a2) = true → K (V.lit false)) ∧ ((!usedM a0o a0r a0on a1 a2 == usedM a0o a0r a0on a1 a2) = false → ((!wkOk a0o a0r a0on a1 a2 == wkOk a0o 
  a0r a0on a1 a2) = true → K (V.lit false)) ∧ ((!wkOk a0o a0r a0on a1 a2 == wkOk a0o a0r a0on a1 a2) = false → At (List.length (rampM (1 : Int) (usedM a0o a0r a0on a1 a2)) = numW a0o 
  a0r a0on a1 a2 a0on ∧ smallM (rampM (1 : Int) (usedM a0o a0r a0on a1 a2)) ∧ (0 : Int) ≤ (1 : Int) ∧ (1 : Int) ≤ (1000000 : Int)) ∧ (decide ((bif rampM (1 : Int) (usedM a0o a0r a0on 
  a1 a2) == rampM (1 : Int) (rampM (1 : Int) (usedM a0o a0r a0on a1 a2)) then (1 : Int) + (↑(totL (rampM (1 : Int) (usedM a0o a0r a0on a1 a2))) : Int) else (-1 : Int)) < (0 : Int)) = 
  true → K (V.lit false)) ∧ (decide ((bif rampM (1 : Int) (usedM a0o a0r a0on a1 a2) == rampM (1 : Int) (rampM (1 : Int) (usedM a0o a0r a0on a1 a2)) then (1 : Int) + (↑(totL (rampM (1 
  : Int) (usedM a0o a0r a0on a1 a2))) : Int) else (-1 : Int)) < (0 : Int)) = false → (((bif rampM (1 : Int) (usedM a0o a0r a0on a1 a2) == rampM (1 : Int) (rampM (1 : Int) (usedM a0o a0r 
  a0on a1 a2)) then (1 : Int) + (↑(totL (rampM (1 : Int) (usedM a0o a0r a0on a1 a2))) : Int) else (-1 : Int)) != (1 : Int) + (↑(totL (usedM a0o a0r a0on a1 a2)) : Int)) = true → K (V.lit 
  false)) ∧ (((bif rampM (1 : Int) (usedM a0o a0r a0on a1 a2) == rampM (1 : Int) (rampM (1 : Int) (usedM a0o a0r a0on a1 a2)) then (1 : Int) + (↑(totL (rampM (1 : Int) (usedM a0o a0r 
  a0on a1 a2))) : Int) else (-1 : Int)) != (1 : Int) + (↑(totL (usedM a0o a0r a0on a1 a2)) : Int)) = false → K (V.lit true)))))))))))) ∧ True) ∧ True) ∧ True) ∧ True)))

theorem vc_LawLinesUsed (a0on : Nat) (a0o : List (List Int)) (a0rn : Nat) (a0r : List Int) (a1 : Int) (a2 : Int) (ha0o : a0o.length = a0on ∧ (a0on : Int) ≤ 9223372036854775807 ∧ ∀ r ∈ a0o, (r.length : Int) ≤ 9223372036854775807) (ha0r : a0r.length = a0rn * 1 ∧ (a0rn : Int) ≤ 9223372036854775807) (ha1 : -9223372036854775808 ≤ a1 ∧ a1 ≤ 9223372036854775807) (ha2 : -9223372036854775808 ≤ a2 ∧ a2 ≤ 9223372036854775807) : VC_LawLinesUsed a0on a0o a0rn a0r a1 a2 (retP (.bool true)) := by
  obtain ⟨ho1, ho2, ho3⟩ := ha0o
  obtain ⟨hr1, hr2⟩ := ha0r
  rw [Nat.mul_one] at hr1
  subst ho1; subst hr1
  unfold VC_LawLinesUsed
  refine ⟨⟨by omega, by omega, ho2, rfl, ho3, rfl, hr2⟩, fun _ => by simp [retP_lit], fun hs => ?_⟩
  have hs := of_decide_eq_false hs
  obtain ⟨s1, s2⟩ := szR_nn (l := a0o) (ro := a0r) (left := 1048576) (by omega) (by omega)
  have n1 : ¬ ((1 : Int) + (totL a0o : Nat) + (a0r.length : Nat) < 0) := by omega
  obtain ⟨t1, t4⟩ := law_used (l := a0o) (ro := a0r) (x := a1) (steps := a2) s1
  have t6 := smallM_ramp (q := 1) t4
  have n2 : ¬ ((1 : Int) + (totL (usedM a0o a0r a0o.length a1 a2) : Nat) < 0) := by omega
  simp [retP_lit, s1, s2, t1, t4, t6, rampM_len, rampM_idem, totL_ramp, n1, n2]
end Go.Vi
