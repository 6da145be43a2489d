/- The conditions of FnExactResetRoute. -/
import Derived.Test.YtopolpgligoldacREPf
namespace Go.Vi
set_option linter.unusedVariables false
def VC_LawResetRoute (a0on : Nat) (a0o : List (List Int)) (a0rn : Nat) (a0r : List Int) (K : V → Prop) : Prop := At ((0 : Int) ≤ (1048576 : Int) ∧ (1048576 : Int) ≤ (1048576 : Int) 
  ∧ (↑a0on : Int) ≤ (9223372036854775807 : Int) ∧ List.length a0o = a0on ∧ (∀ (r : List Int), r ∈ a0o → (↑(List.length r) : Int) ≤ (9223372036854775807 : Int)) ∧ List.length a0r = a0rn 
  ∧ (↑a0rn : Int) ≤ (9223372036854775807 : Int)) ∧ (decide (szR a0o a0r (1048576 : Int) < (0 : Int)) = true → K (V.lit true)) ∧ (decide (szR a0o a0r (1048576 : Int) < (0 : Int)) = false 
  → At (List.length a0o = a0on ∧ List.length a0r = a0rn ∧ smallM a0o ∧ a0rn ≤ (2000000 : Nat)) ∧ At (List.length a0o = a0on ∧ List.length a0r = a0rn ∧ smallM a0o ∧ a0rn ≤ (2000000 : Nat)) 
  ∧ At (List.length a0o = a0on ∧ List.length a0r = a0rn ∧ smallM a0o ∧ a0rn ≤ (2000000 : Nat)) ∧ At (List.length a0o = a0on ∧ List.length a0r = a0rn ∧ smallM a0o ∧ a0rn ≤ (2000000 : Nat)) 
  ∧ At (List.length (zeroL a0o a0r) = numZ a0o a0r a0on ∧ List.length (List.replicate (numZ a0o a0r a0on) (0 : Int)) = numZ a0o a0r a0on ∧ smallM (zeroL a0o a0r) ∧ numZ a0o a0r a0on ≤ 
  (2000000 : Nat) ∧ List.length (zeroL a0o a0r) = numZ a0o a0r a0on ∧ List.length (List.replicate (numZ a0o a0r a0on) (0 : Int)) = numZ a0o a0r a0on ∧ smallM (zeroL a0o a0r) ∧ numZ a0o 
  a0r a0on ≤ (2000000 : Nat)) ∧ ((!(zeroL a0o a0r == zeroL a0o a0r && List.replicate (numZ a0o a0r a0on) (0 : Int) == List.replicate (numZ a0o a0r a0on) (0 : Int))) = true → K (V.lit 
  false)) ∧ ((!(zeroL a0o a0r == zeroL a0o a0r && List.replicate (numZ a0o a0r a0on) (0 : Int) == List.replicate (numZ a0o a0r a0on) (0 : Int))) = false → ((!routeB a0o a0r == routeB 
  a0o a0r) = true → K (V.lit false)) ∧ ((!routeB a0o a0r == routeB a0o a0r) = false → (((At (List.length a0o = a0on ∧ List.length a0r = a0rn ∧ smallM a0o ∧ a0rn ≤ (2000000 : Nat)) ∧ (At 
  (List.length a0o = a0on ∧ List.length a0r = a0rn ∧ smallM a0o ∧ a0rn ≤ (2000000 : Nat) ∧ List.length a0o = a0on ∧ List.length a0r = a0rn ∧ smallM a0o ∧ a0rn ≤ (2000000 : Nat)) ∧ ((!(a0o 
  == a0o && a0r == a0r)) = true → K (V.lit false)) ∧ ((!(a0o == a0o && a0r == a0r)) = false → At (List.length a0o = a0on ∧ List.length a0r = a0rn ∧ smallM a0o ∧ a0rn ≤ (2000000 : Nat) 
  ∧ (0 : Int) ≤ (1 : Int) ∧ (1 : Int) ≤ (1000 : Int)) ∧ (decide ((1 : Int) + (↑(totL a0o) : Int) + (↑a0rn : Int) < (0 : Int)) = true → K (V.lit false)) ∧ (decide ((1 : Int) + (↑(totL 
  a0o) : Int) + (↑a0rn : Int) < (0 : Int)) = false → At (List.length (zeroL a0o a0r) = numZ a0o a0r a0on ∧ List.length (List.replicate (numZ a0o a0r a0on) (0 : Int)) = numZ a0o a0r a0on 
  ∧ smallM (zeroL a0o a0r) ∧ numZ a0o a0r a0on ≤ (2000000 : Nat) ∧ List.length (zeroL a0o a0r) = numZ a0o a0r a0on ∧ List.length (List.replicate (numZ a0o a0r a0on) (0 : Int)) = numZ 
  a0o a0r a0on ∧ smallM (zeroL a0o a0r) ∧ numZ a0o a0r a0on ≤ (2000000 : Nat)) ∧ ((!(zeroL a0o a0r == zeroL a0o a0r && List.replicate (numZ a0o a0r a0on) (0 : Int) == List.replicate (numZ 
  a0o a0r a0on) (0 : Int))) = true → K (V.lit false)) ∧ ((!(zeroL a0o a0r == zeroL a0o a0r && List.replicate (numZ a0o a0r a0on) (0 : Int) == List.replicate (numZ a0o a0r a0on) (0 : Int))) 
  = false → ((!routeB a0o a0r == routeB a0o a0r) = true → K (V.lit false)) ∧ ((!routeB a0o a0r == routeB a0o a0r) = false → At (List.length (zeroL a0o a0r) = numZ a0o a0r a0on ∧ List.length 
  (List.replicate (numZ a0o a0r a0on) (0 : Int)) = numZ a0o a0r a0on ∧ smallM (zeroL a0o a0r) ∧ numZ a0o a0r a0on ≤ (2000000 : Nat) ∧ (0 : Int) ≤ (1 : Int) ∧ (1 : Int) ≤ (1000 : Int)) 
  ∧ At (List.length (rampM (1 : Int) (zeroL a0o a0r)) = numZ a0o a0r a0on ∧ List.length (ramp ((1 : Int) + (↑(totL (zeroL a0o a0r)) : Int)) (numZ a0o a0r a0on)) = numZ a0o a0r a0on ∧ 
  smallM (rampM (1 : Int) (zeroL a0o a0r)) ∧ numZ a0o a0r a0on ≤ (2000000 : Nat) ∧ (0 : Int) ≤ (1 : Int) ∧ (1 : Int) ≤ (1000 : Int)) ∧ (decide ((bif rampM (1 : Int) (zeroL a0o a0r) == 
  rampM (1 : Int) (rampM (1 : Int) (zeroL a0o a0r)) && ramp ((1 : Int) + (↑(totL (zeroL a0o a0r)) : Int)) (numZ a0o a0r a0on) == ramp ((1 : Int) + (↑(totL (rampM (1 : Int) (zeroL a0o 
  a0r))) : Int)) (numZ a0o a0r a0on) then (1 : Int) + (↑(totL (rampM (1 : Int) (zeroL a0o a0r))) : Int) + (↑(numZ a0o a0r a0on) : Int) else (-1 : Int)) < (0 : Int)) = true → K (V.lit 
  false)) ∧ (decide ((bif rampM (1 : Int) (zeroL a0o a0r) == rampM (1 : Int) (rampM (1 : Int) (zeroL a0o a0r)) && ramp ((1 : Int) + (↑(totL (zeroL a0o a0r)) : Int)) (numZ a0o a0r a0on) 
  == ramp ((1 : Int) + (↑(totL (rampM (1 : Int) (zeroL a0o a0r))) : Int)) (numZ a0o a0r a0on) then (1 : Int) + (↑(totL (rampM (1 : Int) (zeroL a0o a0r))) : Int) + (↑(numZ a0o a0r a0on) 
  : Int) else (-1 : Int)) < (0 : Int)) = false → (((bif rampM (1 : Int) (zeroL a0o a0r) == rampM (1 : Int) (rampM (1 : Int) (zeroL a0o a0r)) && ramp ((1 : Int) + (↑(totL (zeroL a0o a0r)) 
  : Int)) (numZ a0o a0r a0on) == ramp ((1 : Int) + (↑(totL (rampM (1 : Int) (zeroL a0o a0r))) : Int)) (numZ a0o a0r a0on) then (1 : Int) + (↑(totL (rampM (1 : Int) (zeroL a0o a0r))) : 
  Int) + (↑(numZ a0o a0r a0on) : Int) else (-1 : Int)) != (1 : Int) + (↑(totL (zeroL a0o a0r)) : Int) + (↑(numZ a0o a0r a0on) : Int)) = true → K (V.lit false)) ∧ (((bif rampM (1 : Int) 
  (zeroL a0o a0r) == rampM (1 : Int) (rampM (1 : Int) (zeroL a0o a0r)) && ramp ((1 : Int) + (↑(totL (zeroL a0o a0r)) : Int)) (numZ a0o a0r a0on) == ramp ((1 : Int) + (↑(totL (rampM (1 
  : Int) (zeroL a0o a0r))) : Int)) (numZ a0o a0r a0on) then (1 : Int) + (↑(totL (rampM (1 : Int) (zeroL a0o a0r))) : Int) + (↑(numZ a0o a0r a0on) : Int) else (-1 : Int)) != (1 : Int) 
  + (↑(totL (zeroL a0o a0r)) : Int) + (↑(numZ a0o a0r a0on) : Int)) = false → At (List.length a0o = a0on ∧ List.length a0r = a0rn ∧ smallM a0o ∧ a0rn ≤ (2000000 : Nat)) ∧ At (List.length 
  a0o = a0on ∧ List.length a0r = a0rn ∧ smallM a0o ∧ a0rn ≤ (2000000 : Nat)) ∧ At (List.length (zeroL a0o a0r) = numZ a0o a0r a0on ∧ List.length (List.replicate (numZ a0o a0r a0on) (0 
  : Int)) = numZ a0o a0r a0on ∧ smallM (zeroL a0o a0r) ∧ numZ a0o a0r a0on ≤ (2000000 : Nat) ∧ List.length (zeroL a0o a0r) = numZ a0o a0r a0on ∧ List.length (List.replicate (numZ a0o 
  a0r a0on) (0 : Int)) = numZ a0o a0r a0on ∧ smallM (zeroL a0o a0r) ∧ numZ a0o a0r a0on ≤ (2000000 : Nat)) ∧ ((!(zeroL a0o a0r == zeroL a0o a0r && List.replicate (numZ a0o a0r a0on) (0 
  : Int) == List.replicate (numZ a0o a0r a0on) (0 : Int))) = true → K (V.lit false)) ∧ ((!(zeroL a0o a0r == zeroL a0o a0r && List.replicate (numZ a0o a0r a0on) (0 : Int) == List.replicate 
  (numZ a0o a0r a0on) (0 : Int))) = false → ((!routeB a0o a0r == routeB a0o a0r) = true → K (V.lit false)) ∧ ((!routeB a0o a0r == routeB a0o a0r) = false → At (List.length (rampM (1 : 
  Int) (zeroL a0o a0r)) = numZ a0o a0r a0on ∧ List.length (ramp ((1 : Int) + (↑(totL (zeroL a0o a0r)) : Int)) (numZ a0o a0r a0on)) = numZ a0o a0r a0on ∧ smallM (rampM (1 : Int) (zeroL 
  a0o a0r)) ∧ numZ a0o a0r a0on ≤ (2000000 : Nat) ∧ (0 : Int) ≤ (1 : Int) ∧ (1 : Int) ≤ (1000 : Int)) ∧ (decide ((bif rampM (1 : Int) (zeroL a0o a0r) == rampM (1 : Int) (rampM (1 : Int) 
  (zeroL a0o a0r)) && ramp ((1 : Int) + (↑(totL (zeroL a0o a0r)) : Int)) (numZ a0o a0r a0on) == ramp ((1 : Int) + (↑(totL (rampM (1 : Int) (zeroL a0o a0r))) : Int)) (numZ a0o a0r a0on) 
  then (1 : Int) + (↑(totL (rampM (1 : Int) (zeroL a0o a0r))) : Int) + (↑(numZ a0o a0r a0on) : Int) else (-1 : Int)) < (0 : Int)) = true → K (V.lit false)) ∧ (decide ((bif rampM (1 : 
  Int) (zeroL a0o a0r) == rampM (1 : Int) (rampM (1 : Int) (zeroL a0o a0r)) && ramp ((1 : Int) + (↑(totL (zeroL a0o a0r)) : Int)) (numZ a0o a0r a0on) == ramp ((1 : Int) + (↑(totL (rampM 
  (1 : Int) (zeroL a0o a0r))) : Int)) (numZ a0o a0r a0on) then (1 : Int) + (↑(totL (rampM (1 : Int) (zeroL a0o a0r))) : Int) + (↑(numZ a0o a0r a0on) : Int) else (-1 : Int)) < (0 : Int)) 
  = false → (((bif rampM (1 : Int) (zeroL a0o a0r) == rampM (1 : Int) (rampM (1 : Int) (zeroL a0o a0r)) && ramp ((1 : Int) + (↑(totL (zeroL a0o a0r)) : Int)) (numZ a0o a0r a0on) == ramp 
  ((1 : Int) + (↑(totL (rampM (1 : Int) (zeroL a0o a0r))) : Int)) (numZ a0o a0r a0on) then (1 : Int) + (↑(totL (rampM (1 : Int) (zeroL a0o a0r))) : Int) + (↑(numZ a0o a0r a0on) : Int) 
  else (-1 : Int)) != (1 : Int) + (↑(totL (zeroL a0o a0r)) : Int) + (↑(numZ a0o a0r a0on) : Int)) = true → K (V.lit false)) ∧ (((bif rampM (1 : Int) (zeroL a0o a0r) == rampM (1 : Int) 
  (rampM (1 : Int) (zeroL a0o a0r)) && ramp ((1 : Int) + (↑(totL (zeroL a0o a0r)) : Int)) (numZ a0o a0r a0on) == ramp ((1 : Int) + (↑(totL (rampM (1 : Int) (zeroL a0o a0r))) : Int)) (numZ 
  a0o a0r a0on) then (1 : Int) + (↑(totL (rampM (1 : Int) (zeroL a0o a0r))) : Int) + (↑(numZ a0o a0r a0on) : Int) else (-1 : Int)) != (1 : Int) + (↑(totL (zeroL a0o a0r)) : Int) + (↑(numZ 
  a0o a0r a0on) : Int)) = false → K (V.lit true)))))))))))) ∧ True) ∧ True) ∧ True) ∧ (((At (List.length a0o = a0on ∧ List.length a0r = a0rn ∧ smallM a0o ∧ a0rn ≤ (2000000 : Nat)) ∧ (At 
  (List.length a0o = a0on ∧ List.length a0r = a0rn ∧ smallM a0o ∧ a0rn ≤ (2000000 : Nat) ∧ List.length a0o = a0on ∧ List.length a0r = a0rn ∧ smallM a0o ∧ a0rn ≤ (2000000 : Nat)) ∧ ((!(a0o 
  == a0o && a0r == a0r)) = true → K (V.lit false)) ∧ ((!(a0o == a0o && a0r == a0r)) = false → At (List.length a0o = a0on ∧ List.length a0r = a0rn ∧ smallM a0o ∧ a0rn ≤ (2000000 : Nat) 
  ∧ (0 : Int) ≤ (1 : Int) ∧ (1 : Int) ≤ (1000 : Int)) ∧ (decide ((1 : Int) + (↑(totL a0o) : Int) + (↑a0rn : Int) < (0 : Int)) = true → K (V.lit false)) ∧ (decide ((1 : Int) + (↑(totL 
  a0o) : Int) + (↑a0rn : Int) < (0 : Int)) = false → At (List.length (zeroL a0o a0r) = numZ a0o a0r a0on ∧ List.length (List.replicate (numZ a0o a0r a0on) (0 : Int)) = numZ a0o a0r a0on 
  ∧ smallM (zeroL a0o a0r) ∧ numZ a0o a0r a0on ≤ (2000000 : Nat) ∧ List.length (zeroL a0o a0r) = numZ a0o a0r a0on ∧ List.length (List.replicate (numZ a0o a0r a0on) (0 : Int)) = numZ 
  a0o a0r a0on ∧ smallM (zeroL a0o a0r) ∧ numZ a0o a0r a0on ≤ (2000000 : Nat)) ∧ ((!(zeroL a0o a0r == zeroL a0o a0r && List.replicate (numZ a0o a0r a0on) (0 : Int) == List.replicate (numZ 
  a0o a0r a0on) (0 : Int))) = true → K (V.lit false)) ∧ ((!(zeroL a0o a0r == zeroL a0o a0r && List.replicate (numZ a0o a0r a0on) (0 : Int) == List.replicate (numZ a0o a0r a0on) (0 : Int))) 
  = false → ((!routeB a0o a0r == routeB a0o a0r) = true → K (V.lit false)) ∧ ((!routeB a0o a0r == routeB a0o a0r) = false → At (List.length (zeroL a0o a0r) = numZ a0o a0r a0on ∧ List.length 
  (List.replicate (numZ a0o a0r a0on) (0 : Int)) = numZ a0o a0r a0on ∧ smallM (zeroL a0o a0r) ∧ numZ a0o a0r a0on ≤ (2000000 : Nat) ∧ (0 : Int) ≤ (1 : Int) ∧ (1 : Int) ≤ (1000 : Int)) 
  ∧ At (List.length (rampM (1 : Int) (zeroL a0o a0r)) = numZ a0o a0r a0on ∧ List.length (ramp ((1 : Int) + (↑(totL (zeroL a0o a0r)) : Int)) (numZ a0o a0r a0on)) = numZ a0o a0r a0on ∧ 
  smallM (rampM (1 : Int) (zeroL a0o a0r)) ∧ numZ a0o a0r a0on ≤ (2000000 : Nat) ∧ (0 : Int) ≤ (1 : Int) ∧ (1 : Int) ≤ (1000 : Int)) ∧ (decide ((bif rampM (1 : Int) (zeroL a0o a0r) == 
  rampM (1 : Int) (rampM (1 : Int) (zeroL a0o a0r)) && ramp ((1 : Int) + (↑(totL (zeroL a0o a0r)) : Int)) (numZ a0o a0r a0on) == ramp ((1 : Int) + (↑(totL (rampM (1 : Int) (zeroL a0o 
  a0r))) : Int)) (numZ a0o a0r a0on) then (1 : Int) + (↑(totL (rampM (1 : Int) (zeroL a0o a0r))) : Int) + (↑(numZ a0o a0r a0on) : Int) else (-1 : Int)) < (0 : Int)) = true → K (V.lit 
  false)) ∧ (decide ((bif rampM (1 : Int) (zeroL a0o a0r) == rampM (1 : Int) (rampM (1 : Int) (zeroL a0o a0r)) && ramp ((1 : Int) + (↑(totL (zeroL a0o a0r)) : Int)) (numZ a0o a0r a0on) 
  == ramp ((1 : Int) + (↑(totL (rampM (1 : Int) (zeroL a0o a0r))) : Int)) (numZ a0o a0r a0on) then (1 : Int) + (↑(totL (rampM (1 : Int) (zeroL a0o a0r))) : Int) + (↑(numZ a0o a0r a0on) 
  : Int) else (-1 : Int)) < (0 : Int)) = false → (((bif rampM (1 : Int) (zeroL a0o a0r) == rampM (1 : Int) (rampM (1 : Int) (zeroL a0o a0r)) && ramp ((1 : Int) + (↑(totL (zeroL a0o a0r)) 
  : Int)) (numZ a0o a0r a0on) == ramp ((1 : Int) + (↑(totL (rampM (1 : Int) (zeroL a0o a0r))) : Int)) (numZ a0o a0r a0on) then (1 : Int) + (↑(totL (rampM (1 : Int) (zeroL a0o a0r))) : 
  Int) + (↑(numZ a0o a0r a0on) : Int) else (-1 : Int)) != (1 : Int) + (↑(totL (zeroL a0o a0r)) : Int) + (↑(numZ a0o a0r a0on) : Int)) = true → K (V.lit false)) ∧ (((bif rampM (1 : Int) 
  (zeroL a0o a0r) == rampM (1 : Int) (rampM (1 : Int) (zeroL a0o a0r)) && ramp ((1 : Int) + (↑(totL (zeroL a0o a0r)) : Int)) (numZ a0o a0r a0on) == ramp ((1 : Int) + (↑(totL (rampM (1 
  : Int) (zeroL a0o a0r))) : Int)) (numZ a0o a0r a0on) then (1 : Int) + (↑(totL (rampM (1 : Int) (zeroL a0o a0r))) : Int) + (↑(numZ a0o a0r a0on) : Int) else (-1 : Int)) != (1 : Int) 
  + (↑(totL (zeroL a0o a0r)) : Int) + (↑(numZ a0o a0r a0on) : Int)) = false → At (List.length a0o = a0on ∧ List.length a0r = a0rn ∧ smallM a0o ∧ a0rn ≤ (2000000 : Nat)) ∧ At (List.length 
  a0o = a0on ∧ List.length a0r = a0rn ∧ smallM a0o ∧ a0rn ≤ (2000000 : Nat)) ∧ At (List.length (zeroL a0o a0r) = numZ a0o a0r a0on ∧ List.length (List.replicate (numZ a0o a0r a0on) (0 
  : Int)) = numZ a0o a0r a0on ∧ smallM (zeroL a0o a0r) ∧ numZ a0o a0r a0on ≤ (2000000 : Nat) ∧ List.length (zeroL a0o a0r) = numZ a0o a0r a0on ∧ List.length (List.replicate (numZ a0o 
  a0r a0on) (0 : Int)) = numZ a0o a0r a0on ∧ smallM (zeroL a0o a0r) ∧ numZ a0o a0r a0on ≤ (2000000 : Nat)) ∧ ((!(zeroL a0o a0r == zeroL a0o a0r && List.replicate (numZ a0o a0r a0on) (0 
  : Int) == List.replicate (numZ a0o a0r a0on) (0 : Int))) = true → K (V.lit false)) ∧ ((!(zeroL a0o a0r == zeroL a0o a0r && List.replicate (numZ a0o a0r a0on) (0 : Int) == List.replicate 
  (numZ a0o a0r a0on) (0 : Int))) = false → ((!routeB a0o a0r == routeB a0o a0r) = true → K (V.lit false)) ∧ ((!routeB a0o a0r == routeB a0o a0r) = false → At (List.length (rampM (1 : 
  Int) (zeroL a0o a0r)) = numZ a0o a0r a0on ∧ List.length (ramp ((1 : Int) + (↑(totL (zeroL a0o a0r)) : Int)) (numZ a0o a0r a0on)) = numZ a0o a0r a0on ∧ smallM (rampM (1 : Int) (zeroL 
  a0o a0r)) ∧ numZ a0o a0r a0on ≤ (2000000 : Nat) ∧ (0 : Int) ≤ (1 : Int) ∧ (1 : Int) ≤ (1000 : Int)) ∧ (decide ((bif rampM (1 : Int) (zeroL a0o a0r) == rampM (1 : Int) (rampM (1 : Int) 
  (zeroL a0o a0r)) && ramp ((1 : Int) + (↑(totL (zeroL a0o a0r)) : Int)) (numZ a0o a0r a0on) == ramp ((1 : Int) + (↑(totL (rampM (1 : Int) (zeroL a0o a0r))) : Int)) (numZ a0o a0r a0on) 
  then (1 : Int) + (↑(totL (rampM (1 : Int) (zeroL a0o a0r))) : Int) + (↑(numZ a0o a0r a0on) : Int) else (-1 : Int)) < (0 : Int)) = true → K (V.lit false)) ∧ (decide ((bif rampM (1 : 
  Int) (zeroL a0o a0r) == rampM (1 : Int) (rampM (1 : Int) (zeroL a0o a0r)) && ramp ((1 : Int) + (↑(totL (zeroL a0o a0r)) : Int)) (numZ a0o a0r a0on) == ramp ((1 : Int) + (↑(totL (rampM 
  (1 : Int) (zeroL a0o a0r))) : Int)) (numZ a0o a0r a0on) then (1 : Int) + (↑(totL (rampM (1 : Int) (zeroL a0o a0r))) : Int) + (↑(numZ a0o a0r a0on) : Int) else (-1 : Int)) < (0 : Int)) 
  = false → (((bif rampM (1 : Int) (zeroL a0o a0r) == rampM (1 : Int) (rampM (1 : Int) (zeroL a0o a0r)) && ramp ((1 : Int) + (↑(totL (zeroL a0o a0r)) : Int)) (numZ a0o a0r a0on) == ramp 
  ((1 : Int) + (↑(totL (rampM (1 : Int) (zeroL a0o a0r))) : Int)) (numZ a0o a0r a0on) then (1 : Int) + (↑(totL (rampM (1 : Int) (zeroL a0o a0r))) : Int) + (↑(numZ a0o a0r a0on) : Int) 
  else (-1 : Int)) != (1 : Int) + (↑(totL (zeroL a0o a0r)) : Int) + (↑(numZ a0o a0r a0on) : Int)) = true → K (V.lit false)) ∧ (((bif rampM (1 : Int) (zeroL a0o a0r) == rampM (1 : Int) 
  (rampM (1 : Int) (zeroL a0o a0r)) && ramp ((1 : Int) + (↑(totL (zeroL a0o a0r)) : Int)) (numZ a0o a0r a0on) == ramp ((1 : Int) + (↑(totL (rampM (1 : Int) (zeroL a0o a0r))) : Int)) (numZ 
  a0o a0r a0on) then (1 : Int) + (↑(totL (rampM (1 : Int) (zeroL a0o a0r))) : Int) + (↑(numZ a0o a0r a0on) : Int) else (-1 : Int)) != (1 : Int) + (↑(totL (zeroL a0o a0r)) : Int) + (↑(numZ 
  a0o a0r a0on) : Int)) = false → K (V.lit true)))))))))))) ∧ True) ∧ True) ∧ (At (List.length a0o = a0on ∧ List.length a0r = a0rn ∧ smallM a0o ∧ a0rn ≤ (2000000 : Nat)) ∧ ((At (List.length 
  a0o = a0on ∧ List.length a0r = a0rn ∧ smallM a0o ∧ a0rn ≤ (2000000 : Nat) ∧ List.length a0o = a0on ∧ List.length a0r = a0rn ∧ smallM a0o ∧ a0rn ≤ (2000000 : Nat)) ∧ ((!(a0o == a0o && 
  a0r == a0r)) = true → K (V.lit false)) ∧ ((!(a0o == a0o && a0r == a0r)) = false → At (List.length a0o = a0on ∧ List.length a0r = a0rn ∧ smallM a0o ∧ a0rn ≤ (2000000 : Nat) ∧ (0 : Int) 
  ≤ (1 : Int) ∧ (1 : Int) ≤ (1000 : Int)) ∧ (decide ((1 : Int) + (↑(totL a0o) : Int) + (↑a0rn : Int) < (0 : Int)) = true → K (V.lit false)) ∧ (decide ((1 : Int) + (↑(totL a0o) : Int) 
  + (↑a0rn : Int) < (0 : Int)) = false → At (List.length (zeroL a0o a0r) = numZ a0o a0r a0on ∧ List.length (List.replicate (numZ a0o a0r a0on) (0 : Int)) = numZ a0o a0r a0on ∧ smallM 
  (zeroL a0o a0r) ∧ numZ a0o a0r a0on ≤ (2000000 : Nat) ∧ List.length (zeroL a0o a0r) = numZ a0o a0r a0on ∧ List.length (List.replicate (numZ a0o a0r a0on) (0 : Int)) = numZ a0o a0r a0on 
  ∧ smallM (zeroL a0o a0r) ∧ numZ a0o a0r a0on ≤ (2000000 : Nat)) ∧ ((!(zeroL a0o a0r == zeroL a0o a0r && List.replicate (numZ a0o a0r a0on) (0 : Int) == List.replicate (numZ a0o a0r 
  a0on) (0 : Int))) = true → K (V.lit false)) ∧ ((!(zeroL a0o a0r == zeroL a0o a0r && List.replicate (numZ a0o a0r a0on) (0 : Int) == List.replicate (numZ a0o a0r a0on) (0 : Int))) = 
  false → ((!routeB a0o a0r == routeB a0o a0r) = true → K (V.lit false)) ∧ ((!routeB a0o a0r == routeB a0o a0r) = false → At (List.length (zeroL a0o a0r) = numZ a0o a0r a0on ∧ List.length 
  (List.replicate (numZ a0o a0r a0on) (0 : Int)) = numZ a0o a0r a0on ∧ smallM (zeroL a0o a0r) ∧ numZ a0o a0r a0on ≤ (2000000 : Nat) ∧ (0 : Int) ≤ (1 : Int) ∧ (1 : Int) ≤ (1000 : Int)) 
  ∧ At (List.length (rampM (1 : Int) (zeroL a0o a0r)) = numZ a0o a0r a0on ∧ List.length (ramp ((1 : Int) + (↑(totL (zeroL a0o a0r)) : Int)) (numZ a0o a0r a0on)) = numZ a0o a0r a0on ∧ 
  smallM (rampM (1 : Int) (zeroL a0o a0r)) ∧ numZ a0o a0r a0on ≤ (2000000 : Nat) ∧ (0 : Int) ≤ (1 : Int) ∧ (1 : Int) ≤ (1000 : Int)) ∧ (decide ((bif rampM (1 : Int) (zeroL a0o a0r) == 
  rampM (1 : Int) (rampM (1 : Int) (zeroL a0o a0r)) && ramp ((1 : Int) + (↑(totL (zeroL a0o a0r)) : Int)) (numZ a0o a0r a0on) == ramp ((1 : Int) + (↑(totL (rampM (1 : Int) (zeroL a0o 
  a0r))) : Int)) (numZ a0o a0r a0on) then (1 : Int) + (↑(totL (rampM (1 : Int) (zeroL a0o a0r))) : Int) + (↑(numZ a0o a0r a0on) : Int) else (-1 : Int)) < (0 : Int)) = true → K (V.lit 
  false)) ∧ (decide ((bif rampM (1 : Int) (zeroL a0o a0r) == rampM (1 : Int) (rampM (1 : Int) (zeroL a0o a0r)) && ramp ((1 : Int) + (↑(totL (zeroL a0o a0r)) : Int)) (numZ a0o a0r a0on) 
  == ramp ((1 : Int) + (↑(totL (rampM (1 : Int) (zeroL a0o a0r))) : Int)) (numZ a0o a0r a0on) then (1 : Int) + (↑(totL (rampM (1 : Int) (zeroL a0o a0r))) : Int) + (↑(numZ a0o a0r a0on) 
  : Int) else (-1 : Int)) < (0 : Int)) = false → (((bif rampM (1 : Int) (zeroL a0o a0r) == rampM (1 : Int) (rampM (1 : Int) (zeroL a0o a0r)) && ramp ((1 : Int) + (↑(totL (zeroL a0o a0r)) 
  : Int)) (numZ a0o a0r a0on) == ramp ((1 : Int) + (↑(totL (rampM (1 : Int) (zeroL a0o a0r))) : Int)) (numZ a0o a0r a0on) then (1 : Int) + (↑(totL (rampM (1 : Int) (zeroL a0o a0r))) : 
  Int) + (↑(numZ a0o a0r a0on) : Int) else (-1 : Int)) != (1 : Int) + (↑(totL (zeroL a0o a0r)) : Int) + (↑(numZ a0o a0r a0on) : Int)) = true → K (V.lit false)) ∧ (((bif rampM (1 : Int) 
  (zeroL a0o a0r) == rampM (1 : Int) (rampM (1 : Int) (zeroL a0o a0r)) && ramp ((1 : Int) + (↑(totL (zeroL a0o a0r)) : Int)) (numZ a0o a0r a0on) == ramp ((1 : Int) + (↑(totL (rampM (1 
  : Int) (zeroL a0o a0r))) : Int)) (numZ a0o a0r a0on) then (1 : Int) + (↑(totL (rampM (1 : Int) (zeroL a0o a0r))) : Int) + (↑(numZ a0o a0r a0on) : Int) else (-1 : Int)) != (1 : Int) 
  + (↑(totL (zeroL a0o a0r)) : Int) + (↑(numZ a0o a0r a0on) : Int)) = false → At (List.length a0o = a0on ∧ List.length a0r = a0rn ∧ smallM a0o ∧ a0rn ≤ (2000000 : Nat)) ∧ At (List.length 
  a0o = a0on ∧ List.length a0r = a0rn ∧ smallM a0o ∧ a0rn ≤ (2000000 : Nat)) ∧ At (List.length (zeroL a0o a0r) = numZ a0o a0r a0on ∧ List.length (List.replicate (numZ a0o a0r a0on) (0 
  : Int)) = numZ a0o a0r a0on ∧ smallM (zeroL a0o a0r) ∧ numZ a0o a0r a0on ≤ (2000000 : Nat) ∧ List.length (zeroL a0o a0r) = numZ a0o a0r a0on ∧ List.length (List.replicate (numZ a0o 
  a0r a0on) (0 : Int)) = numZ a0o a0r a0on ∧ smallM (zeroL a0o a0r) ∧ numZ a0o a0r a0on ≤ (2000000 : Nat)) ∧ ((!(zeroL a0o a0r == zeroL a0o a0r && List.replicate (numZ a0o a0r a0on) (0 
  : Int) == List.replicate (numZ a0o a0r a0on) (0 : Int))) = true → K (V.lit false)) ∧ ((!(zeroL a0o a0r == zeroL a0o a0r && List.replicate (numZ a0o a0r a0on) (0 : Int) == List.replicate 
  (numZ a0o a0r a0on) (0 : Int))) = false → ((!routeB a0o a0r == routeB a0o a0r) = true → K (V.lit false)) ∧ ((!routeB a0o a0r == routeB a0o a0r) = false → At (List.length (rampM (1 : 
  Int) (zeroL a0o a0r)) = numZ a0o a0r a0on ∧ List.length (ramp ((1 : Int) + (↑(totL (zeroL a0o a0r)) : Int)) (numZ a0o a0r a0on)) = numZ a0o a0r a0on ∧ smallM (rampM (1 : Int) (zeroL 
  a0o a0r)) ∧ numZ a0o a0r a0on ≤ (2000000 : Nat) ∧ (0 : Int) ≤ (1 : Int) ∧ (1 : Int) ≤ (1000 : Int)) ∧ (decide ((bif rampM (1 : Int) (zeroL a0o a0r) == rampM (1 : Int) (rampM (1 : Int) 
  (zeroL a0o a0r)) && ramp ((1 : Int) + (↑(totL (zeroL a0o a0r)) : Int)) (numZ a0o a0r a0on) == ramp ((1 : Int) + (↑(totL (rampM (1 : Int) (zeroL a0o a0r))) : Int)) (numZ a0o a0r a0on) 
  then (1 : Int) + (↑(totL (rampM (1 : Int) (zeroL a0o a0r))) : Int) + (↑(numZ a0o a0r a0on) : Int) else (-1 : Int)) < (0 : Int)) = true → K (V.lit false)) ∧ (decide ((bif rampM (1 : 
  Int) (zeroL a0o a0r) == rampM (1 : Int) (rampM (1 : Int) (zeroL a0o a0r)) && ramp ((1 : Int) + (↑(totL (zeroL a0o a0r)) : Int)) (numZ a0o a0r a0on) == ramp ((1 : Int) + (↑(totL (rampM 
  (1 : Int) (zeroL a0o a0r))) : Int)) (numZ a0o a0r a0on) then (1 : Int) + (↑(totL (rampM (1 : Int) (zeroL a0o a0r))) : Int) + (↑(numZ a0o a0r a0on) : Int) else (-1 : Int)) < (0 : Int)) 
  = false → (((bif rampM (1 : Int) (zeroL a0o a0r) == rampM (1 : Int) (rampM (1 : Int) (zeroL a0o a0r)) && ramp ((1 : Int) + (↑(totL (zeroL a0o a0r)) : Int)) (numZ a0o a0r a0on) == ramp 
  ((1 : Int) + (↑(totL (rampM (1 : Int) (zeroL a0o a0r))) : Int)) (numZ a0o a0r a0on) then (1 : Int) + (↑(totL (rampM (1 : Int) (zeroL a0o a0r))) : Int) + (↑(numZ a0o a0r a0on) : Int) 
  else (-1 : Int)) != (1 : Int) + (↑(totL (zeroL a0o a0r)) : Int) + (↑(numZ a0o a0r a0on) : Int)) = true → K (V.lit false)) ∧ (((bif rampM (1 : Int) (zeroL a0o a0r) == rampM (1 : Int) 
  (rampM (1 : Int) (zeroL a0o a0r)) && ramp ((1 : Int) + (↑(totL (zeroL a0o a0r)) : Int)) (numZ a0o a0r a0on) == ramp ((1 : Int) + (↑(totL (rampM (1 : Int) (zeroL a0o a0r))) : Int)) (numZ 
  a0o a0r a0on) then (1 : Int) + (↑(totL (rampM (1 : Int) (zeroL a0o a0r))) : Int) + (↑(numZ a0o a0r a0on) : Int) else (-1 : Int)) != (1 : Int) + (↑(totL (zeroL a0o a0r)) : Int) + (↑(numZ 
  a0o a0r a0on) : Int)) = false → K (V.lit true)))))))))))) ∧ True) ∧ True) ∧ True) ∧ True)))

theorem vc_LawResetRoute (a0on : Nat) (a0o : List (List Int)) (a0rn : Nat) (a0r : List Int) (ha0o : a0o.length = a0on ∧ (a0on : Int) ≤ 9223372036854775807 ∧ ∀ r ∈ a0o, (r.length : Int) ≤ 9223372036854775807) (ha0r : a0r.length = a0rn * 1 ∧ (a0rn : Int) ≤ 9223372036854775807) : VC_LawResetRoute a0on a0o a0rn a0r (retP (.bool true)) := by
  obtain ⟨ho1, ho2, ho3⟩ := ha0o
  obtain ⟨hr1, hr2⟩ := ha0r
  rw [Nat.mul_one] at hr1
  subst ho1; subst hr1
  unfold VC_LawResetRoute
  refine ⟨⟨by omega, by omega, ho2, rfl, ho3, rfl, hr2⟩, fun _ => by simp [retP_lit], fun hs => ?_⟩
  have hs := of_decide_eq_false hs
  obtain ⟨s1, s2⟩ := szR_nn (l := a0o) (ro := a0r) (left := 1048576) (by omega) (by omega)
  have n1 : ¬ ((1 : Int) + (totL a0o : Nat) + (a0r.length : Nat) < 0) := by omega
  obtain ⟨t1, t4, t5⟩ := law_zero (l := a0o) (ro := a0r) s1
  have t6 := smallM_ramp (q := 1) t4
  have n2 : ¬ ((1 : Int) + (totL (zeroL a0o a0r) : Nat) + (numZ a0o a0r a0o.length : Nat) < 0) := by omega
  simp [retP_lit, s1, s2, t1, t4, t5, t6, ramp_len, rampM_len, rampM_idem, totL_ramp, n1, n2]
end Go.Vi
