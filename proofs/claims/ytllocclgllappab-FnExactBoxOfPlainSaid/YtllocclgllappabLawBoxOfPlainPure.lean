/- The conditions of FnExactBoxOfPlain. -/
import Derived.Test.YtllocclgllappabJ2Pf
namespace Go.Vi
set_option linter.unusedVariables false
set_option linter.unusedSimpArgs false
def VC_LawBoxOfPlain (a0r : List UInt8) (a0sn : Nat) (a0s : List Int) (a0x : Int) (a0y : Int) (a0d : Int) (K : V → Prop) : Prop := At ((0 : Int) ≤ (1048576 : Int) ∧ (1048576 : Int) 
  ≤ (1000000000 : Int) ∧ (↑a0sn : Int) ≤ (9223372036854775807 : Int) ∧ (↑(List.length a0r) : Int) ≤ (9223372036854775807 : Int)) ∧ (decide (szP a0r a0sn (1048576 : Int) < (0 : Int)) = 
  true → K (V.lit true)) ∧ (decide (szP a0r a0sn (1048576 : Int) < (0 : Int)) = false → At (List.length a0s = a0sn * (3 : Nat) ∧ a0sn ≤ (2000000 : Nat)) ∧ At (List.length a0s = a0sn * 
  (3 : Nat) ∧ a0sn ≤ (2000000 : Nat)) ∧ At (List.length a0s = a0sn * (3 : Nat) ∧ a0sn ≤ (2000000 : Nat)) ∧ At (List.length a0s = a0sn * (3 : Nat) ∧ a0sn ≤ (2000000 : Nat)) ∧ At (List.length 
  (boxP (goodP a0r a0sn a0s a0x a0y a0d) a0sn a0s a0x a0y) = List.length (boxP (goodP a0r a0sn a0s a0x a0y a0d) a0sn a0s a0x a0y) ∧ List.length (boxP (goodP a0r a0sn a0s a0x a0y a0d) 
  a0sn a0s a0x a0y) = List.length (boxP (goodP a0r a0sn a0s a0x a0y a0d) a0sn a0s a0x a0y) ∧ List.length (boxP (goodP a0r a0sn a0s a0x a0y a0d) a0sn a0s a0x a0y) ≤ (1000 : Nat) ∧ List.length 
  (boxP (goodP a0r a0sn a0s a0x a0y a0d) a0sn a0s a0x a0y) ≤ (1000 : Nat)) ∧ ((!boxP (goodP a0r a0sn a0s a0x a0y a0d) a0sn a0s a0x a0y == boxP (goodP a0r a0sn a0s a0x a0y a0d) a0sn a0s 
  a0x a0y) = true → K (V.lit false)) ∧ ((!boxP (goodP a0r a0sn a0s a0x a0y a0d) a0sn a0s a0x a0y == boxP (goodP a0r a0sn a0s a0x a0y a0d) a0sn a0s a0x a0y) = false → ((!goodP a0r a0sn 
  a0s a0x a0y a0d == goodP a0r a0sn a0s a0x a0y a0d) = true → K (V.lit false)) ∧ ((!goodP a0r a0sn a0s a0x a0y a0d == goodP a0r a0sn a0s a0x a0y a0d) = false → (((At (List.length a0s 
  = a0sn * (3 : Nat) ∧ a0sn ≤ (2000000 : Nat)) ∧ (At (List.length a0s = (3 : Nat) * a0sn ∧ List.length a0s = (3 : Nat) * a0sn ∧ a0sn ≤ (2000000 : Nat) ∧ a0sn ≤ (2000000 : Nat)) ∧ ((!(a0r 
  == a0r && a0s == a0s && a0x == a0x && a0y == a0y && a0d == a0d)) = true → K (V.lit false)) ∧ ((!(a0r == a0r && a0s == a0s && a0x == a0x && a0y == a0y && a0d == a0d)) = false → At (List.length 
  a0s = (3 : Nat) * a0sn ∧ a0sn ≤ (2000000 : Nat) ∧ (0 : Int) ≤ (1 : Int) ∧ (1 : Int) ≤ (1000 : Int)) ∧ (decide ((1 : Int) + (↑((3 : Nat) * a0sn) : Int) < (0 : Int)) = true → K (V.lit 
  false)) ∧ (decide ((1 : Int) + (↑((3 : Nat) * a0sn) : Int) < (0 : Int)) = false → At (List.length (boxP (goodP a0r a0sn a0s a0x a0y a0d) a0sn a0s a0x a0y) = List.length (boxP (goodP 
  a0r a0sn a0s a0x a0y a0d) a0sn a0s a0x a0y) ∧ List.length (boxP (goodP a0r a0sn a0s a0x a0y a0d) a0sn a0s a0x a0y) = List.length (boxP (goodP a0r a0sn a0s a0x a0y a0d) a0sn a0s a0x 
  a0y) ∧ List.length (boxP (goodP a0r a0sn a0s a0x a0y a0d) a0sn a0s a0x a0y) ≤ (1000 : Nat) ∧ List.length (boxP (goodP a0r a0sn a0s a0x a0y a0d) a0sn a0s a0x a0y) ≤ (1000 : Nat)) ∧ ((!boxP 
  (goodP a0r a0sn a0s a0x a0y a0d) a0sn a0s a0x a0y == boxP (goodP a0r a0sn a0s a0x a0y a0d) a0sn a0s a0x a0y) = true → K (V.lit false)) ∧ ((!boxP (goodP a0r a0sn a0s a0x a0y a0d) a0sn 
  a0s a0x a0y == boxP (goodP a0r a0sn a0s a0x a0y a0d) a0sn a0s a0x a0y) = false → ((!goodP a0r a0sn a0s a0x a0y a0d == goodP a0r a0sn a0s a0x a0y a0d) = true → K (V.lit false)) ∧ ((!goodP 
  a0r a0sn a0s a0x a0y a0d == goodP a0r a0sn a0s a0x a0y a0d) = false → At (List.length (boxP (goodP a0r a0sn a0s a0x a0y a0d) a0sn a0s a0x a0y) = List.length (boxP (goodP a0r a0sn a0s 
  a0x a0y a0d) a0sn a0s a0x a0y) ∧ List.length (boxP (goodP a0r a0sn a0s a0x a0y a0d) a0sn a0s a0x a0y) ≤ (1000 : Nat) ∧ (0 : Int) ≤ (1 : Int) ∧ (1 : Int) ≤ (1000 : Int)) ∧ At (List.length 
  (boxP (goodP a0r a0sn a0s a0x a0y a0d) a0sn a0s a0x a0y) = List.length (ramp (1 : Int) (List.length (boxP (goodP a0r a0sn a0s a0x a0y a0d) a0sn a0s a0x a0y))) ∧ List.length (boxP (goodP 
  a0r a0sn a0s a0x a0y a0d) a0sn a0s a0x a0y) ≤ (1000 : Nat) ∧ (0 : Int) ≤ (1 : Int) ∧ (1 : Int) ≤ (1000 : Int)) ∧ (decide ((bif ramp (1 : Int) (List.length (boxP (goodP a0r a0sn a0s 
  a0x a0y a0d) a0sn a0s a0x a0y)) == ramp (1 : Int) (List.length (boxP (goodP a0r a0sn a0s a0x a0y a0d) a0sn a0s a0x a0y)) then (1 : Int) + (↑(List.length (boxP (goodP a0r a0sn a0s a0x 
  a0y a0d) a0sn a0s a0x a0y)) : Int) else (-1 : Int)) < (0 : Int)) = true → K (V.lit false)) ∧ (decide ((bif ramp (1 : Int) (List.length (boxP (goodP a0r a0sn a0s a0x a0y a0d) a0sn a0s 
  a0x a0y)) == ramp (1 : Int) (List.length (boxP (goodP a0r a0sn a0s a0x a0y a0d) a0sn a0s a0x a0y)) then (1 : Int) + (↑(List.length (boxP (goodP a0r a0sn a0s a0x a0y a0d) a0sn a0s a0x 
  a0y)) : Int) else (-1 : Int)) < (0 : Int)) = false → (((bif ramp (1 : Int) (List.length (boxP (goodP a0r a0sn a0s a0x a0y a0d) a0sn a0s a0x a0y)) == ramp (1 : Int) (List.length (boxP 
  (goodP a0r a0sn a0s a0x a0y a0d) a0sn a0s a0x a0y)) then (1 : Int) + (↑(List.length (boxP (goodP a0r a0sn a0s a0x a0y a0d) a0sn a0s a0x a0y)) : Int) else (-1 : Int)) != (1 : Int) + 
  (↑(List.length (boxP (goodP a0r a0sn a0s a0x a0y a0d) a0sn a0s a0x a0y)) : Int)) = true → K (V.lit false)) ∧ (((bif ramp (1 : Int) (List.length (boxP (goodP a0r a0sn a0s a0x a0y a0d) 
  a0sn a0s a0x a0y)) == ramp (1 : Int) (List.length (boxP (goodP a0r a0sn a0s a0x a0y a0d) a0sn a0s a0x a0y)) then (1 : Int) + (↑(List.length (boxP (goodP a0r a0sn a0s a0x a0y a0d) a0sn 
  a0s a0x a0y)) : Int) else (-1 : Int)) != (1 : Int) + (↑(List.length (boxP (goodP a0r a0sn a0s a0x a0y a0d) a0sn a0s a0x a0y)) : Int)) = false → At (List.length a0s = a0sn * (3 : Nat) 
  ∧ a0sn ≤ (2000000 : Nat)) ∧ At (List.length a0s = a0sn * (3 : Nat) ∧ a0sn ≤ (2000000 : Nat)) ∧ At (List.length (boxP (goodP a0r a0sn a0s a0x a0y a0d) a0sn a0s a0x a0y) = List.length 
  (boxP (goodP a0r a0sn a0s a0x a0y a0d) a0sn a0s a0x a0y) ∧ List.length (boxP (goodP a0r a0sn a0s a0x a0y a0d) a0sn a0s a0x a0y) = List.length (boxP (goodP a0r a0sn a0s a0x a0y a0d) 
  a0sn a0s a0x a0y) ∧ List.length (boxP (goodP a0r a0sn a0s a0x a0y a0d) a0sn a0s a0x a0y) ≤ (1000 : Nat) ∧ List.length (boxP (goodP a0r a0sn a0s a0x a0y a0d) a0sn a0s a0x a0y) ≤ (1000 
  : Nat)) ∧ ((!boxP (goodP a0r a0sn a0s a0x a0y a0d) a0sn a0s a0x a0y == boxP (goodP a0r a0sn a0s a0x a0y a0d) a0sn a0s a0x a0y) = true → K (V.lit false)) ∧ ((!boxP (goodP a0r a0sn a0s 
  a0x a0y a0d) a0sn a0s a0x a0y == boxP (goodP a0r a0sn a0s a0x a0y a0d) a0sn a0s a0x a0y) = false → ((!goodP a0r a0sn a0s a0x a0y a0d == goodP a0r a0sn a0s a0x a0y a0d) = true → K (V.lit 
  false)) ∧ ((!goodP a0r a0sn a0s a0x a0y a0d == goodP a0r a0sn a0s a0x a0y a0d) = false → At (List.length (boxP (goodP a0r a0sn a0s a0x a0y a0d) a0sn a0s a0x a0y) = List.length (ramp 
  (1 : Int) (List.length (boxP (goodP a0r a0sn a0s a0x a0y a0d) a0sn a0s a0x a0y))) ∧ List.length (boxP (goodP a0r a0sn a0s a0x a0y a0d) a0sn a0s a0x a0y) ≤ (1000 : Nat) ∧ (0 : Int) ≤ 
  (1 : Int) ∧ (1 : Int) ≤ (1000 : Int)) ∧ (decide ((bif ramp (1 : Int) (List.length (boxP (goodP a0r a0sn a0s a0x a0y a0d) a0sn a0s a0x a0y)) == ramp (1 : Int) (List.length (boxP (goodP 
  a0r a0sn a0s a0x a0y a0d) a0sn a0s a0x a0y)) then (1 : Int) + (↑(List.length (boxP (goodP a0r a0sn a0s a0x a0y a0d) a0sn a0s a0x a0y)) : Int) else (-1 : Int)) < (0 : Int)) = true → 
  K (V.lit false)) ∧ (decide ((bif ramp (1 : Int) (List.length (boxP (goodP a0r a0sn a0s a0x a0y a0d) a0sn a0s a0x a0y)) == ramp (1 : Int) (List.length (boxP (goodP a0r a0sn a0s a0x a0y 
  a0d) a0sn a0s a0x a0y)) then (1 : Int) + (↑(List.length (boxP (goodP a0r a0sn a0s a0x a0y a0d) a0sn a0s a0x a0y)) : Int) else (-1 : Int)) < (0 : Int)) = false → (((bif ramp (1 : Int) 
  (List.length (boxP (goodP a0r a0sn a0s a0x a0y a0d) a0sn a0s a0x a0y)) == ramp (1 : Int) (List.length (boxP (goodP a0r a0sn a0s a0x a0y a0d) a0sn a0s a0x a0y)) then (1 : Int) + (↑(List.length 
  (boxP (goodP a0r a0sn a0s a0x a0y a0d) a0sn a0s a0x a0y)) : Int) else (-1 : Int)) != (1 : Int) + (↑(List.length (boxP (goodP a0r a0sn a0s a0x a0y a0d) a0sn a0s a0x a0y)) : Int)) = true 
  → K (V.lit false)) ∧ (((bif ramp (1 : Int) (List.length (boxP (goodP a0r a0sn a0s a0x a0y a0d) a0sn a0s a0x a0y)) == ramp (1 : Int) (List.length (boxP (goodP a0r a0sn a0s a0x a0y a0d) 
  a0sn a0s a0x a0y)) then (1 : Int) + (↑(List.length (boxP (goodP a0r a0sn a0s a0x a0y a0d) a0sn a0s a0x a0y)) : Int) else (-1 : Int)) != (1 : Int) + (↑(List.length (boxP (goodP a0r a0sn 
  a0s a0x a0y a0d) a0sn a0s a0x a0y)) : Int)) = false → K (V.lit true)))))))))))) ∧ True) ∧ True) ∧ True) ∧ (((At (List.length a0s = a0sn * (3 : Nat) ∧ a0sn ≤ (2000000 : Nat)) ∧ (At (List.length 
  a0s = (3 : Nat) * a0sn ∧ List.length a0s = (3 : Nat) * a0sn ∧ a0sn ≤ (2000000 : Nat) ∧ a0sn ≤ (2000000 : Nat)) ∧ ((!(a0r == a0r && a0s == a0s && a0x == a0x && a0y == a0y && a0d == a0d)) 
  = true → K (V.lit false)) ∧ ((!(a0r == a0r && a0s == a0s && a0x == a0x && a0y == a0y && a0d == a0d)) = false → At (List.length a0s = (3 : Nat) * a0sn ∧ a0sn ≤ (2000000 : Nat) ∧ (0 : 
  Int) ≤ (1 : Int) ∧ (1 : Int) ≤ (1000 : Int)) ∧ (decide ((1 : Int) + (↑((3 : Nat) * a0sn) : Int) < (0 : Int)) = true → K (V.lit false)) ∧ (decide ((1 : Int) + (↑((3 : Nat) * a0sn) : 
  Int) < (0 : Int)) = false → At (List.length (boxP (goodP a0r a0sn a0s a0x a0y a0d) a0sn a0s a0x a0y) = List.length (boxP (goodP a0r a0sn a0s a0x a0y a0d) a0sn a0s a0x a0y) ∧ List.length 
  (boxP (goodP a0r a0sn a0s a0x a0y a0d) a0sn a0s a0x a0y) = List.length (boxP (goodP a0r a0sn a0s a0x a0y a0d) a0sn a0s a0x a0y) ∧ List.length (boxP (goodP a0r a0sn a0s a0x a0y a0d) 
  a0sn a0s a0x a0y) ≤ (1000 : Nat) ∧ List.length (boxP (goodP a0r a0sn a0s a0x a0y a0d) a0sn a0s a0x a0y) ≤ (1000 : Nat)) ∧ ((!boxP (goodP a0r a0sn a0s a0x a0y a0d) a0sn a0s a0x a0y == 
  boxP (goodP a0r a0sn a0s a0x a0y a0d) a0sn a0s a0x a0y) = true → K (V.lit false)) ∧ ((!boxP (goodP a0r a0sn a0s a0x a0y a0d) a0sn a0s a0x a0y == boxP (goodP a0r a0sn a0s a0x a0y a0d) 
  a0sn a0s a0x a0y) = false → ((!goodP a0r a0sn a0s a0x a0y a0d == goodP a0r a0sn a0s a0x a0y a0d) = true → K (V.lit false)) ∧ ((!goodP a0r a0sn a0s a0x a0y a0d == goodP a0r a0sn a0s 
  a0x a0y a0d) = false → At (List.length (boxP (goodP a0r a0sn a0s a0x a0y a0d) a0sn a0s a0x a0y) = List.length (boxP (goodP a0r a0sn a0s a0x a0y a0d) a0sn a0s a0x a0y) ∧ List.length 
  (boxP (goodP a0r a0sn a0s a0x a0y a0d) a0sn a0s a0x a0y) ≤ (1000 : Nat) ∧ (0 : Int) ≤ (1 : Int) ∧ (1 : Int) ≤ (1000 : Int)) ∧ At (List.length (boxP (goodP a0r a0sn a0s a0x a0y a0d) 
  a0sn a0s a0x a0y) = List.length (ramp (1 : Int) (List.length (boxP (goodP a0r a0sn a0s a0x a0y a0d) a0sn a0s a0x a0y))) ∧ List.length (boxP (goodP a0r a0sn a0s a0x a0y a0d) a0sn a0s 
  a0x a0y) ≤ (1000 : Nat) ∧ (0 : Int) ≤ (1 : Int) ∧ (1 : Int) ≤ (1000 : Int)) ∧ (decide ((bif ramp (1 : Int) (List.length (boxP (goodP a0r a0sn a0s a0x a0y a0d) a0sn a0s a0x a0y)) == 
  ramp (1 : Int) (List.length (boxP (goodP a0r a0sn a0s a0x a0y a0d) a0sn a0s a0x a0y)) then (1 : Int) + (↑(List.length (boxP (goodP a0r a0sn a0s a0x a0y a0d) a0sn a0s a0x a0y)) : Int) 
  else (-1 : Int)) < (0 : Int)) = true → K (V.lit false)) ∧ (decide ((bif ramp (1 : Int) (List.length (boxP (goodP a0r a0sn a0s a0x a0y a0d) a0sn a0s a0x a0y)) == ramp (1 : Int) (List.length 
  (boxP (goodP a0r a0sn a0s a0x a0y a0d) a0sn a0s a0x a0y)) then (1 : Int) + (↑(List.length (boxP (goodP a0r a0sn a0s a0x a0y a0d) a0sn a0s a0x a0y)) : Int) else (-1 : Int)) < (0 : Int)) 
  = false → (((bif ramp (1 : Int) (List.length (boxP (goodP a0r a0sn a0s a0x a0y a0d) a0sn a0s a0x a0y)) == ramp (1 : Int) (List.length (boxP (goodP a0r a0sn a0s a0x a0y a0d) a0sn a0s 
  a0x a0y)) then (1 : Int) + (↑(List.length (boxP (goodP a0r a0sn a0s a0x a0y a0d) a0sn a0s a0x a0y)) : Int) else (-1 : Int)) != (1 : Int) + (↑(List.length (boxP (goodP a0r a0sn a0s a0x 
  a0y a0d) a0sn a0s a0x a0y)) : Int)) = true → K (V.lit false)) ∧ (((bif ramp (1 : Int) (List.length (boxP (goodP a0r a0sn a0s a0x a0y a0d) a0sn a0s a0x a0y)) == ramp (1 : Int) (List.length 
  (boxP (goodP a0r a0sn a0s a0x a0y a0d) a0sn a0s a0x a0y)) then (1 : Int) + (↑(List.length (boxP (goodP a0r a0sn a0s a0x a0y a0d) a0sn a0s a0x a0y)) : Int) else (-1 : Int)) != (1 : Int) 
  + (↑(List.length (boxP (goodP a0r a0sn a0s a0x a0y a0d) a0sn a0s a0x a0y)) : Int)) = false → At (List.length a0s = a0sn * (3 : Nat) ∧ a0sn ≤ (2000000 : Nat)) ∧ At (List.length a0s = 
  a0sn * (3 : Nat) ∧ a0sn ≤ (2000000 : Nat)) ∧ At (List.length (boxP (goodP a0r a0sn a0s a0x a0y a0d) a0sn a0s a0x a0y) = List.length (boxP (goodP a0r a0sn a0s a0x a0y a0d) a0sn a0s a0x 
  a0y) ∧ List.length (boxP (goodP a0r a0sn a0s a0x a0y a0d) a0sn a0s a0x a0y) = List.length (boxP (goodP a0r a0sn a0s a0x a0y a0d) a0sn a0s a0x a0y) ∧ List.length (boxP (goodP a0r a0sn 
  a0s a0x a0y a0d) a0sn a0s a0x a0y) ≤ (1000 : Nat) ∧ List.length (boxP (goodP a0r a0sn a0s a0x a0y a0d) a0sn a0s a0x a0y) ≤ (1000 : Nat)) ∧ ((!boxP (goodP a0r a0sn a0s a0x a0y a0d) a0sn 
  a0s a0x a0y == boxP (goodP a0r a0sn a0s a0x a0y a0d) a0sn a0s a0x a0y) = true → K (V.lit false)) ∧ ((!boxP (goodP a0r a0sn a0s a0x a0y a0d) a0sn a0s a0x a0y == boxP (goodP a0r a0sn 
  a0s a0x a0y a0d) a0sn a0s a0x a0y) = false → ((!goodP a0r a0sn a0s a0x a0y a0d == goodP a0r a0sn a0s a0x a0y a0d) = true → K (V.lit false)) ∧ ((!goodP a0r a0sn a0s a0x a0y a0d == goodP 
  a0r a0sn a0s a0x a0y a0d) = false → At (List.length (boxP (goodP a0r a0sn a0s a0x a0y a0d) a0sn a0s a0x a0y) = List.length (ramp (1 : Int) (List.length (boxP (goodP a0r a0sn a0s a0x 
  a0y a0d) a0sn a0s a0x a0y))) ∧ List.length (boxP (goodP a0r a0sn a0s a0x a0y a0d) a0sn a0s a0x a0y) ≤ (1000 : Nat) ∧ (0 : Int) ≤ (1 : Int) ∧ (1 : Int) ≤ (1000 : Int)) ∧ (decide ((bif 
  ramp (1 : Int) (List.length (boxP (goodP a0r a0sn a0s a0x a0y a0d) a0sn a0s a0x a0y)) == ramp (1 : Int) (List.length (boxP (goodP a0r a0sn a0s a0x a0y a0d) a0sn a0s a0x a0y)) then (1 
  : Int) + (↑(List.length (boxP (goodP a0r a0sn a0s a0x a0y a0d) a0sn a0s a0x a0y)) : Int) else (-1 : Int)) < (0 : Int)) = true → K (V.lit false)) ∧ (decide ((bif ramp (1 : Int) (List.length 
  (boxP (goodP a0r a0sn a0s a0x a0y a0d) a0sn a0s a0x a0y)) == ramp (1 : Int) (List.length (boxP (goodP a0r a0sn a0s a0x a0y a0d) a0sn a0s a0x a0y)) then (1 : Int) + (↑(List.length (boxP 
  (goodP a0r a0sn a0s a0x a0y a0d) a0sn a0s a0x a0y)) : Int) else (-1 : Int)) < (0 : Int)) = false → (((bif ramp (1 : Int) (List.length (boxP (goodP a0r a0sn a0s a0x a0y a0d) a0sn a0s 
  a0x a0y)) == ramp (1 : Int) (List.length (boxP (goodP a0r a0sn a0s a0x a0y a0d) a0sn a0s a0x a0y)) then (1 : Int) + (↑(List.length (boxP (goodP a0r a0sn a0s a0x a0y a0d) a0sn a0s a0x 
  a0y)) : Int) else (-1 : Int)) != (1 : Int) + (↑(List.length (boxP (goodP a0r a0sn a0s a0x a0y a0d) a0sn a0s a0x a0y)) : Int)) = true → K (V.lit false)) ∧ (((bif ramp (1 : Int) (List.length 
  (boxP (goodP a0r a0sn a0s a0x a0y a0d) a0sn a0s a0x a0y)) == ramp (1 : Int) (List.length (boxP (goodP a0r a0sn a0s a0x a0y a0d) a0sn a0s a0x a0y)) then (1 : Int) + (↑(List.length (boxP 
  (goodP a0r a0sn a0s a0x a0y a0d) a0sn a0s a0x a0y)) : Int) else (-1 : Int)) != (1 : Int) + (↑(List.length (boxP (goodP a0r a0sn a0s a0x a0y a0d) a0sn a0s a0x a0y)) : Int)) = false → 
  K (V.lit true)))))))))))) ∧ True) ∧ True) ∧ (At (List.length a0s = a0sn * (3 : Nat) ∧ a0sn ≤ (2000000 : Nat)) ∧ ((At (List.length a0s = (3 : Nat) * a0sn ∧ List.length a0s = (3 : Nat) 
  * a0sn ∧ a0sn ≤ (2000000 : Nat) ∧ a0sn ≤ (2000000 : Nat)) ∧ ((!(a0r == a0r && a0s == a0s && a0x == a0x && a0y == a0y && a0d == a0d)) = true → K (V.lit false)) ∧ ((!(a0r == a0r && a0s 
  == a0s && a0x == a0x && a0y == a0y && a0d == a0d)) = false → At (List.length a0s = (3 : Nat) * a0sn ∧ a0sn ≤ (2000000 : Nat) ∧ (0 : Int) ≤ (1 : Int) ∧ (1 : Int) ≤ (1000 : Int)) ∧ (decide 
  ((1 : Int) + (↑((3 : Nat) * a0sn) : Int) < (0 : Int)) = true → K (V.lit false)) ∧ (decide ((1 : Int) + (↑((3 : Nat) * a0sn) : Int) < (0 : Int)) = false → At (List.length (boxP (goodP 
  a0r a0sn a0s a0x a0y a0d) a0sn a0s a0x a0y) = List.length (boxP (goodP a0r a0sn a0s a0x a0y a0d) a0sn a0s a0x a0y) ∧ List.length (boxP (goodP a0r a0sn a0s a0x a0y a0d) a0sn a0s a0x 
  a0y) = List.length (boxP (goodP a0r a0sn a0s a0x a0y a0d) a0sn a0s a0x a0y) ∧ List.length (boxP (goodP a0r a0sn a0s a0x a0y a0d) a0sn a0s a0x a0y) ≤ (1000 : Nat) ∧ List.length (boxP 
  (goodP a0r a0sn a0s a0x a0y a0d) a0sn a0s a0x a0y) ≤ (1000 : Nat)) ∧ ((!boxP (goodP a0r a0sn a0s a0x a0y a0d) a0sn a0s a0x a0y == boxP (goodP a0r a0sn a0s a0x a0y a0d) a0sn a0s a0x 
  a0y) = true → K (V.lit false)) ∧ ((!boxP (goodP a0r a0sn a0s a0x a0y a0d) a0sn a0s a0x a0y == boxP (goodP a0r a0sn a0s a0x a0y a0d) a0sn a0s a0x a0y) = false → ((!goodP a0r a0sn a0s 
  a0x a0y a0d == goodP a0r a0sn a0s a0x a0y a0d) = true → K (V.lit false)) ∧ ((!goodP a0r a0sn a0s a0x a0y a0d == goodP a0r a0sn a0s a0x a0y a0d) = false → At (List.length (boxP (goodP 
  a0r a0sn a0s a0x a0y a0d) a0sn a0s a0x a0y) = List.length (boxP (goodP a0r a0sn a0s a0x a0y a0d) a0sn a0s a0x a0y) ∧ List.length (boxP (goodP a0r a0sn a0s a0x a0y a0d) a0sn a0s a0x 
  a0y) ≤ (1000 : Nat) ∧ (0 : Int) ≤ (1 : Int) ∧ (1 : Int) ≤ (1000 : Int)) ∧ At (List.length (boxP (goodP a0r a0sn a0s a0x a0y a0d) a0sn a0s a0x a0y) = List.length (ramp (1 : Int) (List.length 
  (boxP (goodP a0r a0sn a0s a0x a0y a0d) a0sn a0s a0x a0y))) ∧ List.length (boxP (goodP a0r a0sn a0s a0x a0y a0d) a0sn a0s a0x a0y) ≤ (1000 : Nat) ∧ (0 : Int) ≤ (1 : Int) ∧ (1 : Int) 
  ≤ (1000 : Int)) ∧ (decide ((bif ramp (1 : Int) (List.length (boxP (goodP a0r a0sn a0s a0x a0y a0d) a0sn a0s a0x a0y)) == ramp (1 : Int) (List.length (boxP (goodP a0r a0sn a0s a0x a0y 
  a0d) a0sn a0s a0x a0y)) then (1 : Int) + (↑(List.length (boxP (goodP a0r a0sn a0s a0x a0y a0d) a0sn a0s a0x a0y)) : Int) else (-1 : Int)) < (0 : Int)) = true → K (V.lit false)) ∧ (decide 
  ((bif ramp (1 : Int) (List.length (boxP (goodP a0r a0sn a0s a0x a0y a0d) a0sn a0s a0x a0y)) == ramp (1 : Int) (List.length (boxP (goodP a0r a0sn a0s a0x a0y a0d) a0sn a0s a0x a0y)) 
  then (1 : Int) + (↑(List.length (boxP (goodP a0r a0sn a0s a0x a0y a0d) a0sn a0s a0x a0y)) : Int) else (-1 : Int)) < (0 : Int)) = false → (((bif ramp (1 : Int) (List.length (boxP (goodP 
  a0r a0sn a0s a0x a0y a0d) a0sn a0s a0x a0y)) == ramp (1 : Int) (List.length (boxP (goodP a0r a0sn a0s a0x a0y a0d) a0sn a0s a0x a0y)) then (1 : Int) + (↑(List.length (boxP (goodP a0r 
  a0sn a0s a0x a0y a0d) a0sn a0s a0x a0y)) : Int) else (-1 : Int)) != (1 : Int) + (↑(List.length (boxP (goodP a0r a0sn a0s a0x a0y a0d) a0sn a0s a0x a0y)) : Int)) = true → K (V.lit false)) 
  ∧ (((bif ramp (1 : Int) (List.length (boxP (goodP a0r a0sn a0s a0x a0y a0d) a0sn a0s a0x a0y)) == ramp (1 : Int) (List.length (boxP (goodP a0r a0sn a0s a0x a0y a0d) a0sn a0s a0x a0y)) 
  then (1 : Int) + (↑(List.length (boxP (goodP a0r a0sn a0s a0x a0y a0d) a0sn a0s a0x a0y)) : Int) else (-1 : Int)) != (1 : Int) + (↑(List.length (boxP (goodP a0r a0sn a0s a0x a0y a0d) 
  a0sn a0s a0x a0y)) : Int)) = false → At (List.length a0s = a0sn * (3 : Nat) ∧ a0sn ≤ (2000000 : Nat)) ∧ At (List.length a0s = a0sn * (3 : Nat) ∧ a0sn ≤ (2000000 : Nat)) ∧ At (List.length 
  (boxP (goodP a0r a0sn a0s a0x a0y a0d) a0sn a0s a0x a0y) = List.length (boxP (goodP a0r a0sn a0s a0x a0y a0d) a0sn a0s a0x a0y) ∧ List.length (boxP (goodP a0r a0sn a0s a0x a0y a0d) 
  a0sn a0s a0x a0y) = List.length (boxP (goodP a0r a0sn a0s a0x a0y a0d) a0sn a0s a0x a0y) ∧ List.length (boxP (goodP a0r a0sn a0s a0x a0y a0d) a0sn a0s a0x a0y) ≤ (1000 : Nat) ∧ List.length 
  (boxP (goodP a0r a0sn a0s a0x a0y a0d) a0sn a0s a0x a0y) ≤ (1000 : Nat)) ∧ ((!boxP (goodP a0r a0sn a0s a0x a0y a0d) a0sn a0s a0x a0y == boxP (goodP a0r a0sn a0s a0x a0y a0d) a0sn a0s 
  a0x a0y) = true → K (V.lit false)) ∧ ((!boxP (goodP a0r a0sn a0s a0x a0y a0d) a0sn a0s a0x a0y == boxP (goodP a0r a0sn a0s a0x a0y a0d) a0sn a0s a0x a0y) = false → ((!goodP a0r a0sn 
  a0s a0x a0y a0d == goodP a0r a0sn a0s a0x a0y a0d) = true → K (V.lit false)) ∧ ((!goodP a0r a0sn a0s a0x a0y a0d == goodP a0r a0sn a0s a0x a0y a0d) = false → At (List.length (boxP (goodP 
  a0r a0sn a0s a0x a0y a0d) a0sn a0s a0x a0y) = List.length (ramp (1 : Int) (List.length (boxP (goodP a0r a0sn a0s a0x a0y a0d) a0sn a0s a0x a0y))) ∧ List.length (boxP (goodP a0r a0sn 
  a0s a0x a0y a0d) a0sn a0s a0x a0y) ≤ (1000 : Nat) ∧ (0 : Int) ≤ (1 : Int) ∧ (1 : Int) ≤ (1000 : Int)) ∧ (decide ((bif ramp (1 : Int) (List.length (boxP (goodP a0r a0sn a0s a0x a0y a0d) 
  a0sn a0s a0x a0y)) == ramp (1 : Int) (List.length (boxP (goodP a0r a0sn a0s a0x a0y a0d) a0sn a0s a0x a0y)) then (1 : Int) + (↑(List.length (boxP (goodP a0r a0sn a0s a0x a0y a0d) a0sn 
  a0s a0x a0y)) : Int) else (-1 : Int)) < (0 : Int)) = true → K (V.lit false)) ∧ (decide ((bif ramp (1 : Int) (List.length (boxP (goodP a0r a0sn a0s a0x a0y a0d) a0sn a0s a0x a0y)) == 
  ramp (1 : Int) (List.length (boxP (goodP a0r a0sn a0s a0x a0y a0d) a0sn a0s a0x a0y)) then (1 : Int) + (↑(List.length (boxP (goodP a0r a0sn a0s a0x a0y a0d) a0sn a0s a0x a0y)) : Int) 
  else (-1 : Int)) < (0 : Int)) = false → (((bif ramp (1 : Int) (List.length (boxP (goodP a0r a0sn a0s a0x a0y a0d) a0sn a0s a0x a0y)) == ramp (1 : Int) (List.length (boxP (goodP a0r 
  a0sn a0s a0x a0y a0d) a0sn a0s a0x a0y)) then (1 : Int) + (↑(List.length (boxP (goodP a0r a0sn a0s a0x a0y a0d) a0sn a0s a0x a0y)) : Int) else (-1 : Int)) != (1 : Int) + (↑(List.length 
  (boxP (goodP a0r a0sn a0s a0x a0y a0d) a0sn a0s a0x a0y)) : Int)) = true → K (V.lit false)) ∧ (((bif ramp (1 : Int) (List.length (boxP (goodP a0r a0sn a0s a0x a0y a0d) a0sn a0s a0x 
  a0y)) == ramp (1 : Int) (List.length (boxP (goodP a0r a0sn a0s a0x a0y a0d) a0sn a0s a0x a0y)) then (1 : Int) + (↑(List.length (boxP (goodP a0r a0sn a0s a0x a0y a0d) a0sn a0s a0x a0y)) 
  : Int) else (-1 : Int)) != (1 : Int) + (↑(List.length (boxP (goodP a0r a0sn a0s a0x a0y a0d) a0sn a0s a0x a0y)) : Int)) = false → K (V.lit true)))))))))))) ∧ True) ∧ True) ∧ True) ∧ 
  True)))

theorem vc_LawBoxOfPlain (a0r : List UInt8) (a0sn : Nat) (a0s : List Int) (a0x : Int) (a0y : Int) (a0d : Int) (ha0r : (a0r.length : Int) ≤ 9223372036854775807) (ha0s : a0s.length = a0sn * 3 ∧ (a0sn : Int) ≤ 9223372036854775807) (ha0x : -9223372036854775808 ≤ a0x ∧ a0x ≤ 9223372036854775807) (ha0y : -9223372036854775808 ≤ a0y ∧ a0y ≤ 9223372036854775807) (ha0d : -9223372036854775808 ≤ a0d ∧ a0d ≤ 9223372036854775807) : VC_LawBoxOfPlain a0r a0sn a0s a0x a0y a0d (retP (.bool true)) := by
  unfold VC_LawBoxOfPlain
  refine ⟨⟨by omega, by omega, ha0s.2, ha0r⟩, fun _ => (retP_lit _ _).2 rfl, fun hc => ?_⟩
  have hn := szP_n (of_decide_eq_false hc)
  have h3 : a0s.length = 3 * a0sn := by omega
  have hl := boxP_le (goodP a0r a0sn a0s a0x a0y a0d) a0sn a0s a0x a0y
  generalize boxP (goodP a0r a0sn a0s a0x a0y a0d) a0sn a0s a0x a0y = B at hl ⊢
  generalize goodP a0r a0sn a0s a0x a0y a0d = g
  simp [retP_lit, h3, hn, hl, ramp_len, Nat.mul_comm]
  omega
end Go.Vi
