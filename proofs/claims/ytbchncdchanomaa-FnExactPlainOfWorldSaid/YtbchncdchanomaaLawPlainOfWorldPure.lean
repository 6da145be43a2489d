/- The conditions of FnExactPlainOfWorld. -/
import Derived.Test.YtbchncdchanomaaG1Pf
namespace Go.Vi
set_option linter.unusedVariables false
def VC_LawPlainOfWorld (a0r : List UInt8) (a0w : Int) (a0h : Int) (a0c : List UInt8) (a0x : Int) (a0y : Int) (a0d : Int) (K : V → Prop) : Prop := At ((0 : Int) ≤ (1048576 : Int) ∧ (1048576 
  : Int) ≤ (1000000000 : Int) ∧ (↑(List.length a0r) : Int) ≤ (9223372036854775807 : Int) ∧ (↑(List.length a0c) : Int) ≤ (9223372036854775807 : Int)) ∧ (decide (szW { r := a0r, w := a0w, h := a0h, c := a0c, x := a0x, y := a0y, d := a0d } 
  (1048576 : Int) < (0 : Int)) = true → K (V.lit true)) ∧ (decide (szW { r := a0r, w := a0w, h := a0h, c := a0c, x := a0x, y := a0y, d := a0d } (1048576 : Int) < (0 : Int)) = false → 
  At True ∧ At True ∧ At ((List.length (bif goodB { r := a0r, w := a0w, h := a0h, c := a0c, x := a0x, y := a0y, d := a0d } then spF { r := a0r, w := a0w, h := a0h, c := a0c, x := a0x, y := a0y, d := a0d } 
  (Int.toNat (a0w * a0h)) else nilI) = (3 : Nat) * bif goodB { r := a0r, w := a0w, h := a0h, c := a0c, x := a0x, y := a0y, d := a0d } then cntS { r := a0r, w := a0w, h := a0h, c := a0c, x := a0x, y := a0y, d := a0d } 
  (Int.toNat (a0w * a0h)) else (0 : Nat)) ∧ (List.length (bif goodB { r := a0r, w := a0w, h := a0h, c := a0c, x := a0x, y := a0y, d := a0d } then spF { r := a0r, w := a0w, h := a0h, c := a0c, x := a0x, y := a0y, d := a0d } 
  (Int.toNat (a0w * a0h)) else nilI) = (3 : Nat) * bif goodB { r := a0r, w := a0w, h := a0h, c := a0c, x := a0x, y := a0y, d := a0d } then cntS { r := a0r, w := a0w, h := a0h, c := a0c, x := a0x, y := a0y, d := a0d } 
  (Int.toNat (a0w * a0h)) else (0 : Nat)) ∧ (bif goodB { r := a0r, w := a0w, h := a0h, c := a0c, x := a0x, y := a0y, d := a0d } then cntS { r := a0r, w := a0w, h := a0h, c := a0c, x := a0x, y := a0y, d := a0d } 
  (Int.toNat (a0w * a0h)) else (0 : Nat)) ≤ (2000000 : Nat) ∧ (bif goodB { r := a0r, w := a0w, h := a0h, c := a0c, x := a0x, y := a0y, d := a0d } then cntS { r := a0r, w := a0w, h := a0h, c := a0c, x := a0x, y := a0y, d := a0d } 
  (Int.toNat (a0w * a0h)) else (0 : Nat)) ≤ (2000000 : Nat)) ∧ ((!((((((bif goodB { r := a0r, w := a0w, h := a0h, c := a0c, x := a0x, y := a0y, d := a0d } then a0r else []) == bif goodB 
  { r := a0r, w := a0w, h := a0h, c := a0c, x := a0x, y := a0y, d := a0d } then a0r else []) && (bif goodB { r := a0r, w := a0w, h := a0h, c := a0c, x := a0x, y := a0y, d := a0d } then 
  spF { r := a0r, w := a0w, h := a0h, c := a0c, x := a0x, y := a0y, d := a0d } (Int.toNat (a0w * a0h)) else nilI) == bif goodB { r := a0r, w := a0w, h := a0h, c := a0c, x := a0x, y := a0y, d := a0d } 
  then spF { r := a0r, w := a0w, h := a0h, c := a0c, x := a0x, y := a0y, d := a0d } (Int.toNat (a0w * a0h)) else nilI) && (bif goodB { r := a0r, w := a0w, h := a0h, c := a0c, x := a0x, y := a0y, d := a0d } 
  then a0x else (0 : Int)) == bif goodB { r := a0r, w := a0w, h := a0h, c := a0c, x := a0x, y := a0y, d := a0d } then a0x else (0 : Int)) && (bif goodB { r := a0r, w := a0w, h := a0h, c := a0c, x := a0x, y := a0y, d := a0d } 
  then a0y else (0 : Int)) == bif goodB { r := a0r, w := a0w, h := a0h, c := a0c, x := a0x, y := a0y, d := a0d } then a0y else (0 : Int)) && (bif goodB { r := a0r, w := a0w, h := a0h, c := a0c, x := a0x, y := a0y, d := a0d } 
  then a0d else (0 : Int)) == bif goodB { r := a0r, w := a0w, h := a0h, c := a0c, x := a0x, y := a0y, d := a0d } then a0d else (0 : Int))) = true → K (V.lit false)) ∧ ((!((((((bif goodB 
  { r := a0r, w := a0w, h := a0h, c := a0c, x := a0x, y := a0y, d := a0d } then a0r else []) == bif goodB { r := a0r, w := a0w, h := a0h, c := a0c, x := a0x, y := a0y, d := a0d } then 
  a0r else []) && (bif goodB { r := a0r, w := a0w, h := a0h, c := a0c, x := a0x, y := a0y, d := a0d } then spF { r := a0r, w := a0w, h := a0h, c := a0c, x := a0x, y := a0y, d := a0d } 
  (Int.toNat (a0w * a0h)) else nilI) == bif goodB { r := a0r, w := a0w, h := a0h, c := a0c, x := a0x, y := a0y, d := a0d } then spF { r := a0r, w := a0w, h := a0h, c := a0c, x := a0x, y := a0y, d := a0d } 
  (Int.toNat (a0w * a0h)) else nilI) && (bif goodB { r := a0r, w := a0w, h := a0h, c := a0c, x := a0x, y := a0y, d := a0d } then a0x else (0 : Int)) == bif goodB { r := a0r, w := a0w, h := a0h, c := a0c, x := a0x, y := a0y, d := a0d } 
  then a0x else (0 : Int)) && (bif goodB { r := a0r, w := a0w, h := a0h, c := a0c, x := a0x, y := a0y, d := a0d } then a0y else (0 : Int)) == bif goodB { r := a0r, w := a0w, h := a0h, c := a0c, x := a0x, y := a0y, d := a0d } 
  then a0y else (0 : Int)) && (bif goodB { r := a0r, w := a0w, h := a0h, c := a0c, x := a0x, y := a0y, d := a0d } then a0d else (0 : Int)) == bif goodB { r := a0r, w := a0w, h := a0h, c := a0c, x := a0x, y := a0y, d := a0d } 
  then a0d else (0 : Int))) = false → ((!goodB { r := a0r, w := a0w, h := a0h, c := a0c, x := a0x, y := a0y, d := a0d } == goodB { r := a0r, w := a0w, h := a0h, c := a0c, x := a0x, y := a0y, d := a0d }) 
  = true → K (V.lit false)) ∧ ((!goodB { r := a0r, w := a0w, h := a0h, c := a0c, x := a0x, y := a0y, d := a0d } == goodB { r := a0r, w := a0w, h := a0h, c := a0c, x := a0x, y := a0y, d := a0d }) 
  = false → At ((List.length (bif goodB { r := a0r, w := a0w, h := a0h, c := a0c, x := a0x, y := a0y, d := a0d } then spF { r := a0r, w := a0w, h := a0h, c := a0c, x := a0x, y := a0y, d := a0d } 
  (Int.toNat (a0w * a0h)) else nilI) = (3 : Nat) * bif goodB { r := a0r, w := a0w, h := a0h, c := a0c, x := a0x, y := a0y, d := a0d } then cntS { r := a0r, w := a0w, h := a0h, c := a0c, x := a0x, y := a0y, d := a0d } 
  (Int.toNat (a0w * a0h)) else (0 : Nat)) ∧ (bif goodB { r := a0r, w := a0w, h := a0h, c := a0c, x := a0x, y := a0y, d := a0d } then cntS { r := a0r, w := a0w, h := a0h, c := a0c, x := a0x, y := a0y, d := a0d } 
  (Int.toNat (a0w * a0h)) else (0 : Nat)) ≤ (2000000 : Nat) ∧ (0 : Int) ≤ (1 : Int) ∧ (1 : Int) ≤ (1000 : Int)) ∧ At ((List.length (ramp (1 : Int) ((3 : Nat) * bif goodB { r := a0r, w := a0w, h := a0h, c := a0c, x := a0x, y := a0y, d := a0d } 
  then cntS { r := a0r, w := a0w, h := a0h, c := a0c, x := a0x, y := a0y, d := a0d } (Int.toNat (a0w * a0h)) else (0 : Nat))) = (3 : Nat) * bif goodB { r := a0r, w := a0w, h := a0h, c := a0c, x := a0x, y := a0y, d := a0d } 
  then cntS { r := a0r, w := a0w, h := a0h, c := a0c, x := a0x, y := a0y, d := a0d } (Int.toNat (a0w * a0h)) else (0 : Nat)) ∧ (bif goodB { r := a0r, w := a0w, h := a0h, c := a0c, x := a0x, y := a0y, d := a0d } 
  then cntS { r := a0r, w := a0w, h := a0h, c := a0c, x := a0x, y := a0y, d := a0d } (Int.toNat (a0w * a0h)) else (0 : Nat)) ≤ (2000000 : Nat) ∧ (0 : Int) ≤ (1 : Int) ∧ (1 : Int) ≤ (1000 
  : Int)) ∧ (decide ((bif ramp (1 : Int) ((3 : Nat) * bif goodB { r := a0r, w := a0w, h := a0h, c := a0c, x := a0x, y := a0y, d := a0d } then cntS { r := a0r, w := a0w, h := a0h, c := a0c, x := a0x, y := a0y, d := a0d } 
  (Int.toNat (a0w * a0h)) else (0 : Nat)) == ramp (1 : Int) ((3 : Nat) * bif goodB { r := a0r, w := a0w, h := a0h, c := a0c, x := a0x, y := a0y, d := a0d } then cntS { r := a0r, w := a0w, h := a0h, c := a0c, x := a0x, y := a0y, d := a0d } 
  (Int.toNat (a0w * a0h)) else (0 : Nat)) then (1 : Int) + (↑((3 : Nat) * bif goodB { r := a0r, w := a0w, h := a0h, c := a0c, x := a0x, y := a0y, d := a0d } then cntS { r := a0r, w := a0w, h := a0h, c := a0c, x := a0x, y := a0y, d := a0d } 
  (Int.toNat (a0w * a0h)) else (0 : Nat)) : Int) else (-1 : Int)) < (0 : Int)) = true → (decide ((-1 : Int) < (0 : Int)) = true → K (V.lit false)) ∧ (decide ((-1 : Int) < (0 : Int)) = 
  false → (((-1 : Int) != (1 : Int) + (↑((3 : Nat) * bif goodB { r := a0r, w := a0w, h := a0h, c := a0c, x := a0x, y := a0y, d := a0d } then cntS { r := a0r, w := a0w, h := a0h, c := a0c, x := a0x, y := a0y, d := a0d } 
  (Int.toNat (a0w * a0h)) else (0 : Nat)) : Int)) = true → K (V.lit false)) ∧ (((-1 : Int) != (1 : Int) + (↑((3 : Nat) * bif goodB { r := a0r, w := a0w, h := a0h, c := a0c, x := a0x, y := a0y, d := a0d } 
  then cntS { r := a0r, w := a0w, h := a0h, c := a0c, x := a0x, y := a0y, d := a0d } (Int.toNat (a0w * a0h)) else (0 : Nat)) : Int)) = false → At True ∧ At ((List.length (bif goodB { r := a0r, w := a0w, h := a0h, c := a0c, x := a0x, y := a0y, d := a0d } 
  then spF { r := a0r, w := a0w, h := a0h, c := a0c, x := a0x, y := a0y, d := a0d } (Int.toNat (a0w * a0h)) else nilI) = (3 : Nat) * bif goodB { r := a0r, w := a0w, h := a0h, c := a0c, x := a0x, y := a0y, d := a0d } 
  then cntS { r := a0r, w := a0w, h := a0h, c := a0c, x := a0x, y := a0y, d := a0d } (Int.toNat (a0w * a0h)) else (0 : Nat)) ∧ (List.length (bif goodB { r := a0r, w := a0w, h := a0h, c := a0c, x := a0x, y := a0y, d := a0d } 
  then spF { r := a0r, w := a0w, h := a0h, c := a0c, x := a0x, y := a0y, d := a0d } (Int.toNat (a0w * a0h)) else nilI) = (3 : Nat) * bif goodB { r := a0r, w := a0w, h := a0h, c := a0c, x := a0x, y := a0y, d := a0d } 
  then cntS { r := a0r, w := a0w, h := a0h, c := a0c, x := a0x, y := a0y, d := a0d } (Int.toNat (a0w * a0h)) else (0 : Nat)) ∧ (bif goodB { r := a0r, w := a0w, h := a0h, c := a0c, x := a0x, y := a0y, d := a0d } 
  then cntS { r := a0r, w := a0w, h := a0h, c := a0c, x := a0x, y := a0y, d := a0d } (Int.toNat (a0w * a0h)) else (0 : Nat)) ≤ (2000000 : Nat) ∧ (bif goodB { r := a0r, w := a0w, h := a0h, c := a0c, x := a0x, y := a0y, d := a0d } 
  then cntS { r := a0r, w := a0w, h := a0h, c := a0c, x := a0x, y := a0y, d := a0d } (Int.toNat (a0w * a0h)) else (0 : Nat)) ≤ (2000000 : Nat)) ∧ ((!((((((bif goodB { r := a0r, w := a0w, h := a0h, c := a0c, x := a0x, y := a0y, d := a0d } 
  then a0r else []) == bif goodB { r := a0r, w := a0w, h := a0h, c := a0c, x := a0x, y := a0y, d := a0d } then a0r else []) && (bif goodB { r := a0r, w := a0w, h := a0h, c := a0c, x := a0x, y := a0y, d := a0d } 
  then spF { r := a0r, w := a0w, h := a0h, c := a0c, x := a0x, y := a0y, d := a0d } (Int.toNat (a0w * a0h)) else nilI) == bif goodB { r := a0r, w := a0w, h := a0h, c := a0c, x := a0x, y := a0y, d := a0d } 
  then spF { r := a0r, w := a0w, h := a0h, c := a0c, x := a0x, y := a0y, d := a0d } (Int.toNat (a0w * a0h)) else nilI) && (bif goodB { r := a0r, w := a0w, h := a0h, c := a0c, x := a0x, y := a0y, d := a0d } 
  then a0x else (0 : Int)) == bif goodB { r := a0r, w := a0w, h := a0h, c := a0c, x := a0x, y := a0y, d := a0d } then a0x else (0 : Int)) && (bif goodB { r := a0r, w := a0w, h := a0h, c := a0c, x := a0x, y := a0y, d := a0d } 
  then a0y else (0 : Int)) == bif goodB { r := a0r, w := a0w, h := a0h, c := a0c, x := a0x, y := a0y, d := a0d } then a0y else (0 : Int)) && (bif goodB { r := a0r, w := a0w, h := a0h, c := a0c, x := a0x, y := a0y, d := a0d } 
  then a0d else (0 : Int)) == bif goodB { r := a0r, w := a0w, h := a0h, c := a0c, x := a0x, y := a0y, d := a0d } then a0d else (0 : Int))) = true → K (V.lit false)) ∧ ((!((((((bif goodB 
  { r := a0r, w := a0w, h := a0h, c := a0c, x := a0x, y := a0y, d := a0d } then a0r else []) == bif goodB { r := a0r, w := a0w, h := a0h, c := a0c, x := a0x, y := a0y, d := a0d } then 
  a0r else []) && (bif goodB { r := a0r, w := a0w, h := a0h, c := a0c, x := a0x, y := a0y, d := a0d } then spF { r := a0r, w := a0w, h := a0h, c := a0c, x := a0x, y := a0y, d := a0d } 
  (Int.toNat (a0w * a0h)) else nilI) == bif goodB { r := a0r, w := a0w, h := a0h, c := a0c, x := a0x, y := a0y, d := a0d } then spF { r := a0r, w := a0w, h := a0h, c := a0c, x := a0x, y := a0y, d := a0d } 
  (Int.toNat (a0w * a0h)) else nilI) && (bif goodB { r := a0r, w := a0w, h := a0h, c := a0c, x := a0x, y := a0y, d := a0d } then a0x else (0 : Int)) == bif goodB { r := a0r, w := a0w, h := a0h, c := a0c, x := a0x, y := a0y, d := a0d } 
  then a0x else (0 : Int)) && (bif goodB { r := a0r, w := a0w, h := a0h, c := a0c, x := a0x, y := a0y, d := a0d } then a0y else (0 : Int)) == bif goodB { r := a0r, w := a0w, h := a0h, c := a0c, x := a0x, y := a0y, d := a0d } 
  then a0y else (0 : Int)) && (bif goodB { r := a0r, w := a0w, h := a0h, c := a0c, x := a0x, y := a0y, d := a0d } then a0d else (0 : Int)) == bif goodB { r := a0r, w := a0w, h := a0h, c := a0c, x := a0x, y := a0y, d := a0d } 
  then a0d else (0 : Int))) = false → ((!goodB { r := a0r, w := a0w, h := a0h, c := a0c, x := a0x, y := a0y, d := a0d } == goodB { r := a0r, w := a0w, h := a0h, c := a0c, x := a0x, y := a0y, d := a0d }) 
  = true → K (V.lit false)) ∧ ((!goodB { r := a0r, w := a0w, h := a0h, c := a0c, x := a0x, y := a0y, d := a0d } == goodB { r := a0r, w := a0w, h := a0h, c := a0c, x := a0x, y := a0y, d := a0d }) 
  = false → At ((List.length (ramp (1 : Int) ((3 : Nat) * bif goodB { r := a0r, w := a0w, h := a0h, c := a0c, x := a0x, y := a0y, d := a0d } then cntS { r := a0r, w := a0w, h := a0h, c := a0c, x := a0x, y := a0y, d := a0d } 
  (Int.toNat (a0w * a0h)) else (0 : Nat))) = (3 : Nat) * bif goodB { r := a0r, w := a0w, h := a0h, c := a0c, x := a0x, y := a0y, d := a0d } then cntS { r := a0r, w := a0w, h := a0h, c := a0c, x := a0x, y := a0y, d := a0d } 
  (Int.toNat (a0w * a0h)) else (0 : Nat)) ∧ (bif goodB { r := a0r, w := a0w, h := a0h, c := a0c, x := a0x, y := a0y, d := a0d } then cntS { r := a0r, w := a0w, h := a0h, c := a0c, x := a0x, y := a0y, d := a0d } 
  (Int.toNat (a0w * a0h)) else (0 : Nat)) ≤ (2000000 : Nat) ∧ (0 : Int) ≤ (1 : Int) ∧ (1 : Int) ≤ (1000 : Int)) ∧ (decide ((bif ramp (1 : Int) ((3 : Nat) * bif goodB { r := a0r, w := a0w, h := a0h, c := a0c, x := a0x, y := a0y, d := a0d } 
  then cntS { r := a0r, w := a0w, h := a0h, c := a0c, x := a0x, y := a0y, d := a0d } (Int.toNat (a0w * a0h)) else (0 : Nat)) == ramp (1 : Int) ((3 : Nat) * bif goodB { r := a0r, w := a0w, h := a0h, c := a0c, x := a0x, y := a0y, d := a0d } 
  then cntS { r := a0r, w := a0w, h := a0h, c := a0c, x := a0x, y := a0y, d := a0d } (Int.toNat (a0w * a0h)) else (0 : Nat)) then (1 : Int) + (↑((3 : Nat) * bif goodB { r := a0r, w := a0w, h := a0h, c := a0c, x := a0x, y := a0y, d := a0d } 
  then cntS { r := a0r, w := a0w, h := a0h, c := a0c, x := a0x, y := a0y, d := a0d } (Int.toNat (a0w * a0h)) else (0 : Nat)) : Int) else (-1 : Int)) < (0 : Int)) = true → (decide ((-1 
  : Int) < (0 : Int)) = true → K (V.lit false)) ∧ (decide ((-1 : Int) < (0 : Int)) = false → (((-1 : Int) != (1 : Int) + (↑((3 : Nat) * bif goodB { r := a0r, w := a0w, h := a0h, c := a0c, x := a0x, y := a0y, d := a0d } 
  then cntS { r := a0r, w := a0w, h := a0h, c := a0c, x := a0x, y := a0y, d := a0d } (Int.toNat (a0w * a0h)) else (0 : Nat)) : Int)) = true → K (V.lit false)) ∧ (((-1 : Int) != (1 : Int) 
  + (↑((3 : Nat) * bif goodB { r := a0r, w := a0w, h := a0h, c := a0c, x := a0x, y := a0y, d := a0d } then cntS { r := a0r, w := a0w, h := a0h, c := a0c, x := a0x, y := a0y, d := a0d } 
  (Int.toNat (a0w * a0h)) else (0 : Nat)) : Int)) = false → K (V.lit true)))) ∧ (decide ((bif ramp (1 : Int) ((3 : Nat) * bif goodB { r := a0r, w := a0w, h := a0h, c := a0c, x := a0x, y := a0y, d := a0d } 
  then cntS { r := a0r, w := a0w, h := a0h, c := a0c, x := a0x, y := a0y, d := a0d } (Int.toNat (a0w * a0h)) else (0 : Nat)) == ramp (1 : Int) ((3 : Nat) * bif goodB { r := a0r, w := a0w, h := a0h, c := a0c, x := a0x, y := a0y, d := a0d } 
  then cntS { r := a0r, w := a0w, h := a0h, c := a0c, x := a0x, y := a0y, d := a0d } (Int.toNat (a0w * a0h)) else (0 : Nat)) then (1 : Int) + (↑((3 : Nat) * bif goodB { r := a0r, w := a0w, h := a0h, c := a0c, x := a0x, y := a0y, d := a0d } 
  then cntS { r := a0r, w := a0w, h := a0h, c := a0c, x := a0x, y := a0y, d := a0d } (Int.toNat (a0w * a0h)) else (0 : Nat)) : Int) else (-1 : Int)) < (0 : Int)) = false → (decide ((bif 
  ramp (1 : Int) ((3 : Nat) * bif goodB { r := a0r, w := a0w, h := a0h, c := a0c, x := a0x, y := a0y, d := a0d } then cntS { r := a0r, w := a0w, h := a0h, c := a0c, x := a0x, y := a0y, d := a0d } 
  (Int.toNat (a0w * a0h)) else (0 : Nat)) == ramp (1 : Int) ((3 : Nat) * bif goodB { r := a0r, w := a0w, h := a0h, c := a0c, x := a0x, y := a0y, d := a0d } then cntS { r := a0r, w := a0w, h := a0h, c := a0c, x := a0x, y := a0y, d := a0d } 
  (Int.toNat (a0w * a0h)) else (0 : Nat)) then (1 : Int) + (↑((3 : Nat) * bif goodB { r := a0r, w := a0w, h := a0h, c := a0c, x := a0x, y := a0y, d := a0d } then cntS { r := a0r, w := a0w, h := a0h, c := a0c, x := a0x, y := a0y, d := a0d } 
  (Int.toNat (a0w * a0h)) else (0 : Nat)) : Int) else (-1 : Int)) < (0 : Int)) = true → K (V.lit false)) ∧ (decide ((bif ramp (1 : Int) ((3 : Nat) * bif goodB { r := a0r, w := a0w, h := a0h, c := a0c, x := a0x, y := a0y, d := a0d } 
  then cntS { r := a0r, w := a0w, h := a0h, c := a0c, x := a0x, y := a0y, d := a0d } (Int.toNat (a0w * a0h)) else (0 : Nat)) == ramp (1 : Int) ((3 : Nat) * bif goodB { r := a0r, w := a0w, h := a0h, c := a0c, x := a0x, y := a0y, d := a0d } 
  then cntS { r := a0r, w := a0w, h := a0h, c := a0c, x := a0x, y := a0y, d := a0d } (Int.toNat (a0w * a0h)) else (0 : Nat)) then (1 : Int) + (↑((3 : Nat) * bif goodB { r := a0r, w := a0w, h := a0h, c := a0c, x := a0x, y := a0y, d := a0d } 
  then cntS { r := a0r, w := a0w, h := a0h, c := a0c, x := a0x, y := a0y, d := a0d } (Int.toNat (a0w * a0h)) else (0 : Nat)) : Int) else (-1 : Int)) < (0 : Int)) = false → (((bif ramp 
  (1 : Int) ((3 : Nat) * bif goodB { r := a0r, w := a0w, h := a0h, c := a0c, x := a0x, y := a0y, d := a0d } then cntS { r := a0r, w := a0w, h := a0h, c := a0c, x := a0x, y := a0y, d := a0d } 
  (Int.toNat (a0w * a0h)) else (0 : Nat)) == ramp (1 : Int) ((3 : Nat) * bif goodB { r := a0r, w := a0w, h := a0h, c := a0c, x := a0x, y := a0y, d := a0d } then cntS { r := a0r, w := a0w, h := a0h, c := a0c, x := a0x, y := a0y, d := a0d } 
  (Int.toNat (a0w * a0h)) else (0 : Nat)) then (1 : Int) + (↑((3 : Nat) * bif goodB { r := a0r, w := a0w, h := a0h, c := a0c, x := a0x, y := a0y, d := a0d } then cntS { r := a0r, w := a0w, h := a0h, c := a0c, x := a0x, y := a0y, d := a0d } 
  (Int.toNat (a0w * a0h)) else (0 : Nat)) : Int) else (-1 : Int)) != (1 : Int) + (↑((3 : Nat) * bif goodB { r := a0r, w := a0w, h := a0h, c := a0c, x := a0x, y := a0y, d := a0d } then 
  cntS { r := a0r, w := a0w, h := a0h, c := a0c, x := a0x, y := a0y, d := a0d } (Int.toNat (a0w * a0h)) else (0 : Nat)) : Int)) = true → K (V.lit false)) ∧ (((bif ramp (1 : Int) ((3 : 
  Nat) * bif goodB { r := a0r, w := a0w, h := a0h, c := a0c, x := a0x, y := a0y, d := a0d } then cntS { r := a0r, w := a0w, h := a0h, c := a0c, x := a0x, y := a0y, d := a0d } (Int.toNat 
  (a0w * a0h)) else (0 : Nat)) == ramp (1 : Int) ((3 : Nat) * bif goodB { r := a0r, w := a0w, h := a0h, c := a0c, x := a0x, y := a0y, d := a0d } then cntS { r := a0r, w := a0w, h := a0h, c := a0c, x := a0x, y := a0y, d := a0d } 
  (Int.toNat (a0w * a0h)) else (0 : Nat)) then (1 : Int) + (↑((3 : Nat) * bif goodB { r := a0r, w := a0w, h := a0h, c := a0c, x := a0x, y := a0y, d := a0d } then cntS { r := a0r, w := a0w, h := a0h, c := a0c, x := a0x, y := a0y, d := a0d } 
  (Int.toNat (a0w * a0h)) else (0 : Nat)) : Int) else (-1 : Int)) != (1 : Int) + (↑((3 : Nat) * bif goodB { r := a0r, w := a0w, h := a0h, c := a0c, x := a0x, y := a0y, d := a0d } then 
  cntS { r := a0r, w := a0w, h := a0h, c := a0c, x := a0x, y := a0y, d := a0d } (Int.toNat (a0w * a0h)) else (0 : Nat)) : Int)) = false → K (V.lit true))))))))) ∧ (decide ((bif ramp (1 
  : Int) ((3 : Nat) * bif goodB { r := a0r, w := a0w, h := a0h, c := a0c, x := a0x, y := a0y, d := a0d } then cntS { r := a0r, w := a0w, h := a0h, c := a0c, x := a0x, y := a0y, d := a0d } 
  (Int.toNat (a0w * a0h)) else (0 : Nat)) == ramp (1 : Int) ((3 : Nat) * bif goodB { r := a0r, w := a0w, h := a0h, c := a0c, x := a0x, y := a0y, d := a0d } then cntS { r := a0r, w := a0w, h := a0h, c := a0c, x := a0x, y := a0y, d := a0d } 
  (Int.toNat (a0w * a0h)) else (0 : Nat)) then (1 : Int) + (↑((3 : Nat) * bif goodB { r := a0r, w := a0w, h := a0h, c := a0c, x := a0x, y := a0y, d := a0d } then cntS { r := a0r, w := a0w, h := a0h, c := a0c, x := a0x, y := a0y, d := a0d } 
  (Int.toNat (a0w * a0h)) else (0 : Nat)) : Int) else (-1 : Int)) < (0 : Int)) = false → (decide ((bif ramp (1 : Int) ((3 : Nat) * bif goodB { r := a0r, w := a0w, h := a0h, c := a0c, x := a0x, y := a0y, d := a0d } 
  then cntS { r := a0r, w := a0w, h := a0h, c := a0c, x := a0x, y := a0y, d := a0d } (Int.toNat (a0w * a0h)) else (0 : Nat)) == ramp (1 : Int) ((3 : Nat) * bif goodB { r := a0r, w := a0w, h := a0h, c := a0c, x := a0x, y := a0y, d := a0d } 
  then cntS { r := a0r, w := a0w, h := a0h, c := a0c, x := a0x, y := a0y, d := a0d } (Int.toNat (a0w * a0h)) else (0 : Nat)) then (1 : Int) + (↑((3 : Nat) * bif goodB { r := a0r, w := a0w, h := a0h, c := a0c, x := a0x, y := a0y, d := a0d } 
  then cntS { r := a0r, w := a0w, h := a0h, c := a0c, x := a0x, y := a0y, d := a0d } (Int.toNat (a0w * a0h)) else (0 : Nat)) : Int) else (-1 : Int)) < (0 : Int)) = true → K (V.lit false)) 
  ∧ (decide ((bif ramp (1 : Int) ((3 : Nat) * bif goodB { r := a0r, w := a0w, h := a0h, c := a0c, x := a0x, y := a0y, d := a0d } then cntS { r := a0r, w := a0w, h := a0h, c := a0c, x := a0x, y := a0y, d := a0d } 
  (Int.toNat (a0w * a0h)) else (0 : Nat)) == ramp (1 : Int) ((3 : Nat) * bif goodB { r := a0r, w := a0w, h := a0h, c := a0c, x := a0x, y := a0y, d := a0d } then cntS { r := a0r, w := a0w, h := a0h, c := a0c, x := a0x, y := a0y, d := a0d } 
  (Int.toNat (a0w * a0h)) else (0 : Nat)) then (1 : Int) + (↑((3 : Nat) * bif goodB { r := a0r, w := a0w, h := a0h, c := a0c, x := a0x, y := a0y, d := a0d } then cntS { r := a0r, w := a0w, h := a0h, c := a0c, x := a0x, y := a0y, d := a0d } 
  (Int.toNat (a0w * a0h)) else (0 : Nat)) : Int) else (-1 : Int)) < (0 : Int)) = false → (((bif ramp (1 : Int) ((3 : Nat) * bif goodB { r := a0r, w := a0w, h := a0h, c := a0c, x := a0x, y := a0y, d := a0d } 
  then cntS { r := a0r, w := a0w, h := a0h, c := a0c, x := a0x, y := a0y, d := a0d } (Int.toNat (a0w * a0h)) else (0 : Nat)) == ramp (1 : Int) ((3 : Nat) * bif goodB { r := a0r, w := a0w, h := a0h, c := a0c, x := a0x, y := a0y, d := a0d } 
  then cntS { r := a0r, w := a0w, h := a0h, c := a0c, x := a0x, y := a0y, d := a0d } (Int.toNat (a0w * a0h)) else (0 : Nat)) then (1 : Int) + (↑((3 : Nat) * bif goodB { r := a0r, w := a0w, h := a0h, c := a0c, x := a0x, y := a0y, d := a0d } 
  then cntS { r := a0r, w := a0w, h := a0h, c := a0c, x := a0x, y := a0y, d := a0d } (Int.toNat (a0w * a0h)) else (0 : Nat)) : Int) else (-1 : Int)) != (1 : Int) + (↑((3 : Nat) * bif 
  goodB { r := a0r, w := a0w, h := a0h, c := a0c, x := a0x, y := a0y, d := a0d } then cntS { r := a0r, w := a0w, h := a0h, c := a0c, x := a0x, y := a0y, d := a0d } (Int.toNat (a0w * a0h)) 
  else (0 : Nat)) : Int)) = true → K (V.lit false)) ∧ (((bif ramp (1 : Int) ((3 : Nat) * bif goodB { r := a0r, w := a0w, h := a0h, c := a0c, x := a0x, y := a0y, d := a0d } then cntS { r := a0r, w := a0w, h := a0h, c := a0c, x := a0x, y := a0y, d := a0d } 
  (Int.toNat (a0w * a0h)) else (0 : Nat)) == ramp (1 : Int) ((3 : Nat) * bif goodB { r := a0r, w := a0w, h := a0h, c := a0c, x := a0x, y := a0y, d := a0d } then cntS { r := a0r, w := a0w, h := a0h, c := a0c, x := a0x, y := a0y, d := a0d } 
  (Int.toNat (a0w * a0h)) else (0 : Nat)) then (1 : Int) + (↑((3 : Nat) * bif goodB { r := a0r, w := a0w, h := a0h, c := a0c, x := a0x, y := a0y, d := a0d } then cntS { r := a0r, w := a0w, h := a0h, c := a0c, x := a0x, y := a0y, d := a0d } 
  (Int.toNat (a0w * a0h)) else (0 : Nat)) : Int) else (-1 : Int)) != (1 : Int) + (↑((3 : Nat) * bif goodB { r := a0r, w := a0w, h := a0h, c := a0c, x := a0x, y := a0y, d := a0d } then 
  cntS { r := a0r, w := a0w, h := a0h, c := a0c, x := a0x, y := a0y, d := a0d } (Int.toNat (a0w * a0h)) else (0 : Nat)) : Int)) = false → At True ∧ At ((List.length (bif goodB { r := a0r, w := a0w, h := a0h, c := a0c, x := a0x, y := a0y, d := a0d } 
  then spF { r := a0r, w := a0w, h := a0h, c := a0c, x := a0x, y := a0y, d := a0d } (Int.toNat (a0w * a0h)) else nilI) = (3 : Nat) * bif goodB { r := a0r, w := a0w, h := a0h, c := a0c, x := a0x, y := a0y, d := a0d } 
  then cntS { r := a0r, w := a0w, h := a0h, c := a0c, x := a0x, y := a0y, d := a0d } (Int.toNat (a0w * a0h)) else (0 : Nat)) ∧ (List.length (bif goodB { r := a0r, w := a0w, h := a0h, c := a0c, x := a0x, y := a0y, d := a0d } 
  then spF { r := a0r, w := a0w, h := a0h, c := a0c, x := a0x, y := a0y, d := a0d } (Int.toNat (a0w * a0h)) else nilI) = (3 : Nat) * bif goodB { r := a0r, w := a0w, h := a0h, c := a0c, x := a0x, y := a0y, d := a0d } 
  then cntS { r := a0r, w := a0w, h := a0h, c := a0c, x := a0x, y := a0y, d := a0d } (Int.toNat (a0w * a0h)) else (0 : Nat)) ∧ (bif goodB { r := a0r, w := a0w, h := a0h, c := a0c, x := a0x, y := a0y, d := a0d } 
  then cntS { r := a0r, w := a0w, h := a0h, c := a0c, x := a0x, y := a0y, d := a0d } (Int.toNat (a0w * a0h)) else (0 : Nat)) ≤ (2000000 : Nat) ∧ (bif goodB { r := a0r, w := a0w, h := a0h, c := a0c, x := a0x, y := a0y, d := a0d } 
  then cntS { r := a0r, w := a0w, h := a0h, c := a0c, x := a0x, y := a0y, d := a0d } (Int.toNat (a0w * a0h)) else (0 : Nat)) ≤ (2000000 : Nat)) ∧ ((!((((((bif goodB { r := a0r, w := a0w, h := a0h, c := a0c, x := a0x, y := a0y, d := a0d } 
  then a0r else []) == bif goodB { r := a0r, w := a0w, h := a0h, c := a0c, x := a0x, y := a0y, d := a0d } then a0r else []) && (bif goodB { r := a0r, w := a0w, h := a0h, c := a0c, x := a0x, y := a0y, d := a0d } 
  then spF { r := a0r, w := a0w, h := a0h, c := a0c, x := a0x, y := a0y, d := a0d } (Int.toNat (a0w * a0h)) else nilI) == bif goodB { r := a0r, w := a0w, h := a0h, c := a0c, x := a0x, y := a0y, d := a0d } 
  then spF { r := a0r, w := a0w, h := a0h, c := a0c, x := a0x, y := a0y, d := a0d } (Int.toNat (a0w * a0h)) else nilI) && (bif goodB { r := a0r, w := a0w, h := a0h, c := a0c, x := a0x, y := a0y, d := a0d } 
  then a0x else (0 : Int)) == bif goodB { r := a0r, w := a0w, h := a0h, c := a0c, x := a0x, y := a0y, d := a0d } then a0x else (0 : Int)) && (bif goodB { r := a0r, w := a0w, h := a0h, c := a0c, x := a0x, y := a0y, d := a0d } 
  then a0y else (0 : Int)) == bif goodB { r := a0r, w := a0w, h := a0h, c := a0c, x := a0x, y := a0y, d := a0d } then a0y else (0 : Int)) && (bif goodB { r := a0r, w := a0w, h := a0h, c := a0c, x := a0x, y := a0y, d := a0d } 
  then a0d else (0 : Int)) == bif goodB { r := a0r, w := a0w, h := a0h, c := a0c, x := a0x, y := a0y, d := a0d } then a0d else (0 : Int))) = true → K (V.lit false)) ∧ ((!((((((bif goodB 
  { r := a0r, w := a0w, h := a0h, c := a0c, x := a0x, y := a0y, d := a0d } then a0r else []) == bif goodB { r := a0r, w := a0w, h := a0h, c := a0c, x := a0x, y := a0y, d := a0d } then 
  a0r else []) && (bif goodB { r := a0r, w := a0w, h := a0h, c := a0c, x := a0x, y := a0y, d := a0d } then spF { r := a0r, w := a0w, h := a0h, c := a0c, x := a0x, y := a0y, d := a0d } 
  (Int.toNat (a0w * a0h)) else nilI) == bif goodB { r := a0r, w := a0w, h := a0h, c := a0c, x := a0x, y := a0y, d := a0d } then spF { r := a0r, w := a0w, h := a0h, c := a0c, x := a0x, y := a0y, d := a0d } 
  (Int.toNat (a0w * a0h)) else nilI) && (bif goodB { r := a0r, w := a0w, h := a0h, c := a0c, x := a0x, y := a0y, d := a0d } then a0x else (0 : Int)) == bif goodB { r := a0r, w := a0w, h := a0h, c := a0c, x := a0x, y := a0y, d := a0d } 
  then a0x else (0 : Int)) && (bif goodB { r := a0r, w := a0w, h := a0h, c := a0c, x := a0x, y := a0y, d := a0d } then a0y else (0 : Int)) == bif goodB { r := a0r, w := a0w, h := a0h, c := a0c, x := a0x, y := a0y, d := a0d } 
  then a0y else (0 : Int)) && (bif goodB { r := a0r, w := a0w, h := a0h, c := a0c, x := a0x, y := a0y, d := a0d } then a0d else (0 : Int)) == bif goodB { r := a0r, w := a0w, h := a0h, c := a0c, x := a0x, y := a0y, d := a0d } 
  then a0d else (0 : Int))) = false → ((!goodB { r := a0r, w := a0w, h := a0h, c := a0c, x := a0x, y := a0y, d := a0d } == goodB { r := a0r, w := a0w, h := a0h, c := a0c, x := a0x, y := a0y, d := a0d }) 
  = true → K (V.lit false)) ∧ ((!goodB { r := a0r, w := a0w, h := a0h, c := a0c, x := a0x, y := a0y, d := a0d } == goodB { r := a0r, w := a0w, h := a0h, c := a0c, x := a0x, y := a0y, d := a0d }) 
  = false → At ((List.length (ramp (1 : Int) ((3 : Nat) * bif goodB { r := a0r, w := a0w, h := a0h, c := a0c, x := a0x, y := a0y, d := a0d } then cntS { r := a0r, w := a0w, h := a0h, c := a0c, x := a0x, y := a0y, d := a0d } 
  (Int.toNat (a0w * a0h)) else (0 : Nat))) = (3 : Nat) * bif goodB { r := a0r, w := a0w, h := a0h, c := a0c, x := a0x, y := a0y, d := a0d } then cntS { r := a0r, w := a0w, h := a0h, c := a0c, x := a0x, y := a0y, d := a0d } 
  (Int.toNat (a0w * a0h)) else (0 : Nat)) ∧ (bif goodB { r := a0r, w := a0w, h := a0h, c := a0c, x := a0x, y := a0y, d := a0d } then cntS { r := a0r, w := a0w, h := a0h, c := a0c, x := a0x, y := a0y, d := a0d } 
  (Int.toNat (a0w * a0h)) else (0 : Nat)) ≤ (2000000 : Nat) ∧ (0 : Int) ≤ (1 : Int) ∧ (1 : Int) ≤ (1000 : Int)) ∧ (decide ((bif ramp (1 : Int) ((3 : Nat) * bif goodB { r := a0r, w := a0w, h := a0h, c := a0c, x := a0x, y := a0y, d := a0d } 
  then cntS { r := a0r, w := a0w, h := a0h, c := a0c, x := a0x, y := a0y, d := a0d } (Int.toNat (a0w * a0h)) else (0 : Nat)) == ramp (1 : Int) ((3 : Nat) * bif goodB { r := a0r, w := a0w, h := a0h, c := a0c, x := a0x, y := a0y, d := a0d } 
  then cntS { r := a0r, w := a0w, h := a0h, c := a0c, x := a0x, y := a0y, d := a0d } (Int.toNat (a0w * a0h)) else (0 : Nat)) then (1 : Int) + (↑((3 : Nat) * bif goodB { r := a0r, w := a0w, h := a0h, c := a0c, x := a0x, y := a0y, d := a0d } 
  then cntS { r := a0r, w := a0w, h := a0h, c := a0c, x := a0x, y := a0y, d := a0d } (Int.toNat (a0w * a0h)) else (0 : Nat)) : Int) else (-1 : Int)) < (0 : Int)) = true → (decide ((-1 
  : Int) < (0 : Int)) = true → K (V.lit false)) ∧ (decide ((-1 : Int) < (0 : Int)) = false → (((-1 : Int) != (1 : Int) + (↑((3 : Nat) * bif goodB { r := a0r, w := a0w, h := a0h, c := a0c, x := a0x, y := a0y, d := a0d } 
  then cntS { r := a0r, w := a0w, h := a0h, c := a0c, x := a0x, y := a0y, d := a0d } (Int.toNat (a0w * a0h)) else (0 : Nat)) : Int)) = true → K (V.lit false)) ∧ (((-1 : Int) != (1 : Int) 
  + (↑((3 : Nat) * bif goodB { r := a0r, w := a0w, h := a0h, c := a0c, x := a0x, y := a0y, d := a0d } then cntS { r := a0r, w := a0w, h := a0h, c := a0c, x := a0x, y := a0y, d := a0d } 
  (Int.toNat (a0w * a0h)) else (0 : Nat)) : Int)) = false → K (V.lit true)))) ∧ (decide ((bif ramp (1 : Int) ((3 : Nat) * bif goodB { r := a0r, w := a0w, h := a0h, c := a0c, x := a0x, y := a0y, d := a0d } 
  then cntS { r := a0r, w := a0w, h := a0h, c := a0c, x := a0x, y := a0y, d := a0d } (Int.toNat (a0w * a0h)) else (0 : Nat)) == ramp (1 : Int) ((3 : Nat) * bif goodB { r := a0r, w := a0w, h := a0h, c := a0c, x := a0x, y := a0y, d := a0d } 
  then cntS { r := a0r, w := a0w, h := a0h, c := a0c, x := a0x, y := a0y, d := a0d } (Int.toNat (a0w * a0h)) else (0 : Nat)) then (1 : Int) + (↑((3 : Nat) * bif goodB { r := a0r, w := a0w, h := a0h, c := a0c, x := a0x, y := a0y, d := a0d } 
  then cntS { r := a0r, w := a0w, h := a0h, c := a0c, x := a0x, y := a0y, d := a0d } (Int.toNat (a0w * a0h)) else (0 : Nat)) : Int) else (-1 : Int)) < (0 : Int)) = false → (decide ((bif 
  ramp (1 : Int) ((3 : Nat) * bif goodB { r := a0r, w := a0w, h := a0h, c := a0c, x := a0x, y := a0y, d := a0d } then cntS { r := a0r, w := a0w, h := a0h, c := a0c, x := a0x, y := a0y, d := a0d } 
  (Int.toNat (a0w * a0h)) else (0 : Nat)) == ramp (1 : Int) ((3 : Nat) * bif goodB { r := a0r, w := a0w, h := a0h, c := a0c, x := a0x, y := a0y, d := a0d } then cntS { r := a0r, w := a0w, h := a0h, c := a0c, x := a0x, y := a0y, d := a0d } 
  (Int.toNat (a0w * a0h)) else (0 : Nat)) then (1 : Int) + (↑((3 : Nat) * bif goodB { r := a0r, w := a0w, h := a0h, c := a0c, x := a0x, y := a0y, d := a0d } then cntS { r := a0r, w := a0w, h := a0h, c := a0c, x := a0x, y := a0y, d := a0d } 
  (Int.toNat (a0w * a0h)) else (0 : Nat)) : Int) else (-1 : Int)) < (0 : Int)) = true → K (V.lit false)) ∧ (decide ((bif ramp (1 : Int) ((3 : Nat) * bif goodB { r := a0r, w := a0w, h := a0h, c := a0c, x := a0x, y := a0y, d := a0d } 
  then cntS { r := a0r, w := a0w, h := a0h, c := a0c, x := a0x, y := a0y, d := a0d } (Int.toNat (a0w * a0h)) else (0 : Nat)) == ramp (1 : Int) ((3 : Nat) * bif goodB { r := a0r, w := a0w, h := a0h, c := a0c, x := a0x, y := a0y, d := a0d } 
  then cntS { r := a0r, w := a0w, h := a0h, c := a0c, x := a0x, y := a0y, d := a0d } (Int.toNat (a0w * a0h)) else (0 : Nat)) then (1 : Int) + (↑((3 : Nat) * bif goodB { r := a0r, w := a0w, h := a0h, c := a0c, x := a0x, y := a0y, d := a0d } 
  then cntS { r := a0r, w := a0w, h := a0h, c := a0c, x := a0x, y := a0y, d := a0d } (Int.toNat (a0w * a0h)) else (0 : Nat)) : Int) else (-1 : Int)) < (0 : Int)) = false → (((bif ramp 
  (1 : Int) ((3 : Nat) * bif goodB { r := a0r, w := a0w, h := a0h, c := a0c, x := a0x, y := a0y, d := a0d } then cntS { r := a0r, w := a0w, h := a0h, c := a0c, x := a0x, y := a0y, d := a0d } 
  (Int.toNat (a0w * a0h)) else (0 : Nat)) == ramp (1 : Int) ((3 : Nat) * bif goodB { r := a0r, w := a0w, h := a0h, c := a0c, x := a0x, y := a0y, d := a0d } then cntS { r := a0r, w := a0w, h := a0h, c := a0c, x := a0x, y := a0y, d := a0d } 
  (Int.toNat (a0w * a0h)) else (0 : Nat)) then (1 : Int) + (↑((3 : Nat) * bif goodB { r := a0r, w := a0w, h := a0h, c := a0c, x := a0x, y := a0y, d := a0d } then cntS { r := a0r, w := a0w, h := a0h, c := a0c, x := a0x, y := a0y, d := a0d } 
  (Int.toNat (a0w * a0h)) else (0 : Nat)) : Int) else (-1 : Int)) != (1 : Int) + (↑((3 : Nat) * bif goodB { r := a0r, w := a0w, h := a0h, c := a0c, x := a0x, y := a0y, d := a0d } then 
  cntS { r := a0r, w := a0w, h := a0h, c := a0c, x := a0x, y := a0y, d := a0d } (Int.toNat (a0w * a0h)) else (0 : Nat)) : Int)) = true → K (V.lit false)) ∧ (((bif ramp (1 : Int) ((3 : 
  Nat) * bif goodB { r := a0r, w := a0w, h := a0h, c := a0c, x := a0x, y := a0y, d := a0d } then cntS { r := a0r, w := a0w, h := a0h, c := a0c, x := a0x, y := a0y, d := a0d } (Int.toNat 
  (a0w * a0h)) else (0 : Nat)) == ramp (1 : Int) ((3 : Nat) * bif goodB { r := a0r, w := a0w, h := a0h, c := a0c, x := a0x, y := a0y, d := a0d } then cntS { r := a0r, w := a0w, h := a0h, c := a0c, x := a0x, y := a0y, d := a0d } 
  (Int.toNat (a0w * a0h)) else (0 : Nat)) then (1 : Int) + (↑((3 : Nat) * bif goodB { r := a0r, w := a0w, h := a0h, c := a0c, x := a0x, y := a0y, d := a0d } then cntS { r := a0r, w := a0w, h := a0h, c := a0c, x := a0x, y := a0y, d := a0d } 
  (Int.toNat (a0w * a0h)) else (0 : Nat)) : Int) else (-1 : Int)) != (1 : Int) + (↑((3 : Nat) * bif goodB { r := a0r, w := a0w, h := a0h, c := a0c, x := a0x, y := a0y, d := a0d } then 
  cntS { r := a0r, w := a0w, h := a0h, c := a0c, x := a0x, y := a0y, d := a0d } (Int.toNat (a0w * a0h)) else (0 : Nat)) : Int)) = false → K (V.lit true))))))))))))

theorem vc_LawPlainOfWorld (a0r : List UInt8) (a0w : Int) (a0h : Int) (a0c : List UInt8) (a0x : Int) (a0y : Int) (a0d : Int) (ha0r : (a0r.length : Int) ≤ 9223372036854775807) (ha0w : -9223372036854775808 ≤ a0w ∧ a0w ≤ 9223372036854775807) (ha0h : -9223372036854775808 ≤ a0h ∧ a0h ≤ 9223372036854775807) (ha0c : (a0c.length : Int) ≤ 9223372036854775807) (ha0x : -9223372036854775808 ≤ a0x ∧ a0x ≤ 9223372036854775807) (ha0y : -9223372036854775808 ≤ a0y ∧ a0y ≤ 9223372036854775807) (ha0d : -9223372036854775808 ≤ a0d ∧ a0d ≤ 9223372036854775807) : VC_LawPlainOfWorld a0r a0w a0h a0c a0x a0y a0d (retP (.bool true)) := by
  unfold VC_LawPlainOfWorld
  have h1 := spF_len ⟨a0r, a0w, a0h, a0c, a0x, a0y, a0d⟩
  have h2 := cntS_le ⟨a0r, a0w, a0h, a0c, a0x, a0y, a0d⟩
  cases hg : goodB ⟨a0r, a0w, a0h, a0c, a0x, a0y, a0d⟩
  · simp [retP_lit, ramp, ha0r, ha0c]
  · have hb := good_bd hg
    simp only at hb
    have hm := mul_bd hb.1 hb.2.1
    have h3 := h2 (a0w * a0h).toNat
    have h4 : cntS ⟨a0r, a0w, a0h, a0c, a0x, a0y, a0d⟩ (a0w * a0h).toNat ≤ 2000000 := by omega
    simp [retP_lit, ramp_len, h1, h4, ha0r, ha0c]
    intro _
    omega
end Go.Vi
