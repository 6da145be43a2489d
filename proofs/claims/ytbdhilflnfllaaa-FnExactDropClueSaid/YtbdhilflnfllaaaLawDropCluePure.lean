/- The conditions of FnExactDropClue. -/
import Derived.Test.YtbdhilflnfllaaaPAPf
namespace Go.Vi
set_option linter.unusedVariables false
set_option linter.unusedSimpArgs false
def VC_LawDropClue (a0r : List UInt8) (a0w : Int) (a0h : Int) (a0cn : Nat) (a0c : List Int) (a1 : Int) (K : V → Prop) : Prop := At ((0 : Int) ≤ (1048576 : Int) ∧ (1048576 : Int) ≤ (1000000000 
  : Int) ∧ (↑a0cn : Int) ≤ (9223372036854775807 : Int) ∧ (↑(List.length a0r) : Int) ≤ (9223372036854775807 : Int)) ∧ (decide (szP a0r a0cn (1048576 : Int) < (0 : Int)) = true → K (V.lit 
  true)) ∧ (decide (szP a0r a0cn (1048576 : Int) < (0 : Int)) = false → At (List.length a0c = a0cn * (3 : Nat) ∧ a0cn ≤ (2000000 : Nat)) ∧ At (List.length a0c = a0cn * (3 : Nat) ∧ a0cn 
  ≤ (2000000 : Nat)) ∧ At (List.length a0c = a0cn * (3 : Nat) ∧ a0cn ≤ (2000000 : Nat)) ∧ At (List.length a0c = a0cn * (3 : Nat) ∧ a0cn ≤ (2000000 : Nat)) ∧ At ((List.length (bif okD 
  (goodZ a0r a0w a0h a0cn a0c) a0cn a1 then wo3 a0c (Int.toNat a1) else []) = (3 : Nat) * bif okD (goodZ a0r a0w a0h a0cn a0c) a0cn a1 then a0cn - (1 : Nat) else (0 : Nat)) ∧ (List.length 
  (bif okD (goodZ a0r a0w a0h a0cn a0c) a0cn a1 then wo3 a0c (Int.toNat a1) else []) = (3 : Nat) * bif okD (goodZ a0r a0w a0h a0cn a0c) a0cn a1 then a0cn - (1 : Nat) else (0 : Nat)) ∧ 
  (bif okD (goodZ a0r a0w a0h a0cn a0c) a0cn a1 then a0cn - (1 : Nat) else (0 : Nat)) ≤ (2000000 : Nat) ∧ (bif okD (goodZ a0r a0w a0h a0cn a0c) a0cn a1 then a0cn - (1 : Nat) else (0 : 
  Nat)) ≤ (2000000 : Nat)) ∧ ((!(((((bif okD (goodZ a0r a0w a0h a0cn a0c) a0cn a1 then a0r else []) == bif okD (goodZ a0r a0w a0h a0cn a0c) a0cn a1 then a0r else []) && (bif okD (goodZ 
  a0r a0w a0h a0cn a0c) a0cn a1 then wo3 a0c (Int.toNat a1) else []) == bif okD (goodZ a0r a0w a0h a0cn a0c) a0cn a1 then wo3 a0c (Int.toNat a1) else []) && (bif okD (goodZ a0r a0w a0h 
  a0cn a0c) a0cn a1 then a0w else (0 : Int)) == bif okD (goodZ a0r a0w a0h a0cn a0c) a0cn a1 then a0w else (0 : Int)) && (bif okD (goodZ a0r a0w a0h a0cn a0c) a0cn a1 then a0h else (0 
  : Int)) == bif okD (goodZ a0r a0w a0h a0cn a0c) a0cn a1 then a0h else (0 : Int))) = true → K (V.lit false)) ∧ ((!(((((bif okD (goodZ a0r a0w a0h a0cn a0c) a0cn a1 then a0r else []) 
  == bif okD (goodZ a0r a0w a0h a0cn a0c) a0cn a1 then a0r else []) && (bif okD (goodZ a0r a0w a0h a0cn a0c) a0cn a1 then wo3 a0c (Int.toNat a1) else []) == bif okD (goodZ a0r a0w a0h 
  a0cn a0c) a0cn a1 then wo3 a0c (Int.toNat a1) else []) && (bif okD (goodZ a0r a0w a0h a0cn a0c) a0cn a1 then a0w else (0 : Int)) == bif okD (goodZ a0r a0w a0h a0cn a0c) a0cn a1 then 
  a0w else (0 : Int)) && (bif okD (goodZ a0r a0w a0h a0cn a0c) a0cn a1 then a0h else (0 : Int)) == bif okD (goodZ a0r a0w a0h a0cn a0c) a0cn a1 then a0h else (0 : Int))) = false → ((!okD 
  (goodZ a0r a0w a0h a0cn a0c) a0cn a1 == okD (goodZ a0r a0w a0h a0cn a0c) a0cn a1) = true → K (V.lit false)) ∧ ((!okD (goodZ a0r a0w a0h a0cn a0c) a0cn a1 == okD (goodZ a0r a0w a0h a0cn 
  a0c) a0cn a1) = false → (((At (List.length a0c = a0cn * (3 : Nat) ∧ a0cn ≤ (2000000 : Nat)) ∧ (At (List.length a0c = (3 : Nat) * a0cn ∧ List.length a0c = (3 : Nat) * a0cn ∧ a0cn ≤ (2000000 
  : Nat) ∧ a0cn ≤ (2000000 : Nat)) ∧ ((!(a0r == a0r && a0c == a0c && a0w == a0w && a0h == a0h)) = true → K (V.lit false)) ∧ ((!(a0r == a0r && a0c == a0c && a0w == a0w && a0h == a0h)) 
  = false → At (List.length a0c = (3 : Nat) * a0cn ∧ a0cn ≤ (2000000 : Nat) ∧ (0 : Int) ≤ (1 : Int) ∧ (1 : Int) ≤ (1000 : Int)) ∧ (decide ((1 : Int) + (↑((3 : Nat) * a0cn) : Int) < (0 
  : Int)) = true → K (V.lit false)) ∧ (decide ((1 : Int) + (↑((3 : Nat) * a0cn) : Int) < (0 : Int)) = false → At ((List.length (bif okD (goodZ a0r a0w a0h a0cn a0c) a0cn a1 then wo3 a0c 
  (Int.toNat a1) else []) = (3 : Nat) * bif okD (goodZ a0r a0w a0h a0cn a0c) a0cn a1 then a0cn - (1 : Nat) else (0 : Nat)) ∧ (List.length (bif okD (goodZ a0r a0w a0h a0cn a0c) a0cn a1 
  then wo3 a0c (Int.toNat a1) else []) = (3 : Nat) * bif okD (goodZ a0r a0w a0h a0cn a0c) a0cn a1 then a0cn - (1 : Nat) else (0 : Nat)) ∧ (bif okD (goodZ a0r a0w a0h a0cn a0c) a0cn a1 
  then a0cn - (1 : Nat) else (0 : Nat)) ≤ (2000000 : Nat) ∧ (bif okD (goodZ a0r a0w a0h a0cn a0c) a0cn a1 then a0cn - (1 : Nat) else (0 : Nat)) ≤ (2000000 : Nat)) ∧ ((!(((((bif okD (goodZ 
  a0r a0w a0h a0cn a0c) a0cn a1 then a0r else []) == bif okD (goodZ a0r a0w a0h a0cn a0c) a0cn a1 then a0r else []) && (bif okD (goodZ a0r a0w a0h a0cn a0c) a0cn a1 then wo3 a0c (Int.toNat 
  a1) else []) == bif okD (goodZ a0r a0w a0h a0cn a0c) a0cn a1 then wo3 a0c (Int.toNat a1) else []) && (bif okD (goodZ a0r a0w a0h a0cn a0c) a0cn a1 then a0w else (0 : Int)) == bif okD 
  (goodZ a0r a0w a0h a0cn a0c) a0cn a1 then a0w else (0 : Int)) && (bif okD (goodZ a0r a0w a0h a0cn a0c) a0cn a1 then a0h else (0 : Int)) == bif okD (goodZ a0r a0w a0h a0cn a0c) a0cn 
  a1 then a0h else (0 : Int))) = true → K (V.lit false)) ∧ ((!(((((bif okD (goodZ a0r a0w a0h a0cn a0c) a0cn a1 then a0r else []) == bif okD (goodZ a0r a0w a0h a0cn a0c) a0cn a1 then 
  a0r else []) && (bif okD (goodZ a0r a0w a0h a0cn a0c) a0cn a1 then wo3 a0c (Int.toNat a1) else []) == bif okD (goodZ a0r a0w a0h a0cn a0c) a0cn a1 then wo3 a0c (Int.toNat a1) else []) 
  && (bif okD (goodZ a0r a0w a0h a0cn a0c) a0cn a1 then a0w else (0 : Int)) == bif okD (goodZ a0r a0w a0h a0cn a0c) a0cn a1 then a0w else (0 : Int)) && (bif okD (goodZ a0r a0w a0h a0cn 
  a0c) a0cn a1 then a0h else (0 : Int)) == bif okD (goodZ a0r a0w a0h a0cn a0c) a0cn a1 then a0h else (0 : Int))) = false → ((!okD (goodZ a0r a0w a0h a0cn a0c) a0cn a1 == okD (goodZ a0r 
  a0w a0h a0cn a0c) a0cn a1) = true → K (V.lit false)) ∧ ((!okD (goodZ a0r a0w a0h a0cn a0c) a0cn a1 == okD (goodZ a0r a0w a0h a0cn a0c) a0cn a1) = false → At ((List.length (bif okD (goodZ 
  a0r a0w a0h a0cn a0c) a0cn a1 then wo3 a0c (Int.toNat a1) else []) = (3 : Nat) * bif okD (goodZ a0r a0w a0h a0cn a0c) a0cn a1 then a0cn - (1 : Nat) else (0 : Nat)) ∧ (bif okD (goodZ 
  a0r a0w a0h a0cn a0c) a0cn a1 then a0cn - (1 : Nat) else (0 : Nat)) ≤ (2000000 : Nat) ∧ (0 : Int) ≤ (1 : Int) ∧ (1 : Int) ≤ (1000 : Int)) ∧ At ((List.length (ramp (1 : Int) ((3 : Nat) 
  * bif okD (goodZ a0r a0w a0h a0cn a0c) a0cn a1 then a0cn - (1 : Nat) else (0 : Nat))) = (3 : Nat) * bif okD (goodZ a0r a0w a0h a0cn a0c) a0cn a1 then a0cn - (1 : Nat) else (0 : Nat)) 
  ∧ (bif okD (goodZ a0r a0w a0h a0cn a0c) a0cn a1 then a0cn - (1 : Nat) else (0 : Nat)) ≤ (2000000 : Nat) ∧ (0 : Int) ≤ (1 : Int) ∧ (1 : Int) ≤ (1000 : Int)) ∧ (decide ((bif ramp (1 : 
  Int) ((3 : Nat) * bif okD (goodZ a0r a0w a0h a0cn a0c) a0cn a1 then a0cn - (1 : Nat) else (0 : Nat)) == ramp (1 : Int) ((3 : Nat) * bif okD (goodZ a0r a0w a0h a0cn a0c) a0cn a1 then 
  a0cn - (1 : Nat) else (0 : Nat)) then (1 : Int) + (↑((3 : Nat) * bif okD (goodZ a0r a0w a0h a0cn a0c) a0cn a1 then a0cn - (1 : Nat) else (0 : Nat)) : Int) else (-1 : Int)) < (0 : Int)) 
  = true → K (V.lit false)) ∧ (decide ((bif ramp (1 : Int) ((3 : Nat) * bif okD (goodZ a0r a0w a0h a0cn a0c) a0cn a1 then a0cn - (1 : Nat) else (0 : Nat)) == ramp (1 : Int) ((3 : Nat) 
  * bif okD (goodZ a0r a0w a0h a0cn a0c) a0cn a1 then a0cn - (1 : Nat) else (0 : Nat)) then (1 : Int) + (↑((3 : Nat) * bif okD (goodZ a0r a0w a0h a0cn a0c) a0cn a1 then a0cn - (1 : Nat) 
  else (0 : Nat)) : Int) else (-1 : Int)) < (0 : Int)) = false → (((bif ramp (1 : Int) ((3 : Nat) * bif okD (goodZ a0r a0w a0h a0cn a0c) a0cn a1 then a0cn - (1 : Nat) else (0 : Nat)) 
  == ramp (1 : Int) ((3 : Nat) * bif okD (goodZ a0r a0w a0h a0cn a0c) a0cn a1 then a0cn - (1 : Nat) else (0 : Nat)) then (1 : Int) + (↑((3 : Nat) * bif okD (goodZ a0r a0w a0h a0cn a0c) 
  a0cn a1 then a0cn - (1 : Nat) else (0 : Nat)) : Int) else (-1 : Int)) != (1 : Int) + (↑((3 : Nat) * bif okD (goodZ a0r a0w a0h a0cn a0c) a0cn a1 then a0cn - (1 : Nat) else (0 : Nat)) 
  : Int)) = true → K (V.lit false)) ∧ (((bif ramp (1 : Int) ((3 : Nat) * bif okD (goodZ a0r a0w a0h a0cn a0c) a0cn a1 then a0cn - (1 : Nat) else (0 : Nat)) == ramp (1 : Int) ((3 : Nat) 
  * bif okD (goodZ a0r a0w a0h a0cn a0c) a0cn a1 then a0cn - (1 : Nat) else (0 : Nat)) then (1 : Int) + (↑((3 : Nat) * bif okD (goodZ a0r a0w a0h a0cn a0c) a0cn a1 then a0cn - (1 : Nat) 
  else (0 : Nat)) : Int) else (-1 : Int)) != (1 : Int) + (↑((3 : Nat) * bif okD (goodZ a0r a0w a0h a0cn a0c) a0cn a1 then a0cn - (1 : Nat) else (0 : Nat)) : Int)) = false → At (List.length 
  a0c = a0cn * (3 : Nat) ∧ a0cn ≤ (2000000 : Nat)) ∧ At (List.length a0c = a0cn * (3 : Nat) ∧ a0cn ≤ (2000000 : Nat)) ∧ At ((List.length (bif okD (goodZ a0r a0w a0h a0cn a0c) a0cn a1 
  then wo3 a0c (Int.toNat a1) else []) = (3 : Nat) * bif okD (goodZ a0r a0w a0h a0cn a0c) a0cn a1 then a0cn - (1 : Nat) else (0 : Nat)) ∧ (List.length (bif okD (goodZ a0r a0w a0h a0cn 
  a0c) a0cn a1 then wo3 a0c (Int.toNat a1) else []) = (3 : Nat) * bif okD (goodZ a0r a0w a0h a0cn a0c) a0cn a1 then a0cn - (1 : Nat) else (0 : Nat)) ∧ (bif okD (goodZ a0r a0w a0h a0cn 
  a0c) a0cn a1 then a0cn - (1 : Nat) else (0 : Nat)) ≤ (2000000 : Nat) ∧ (bif okD (goodZ a0r a0w a0h a0cn a0c) a0cn a1 then a0cn - (1 : Nat) else (0 : Nat)) ≤ (2000000 : Nat)) ∧ ((!(((((bif 
  okD (goodZ a0r a0w a0h a0cn a0c) a0cn a1 then a0r else []) == bif okD (goodZ a0r a0w a0h a0cn a0c) a0cn a1 then a0r else []) && (bif okD (goodZ a0r a0w a0h a0cn a0c) a0cn a1 then wo3 
  a0c (Int.toNat a1) else []) == bif okD (goodZ a0r a0w a0h a0cn a0c) a0cn a1 then wo3 a0c (Int.toNat a1) else []) && (bif okD (goodZ a0r a0w a0h a0cn a0c) a0cn a1 then a0w else (0 : 
  Int)) == bif okD (goodZ a0r a0w a0h a0cn a0c) a0cn a1 then a0w else (0 : Int)) && (bif okD (goodZ a0r a0w a0h a0cn a0c) a0cn a1 then a0h else (0 : Int)) == bif okD (goodZ a0r a0w a0h 
  a0cn a0c) a0cn a1 then a0h else (0 : Int))) = true → K (V.lit false)) ∧ ((!(((((bif okD (goodZ a0r a0w a0h a0cn a0c) a0cn a1 then a0r else []) == bif okD (goodZ a0r a0w a0h a0cn a0c) 
  a0cn a1 then a0r else []) && (bif okD (goodZ a0r a0w a0h a0cn a0c) a0cn a1 then wo3 a0c (Int.toNat a1) else []) == bif okD (goodZ a0r a0w a0h a0cn a0c) a0cn a1 then wo3 a0c (Int.toNat 
  a1) else []) && (bif okD (goodZ a0r a0w a0h a0cn a0c) a0cn a1 then a0w else (0 : Int)) == bif okD (goodZ a0r a0w a0h a0cn a0c) a0cn a1 then a0w else (0 : Int)) && (bif okD (goodZ a0r 
  a0w a0h a0cn a0c) a0cn a1 then a0h else (0 : Int)) == bif okD (goodZ a0r a0w a0h a0cn a0c) a0cn a1 then a0h else (0 : Int))) = false → ((!okD (goodZ a0r a0w a0h a0cn a0c) a0cn a1 == 
  okD (goodZ a0r a0w a0h a0cn a0c) a0cn a1) = true → K (V.lit false)) ∧ ((!okD (goodZ a0r a0w a0h a0cn a0c) a0cn a1 == okD (goodZ a0r a0w a0h a0cn a0c) a0cn a1) = false → At ((List.length 
  (ramp (1 : Int) ((3 : Nat) * bif okD (goodZ a0r a0w a0h a0cn a0c) a0cn a1 then a0cn - (1 : Nat) else (0 : Nat))) = (3 : Nat) * bif okD (goodZ a0r a0w a0h a0cn a0c) a0cn a1 then a0cn 
  - (1 : Nat) else (0 : Nat)) ∧ (bif okD (goodZ a0r a0w a0h a0cn a0c) a0cn a1 then a0cn - (1 : Nat) else (0 : Nat)) ≤ (2000000 : Nat) ∧ (0 : Int) ≤ (1 : Int) ∧ (1 : Int) ≤ (1000 : Int)) 
  ∧ (decide ((bif ramp (1 : Int) ((3 : Nat) * bif okD (goodZ a0r a0w a0h a0cn a0c) a0cn a1 then a0cn - (1 : Nat) else (0 : Nat)) == ramp (1 : Int) ((3 : Nat) * bif okD (goodZ a0r a0w 
  a0h a0cn a0c) a0cn a1 then a0cn - (1 : Nat) else (0 : Nat)) then (1 : Int) + (↑((3 : Nat) * bif okD (goodZ a0r a0w a0h a0cn a0c) a0cn a1 then a0cn - (1 : Nat) else (0 : Nat)) : Int) 
  else (-1 : Int)) < (0 : Int)) = true → K (V.lit false)) ∧ (decide ((bif ramp (1 : Int) ((3 : Nat) * bif okD (goodZ a0r a0w a0h a0cn a0c) a0cn a1 then a0cn - (1 : Nat) else (0 : Nat)) 
  == ramp (1 : Int) ((3 : Nat) * bif okD (goodZ a0r a0w a0h a0cn a0c) a0cn a1 then a0cn - (1 : Nat) else (0 : Nat)) then (1 : Int) + (↑((3 : Nat) * bif okD (goodZ a0r a0w a0h a0cn a0c) 
  a0cn a1 then a0cn - (1 : Nat) else (0 : Nat)) : Int) else (-1 : Int)) < (0 : Int)) = false → (((bif ramp (1 : Int) ((3 : Nat) * bif okD (goodZ a0r a0w a0h a0cn a0c) a0cn a1 then a0cn 
  - (1 : Nat) else (0 : Nat)) == ramp (1 : Int) ((3 : Nat) * bif okD (goodZ a0r a0w a0h a0cn a0c) a0cn a1 then a0cn - (1 : Nat) else (0 : Nat)) then (1 : Int) + (↑((3 : Nat) * bif okD 
  (goodZ a0r a0w a0h a0cn a0c) a0cn a1 then a0cn - (1 : Nat) else (0 : Nat)) : Int) else (-1 : Int)) != (1 : Int) + (↑((3 : Nat) * bif okD (goodZ a0r a0w a0h a0cn a0c) a0cn a1 then a0cn 
  - (1 : Nat) else (0 : Nat)) : Int)) = true → K (V.lit false)) ∧ (((bif ramp (1 : Int) ((3 : Nat) * bif okD (goodZ a0r a0w a0h a0cn a0c) a0cn a1 then a0cn - (1 : Nat) else (0 : Nat)) 
  == ramp (1 : Int) ((3 : Nat) * bif okD (goodZ a0r a0w a0h a0cn a0c) a0cn a1 then a0cn - (1 : Nat) else (0 : Nat)) then (1 : Int) + (↑((3 : Nat) * bif okD (goodZ a0r a0w a0h a0cn a0c) 
  a0cn a1 then a0cn - (1 : Nat) else (0 : Nat)) : Int) else (-1 : Int)) != (1 : Int) + (↑((3 : Nat) * bif okD (goodZ a0r a0w a0h a0cn a0c) a0cn a1 then a0cn - (1 : Nat) else (0 : Nat)) 
  : Int)) = false → K (V.lit true)))))))))))) ∧ True) ∧ True) ∧ True) ∧ (((At (List.length a0c = a0cn * (3 : Nat) ∧ a0cn ≤ (2000000 : Nat)) ∧ (At (List.length a0c = (3 : Nat) * a0cn ∧ 
  List.length a0c = (3 : Nat) * a0cn ∧ a0cn ≤ (2000000 : Nat) ∧ a0cn ≤ (2000000 : Nat)) ∧ ((!(a0r == a0r && a0c == a0c && a0w == a0w && a0h == a0h)) = true → K (V.lit false)) ∧ ((!(a0r 
  == a0r && a0c == a0c && a0w == a0w && a0h == a0h)) = false → At (List.length a0c = (3 : Nat) * a0cn ∧ a0cn ≤ (2000000 : Nat) ∧ (0 : Int) ≤ (1 : Int) ∧ (1 : Int) ≤ (1000 : Int)) ∧ (decide 
  ((1 : Int) + (↑((3 : Nat) * a0cn) : Int) < (0 : Int)) = true → K (V.lit false)) ∧ (decide ((1 : Int) + (↑((3 : Nat) * a0cn) : Int) < (0 : Int)) = false → At ((List.length (bif okD (goodZ 
  a0r a0w a0h a0cn a0c) a0cn a1 then wo3 a0c (Int.toNat a1) else []) = (3 : Nat) * bif okD (goodZ a0r a0w a0h a0cn a0c) a0cn a1 then a0cn - (1 : Nat) else (0 : Nat)) ∧ (List.length (bif 
  okD (goodZ a0r a0w a0h a0cn a0c) a0cn a1 then wo3 a0c (Int.toNat a1) else []) = (3 : Nat) * bif okD (goodZ a0r a0w a0h a0cn a0c) a0cn a1 then a0cn - (1 : Nat) else (0 : Nat)) ∧ (bif 
  okD (goodZ a0r a0w a0h a0cn a0c) a0cn a1 then a0cn - (1 : Nat) else (0 : Nat)) ≤ (2000000 : Nat) ∧ (bif okD (goodZ a0r a0w a0h a0cn a0c) a0cn a1 then a0cn - (1 : Nat) else (0 : Nat)) 
  ≤ (2000000 : Nat)) ∧ ((!(((((bif okD (goodZ a0r a0w a0h a0cn a0c) a0cn a1 then a0r else []) == bif okD (goodZ a0r a0w a0h a0cn a0c) a0cn a1 then a0r else []) && (bif okD (goodZ a0r 
  a0w a0h a0cn a0c) a0cn a1 then wo3 a0c (Int.toNat a1) else []) == bif okD (goodZ a0r a0w a0h a0cn a0c) a0cn a1 then wo3 a0c (Int.toNat a1) else []) && (bif okD (goodZ a0r a0w a0h a0cn 
  a0c) a0cn a1 then a0w else (0 : Int)) == bif okD (goodZ a0r a0w a0h a0cn a0c) a0cn a1 then a0w else (0 : Int)) && (bif okD (goodZ a0r a0w a0h a0cn a0c) a0cn a1 then a0h else (0 : Int)) 
  == bif okD (goodZ a0r a0w a0h a0cn a0c) a0cn a1 then a0h else (0 : Int))) = true → K (V.lit false)) ∧ ((!(((((bif okD (goodZ a0r a0w a0h a0cn a0c) a0cn a1 then a0r else []) == bif okD 
  (goodZ a0r a0w a0h a0cn a0c) a0cn a1 then a0r else []) && (bif okD (goodZ a0r a0w a0h a0cn a0c) a0cn a1 then wo3 a0c (Int.toNat a1) else []) == bif okD (goodZ a0r a0w a0h a0cn a0c) 
  a0cn a1 then wo3 a0c (Int.toNat a1) else []) && (bif okD (goodZ a0r a0w a0h a0cn a0c) a0cn a1 then a0w else (0 : Int)) == bif okD (goodZ a0r a0w a0h a0cn a0c) a0cn a1 then a0w else 
  (0 : Int)) && (bif okD (goodZ a0r a0w a0h a0cn a0c) a0cn a1 then a0h else (0 : Int)) == bif okD (goodZ a0r a0w a0h a0cn a0c) a0cn a1 then a0h else (0 : Int))) = false → ((!okD (goodZ 
  a0r a0w a0h a0cn a0c) a0cn a1 == okD (goodZ a0r a0w a0h a0cn a0c) a0cn a1) = true → K (V.lit false)) ∧ ((!okD (goodZ a0r a0w a0h a0cn a0c) a0cn a1 == okD (goodZ a0r a0w a0h a0cn a0c) 
  a0cn a1) = false → At ((List.length (bif okD (goodZ a0r a0w a0h a0cn a0c) a0cn a1 then wo3 a0c (Int.toNat a1) else []) = (3 : Nat) * bif okD (goodZ a0r a0w a0h a0cn a0c) a0cn a1 then 
  a0cn - (1 : Nat) else (0 : Nat)) ∧ (bif okD (goodZ a0r a0w a0h a0cn a0c) a0cn a1 then a0cn - (1 : Nat) else (0 : Nat)) ≤ (2000000 : Nat) ∧ (0 : Int) ≤ (1 : Int) ∧ (1 : Int) ≤ (1000 
  : Int)) ∧ At ((List.length (ramp (1 : Int) ((3 : Nat) * bif okD (goodZ a0r a0w a0h a0cn a0c) a0cn a1 then a0cn - (1 : Nat) else (0 : Nat))) = (3 : Nat) * bif okD (goodZ a0r a0w a0h 
  a0cn a0c) a0cn a1 then a0cn - (1 : Nat) else (0 : Nat)) ∧ (bif okD (goodZ a0r a0w a0h a0cn a0c) a0cn a1 then a0cn - (1 : Nat) else (0 : Nat)) ≤ (2000000 : Nat) ∧ (0 : Int) ≤ (1 : Int) 
  ∧ (1 : Int) ≤ (1000 : Int)) ∧ (decide ((bif ramp (1 : Int) ((3 : Nat) * bif okD (goodZ a0r a0w a0h a0cn a0c) a0cn a1 then a0cn - (1 : Nat) else (0 : Nat)) == ramp (1 : Int) ((3 : Nat) 
  * bif okD (goodZ a0r a0w a0h a0cn a0c) a0cn a1 then a0cn - (1 : Nat) else (0 : Nat)) then (1 : Int) + (↑((3 : Nat) * bif okD (goodZ a0r a0w a0h a0cn a0c) a0cn a1 then a0cn - (1 : Nat) 
  else (0 : Nat)) : Int) else (-1 : Int)) < (0 : Int)) = true → K (V.lit false)) ∧ (decide ((bif ramp (1 : Int) ((3 : Nat) * bif okD (goodZ a0r a0w a0h a0cn a0c) a0cn a1 then a0cn - (1 
  : Nat) else (0 : Nat)) == ramp (1 : Int) ((3 : Nat) * bif okD (goodZ a0r a0w a0h a0cn a0c) a0cn a1 then a0cn - (1 : Nat) else (0 : Nat)) then (1 : Int) + (↑((3 : Nat) * bif okD (goodZ 
  a0r a0w a0h a0cn a0c) a0cn a1 then a0cn - (1 : Nat) else (0 : Nat)) : Int) else (-1 : Int)) < (0 : Int)) = false → (((bif ramp (1 : Int) ((3 : Nat) * bif okD (goodZ a0r a0w a0h a0cn 
  a0c) a0cn a1 then a0cn - (1 : Nat) else (0 : Nat)) == ramp (1 : Int) ((3 : Nat) * bif okD (goodZ a0r a0w a0h a0cn a0c) a0cn a1 then a0cn - (1 : Nat) else (0 : Nat)) then (1 : Int) + 
  (↑((3 : Nat) * bif okD (goodZ a0r a0w a0h a0cn a0c) a0cn a1 then a0cn - (1 : Nat) else (0 : Nat)) : Int) else (-1 : Int)) != (1 : Int) + (↑((3 : Nat) * bif okD (goodZ a0r a0w a0h a0cn 
  a0c) a0cn a1 then a0cn - (1 : Nat) else (0 : Nat)) : Int)) = true → K (V.lit false)) ∧ (((bif ramp (1 : Int) ((3 : Nat) * bif okD (goodZ a0r a0w a0h a0cn a0c) a0cn a1 then a0cn - (1 
  : Nat) else (0 : Nat)) == ramp (1 : Int) ((3 : Nat) * bif okD (goodZ a0r a0w a0h a0cn a0c) a0cn a1 then a0cn - (1 : Nat) else (0 : Nat)) then (1 : Int) + (↑((3 : Nat) * bif okD (goodZ 
  a0r a0w a0h a0cn a0c) a0cn a1 then a0cn - (1 : Nat) else (0 : Nat)) : Int) else (-1 : Int)) != (1 : Int) + (↑((3 : Nat) * bif okD (goodZ a0r a0w a0h a0cn a0c) a0cn a1 then a0cn - (1 
  : Nat) else (0 : Nat)) : Int)) = false → At (List.length a0c = a0cn * (3 : Nat) ∧ a0cn ≤ (2000000 : Nat)) ∧ At (List.length a0c = a0cn * (3 : Nat) ∧ a0cn ≤ (2000000 : Nat)) ∧ At ((List.length 
  (bif okD (goodZ a0r a0w a0h a0cn a0c) a0cn a1 then wo3 a0c (Int.toNat a1) else []) = (3 : Nat) * bif okD (goodZ a0r a0w a0h a0cn a0c) a0cn a1 then a0cn - (1 : Nat) else (0 : Nat)) ∧ 
  (List.length (bif okD (goodZ a0r a0w a0h a0cn a0c) a0cn a1 then wo3 a0c (Int.toNat a1) else []) = (3 : Nat) * bif okD (goodZ a0r a0w a0h a0cn a0c) a0cn a1 then a0cn - (1 : Nat) else 
  (0 : Nat)) ∧ (bif okD (goodZ a0r a0w a0h a0cn a0c) a0cn a1 then a0cn - (1 : Nat) else (0 : Nat)) ≤ (2000000 : Nat) ∧ (bif okD (goodZ a0r a0w a0h a0cn a0c) a0cn a1 then a0cn - (1 : Nat) 
  else (0 : Nat)) ≤ (2000000 : Nat)) ∧ ((!(((((bif okD (goodZ a0r a0w a0h a0cn a0c) a0cn a1 then a0r else []) == bif okD (goodZ a0r a0w a0h a0cn a0c) a0cn a1 then a0r else []) && (bif 
  okD (goodZ a0r a0w a0h a0cn a0c) a0cn a1 then wo3 a0c (Int.toNat a1) else []) == bif okD (goodZ a0r a0w a0h a0cn a0c) a0cn a1 then wo3 a0c (Int.toNat a1) else []) && (bif okD (goodZ 
  a0r a0w a0h a0cn a0c) a0cn a1 then a0w else (0 : Int)) == bif okD (goodZ a0r a0w a0h a0cn a0c) a0cn a1 then a0w else (0 : Int)) && (bif okD (goodZ a0r a0w a0h a0cn a0c) a0cn a1 then 
  a0h else (0 : Int)) == bif okD (goodZ a0r a0w a0h a0cn a0c) a0cn a1 then a0h else (0 : Int))) = true → K (V.lit false)) ∧ ((!(((((bif okD (goodZ a0r a0w a0h a0cn a0c) a0cn a1 then a0r 
  else []) == bif okD (goodZ a0r a0w a0h a0cn a0c) a0cn a1 then a0r else []) && (bif okD (goodZ a0r a0w a0h a0cn a0c) a0cn a1 then wo3 a0c (Int.toNat a1) else []) == bif okD (goodZ a0r 
  a0w a0h a0cn a0c) a0cn a1 then wo3 a0c (Int.toNat a1) else []) && (bif okD (goodZ a0r a0w a0h a0cn a0c) a0cn a1 then a0w else (0 : Int)) == bif okD (goodZ a0r a0w a0h a0cn a0c) a0cn 
  a1 then a0w else (0 : Int)) && (bif okD (goodZ a0r a0w a0h a0cn a0c) a0cn a1 then a0h else (0 : Int)) == bif okD (goodZ a0r a0w a0h a0cn a0c) a0cn a1 then a0h else (0 : Int))) = false 
  → ((!okD (goodZ a0r a0w a0h a0cn a0c) a0cn a1 == okD (goodZ a0r a0w a0h a0cn a0c) a0cn a1) = true → K (V.lit false)) ∧ ((!okD (goodZ a0r a0w a0h a0cn a0c) a0cn a1 == okD (goodZ a0r 
  a0w a0h a0cn a0c) a0cn a1) = false → At ((List.length (ramp (1 : Int) ((3 : Nat) * bif okD (goodZ a0r a0w a0h a0cn a0c) a0cn a1 then a0cn - (1 : Nat) else (0 : Nat))) = (3 : Nat) * 
  bif okD (goodZ a0r a0w a0h a0cn a0c) a0cn a1 then a0cn - (1 : Nat) else (0 : Nat)) ∧ (bif okD (goodZ a0r a0w a0h a0cn a0c) a0cn a1 then a0cn - (1 : Nat) else (0 : Nat)) ≤ (2000000 : 
  Nat) ∧ (0 : Int) ≤ (1 : Int) ∧ (1 : Int) ≤ (1000 : Int)) ∧ (decide ((bif ramp (1 : Int) ((3 : Nat) * bif okD (goodZ a0r a0w a0h a0cn a0c) a0cn a1 then a0cn - (1 : Nat) else (0 : Nat)) 
  == ramp (1 : Int) ((3 : Nat) * bif okD (goodZ a0r a0w a0h a0cn a0c) a0cn a1 then a0cn - (1 : Nat) else (0 : Nat)) then (1 : Int) + (↑((3 : Nat) * bif okD (goodZ a0r a0w a0h a0cn a0c) 
  a0cn a1 then a0cn - (1 : Nat) else (0 : Nat)) : Int) else (-1 : Int)) < (0 : Int)) = true → K (V.lit false)) ∧ (decide ((bif ramp (1 : Int) ((3 : Nat) * bif okD (goodZ a0r a0w a0h a0cn 
  a0c) a0cn a1 then a0cn - (1 : Nat) else (0 : Nat)) == ramp (1 : Int) ((3 : Nat) * bif okD (goodZ a0r a0w a0h a0cn a0c) a0cn a1 then a0cn - (1 : Nat) else (0 : Nat)) then (1 : Int) + 
  (↑((3 : Nat) * bif okD (goodZ a0r a0w a0h a0cn a0c) a0cn a1 then a0cn - (1 : Nat) else (0 : Nat)) : Int) else (-1 : Int)) < (0 : Int)) = false → (((bif ramp (1 : Int) ((3 : Nat) * bif 
  okD (goodZ a0r a0w a0h a0cn a0c) a0cn a1 then a0cn - (1 : Nat) else (0 : Nat)) == ramp (1 : Int) ((3 : Nat) * bif okD (goodZ a0r a0w a0h a0cn a0c) a0cn a1 then a0cn - (1 : Nat) else 
  (0 : Nat)) then (1 : Int) + (↑((3 : Nat) * bif okD (goodZ a0r a0w a0h a0cn a0c) a0cn a1 then a0cn - (1 : Nat) else (0 : Nat)) : Int) else (-1 : Int)) != (1 : Int) + (↑((3 : Nat) * bif 
  okD (goodZ a0r a0w a0h a0cn a0c) a0cn a1 then a0cn - (1 : Nat) else (0 : Nat)) : Int)) = true → K (V.lit false)) ∧ (((bif ramp (1 : Int) ((3 : Nat) * bif okD (goodZ a0r a0w a0h a0cn 
  a0c) a0cn a1 then a0cn - (1 : Nat) else (0 : Nat)) == ramp (1 : Int) ((3 : Nat) * bif okD (goodZ a0r a0w a0h a0cn a0c) a0cn a1 then a0cn - (1 : Nat) else (0 : Nat)) then (1 : Int) + 
  (↑((3 : Nat) * bif okD (goodZ a0r a0w a0h a0cn a0c) a0cn a1 then a0cn - (1 : Nat) else (0 : Nat)) : Int) else (-1 : Int)) != (1 : Int) + (↑((3 : Nat) * bif okD (goodZ a0r a0w a0h a0cn 
  a0c) a0cn a1 then a0cn - (1 : Nat) else (0 : Nat)) : Int)) = false → K (V.lit true)))))))))))) ∧ True) ∧ True) ∧ (At (List.length a0c = a0cn * (3 : Nat) ∧ a0cn ≤ (2000000 : Nat)) ∧ 
  ((At (List.length a0c = (3 : Nat) * a0cn ∧ List.length a0c = (3 : Nat) * a0cn ∧ a0cn ≤ (2000000 : Nat) ∧ a0cn ≤ (2000000 : Nat)) ∧ ((!(a0r == a0r && a0c == a0c && a0w == a0w && a0h 
  == a0h)) = true → K (V.lit false)) ∧ ((!(a0r == a0r && a0c == a0c && a0w == a0w && a0h == a0h)) = false → At (List.length a0c = (3 : Nat) * a0cn ∧ a0cn ≤ (2000000 : Nat) ∧ (0 : Int) 
  ≤ (1 : Int) ∧ (1 : Int) ≤ (1000 : Int)) ∧ (decide ((1 : Int) + (↑((3 : Nat) * a0cn) : Int) < (0 : Int)) = true → K (V.lit false)) ∧ (decide ((1 : Int) + (↑((3 : Nat) * a0cn) : Int) 
  < (0 : Int)) = false → At ((List.length (bif okD (goodZ a0r a0w a0h a0cn a0c) a0cn a1 then wo3 a0c (Int.toNat a1) else []) = (3 : Nat) * bif okD (goodZ a0r a0w a0h a0cn a0c) a0cn a1 
  then a0cn - (1 : Nat) else (0 : Nat)) ∧ (List.length (bif okD (goodZ a0r a0w a0h a0cn a0c) a0cn a1 then wo3 a0c (Int.toNat a1) else []) = (3 : Nat) * bif okD (goodZ a0r a0w a0h a0cn 
  a0c) a0cn a1 then a0cn - (1 : Nat) else (0 : Nat)) ∧ (bif okD (goodZ a0r a0w a0h a0cn a0c) a0cn a1 then a0cn - (1 : Nat) else (0 : Nat)) ≤ (2000000 : Nat) ∧ (bif okD (goodZ a0r a0w 
  a0h a0cn a0c) a0cn a1 then a0cn - (1 : Nat) else (0 : Nat)) ≤ (2000000 : Nat)) ∧ ((!(((((bif okD (goodZ a0r a0w a0h a0cn a0c) a0cn a1 then a0r else []) == bif okD (goodZ a0r a0w a0h 
  a0cn a0c) a0cn a1 then a0r else []) && (bif okD (goodZ a0r a0w a0h a0cn a0c) a0cn a1 then wo3 a0c (Int.toNat a1) else []) == bif okD (goodZ a0r a0w a0h a0cn a0c) a0cn a1 then wo3 a0c 
  (Int.toNat a1) else []) && (bif okD (goodZ a0r a0w a0h a0cn a0c) a0cn a1 then a0w else (0 : Int)) == bif okD (goodZ a0r a0w a0h a0cn a0c) a0cn a1 then a0w else (0 : Int)) && (bif okD 
  (goodZ a0r a0w a0h a0cn a0c) a0cn a1 then a0h else (0 : Int)) == bif okD (goodZ a0r a0w a0h a0cn a0c) a0cn a1 then a0h else (0 : Int))) = true → K (V.lit false)) ∧ ((!(((((bif okD (goodZ 
  a0r a0w a0h a0cn a0c) a0cn a1 then a0r else []) == bif okD (goodZ a0r a0w a0h a0cn a0c) a0cn a1 then a0r else []) && (bif okD (goodZ a0r a0w a0h a0cn a0c) a0cn a1 then wo3 a0c (Int.toNat 
  a1) else []) == bif okD (goodZ a0r a0w a0h a0cn a0c) a0cn a1 then wo3 a0c (Int.toNat a1) else []) && (bif okD (goodZ a0r a0w a0h a0cn a0c) a0cn a1 then a0w else (0 : Int)) == bif okD 
  (goodZ a0r a0w a0h a0cn a0c) a0cn a1 then a0w else (0 : Int)) && (bif okD (goodZ a0r a0w a0h a0cn a0c) a0cn a1 then a0h else (0 : Int)) == bif okD (goodZ a0r a0w a0h a0cn a0c) a0cn 
  a1 then a0h else (0 : Int))) = false → ((!okD (goodZ a0r a0w a0h a0cn a0c) a0cn a1 == okD (goodZ a0r a0w a0h a0cn a0c) a0cn a1) = true → K (V.lit false)) ∧ ((!okD (goodZ a0r a0w a0h 
  a0cn a0c) a0cn a1 == okD (goodZ a0r a0w a0h a0cn a0c) a0cn a1) = false → At ((List.length (bif okD (goodZ a0r a0w a0h a0cn a0c) a0cn a1 then wo3 a0c (Int.toNat a1) else []) = (3 : Nat) 
  * bif okD (goodZ a0r a0w a0h a0cn a0c) a0cn a1 then a0cn - (1 : Nat) else (0 : Nat)) ∧ (bif okD (goodZ a0r a0w a0h a0cn a0c) a0cn a1 then a0cn - (1 : Nat) else (0 : Nat)) ≤ (2000000 
  : Nat) ∧ (0 : Int) ≤ (1 : Int) ∧ (1 : Int) ≤ (1000 : Int)) ∧ At ((List.length (ramp (1 : Int) ((3 : Nat) * bif okD (goodZ a0r a0w a0h a0cn a0c) a0cn a1 then a0cn - (1 : Nat) else (0 
  : Nat))) = (3 : Nat) * bif okD (goodZ a0r a0w a0h a0cn a0c) a0cn a1 then a0cn - (1 : Nat) else (0 : Nat)) ∧ (bif okD (goodZ a0r a0w a0h a0cn a0c) a0cn a1 then a0cn - (1 : Nat) else 
  (0 : Nat)) ≤ (2000000 : Nat) ∧ (0 : Int) ≤ (1 : Int) ∧ (1 : Int) ≤ (1000 : Int)) ∧ (decide ((bif ramp (1 : Int) ((3 : Nat) * bif okD (goodZ a0r a0w a0h a0cn a0c) a0cn a1 then a0cn - 
  (1 : Nat) else (0 : Nat)) == ramp (1 : Int) ((3 : Nat) * bif okD (goodZ a0r a0w a0h a0cn a0c) a0cn a1 then a0cn - (1 : Nat) else (0 : Nat)) then (1 : Int) + (↑((3 : Nat) * bif okD (goodZ 
  a0r a0w a0h a0cn a0c) a0cn a1 then a0cn - (1 : Nat) else (0 : Nat)) : Int) else (-1 : Int)) < (0 : Int)) = true → K (V.lit false)) ∧ (decide ((bif ramp (1 : Int) ((3 : Nat) * bif okD 
  (goodZ a0r a0w a0h a0cn a0c) a0cn a1 then a0cn - (1 : Nat) else (0 : Nat)) == ramp (1 : Int) ((3 : Nat) * bif okD (goodZ a0r a0w a0h a0cn a0c) a0cn a1 then a0cn - (1 : Nat) else (0 
  : Nat)) then (1 : Int) + (↑((3 : Nat) * bif okD (goodZ a0r a0w a0h a0cn a0c) a0cn a1 then a0cn - (1 : Nat) else (0 : Nat)) : Int) else (-1 : Int)) < (0 : Int)) = false → (((bif ramp 
  (1 : Int) ((3 : Nat) * bif okD (goodZ a0r a0w a0h a0cn a0c) a0cn a1 then a0cn - (1 : Nat) else (0 : Nat)) == ramp (1 : Int) ((3 : Nat) * bif okD (goodZ a0r a0w a0h a0cn a0c) a0cn a1 
  then a0cn - (1 : Nat) else (0 : Nat)) then (1 : Int) + (↑((3 : Nat) * bif okD (goodZ a0r a0w a0h a0cn a0c) a0cn a1 then a0cn - (1 : Nat) else (0 : Nat)) : Int) else (-1 : Int)) != (1 
  : Int) + (↑((3 : Nat) * bif okD (goodZ a0r a0w a0h a0cn a0c) a0cn a1 then a0cn - (1 : Nat) else (0 : Nat)) : Int)) = true → K (V.lit false)) ∧ (((bif ramp (1 : Int) ((3 : Nat) * bif 
  okD (goodZ a0r a0w a0h a0cn a0c) a0cn a1 then a0cn - (1 : Nat) else (0 : Nat)) == ramp (1 : Int) ((3 : Nat) * bif okD (goodZ a0r a0w a0h a0cn a0c) a0cn a1 then a0cn - (1 : Nat) else 
  (0 : Nat)) then (1 : Int) + (↑((3 : Nat) * bif okD (goodZ a0r a0w a0h a0cn a0c) a0cn a1 then a0cn - (1 : Nat) else (0 : Nat)) : Int) else (-1 : Int)) != (1 : Int) + (↑((3 : Nat) * bif 
  okD (goodZ a0r a0w a0h a0cn a0c) a0cn a1 then a0cn - (1 : Nat) else (0 : Nat)) : Int)) = false → At (List.length a0c = a0cn * (3 : Nat) ∧ a0cn ≤ (2000000 : Nat)) ∧ At (List.length a0c 
  = a0cn * (3 : Nat) ∧ a0cn ≤ (2000000 : Nat)) ∧ At ((List.length (bif okD (goodZ a0r a0w a0h a0cn a0c) a0cn a1 then wo3 a0c (Int.toNat a1) else []) = (3 : Nat) * bif okD (goodZ a0r a0w 
  a0h a0cn a0c) a0cn a1 then a0cn - (1 : Nat) else (0 : Nat)) ∧ (List.length (bif okD (goodZ a0r a0w a0h a0cn a0c) a0cn a1 then wo3 a0c (Int.toNat a1) else []) = (3 : Nat) * bif okD (goodZ 
  a0r a0w a0h a0cn a0c) a0cn a1 then a0cn - (1 : Nat) else (0 : Nat)) ∧ (bif okD (goodZ a0r a0w a0h a0cn a0c) a0cn a1 then a0cn - (1 : Nat) else (0 : Nat)) ≤ (2000000 : Nat) ∧ (bif okD 
  (goodZ a0r a0w a0h a0cn a0c) a0cn a1 then a0cn - (1 : Nat) else (0 : Nat)) ≤ (2000000 : Nat)) ∧ ((!(((((bif okD (goodZ a0r a0w a0h a0cn a0c) a0cn a1 then a0r else []) == bif okD (goodZ 
  a0r a0w a0h a0cn a0c) a0cn a1 then a0r else []) && (bif okD (goodZ a0r a0w a0h a0cn a0c) a0cn a1 then wo3 a0c (Int.toNat a1) else []) == bif okD (goodZ a0r a0w a0h a0cn a0c) a0cn a1 
  then wo3 a0c (Int.toNat a1) else []) && (bif okD (goodZ a0r a0w a0h a0cn a0c) a0cn a1 then a0w else (0 : Int)) == bif okD (goodZ a0r a0w a0h a0cn a0c) a0cn a1 then a0w else (0 : Int)) 
  && (bif okD (goodZ a0r a0w a0h a0cn a0c) a0cn a1 then a0h else (0 : Int)) == bif okD (goodZ a0r a0w a0h a0cn a0c) a0cn a1 then a0h else (0 : Int))) = true → K (V.lit false)) ∧ ((!(((((bif 
  okD (goodZ a0r a0w a0h a0cn a0c) a0cn a1 then a0r else []) == bif okD (goodZ a0r a0w a0h a0cn a0c) a0cn a1 then a0r else []) && (bif okD (goodZ a0r a0w a0h a0cn a0c) a0cn a1 then wo3 
  a0c (Int.toNat a1) else []) == bif okD (goodZ a0r a0w a0h a0cn a0c) a0cn a1 then wo3 a0c (Int.toNat a1) else []) && (bif okD (goodZ a0r a0w a0h a0cn a0c) a0cn a1 then a0w else (0 : 
  Int)) == bif okD (goodZ a0r a0w a0h a0cn a0c) a0cn a1 then a0w else (0 : Int)) && (bif okD (goodZ a0r a0w a0h a0cn a0c) a0cn a1 then a0h else (0 : Int)) == bif okD (goodZ a0r a0w a0h 
  a0cn a0c) a0cn a1 then a0h else (0 : Int))) = false → ((!okD (goodZ a0r a0w a0h a0cn a0c) a0cn a1 == okD (goodZ a0r a0w a0h a0cn a0c) a0cn a1) = true → K (V.lit false)) ∧ ((!okD (goodZ 
  a0r a0w a0h a0cn a0c) a0cn a1 == okD (goodZ a0r a0w a0h a0cn a0c) a0cn a1) = false → At ((List.length (ramp (1 : Int) ((3 : Nat) * bif okD (goodZ a0r a0w a0h a0cn a0c) a0cn a1 then 
  a0cn - (1 : Nat) else (0 : Nat))) = (3 : Nat) * bif okD (goodZ a0r a0w a0h a0cn a0c) a0cn a1 then a0cn - (1 : Nat) else (0 : Nat)) ∧ (bif okD (goodZ a0r a0w a0h a0cn a0c) a0cn a1 then 
  a0cn - (1 : Nat) else (0 : Nat)) ≤ (2000000 : Nat) ∧ (0 : Int) ≤ (1 : Int) ∧ (1 : Int) ≤ (1000 : Int)) ∧ (decide ((bif ramp (1 : Int) ((3 : Nat) * bif okD (goodZ a0r a0w a0h a0cn a0c) 
  a0cn a1 then a0cn - (1 : Nat) else (0 : Nat)) == ramp (1 : Int) ((3 : Nat) * bif okD (goodZ a0r a0w a0h a0cn a0c) a0cn a1 then a0cn - (1 : Nat) else (0 : Nat)) then (1 : Int) + (↑((3 
  : Nat) * bif okD (goodZ a0r a0w a0h a0cn a0c) a0cn a1 then a0cn - (1 : Nat) else (0 : Nat)) : Int) else (-1 : Int)) < (0 : Int)) = true → K (V.lit false)) ∧ (decide ((bif ramp (1 : 
  Int) ((3 : Nat) * bif okD (goodZ a0r a0w a0h a0cn a0c) a0cn a1 then a0cn - (1 : Nat) else (0 : Nat)) == ramp (1 : Int) ((3 : Nat) * bif okD (goodZ a0r a0w a0h a0cn a0c) a0cn a1 then 
  a0cn - (1 : Nat) else (0 : Nat)) then (1 : Int) + (↑((3 : Nat) * bif okD (goodZ a0r a0w a0h a0cn a0c) a0cn a1 then a0cn - (1 : Nat) else (0 : Nat)) : Int) else (-1 : Int)) < (0 : Int)) 
  = false → (((bif ramp (1 : Int) ((3 : Nat) * bif okD (goodZ a0r a0w a0h a0cn a0c) a0cn a1 then a0cn - (1 : Nat) else (0 : Nat)) == ramp (1 : Int) ((3 : Nat) * bif okD (goodZ a0r a0w 
  a0h a0cn a0c) a0cn a1 then a0cn - (1 : Nat) else (0 : Nat)) then (1 : Int) + (↑((3 : Nat) * bif okD (goodZ a0r a0w a0h a0cn a0c) a0cn a1 then a0cn - (1 : Nat) else (0 : Nat)) : Int) 
  else (-1 : Int)) != (1 : Int) + (↑((3 : Nat) * bif okD (goodZ a0r a0w a0h a0cn a0c) a0cn a1 then a0cn - (1 : Nat) else (0 : Nat)) : Int)) = true → K (V.lit false)) ∧ (((bif ramp (1 
  : Int) ((3 : Nat) * bif okD (goodZ a0r a0w a0h a0cn a0c) a0cn a1 then a0cn - (1 : Nat) else (0 : Nat)) == ramp (1 : Int) ((3 : Nat) * bif okD (goodZ a0r a0w a0h a0cn a0c) a0cn a1 then 
  a0cn - (1 : Nat) else (0 : Nat)) then (1 : Int) + (↑((3 : Nat) * bif okD (goodZ a0r a0w a0h a0cn a0c) a0cn a1 then a0cn - (1 : Nat) else (0 : Nat)) : Int) else (-1 : Int)) != (1 : Int) 
  + (↑((3 : Nat) * bif okD (goodZ a0r a0w a0h a0cn a0c) a0cn a1 then a0cn - (1 : Nat) else (0 : Nat)) : Int)) = false → K (V.lit true)))))))))))) ∧ True) ∧ True) ∧ True) ∧ True)))

theorem vc_LawDropClue (a0r : List UInt8) (a0w : Int) (a0h : Int) (a0cn : Nat) (a0c : List Int) (a1 : Int) (ha0r : (a0r.length : Int) ≤ 9223372036854775807) (ha0w : -9223372036854775808 ≤ a0w ∧ a0w ≤ 9223372036854775807) (ha0h : -9223372036854775808 ≤ a0h ∧ a0h ≤ 9223372036854775807) (ha0c : a0c.length = a0cn * 3 ∧ (a0cn : Int) ≤ 9223372036854775807) (ha1 : -9223372036854775808 ≤ a1 ∧ a1 ≤ 9223372036854775807) : VC_LawDropClue a0r a0w a0h a0cn a0c a1 (retP (.bool true)) := by
  unfold VC_LawDropClue
  refine ⟨⟨by omega, by omega, ha0c.2, ha0r⟩, fun _ => (retP_lit _ _).2 rfl, fun hc => ?_⟩
  have hn := szP_n (of_decide_eq_false hc)
  have h3 : a0c.length = 3 * a0cn := by omega
  have hl : (bif okD (goodZ a0r a0w a0h a0cn a0c) a0cn a1 then wo3 a0c a1.toNat else []).length = 3 * (bif okD (goodZ a0r a0w a0h a0cn a0c) a0cn a1 then a0cn - 1 else 0) := by
    cases hb : okD (goodZ a0r a0w a0h a0cn a0c) a0cn a1
    · rfl
    · simp only [okD, Bool.and_eq_true] at hb
      have := inB_eq.1 hb.2
      rw [cond_true, cond_true, wo3_len (n := a0cn) (by omega) (by omega)]
      omega
  have hl2 : (bif okD (goodZ a0r a0w a0h a0cn a0c) a0cn a1 then a0cn - 1 else 0) ≤ 2000000 := by
    cases okD (goodZ a0r a0w a0h a0cn a0c) a0cn a1 <;> simp only [cond_true, cond_false] <;> omega
  generalize (bif okD (goodZ a0r a0w a0h a0cn a0c) a0cn a1 then wo3 a0c a1.toNat else []) = L at hl ⊢
  generalize (bif okD (goodZ a0r a0w a0h a0cn a0c) a0cn a1 then a0cn - 1 else 0) = N at hl hl2 ⊢
  simp [retP_lit, h3, hn, hl, hl2, ramp_len, Nat.mul_comm]
  try omega
end Go.Vi
