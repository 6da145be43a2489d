/- The conditions of FnExactMazeAfterBall. -/
import Derived.Test.YtkkpkfphfhcgoaaDoorD1Pf
namespace Go.Vi
set_option linter.unusedVariables false
def VC_LawMazeAfterBall (a0w : Int) (a0h : Int) (a0c : List UInt8) (a0u : Bool) (a1x : Int) (a1y : Int) (a1d : Int) (K : V → Prop) : Prop := At ((0 : Int) ≤ (1048576 : Int) ∧ (1048576 
  : Int) ≤ (1000000000 : Int) ∧ (↑(List.length a0c) : Int) ≤ (9223372036854775807 : Int)) ∧ (decide (szM a0c (1048576 : Int) < (0 : Int)) = true → K (V.lit true)) ∧ (decide (szM a0c (1048576 
  : Int) < (0 : Int)) = false → ((((At True ∧ ((At True ∧ (At True ∧ ((True ∧ (((0 : Nat) = (0 : Nat) ∧ (0 : Nat) = (0 : Nat)) ∧ ((1 : Nat) = (1 : Nat) ∧ (0 : Nat) = (0 : Nat)) ∧ ((2 
  : Nat) = (2 : Nat) ∧ (0 : Nat) = (0 : Nat)) ∧ exB a0w a0h a0c a0u a1x a1y a1d = exB a0w a0h a0c a0u a1x a1y a1d ∧ True) ∧ ((True ∧ (True ∧ a0w = a0w) ∧ (True ∧ a0h = a0h) ∧ a0c = a0c 
  ∧ a0u = a0u ∧ True) ∧ (True ∧ (True ∧ a1x = a1x) ∧ (True ∧ a1y = a1y) ∧ (True ∧ a1d = a1d) ∧ True) ∧ (True ∧ (True ∧ exW a0w a0h a0c a0u a1x a1y a1d = exW a0w a0h a0c a0u a1x a1y a1d) 
  ∧ (True ∧ exH a0w a0h a0c a0u a1x a1y a1d = exH a0w a0h a0c a0u a1x a1y a1d) ∧ exC a0w a0h a0c a0u a1x a1y a1d = exC a0w a0h a0c a0u a1x a1y a1d ∧ exU a0w a0h a0c a0u a1x a1y a1d = 
  exU a0w a0h a0c a0u a1x a1y a1d ∧ True) ∧ True) ∧ True) ∧ True) ∧ True) ∧ ((At True ∧ (True ∧ (((0 : Nat) = (0 : Nat) ∧ (0 : Nat) = (0 : Nat)) ∧ ((1 : Nat) = (1 : Nat) ∧ (0 : Nat) = 
  (0 : Nat)) ∧ ((2 : Nat) = (2 : Nat) ∧ (0 : Nat) = (0 : Nat)) ∧ exB a0w a0h a0c a0u a1x a1y a1d = exB a0w a0h a0c a0u a1x a1y a1d ∧ True) ∧ ((True ∧ (True ∧ a0w = a0w) ∧ (True ∧ a0h 
  = a0h) ∧ a0c = a0c ∧ a0u = a0u ∧ True) ∧ (True ∧ (True ∧ a1x = a1x) ∧ (True ∧ a1y = a1y) ∧ (True ∧ a1d = a1d) ∧ True) ∧ (True ∧ (True ∧ exW a0w a0h a0c a0u a1x a1y a1d = exW a0w a0h 
  a0c a0u a1x a1y a1d) ∧ (True ∧ exH a0w a0h a0c a0u a1x a1y a1d = exH a0w a0h a0c a0u a1x a1y a1d) ∧ exC a0w a0h a0c a0u a1x a1y a1d = exC a0w a0h a0c a0u a1x a1y a1d ∧ exU a0w a0h a0c 
  a0u a1x a1y a1d = exU a0w a0h a0c a0u a1x a1y a1d ∧ True) ∧ True) ∧ True) ∧ True) ∧ True) ∧ True) ∧ ((At True ∧ (At True ∧ (True ∧ (((0 : Nat) = (0 : Nat) ∧ (0 : Nat) = (0 : Nat)) ∧ 
  ((1 : Nat) = (1 : Nat) ∧ (0 : Nat) = (0 : Nat)) ∧ ((2 : Nat) = (2 : Nat) ∧ (0 : Nat) = (0 : Nat)) ∧ exB a0w a0h a0c a0u a1x a1y a1d = exB a0w a0h a0c a0u a1x a1y a1d ∧ True) ∧ ((True 
  ∧ (True ∧ a0w = a0w) ∧ (True ∧ a0h = a0h) ∧ a0c = a0c ∧ a0u = a0u ∧ True) ∧ (True ∧ (True ∧ a1x = a1x) ∧ (True ∧ a1y = a1y) ∧ (True ∧ a1d = a1d) ∧ True) ∧ (True ∧ (True ∧ exW a0w a0h 
  a0c a0u a1x a1y a1d = exW a0w a0h a0c a0u a1x a1y a1d) ∧ (True ∧ exH a0w a0h a0c a0u a1x a1y a1d = exH a0w a0h a0c a0u a1x a1y a1d) ∧ exC a0w a0h a0c a0u a1x a1y a1d = exC a0w a0h a0c 
  a0u a1x a1y a1d ∧ exU a0w a0h a0c a0u a1x a1y a1d = exU a0w a0h a0c a0u a1x a1y a1d ∧ True) ∧ True) ∧ True) ∧ True) ∧ True) ∧ True) ∧ True) ∧ (((At True ∧ (At True ∧ (True ∧ (((0 : 
  Nat) = (0 : Nat) ∧ (0 : Nat) = (0 : Nat)) ∧ ((1 : Nat) = (1 : Nat) ∧ (0 : Nat) = (0 : Nat)) ∧ ((2 : Nat) = (2 : Nat) ∧ (0 : Nat) = (0 : Nat)) ∧ exB a0w a0h a0c a0u a1x a1y a1d = exB 
  a0w a0h a0c a0u a1x a1y a1d ∧ True) ∧ ((True ∧ (True ∧ a0w = a0w) ∧ (True ∧ a0h = a0h) ∧ a0c = a0c ∧ a0u = a0u ∧ True) ∧ (True ∧ (True ∧ a1x = a1x) ∧ (True ∧ a1y = a1y) ∧ (True ∧ a1d 
  = a1d) ∧ True) ∧ (True ∧ (True ∧ exW a0w a0h a0c a0u a1x a1y a1d = exW a0w a0h a0c a0u a1x a1y a1d) ∧ (True ∧ exH a0w a0h a0c a0u a1x a1y a1d = exH a0w a0h a0c a0u a1x a1y a1d) ∧ exC 
  a0w a0h a0c a0u a1x a1y a1d = exC a0w a0h a0c a0u a1x a1y a1d ∧ exU a0w a0h a0c a0u a1x a1y a1d = exU a0w a0h a0c a0u a1x a1y a1d ∧ True) ∧ True) ∧ True) ∧ True) ∧ True) ∧ True) ∧ True) 
  ∧ True) ∧ ((At True ∧ (At True ∧ (At True ∧ ((True ∧ (((0 : Nat) = (0 : Nat) ∧ (0 : Nat) = (0 : Nat)) ∧ ((1 : Nat) = (1 : Nat) ∧ (0 : Nat) = (0 : Nat)) ∧ ((2 : Nat) = (2 : Nat) ∧ (0 
  : Nat) = (0 : Nat)) ∧ exB a0w a0h a0c a0u a1x a1y a1d = exB a0w a0h a0c a0u a1x a1y a1d ∧ True) ∧ ((True ∧ (True ∧ a0w = a0w) ∧ (True ∧ a0h = a0h) ∧ a0c = a0c ∧ a0u = a0u ∧ True) ∧ 
  (True ∧ (True ∧ a1x = a1x) ∧ (True ∧ a1y = a1y) ∧ (True ∧ a1d = a1d) ∧ True) ∧ (True ∧ (True ∧ exW a0w a0h a0c a0u a1x a1y a1d = exW a0w a0h a0c a0u a1x a1y a1d) ∧ (True ∧ exH a0w a0h 
  a0c a0u a1x a1y a1d = exH a0w a0h a0c a0u a1x a1y a1d) ∧ exC a0w a0h a0c a0u a1x a1y a1d = exC a0w a0h a0c a0u a1x a1y a1d ∧ exU a0w a0h a0c a0u a1x a1y a1d = exU a0w a0h a0c a0u a1x 
  a1y a1d ∧ True) ∧ True) ∧ True) ∧ True) ∧ True) ∧ ((At True ∧ (True ∧ (((0 : Nat) = (0 : Nat) ∧ (0 : Nat) = (0 : Nat)) ∧ ((1 : Nat) = (1 : Nat) ∧ (0 : Nat) = (0 : Nat)) ∧ ((2 : Nat) 
  = (2 : Nat) ∧ (0 : Nat) = (0 : Nat)) ∧ exB a0w a0h a0c a0u a1x a1y a1d = exB a0w a0h a0c a0u a1x a1y a1d ∧ True) ∧ ((True ∧ (True ∧ a0w = a0w) ∧ (True ∧ a0h = a0h) ∧ a0c = a0c ∧ a0u 
  = a0u ∧ True) ∧ (True ∧ (True ∧ a1x = a1x) ∧ (True ∧ a1y = a1y) ∧ (True ∧ a1d = a1d) ∧ True) ∧ (True ∧ (True ∧ exW a0w a0h a0c a0u a1x a1y a1d = exW a0w a0h a0c a0u a1x a1y a1d) ∧ (True 
  ∧ exH a0w a0h a0c a0u a1x a1y a1d = exH a0w a0h a0c a0u a1x a1y a1d) ∧ exC a0w a0h a0c a0u a1x a1y a1d = exC a0w a0h a0c a0u a1x a1y a1d ∧ exU a0w a0h a0c a0u a1x a1y a1d = exU a0w 
  a0h a0c a0u a1x a1y a1d ∧ True) ∧ True) ∧ True) ∧ True) ∧ True) ∧ True) ∧ ((At True ∧ (At True ∧ (True ∧ (((0 : Nat) = (0 : Nat) ∧ (0 : Nat) = (0 : Nat)) ∧ ((1 : Nat) = (1 : Nat) ∧ 
  (0 : Nat) = (0 : Nat)) ∧ ((2 : Nat) = (2 : Nat) ∧ (0 : Nat) = (0 : Nat)) ∧ exB a0w a0h a0c a0u a1x a1y a1d = exB a0w a0h a0c a0u a1x a1y a1d ∧ True) ∧ ((True ∧ (True ∧ a0w = a0w) ∧ 
  (True ∧ a0h = a0h) ∧ a0c = a0c ∧ a0u = a0u ∧ True) ∧ (True ∧ (True ∧ a1x = a1x) ∧ (True ∧ a1y = a1y) ∧ (True ∧ a1d = a1d) ∧ True) ∧ (True ∧ (True ∧ exW a0w a0h a0c a0u a1x a1y a1d = 
  exW a0w a0h a0c a0u a1x a1y a1d) ∧ (True ∧ exH a0w a0h a0c a0u a1x a1y a1d = exH a0w a0h a0c a0u a1x a1y a1d) ∧ exC a0w a0h a0c a0u a1x a1y a1d = exC a0w a0h a0c a0u a1x a1y a1d ∧ exU 
  a0w a0h a0c a0u a1x a1y a1d = exU a0w a0h a0c a0u a1x a1y a1d ∧ True) ∧ True) ∧ True) ∧ True) ∧ True) ∧ True) ∧ True) ∧ ((At True ∧ (At True ∧ (At True ∧ (True ∧ (((0 : Nat) = (0 : 
  Nat) ∧ (0 : Nat) = (0 : Nat)) ∧ ((1 : Nat) = (1 : Nat) ∧ (0 : Nat) = (0 : Nat)) ∧ ((2 : Nat) = (2 : Nat) ∧ (0 : Nat) = (0 : Nat)) ∧ exB a0w a0h a0c a0u a1x a1y a1d = exB a0w a0h a0c 
  a0u a1x a1y a1d ∧ True) ∧ ((True ∧ (True ∧ a0w = a0w) ∧ (True ∧ a0h = a0h) ∧ a0c = a0c ∧ a0u = a0u ∧ True) ∧ (True ∧ (True ∧ a1x = a1x) ∧ (True ∧ a1y = a1y) ∧ (True ∧ a1d = a1d) ∧ True) 
  ∧ (True ∧ (True ∧ exW a0w a0h a0c a0u a1x a1y a1d = exW a0w a0h a0c a0u a1x a1y a1d) ∧ (True ∧ exH a0w a0h a0c a0u a1x a1y a1d = exH a0w a0h a0c a0u a1x a1y a1d) ∧ exC a0w a0h a0c a0u 
  a1x a1y a1d = exC a0w a0h a0c a0u a1x a1y a1d ∧ exU a0w a0h a0c a0u a1x a1y a1d = exU a0w a0h a0c a0u a1x a1y a1d ∧ True) ∧ True) ∧ True) ∧ True) ∧ True) ∧ True) ∧ True) ∧ True) ∧ ((At 
  True ∧ ((At True ∧ (At True ∧ (True ∧ (((0 : Nat) = (0 : Nat) ∧ (0 : Nat) = (0 : Nat)) ∧ ((1 : Nat) = (1 : Nat) ∧ (0 : Nat) = (0 : Nat)) ∧ ((2 : Nat) = (2 : Nat) ∧ (0 : Nat) = (0 : 
  Nat)) ∧ exB a0w a0h a0c a0u a1x a1y a1d = exB a0w a0h a0c a0u a1x a1y a1d ∧ True) ∧ ((True ∧ (True ∧ a0w = a0w) ∧ (True ∧ a0h = a0h) ∧ a0c = a0c ∧ a0u = a0u ∧ True) ∧ (True ∧ (True 
  ∧ a1x = a1x) ∧ (True ∧ a1y = a1y) ∧ (True ∧ a1d = a1d) ∧ True) ∧ (True ∧ (True ∧ exW a0w a0h a0c a0u a1x a1y a1d = exW a0w a0h a0c a0u a1x a1y a1d) ∧ (True ∧ exH a0w a0h a0c a0u a1x 
  a1y a1d = exH a0w a0h a0c a0u a1x a1y a1d) ∧ exC a0w a0h a0c a0u a1x a1y a1d = exC a0w a0h a0c a0u a1x a1y a1d ∧ exU a0w a0h a0c a0u a1x a1y a1d = exU a0w a0h a0c a0u a1x a1y a1d ∧ 
  True) ∧ True) ∧ True) ∧ True) ∧ True) ∧ True) ∧ True) ∧ ((At True ∧ (At True ∧ (At True ∧ (True ∧ (((0 : Nat) = (0 : Nat) ∧ (0 : Nat) = (0 : Nat)) ∧ ((1 : Nat) = (1 : Nat) ∧ (0 : Nat) 
  = (0 : Nat)) ∧ ((2 : Nat) = (2 : Nat) ∧ (0 : Nat) = (0 : Nat)) ∧ exB a0w a0h a0c a0u a1x a1y a1d = exB a0w a0h a0c a0u a1x a1y a1d ∧ True) ∧ ((True ∧ (True ∧ a0w = a0w) ∧ (True ∧ a0h 
  = a0h) ∧ a0c = a0c ∧ a0u = a0u ∧ True) ∧ (True ∧ (True ∧ a1x = a1x) ∧ (True ∧ a1y = a1y) ∧ (True ∧ a1d = a1d) ∧ True) ∧ (True ∧ (True ∧ exW a0w a0h a0c a0u a1x a1y a1d = exW a0w a0h 
  a0c a0u a1x a1y a1d) ∧ (True ∧ exH a0w a0h a0c a0u a1x a1y a1d = exH a0w a0h a0c a0u a1x a1y a1d) ∧ exC a0w a0h a0c a0u a1x a1y a1d = exC a0w a0h a0c a0u a1x a1y a1d ∧ exU a0w a0h a0c 
  a0u a1x a1y a1d = exU a0w a0h a0c a0u a1x a1y a1d ∧ True) ∧ True) ∧ True) ∧ True) ∧ True) ∧ True) ∧ True) ∧ True) ∧ True) ∧ (((At True ∧ (At True ∧ (At True ∧ ((True ∧ (((0 : Nat) = 
  (0 : Nat) ∧ (0 : Nat) = (0 : Nat)) ∧ ((1 : Nat) = (1 : Nat) ∧ (0 : Nat) = (0 : Nat)) ∧ ((2 : Nat) = (2 : Nat) ∧ (0 : Nat) = (0 : Nat)) ∧ exB a0w a0h a0c a0u a1x a1y a1d = exB a0w a0h 
  a0c a0u a1x a1y a1d ∧ True) ∧ ((True ∧ (True ∧ a0w = a0w) ∧ (True ∧ a0h = a0h) ∧ a0c = a0c ∧ a0u = a0u ∧ True) ∧ (True ∧ (True ∧ a1x = a1x) ∧ (True ∧ a1y = a1y) ∧ (True ∧ a1d = a1d) 
  ∧ True) ∧ (True ∧ (True ∧ exW a0w a0h a0c a0u a1x a1y a1d = exW a0w a0h a0c a0u a1x a1y a1d) ∧ (True ∧ exH a0w a0h a0c a0u a1x a1y a1d = exH a0w a0h a0c a0u a1x a1y a1d) ∧ exC a0w a0h 
  a0c a0u a1x a1y a1d = exC a0w a0h a0c a0u a1x a1y a1d ∧ exU a0w a0h a0c a0u a1x a1y a1d = exU a0w a0h a0c a0u a1x a1y a1d ∧ True) ∧ True) ∧ True) ∧ True) ∧ True) ∧ ((At True ∧ (True 
  ∧ (((0 : Nat) = (0 : Nat) ∧ (0 : Nat) = (0 : Nat)) ∧ ((1 : Nat) = (1 : Nat) ∧ (0 : Nat) = (0 : Nat)) ∧ ((2 : Nat) = (2 : Nat) ∧ (0 : Nat) = (0 : Nat)) ∧ exB a0w a0h a0c a0u a1x a1y 
  a1d = exB a0w a0h a0c a0u a1x a1y a1d ∧ True) ∧ ((True ∧ (True ∧ a0w = a0w) ∧ (True ∧ a0h = a0h) ∧ a0c = a0c ∧ a0u = a0u ∧ True) ∧ (True ∧ (True ∧ a1x = a1x) ∧ (True ∧ a1y = a1y) ∧ 
  (True ∧ a1d = a1d) ∧ True) ∧ (True ∧ (True ∧ exW a0w a0h a0c a0u a1x a1y a1d = exW a0w a0h a0c a0u a1x a1y a1d) ∧ (True ∧ exH a0w a0h a0c a0u a1x a1y a1d = exH a0w a0h a0c a0u a1x a1y 
  a1d) ∧ exC a0w a0h a0c a0u a1x a1y a1d = exC a0w a0h a0c a0u a1x a1y a1d ∧ exU a0w a0h a0c a0u a1x a1y a1d = exU a0w a0h a0c a0u a1x a1y a1d ∧ True) ∧ True) ∧ True) ∧ True) ∧ True) 
  ∧ True) ∧ ((At True ∧ (At True ∧ (True ∧ (((0 : Nat) = (0 : Nat) ∧ (0 : Nat) = (0 : Nat)) ∧ ((1 : Nat) = (1 : Nat) ∧ (0 : Nat) = (0 : Nat)) ∧ ((2 : Nat) = (2 : Nat) ∧ (0 : Nat) = (0 
  : Nat)) ∧ exB a0w a0h a0c a0u a1x a1y a1d = exB a0w a0h a0c a0u a1x a1y a1d ∧ True) ∧ ((True ∧ (True ∧ a0w = a0w) ∧ (True ∧ a0h = a0h) ∧ a0c = a0c ∧ a0u = a0u ∧ True) ∧ (True ∧ (True 
  ∧ a1x = a1x) ∧ (True ∧ a1y = a1y) ∧ (True ∧ a1d = a1d) ∧ True) ∧ (True ∧ (True ∧ exW a0w a0h a0c a0u a1x a1y a1d = exW a0w a0h a0c a0u a1x a1y a1d) ∧ (True ∧ exH a0w a0h a0c a0u a1x 
  a1y a1d = exH a0w a0h a0c a0u a1x a1y a1d) ∧ exC a0w a0h a0c a0u a1x a1y a1d = exC a0w a0h a0c a0u a1x a1y a1d ∧ exU a0w a0h a0c a0u a1x a1y a1d = exU a0w a0h a0c a0u a1x a1y a1d ∧ 
  True) ∧ True) ∧ True) ∧ True) ∧ True) ∧ True) ∧ True) ∧ ((At True ∧ (At True ∧ (At True ∧ (True ∧ (((0 : Nat) = (0 : Nat) ∧ (0 : Nat) = (0 : Nat)) ∧ ((1 : Nat) = (1 : Nat) ∧ (0 : Nat) 
  = (0 : Nat)) ∧ ((2 : Nat) = (2 : Nat) ∧ (0 : Nat) = (0 : Nat)) ∧ exB a0w a0h a0c a0u a1x a1y a1d = exB a0w a0h a0c a0u a1x a1y a1d ∧ True) ∧ ((True ∧ (True ∧ a0w = a0w) ∧ (True ∧ a0h 
  = a0h) ∧ a0c = a0c ∧ a0u = a0u ∧ True) ∧ (True ∧ (True ∧ a1x = a1x) ∧ (True ∧ a1y = a1y) ∧ (True ∧ a1d = a1d) ∧ True) ∧ (True ∧ (True ∧ exW a0w a0h a0c a0u a1x a1y a1d = exW a0w a0h 
  a0c a0u a1x a1y a1d) ∧ (True ∧ exH a0w a0h a0c a0u a1x a1y a1d = exH a0w a0h a0c a0u a1x a1y a1d) ∧ exC a0w a0h a0c a0u a1x a1y a1d = exC a0w a0h a0c a0u a1x a1y a1d ∧ exU a0w a0h a0c 
  a0u a1x a1y a1d = exU a0w a0h a0c a0u a1x a1y a1d ∧ True) ∧ True) ∧ True) ∧ True) ∧ True) ∧ True) ∧ True) ∧ True) ∧ (((At True ∧ (At True ∧ (At True ∧ (True ∧ (((0 : Nat) = (0 : Nat) 
  ∧ (0 : Nat) = (0 : Nat)) ∧ ((1 : Nat) = (1 : Nat) ∧ (0 : Nat) = (0 : Nat)) ∧ ((2 : Nat) = (2 : Nat) ∧ (0 : Nat) = (0 : Nat)) ∧ exB a0w a0h a0c a0u a1x a1y a1d = exB a0w a0h a0c a0u 
  a1x a1y a1d ∧ True) ∧ ((True ∧ (True ∧ a0w = a0w) ∧ (True ∧ a0h = a0h) ∧ a0c = a0c ∧ a0u = a0u ∧ True) ∧ (True ∧ (True ∧ a1x = a1x) ∧ (True ∧ a1y = a1y) ∧ (True ∧ a1d = a1d) ∧ True) 
  ∧ (True ∧ (True ∧ exW a0w a0h a0c a0u a1x a1y a1d = exW a0w a0h a0c a0u a1x a1y a1d) ∧ (True ∧ exH a0w a0h a0c a0u a1x a1y a1d = exH a0w a0h a0c a0u a1x a1y a1d) ∧ exC a0w a0h a0c a0u 
  a1x a1y a1d = exC a0w a0h a0c a0u a1x a1y a1d ∧ exU a0w a0h a0c a0u a1x a1y a1d = exU a0w a0h a0c a0u a1x a1y a1d ∧ True) ∧ True) ∧ True) ∧ True) ∧ True) ∧ True) ∧ True) ∧ True) ∧ True) 
  ∧ (((At True ∧ ((At True ∧ (At True ∧ (True ∧ (((0 : Nat) = (0 : Nat) ∧ (0 : Nat) = (0 : Nat)) ∧ ((1 : Nat) = (1 : Nat) ∧ (0 : Nat) = (0 : Nat)) ∧ ((2 : Nat) = (2 : Nat) ∧ (0 : Nat) 
  = (0 : Nat)) ∧ exB a0w a0h a0c a0u a1x a1y a1d = exB a0w a0h a0c a0u a1x a1y a1d ∧ True) ∧ ((True ∧ (True ∧ a0w = a0w) ∧ (True ∧ a0h = a0h) ∧ a0c = a0c ∧ a0u = a0u ∧ True) ∧ (True ∧ 
  (True ∧ a1x = a1x) ∧ (True ∧ a1y = a1y) ∧ (True ∧ a1d = a1d) ∧ True) ∧ (True ∧ (True ∧ exW a0w a0h a0c a0u a1x a1y a1d = exW a0w a0h a0c a0u a1x a1y a1d) ∧ (True ∧ exH a0w a0h a0c a0u 
  a1x a1y a1d = exH a0w a0h a0c a0u a1x a1y a1d) ∧ exC a0w a0h a0c a0u a1x a1y a1d = exC a0w a0h a0c a0u a1x a1y a1d ∧ exU a0w a0h a0c a0u a1x a1y a1d = exU a0w a0h a0c a0u a1x a1y a1d 
  ∧ True) ∧ True) ∧ True) ∧ True) ∧ True) ∧ True) ∧ True) ∧ ((At True ∧ (At True ∧ (At True ∧ (True ∧ (((0 : Nat) = (0 : Nat) ∧ (0 : Nat) = (0 : Nat)) ∧ ((1 : Nat) = (1 : Nat) ∧ (0 : 
  Nat) = (0 : Nat)) ∧ ((2 : Nat) = (2 : Nat) ∧ (0 : Nat) = (0 : Nat)) ∧ exB a0w a0h a0c a0u a1x a1y a1d = exB a0w a0h a0c a0u a1x a1y a1d ∧ True) ∧ ((True ∧ (True ∧ a0w = a0w) ∧ (True 
  ∧ a0h = a0h) ∧ a0c = a0c ∧ a0u = a0u ∧ True) ∧ (True ∧ (True ∧ a1x = a1x) ∧ (True ∧ a1y = a1y) ∧ (True ∧ a1d = a1d) ∧ True) ∧ (True ∧ (True ∧ exW a0w a0h a0c a0u a1x a1y a1d = exW a0w 
  a0h a0c a0u a1x a1y a1d) ∧ (True ∧ exH a0w a0h a0c a0u a1x a1y a1d = exH a0w a0h a0c a0u a1x a1y a1d) ∧ exC a0w a0h a0c a0u a1x a1y a1d = exC a0w a0h a0c a0u a1x a1y a1d ∧ exU a0w a0h 
  a0c a0u a1x a1y a1d = exU a0w a0h a0c a0u a1x a1y a1d ∧ True) ∧ True) ∧ True) ∧ True) ∧ True) ∧ True) ∧ True) ∧ True) ∧ (((At True ∧ (At True ∧ (At True ∧ (True ∧ (((0 : Nat) = (0 : 
  Nat) ∧ (0 : Nat) = (0 : Nat)) ∧ ((1 : Nat) = (1 : Nat) ∧ (0 : Nat) = (0 : Nat)) ∧ ((2 : Nat) = (2 : Nat) ∧ (0 : Nat) = (0 : Nat)) ∧ exB a0w a0h a0c a0u a1x a1y a1d = exB a0w a0h a0c 
  a0u a1x a1y a1d ∧ True) ∧ ((True ∧ (True ∧ a0w = a0w) ∧ (True ∧ a0h = a0h) ∧ a0c = a0c ∧ a0u = a0u ∧ True) ∧ (True ∧ (True ∧ a1x = a1x) ∧ (True ∧ a1y = a1y) ∧ (True ∧ a1d = a1d) ∧ True) 
  ∧ (True ∧ (True ∧ exW a0w a0h a0c a0u a1x a1y a1d = exW a0w a0h a0c a0u a1x a1y a1d) ∧ (True ∧ exH a0w a0h a0c a0u a1x a1y a1d = exH a0w a0h a0c a0u a1x a1y a1d) ∧ exC a0w a0h a0c a0u 
  a1x a1y a1d = exC a0w a0h a0c a0u a1x a1y a1d ∧ exU a0w a0h a0c a0u a1x a1y a1d = exU a0w a0h a0c a0u a1x a1y a1d ∧ True) ∧ True) ∧ True) ∧ True) ∧ True) ∧ True) ∧ True) ∧ True) ∧ True) 
  ∧ True) ∧ True ∧ (((0 : Nat) = (0 : Nat) ∧ (0 : Nat) = (0 : Nat)) ∧ ((1 : Nat) = (1 : Nat) ∧ (0 : Nat) = (0 : Nat)) ∧ ((2 : Nat) = (2 : Nat) ∧ (0 : Nat) = (0 : Nat)) ∧ exB a0w a0h a0c 
  a0u a1x a1y a1d = exB a0w a0h a0c a0u a1x a1y a1d ∧ True) ∧ ((True ∧ (True ∧ a0w = a0w) ∧ (True ∧ a0h = a0h) ∧ a0c = a0c ∧ a0u = a0u ∧ True) ∧ (True ∧ (True ∧ a1x = a1x) ∧ (True ∧ a1y 
  = a1y) ∧ (True ∧ a1d = a1d) ∧ True) ∧ (True ∧ (True ∧ exW a0w a0h a0c a0u a1x a1y a1d = exW a0w a0h a0c a0u a1x a1y a1d) ∧ (True ∧ exH a0w a0h a0c a0u a1x a1y a1d = exH a0w a0h a0c 
  a0u a1x a1y a1d) ∧ exC a0w a0h a0c a0u a1x a1y a1d = exC a0w a0h a0c a0u a1x a1y a1d ∧ exU a0w a0h a0c a0u a1x a1y a1d = exU a0w a0h a0c a0u a1x a1y a1d ∧ True) ∧ True) ∧ True) ∧ ((((At 
  True ∧ ((At True ∧ (At True ∧ ((True ∧ (((0 : Nat) = (0 : Nat) ∧ (0 : Nat) = (0 : Nat)) ∧ exB a0w a0h a0c a0u a1x a1y a1d = exB a0w a0h a0c a0u a1x a1y a1d ∧ ((1 : Nat) = (1 : Nat) 
  ∧ (0 : Nat) = (0 : Nat)) ∧ exB a0w a0h a0c a0u a1x a1y a1d = exB a0w a0h a0c a0u a1x a1y a1d ∧ True) ∧ ((True ∧ (True ∧ exW a0w a0h a0c a0u a1x a1y a1d = exW a0w a0h a0c a0u a1x a1y 
  a1d) ∧ (True ∧ exH a0w a0h a0c a0u a1x a1y a1d = exH a0w a0h a0c a0u a1x a1y a1d) ∧ exC a0w a0h a0c a0u a1x a1y a1d = exC a0w a0h a0c a0u a1x a1y a1d ∧ exU a0w a0h a0c a0u a1x a1y a1d 
  = exU a0w a0h a0c a0u a1x a1y a1d ∧ True) ∧ (True ∧ (True ∧ exW a0w a0h a0c a0u a1x a1y a1d = exW a0w a0h a0c a0u a1x a1y a1d) ∧ (True ∧ exH a0w a0h a0c a0u a1x a1y a1d = exH a0w a0h 
  a0c a0u a1x a1y a1d) ∧ exC a0w a0h a0c a0u a1x a1y a1d = exC a0w a0h a0c a0u a1x a1y a1d ∧ exU a0w a0h a0c a0u a1x a1y a1d = exU a0w a0h a0c a0u a1x a1y a1d ∧ True) ∧ True) ∧ True) 
  ∧ True) ∧ True) ∧ ((At True ∧ (True ∧ (((0 : Nat) = (0 : Nat) ∧ (0 : Nat) = (0 : Nat)) ∧ exB a0w a0h a0c a0u a1x a1y a1d = exB a0w a0h a0c a0u a1x a1y a1d ∧ ((1 : Nat) = (1 : Nat) ∧ 
  (0 : Nat) = (0 : Nat)) ∧ exB a0w a0h a0c a0u a1x a1y a1d = exB a0w a0h a0c a0u a1x a1y a1d ∧ True) ∧ ((True ∧ (True ∧ exW a0w a0h a0c a0u a1x a1y a1d = exW a0w a0h a0c a0u a1x a1y a1d) 
  ∧ (True ∧ exH a0w a0h a0c a0u a1x a1y a1d = exH a0w a0h a0c a0u a1x a1y a1d) ∧ exC a0w a0h a0c a0u a1x a1y a1d = exC a0w a0h a0c a0u a1x a1y a1d ∧ exU a0w a0h a0c a0u a1x a1y a1d = 
  exU a0w a0h a0c a0u a1x a1y a1d ∧ True) ∧ (True ∧ (True ∧ exW a0w a0h a0c a0u a1x a1y a1d = exW a0w a0h a0c a0u a1x a1y a1d) ∧ (True ∧ exH a0w a0h a0c a0u a1x a1y a1d = exH a0w a0h 
  a0c a0u a1x a1y a1d) ∧ exC a0w a0h a0c a0u a1x a1y a1d = exC a0w a0h a0c a0u a1x a1y a1d ∧ exU a0w a0h a0c a0u a1x a1y a1d = exU a0w a0h a0c a0u a1x a1y a1d ∧ True) ∧ True) ∧ True) 
  ∧ True) ∧ True) ∧ True) ∧ ((At True ∧ (At True ∧ (True ∧ (((0 : Nat) = (0 : Nat) ∧ (0 : Nat) = (0 : Nat)) ∧ exB a0w a0h a0c a0u a1x a1y a1d = exB a0w a0h a0c a0u a1x a1y a1d ∧ ((1 : 
  Nat) = (1 : Nat) ∧ (0 : Nat) = (0 : Nat)) ∧ exB a0w a0h a0c a0u a1x a1y a1d = exB a0w a0h a0c a0u a1x a1y a1d ∧ True) ∧ ((True ∧ (True ∧ exW a0w a0h a0c a0u a1x a1y a1d = exW a0w a0h 
  a0c a0u a1x a1y a1d) ∧ (True ∧ exH a0w a0h a0c a0u a1x a1y a1d = exH a0w a0h a0c a0u a1x a1y a1d) ∧ exC a0w a0h a0c a0u a1x a1y a1d = exC a0w a0h a0c a0u a1x a1y a1d ∧ exU a0w a0h a0c 
  a0u a1x a1y a1d = exU a0w a0h a0c a0u a1x a1y a1d ∧ True) ∧ (True ∧ (True ∧ exW a0w a0h a0c a0u a1x a1y a1d = exW a0w a0h a0c a0u a1x a1y a1d) ∧ (True ∧ exH a0w a0h a0c a0u a1x a1y 
  a1d = exH a0w a0h a0c a0u a1x a1y a1d) ∧ exC a0w a0h a0c a0u a1x a1y a1d = exC a0w a0h a0c a0u a1x a1y a1d ∧ exU a0w a0h a0c a0u a1x a1y a1d = exU a0w a0h a0c a0u a1x a1y a1d ∧ True) 
  ∧ True) ∧ True) ∧ True) ∧ True) ∧ True) ∧ True) ∧ (((At True ∧ (At True ∧ (True ∧ (((0 : Nat) = (0 : Nat) ∧ (0 : Nat) = (0 : Nat)) ∧ exB a0w a0h a0c a0u a1x a1y a1d = exB a0w a0h a0c 
  a0u a1x a1y a1d ∧ ((1 : Nat) = (1 : Nat) ∧ (0 : Nat) = (0 : Nat)) ∧ exB a0w a0h a0c a0u a1x a1y a1d = exB a0w a0h a0c a0u a1x a1y a1d ∧ True) ∧ ((True ∧ (True ∧ exW a0w a0h a0c a0u 
  a1x a1y a1d = exW a0w a0h a0c a0u a1x a1y a1d) ∧ (True ∧ exH a0w a0h a0c a0u a1x a1y a1d = exH a0w a0h a0c a0u a1x a1y a1d) ∧ exC a0w a0h a0c a0u a1x a1y a1d = exC a0w a0h a0c a0u a1x 
  a1y a1d ∧ exU a0w a0h a0c a0u a1x a1y a1d = exU a0w a0h a0c a0u a1x a1y a1d ∧ True) ∧ (True ∧ (True ∧ exW a0w a0h a0c a0u a1x a1y a1d = exW a0w a0h a0c a0u a1x a1y a1d) ∧ (True ∧ exH 
  a0w a0h a0c a0u a1x a1y a1d = exH a0w a0h a0c a0u a1x a1y a1d) ∧ exC a0w a0h a0c a0u a1x a1y a1d = exC a0w a0h a0c a0u a1x a1y a1d ∧ exU a0w a0h a0c a0u a1x a1y a1d = exU a0w a0h a0c 
  a0u a1x a1y a1d ∧ True) ∧ True) ∧ True) ∧ True) ∧ True) ∧ True) ∧ True) ∧ True) ∧ ((At True ∧ (At True ∧ (At True ∧ ((True ∧ (((0 : Nat) = (0 : Nat) ∧ (0 : Nat) = (0 : Nat)) ∧ exB a0w 
  a0h a0c a0u a1x a1y a1d = exB a0w a0h a0c a0u a1x a1y a1d ∧ ((1 : Nat) = (1 : Nat) ∧ (0 : Nat) = (0 : Nat)) ∧ exB a0w a0h a0c a0u a1x a1y a1d = exB a0w a0h a0c a0u a1x a1y a1d ∧ True) 
  ∧ ((True ∧ (True ∧ exW a0w a0h a0c a0u a1x a1y a1d = exW a0w a0h a0c a0u a1x a1y a1d) ∧ (True ∧ exH a0w a0h a0c a0u a1x a1y a1d = exH a0w a0h a0c a0u a1x a1y a1d) ∧ exC a0w a0h a0c 
  a0u a1x a1y a1d = exC a0w a0h a0c a0u a1x a1y a1d ∧ exU a0w a0h a0c a0u a1x a1y a1d = exU a0w a0h a0c a0u a1x a1y a1d ∧ True) ∧ (True ∧ (True ∧ exW a0w a0h a0c a0u a1x a1y a1d = exW 
  a0w a0h a0c a0u a1x a1y a1d) ∧ (True ∧ exH a0w a0h a0c a0u a1x a1y a1d = exH a0w a0h a0c a0u a1x a1y a1d) ∧ exC a0w a0h a0c a0u a1x a1y a1d = exC a0w a0h a0c a0u a1x a1y a1d ∧ exU a0w 
  a0h a0c a0u a1x a1y a1d = exU a0w a0h a0c a0u a1x a1y a1d ∧ True) ∧ True) ∧ True) ∧ True) ∧ True) ∧ ((At True ∧ (True ∧ (((0 : Nat) = (0 : Nat) ∧ (0 : Nat) = (0 : Nat)) ∧ exB a0w a0h 
  a0c a0u a1x a1y a1d = exB a0w a0h a0c a0u a1x a1y a1d ∧ ((1 : Nat) = (1 : Nat) ∧ (0 : Nat) = (0 : Nat)) ∧ exB a0w a0h a0c a0u a1x a1y a1d = exB a0w a0h a0c a0u a1x a1y a1d ∧ True) ∧ 
  ((True ∧ (True ∧ exW a0w a0h a0c a0u a1x a1y a1d = exW a0w a0h a0c a0u a1x a1y a1d) ∧ (True ∧ exH a0w a0h a0c a0u a1x a1y a1d = exH a0w a0h a0c a0u a1x a1y a1d) ∧ exC a0w a0h a0c a0u 
  a1x a1y a1d = exC a0w a0h a0c a0u a1x a1y a1d ∧ exU a0w a0h a0c a0u a1x a1y a1d = exU a0w a0h a0c a0u a1x a1y a1d ∧ True) ∧ (True ∧ (True ∧ exW a0w a0h a0c a0u a1x a1y a1d = exW a0w 
  a0h a0c a0u a1x a1y a1d) ∧ (True ∧ exH a0w a0h a0c a0u a1x a1y a1d = exH a0w a0h a0c a0u a1x a1y a1d) ∧ exC a0w a0h a0c a0u a1x a1y a1d = exC a0w a0h a0c a0u a1x a1y a1d ∧ exU a0w a0h 
  a0c a0u a1x a1y a1d = exU a0w a0h a0c a0u a1x a1y a1d ∧ True) ∧ True) ∧ True) ∧ True) ∧ True) ∧ True) ∧ ((At True ∧ (At True ∧ (True ∧ (((0 : Nat) = (0 : Nat) ∧ (0 : Nat) = (0 : Nat)) 
  ∧ exB a0w a0h a0c a0u a1x a1y a1d = exB a0w a0h a0c a0u a1x a1y a1d ∧ ((1 : Nat) = (1 : Nat) ∧ (0 : Nat) = (0 : Nat)) ∧ exB a0w a0h a0c a0u a1x a1y a1d = exB a0w a0h a0c a0u a1x a1y 
  a1d ∧ True) ∧ ((True ∧ (True ∧ exW a0w a0h a0c a0u a1x a1y a1d = exW a0w a0h a0c a0u a1x a1y a1d) ∧ (True ∧ exH a0w a0h a0c a0u a1x a1y a1d = exH a0w a0h a0c a0u a1x a1y a1d) ∧ exC 
  a0w a0h a0c a0u a1x a1y a1d = exC a0w a0h a0c a0u a1x a1y a1d ∧ exU a0w a0h a0c a0u a1x a1y a1d = exU a0w a0h a0c a0u a1x a1y a1d ∧ True) ∧ (True ∧ (True ∧ exW a0w a0h a0c a0u a1x a1y 
  a1d = exW a0w a0h a0c a0u a1x a1y a1d) ∧ (True ∧ exH a0w a0h a0c a0u a1x a1y a1d = exH a0w a0h a0c a0u a1x a1y a1d) ∧ exC a0w a0h a0c a0u a1x a1y a1d = exC a0w a0h a0c a0u a1x a1y a1d 
  ∧ exU a0w a0h a0c a0u a1x a1y a1d = exU a0w a0h a0c a0u a1x a1y a1d ∧ True) ∧ True) ∧ True) ∧ True) ∧ True) ∧ True) ∧ True) ∧ ((At True ∧ (At True ∧ (At True ∧ (True ∧ (((0 : Nat) = 
  (0 : Nat) ∧ (0 : Nat) = (0 : Nat)) ∧ exB a0w a0h a0c a0u a1x a1y a1d = exB a0w a0h a0c a0u a1x a1y a1d ∧ ((1 : Nat) = (1 : Nat) ∧ (0 : Nat) = (0 : Nat)) ∧ exB a0w a0h a0c a0u a1x a1y 
  a1d = exB a0w a0h a0c a0u a1x a1y a1d ∧ True) ∧ ((True ∧ (True ∧ exW a0w a0h a0c a0u a1x a1y a1d = exW a0w a0h a0c a0u a1x a1y a1d) ∧ (True ∧ exH a0w a0h a0c a0u a1x a1y a1d = exH a0w 
  a0h a0c a0u a1x a1y a1d) ∧ exC a0w a0h a0c a0u a1x a1y a1d = exC a0w a0h a0c a0u a1x a1y a1d ∧ exU a0w a0h a0c a0u a1x a1y a1d = exU a0w a0h a0c a0u a1x a1y a1d ∧ True) ∧ (True ∧ (True 
  ∧ exW a0w a0h a0c a0u a1x a1y a1d = exW a0w a0h a0c a0u a1x a1y a1d) ∧ (True ∧ exH a0w a0h a0c a0u a1x a1y a1d = exH a0w a0h a0c a0u a1x a1y a1d) ∧ exC a0w a0h a0c a0u a1x a1y a1d = 
  exC a0w a0h a0c a0u a1x a1y a1d ∧ exU a0w a0h a0c a0u a1x a1y a1d = exU a0w a0h a0c a0u a1x a1y a1d ∧ True) ∧ True) ∧ True) ∧ True) ∧ True) ∧ True) ∧ True) ∧ True) ∧ ((At True ∧ ((At 
  True ∧ (At True ∧ (True ∧ (((0 : Nat) = (0 : Nat) ∧ (0 : Nat) = (0 : Nat)) ∧ exB a0w a0h a0c a0u a1x a1y a1d = exB a0w a0h a0c a0u a1x a1y a1d ∧ ((1 : Nat) = (1 : Nat) ∧ (0 : Nat) = 
  (0 : Nat)) ∧ exB a0w a0h a0c a0u a1x a1y a1d = exB a0w a0h a0c a0u a1x a1y a1d ∧ True) ∧ ((True ∧ (True ∧ exW a0w a0h a0c a0u a1x a1y a1d = exW a0w a0h a0c a0u a1x a1y a1d) ∧ (True 
  ∧ exH a0w a0h a0c a0u a1x a1y a1d = exH a0w a0h a0c a0u a1x a1y a1d) ∧ exC a0w a0h a0c a0u a1x a1y a1d = exC a0w a0h a0c a0u a1x a1y a1d ∧ exU a0w a0h a0c a0u a1x a1y a1d = exU a0w 
  a0h a0c a0u a1x a1y a1d ∧ True) ∧ (True ∧ (True ∧ exW a0w a0h a0c a0u a1x a1y a1d = exW a0w a0h a0c a0u a1x a1y a1d) ∧ (True ∧ exH a0w a0h a0c a0u a1x a1y a1d = exH a0w a0h a0c a0u 
  a1x a1y a1d) ∧ exC a0w a0h a0c a0u a1x a1y a1d = exC a0w a0h a0c a0u a1x a1y a1d ∧ exU a0w a0h a0c a0u a1x a1y a1d = exU a0w a0h a0c a0u a1x a1y a1d ∧ True) ∧ True) ∧ True) ∧ True) 
  ∧ True) ∧ True) ∧ True) ∧ ((At True ∧ (At True ∧ (At True ∧ (True ∧ (((0 : Nat) = (0 : Nat) ∧ (0 : Nat) = (0 : Nat)) ∧ exB a0w a0h a0c a0u a1x a1y a1d = exB a0w a0h a0c a0u a1x a1y 
  a1d ∧ ((1 : Nat) = (1 : Nat) ∧ (0 : Nat) = (0 : Nat)) ∧ exB a0w a0h a0c a0u a1x a1y a1d = exB a0w a0h a0c a0u a1x a1y a1d ∧ True) ∧ ((True ∧ (True ∧ exW a0w a0h a0c a0u a1x a1y a1d 
  = exW a0w a0h a0c a0u a1x a1y a1d) ∧ (True ∧ exH a0w a0h a0c a0u a1x a1y a1d = exH a0w a0h a0c a0u a1x a1y a1d) ∧ exC a0w a0h a0c a0u a1x a1y a1d = exC a0w a0h a0c a0u a1x a1y a1d ∧ 
  exU a0w a0h a0c a0u a1x a1y a1d = exU a0w a0h a0c a0u a1x a1y a1d ∧ True) ∧ (True ∧ (True ∧ exW a0w a0h a0c a0u a1x a1y a1d = exW a0w a0h a0c a0u a1x a1y a1d) ∧ (True ∧ exH a0w a0h 
  a0c a0u a1x a1y a1d = exH a0w a0h a0c a0u a1x a1y a1d) ∧ exC a0w a0h a0c a0u a1x a1y a1d = exC a0w a0h a0c a0u a1x a1y a1d ∧ exU a0w a0h a0c a0u a1x a1y a1d = exU a0w a0h a0c a0u a1x 
  a1y a1d ∧ True) ∧ True) ∧ True) ∧ True) ∧ True) ∧ True) ∧ True) ∧ True) ∧ True) ∧ (((At True ∧ (At True ∧ (At True ∧ ((True ∧ (((0 : Nat) = (0 : Nat) ∧ (0 : Nat) = (0 : Nat)) ∧ exB 
  a0w a0h a0c a0u a1x a1y a1d = exB a0w a0h a0c a0u a1x a1y a1d ∧ ((1 : Nat) = (1 : Nat) ∧ (0 : Nat) = (0 : Nat)) ∧ exB a0w a0h a0c a0u a1x a1y a1d = exB a0w a0h a0c a0u a1x a1y a1d ∧ 
  True) ∧ ((True ∧ (True ∧ exW a0w a0h a0c a0u a1x a1y a1d = exW a0w a0h a0c a0u a1x a1y a1d) ∧ (True ∧ exH a0w a0h a0c a0u a1x a1y a1d = exH a0w a0h a0c a0u a1x a1y a1d) ∧ exC a0w a0h 
  a0c a0u a1x a1y a1d = exC a0w a0h a0c a0u a1x a1y a1d ∧ exU a0w a0h a0c a0u a1x a1y a1d = exU a0w a0h a0c a0u a1x a1y a1d ∧ True) ∧ (True ∧ (True ∧ exW a0w a0h a0c a0u a1x a1y a1d = 
  exW a0w a0h a0c a0u a1x a1y a1d) ∧ (True ∧ exH a0w a0h a0c a0u a1x a1y a1d = exH a0w a0h a0c a0u a1x a1y a1d) ∧ exC a0w a0h a0c a0u a1x a1y a1d = exC a0w a0h a0c a0u a1x a1y a1d ∧ exU 
  a0w a0h a0c a0u a1x a1y a1d = exU a0w a0h a0c a0u a1x a1y a1d ∧ True) ∧ True) ∧ True) ∧ True) ∧ True) ∧ ((At True ∧ (True ∧ (((0 : Nat) = (0 : Nat) ∧ (0 : Nat) = (0 : Nat)) ∧ exB a0w 
  a0h a0c a0u a1x a1y a1d = exB a0w a0h a0c a0u a1x a1y a1d ∧ ((1 : Nat) = (1 : Nat) ∧ (0 : Nat) = (0 : Nat)) ∧ exB a0w a0h a0c a0u a1x a1y a1d = exB a0w a0h a0c a0u a1x a1y a1d ∧ True) 
  ∧ ((True ∧ (True ∧ exW a0w a0h a0c a0u a1x a1y a1d = exW a0w a0h a0c a0u a1x a1y a1d) ∧ (True ∧ exH a0w a0h a0c a0u a1x a1y a1d = exH a0w a0h a0c a0u a1x a1y a1d) ∧ exC a0w a0h a0c 
  a0u a1x a1y a1d = exC a0w a0h a0c a0u a1x a1y a1d ∧ exU a0w a0h a0c a0u a1x a1y a1d = exU a0w a0h a0c a0u a1x a1y a1d ∧ True) ∧ (True ∧ (True ∧ exW a0w a0h a0c a0u a1x a1y a1d = exW 
  a0w a0h a0c a0u a1x a1y a1d) ∧ (True ∧ exH a0w a0h a0c a0u a1x a1y a1d = exH a0w a0h a0c a0u a1x a1y a1d) ∧ exC a0w a0h a0c a0u a1x a1y a1d = exC a0w a0h a0c a0u a1x a1y a1d ∧ exU a0w 
  a0h a0c a0u a1x a1y a1d = exU a0w a0h a0c a0u a1x a1y a1d ∧ True) ∧ True) ∧ True) ∧ True) ∧ True) ∧ True) ∧ ((At True ∧ (At True ∧ (True ∧ (((0 : Nat) = (0 : Nat) ∧ (0 : Nat) = (0 : 
  Nat)) ∧ exB a0w a0h a0c a0u a1x a1y a1d = exB a0w a0h a0c a0u a1x a1y a1d ∧ ((1 : Nat) = (1 : Nat) ∧ (0 : Nat) = (0 : Nat)) ∧ exB a0w a0h a0c a0u a1x a1y a1d = exB a0w a0h a0c a0u a1x 
  a1y a1d ∧ True) ∧ ((True ∧ (True ∧ exW a0w a0h a0c a0u a1x a1y a1d = exW a0w a0h a0c a0u a1x a1y a1d) ∧ (True ∧ exH a0w a0h a0c a0u a1x a1y a1d = exH a0w a0h a0c a0u a1x a1y a1d) ∧ 
  exC a0w a0h a0c a0u a1x a1y a1d = exC a0w a0h a0c a0u a1x a1y a1d ∧ exU a0w a0h a0c a0u a1x a1y a1d = exU a0w a0h a0c a0u a1x a1y a1d ∧ True) ∧ (True ∧ (True ∧ exW a0w a0h a0c a0u a1x 
  a1y a1d = exW a0w a0h a0c a0u a1x a1y a1d) ∧ (True ∧ exH a0w a0h a0c a0u a1x a1y a1d = exH a0w a0h a0c a0u a1x a1y a1d) ∧ exC a0w a0h a0c a0u a1x a1y a1d = exC a0w a0h a0c a0u a1x a1y 
  a1d ∧ exU a0w a0h a0c a0u a1x a1y a1d = exU a0w a0h a0c a0u a1x a1y a1d ∧ True) ∧ True) ∧ True) ∧ True) ∧ True) ∧ True) ∧ True) ∧ ((At True ∧ (At True ∧ (At True ∧ (True ∧ (((0 : Nat) 
  = (0 : Nat) ∧ (0 : Nat) = (0 : Nat)) ∧ exB a0w a0h a0c a0u a1x a1y a1d = exB a0w a0h a0c a0u a1x a1y a1d ∧ ((1 : Nat) = (1 : Nat) ∧ (0 : Nat) = (0 : Nat)) ∧ exB a0w a0h a0c a0u a1x 
  a1y a1d = exB a0w a0h a0c a0u a1x a1y a1d ∧ True) ∧ ((True ∧ (True ∧ exW a0w a0h a0c a0u a1x a1y a1d = exW a0w a0h a0c a0u a1x a1y a1d) ∧ (True ∧ exH a0w a0h a0c a0u a1x a1y a1d = exH 
  a0w a0h a0c a0u a1x a1y a1d) ∧ exC a0w a0h a0c a0u a1x a1y a1d = exC a0w a0h a0c a0u a1x a1y a1d ∧ exU a0w a0h a0c a0u a1x a1y a1d = exU a0w a0h a0c a0u a1x a1y a1d ∧ True) ∧ (True 
  ∧ (True ∧ exW a0w a0h a0c a0u a1x a1y a1d = exW a0w a0h a0c a0u a1x a1y a1d) ∧ (True ∧ exH a0w a0h a0c a0u a1x a1y a1d = exH a0w a0h a0c a0u a1x a1y a1d) ∧ exC a0w a0h a0c a0u a1x a1y 
  a1d = exC a0w a0h a0c a0u a1x a1y a1d ∧ exU a0w a0h a0c a0u a1x a1y a1d = exU a0w a0h a0c a0u a1x a1y a1d ∧ True) ∧ True) ∧ True) ∧ True) ∧ True) ∧ True) ∧ True) ∧ True) ∧ (((At True 
  ∧ (At True ∧ (At True ∧ (True ∧ (((0 : Nat) = (0 : Nat) ∧ (0 : Nat) = (0 : Nat)) ∧ exB a0w a0h a0c a0u a1x a1y a1d = exB a0w a0h a0c a0u a1x a1y a1d ∧ ((1 : Nat) = (1 : Nat) ∧ (0 : 
  Nat) = (0 : Nat)) ∧ exB a0w a0h a0c a0u a1x a1y a1d = exB a0w a0h a0c a0u a1x a1y a1d ∧ True) ∧ ((True ∧ (True ∧ exW a0w a0h a0c a0u a1x a1y a1d = exW a0w a0h a0c a0u a1x a1y a1d) ∧ 
  (True ∧ exH a0w a0h a0c a0u a1x a1y a1d = exH a0w a0h a0c a0u a1x a1y a1d) ∧ exC a0w a0h a0c a0u a1x a1y a1d = exC a0w a0h a0c a0u a1x a1y a1d ∧ exU a0w a0h a0c a0u a1x a1y a1d = exU 
  a0w a0h a0c a0u a1x a1y a1d ∧ True) ∧ (True ∧ (True ∧ exW a0w a0h a0c a0u a1x a1y a1d = exW a0w a0h a0c a0u a1x a1y a1d) ∧ (True ∧ exH a0w a0h a0c a0u a1x a1y a1d = exH a0w a0h a0c 
  a0u a1x a1y a1d) ∧ exC a0w a0h a0c a0u a1x a1y a1d = exC a0w a0h a0c a0u a1x a1y a1d ∧ exU a0w a0h a0c a0u a1x a1y a1d = exU a0w a0h a0c a0u a1x a1y a1d ∧ True) ∧ True) ∧ True) ∧ True) 
  ∧ True) ∧ True) ∧ True) ∧ True) ∧ True) ∧ (((At True ∧ ((At True ∧ (At True ∧ (True ∧ (((0 : Nat) = (0 : Nat) ∧ (0 : Nat) = (0 : Nat)) ∧ exB a0w a0h a0c a0u a1x a1y a1d = exB a0w a0h 
  a0c a0u a1x a1y a1d ∧ ((1 : Nat) = (1 : Nat) ∧ (0 : Nat) = (0 : Nat)) ∧ exB a0w a0h a0c a0u a1x a1y a1d = exB a0w a0h a0c a0u a1x a1y a1d ∧ True) ∧ ((True ∧ (True ∧ exW a0w a0h a0c 
  a0u a1x a1y a1d = exW a0w a0h a0c a0u a1x a1y a1d) ∧ (True ∧ exH a0w a0h a0c a0u a1x a1y a1d = exH a0w a0h a0c a0u a1x a1y a1d) ∧ exC a0w a0h a0c a0u a1x a1y a1d = exC a0w a0h a0c a0u 
  a1x a1y a1d ∧ exU a0w a0h a0c a0u a1x a1y a1d = exU a0w a0h a0c a0u a1x a1y a1d ∧ True) ∧ (True ∧ (True ∧ exW a0w a0h a0c a0u a1x a1y a1d = exW a0w a0h a0c a0u a1x a1y a1d) ∧ (True 
  ∧ exH a0w a0h a0c a0u a1x a1y a1d = exH a0w a0h a0c a0u a1x a1y a1d) ∧ exC a0w a0h a0c a0u a1x a1y a1d = exC a0w a0h a0c a0u a1x a1y a1d ∧ exU a0w a0h a0c a0u a1x a1y a1d = exU a0w 
  a0h a0c a0u a1x a1y a1d ∧ True) ∧ True) ∧ True) ∧ True) ∧ True) ∧ True) ∧ True) ∧ ((At True ∧ (At True ∧ (At True ∧ (True ∧ (((0 : Nat) = (0 : Nat) ∧ (0 : Nat) = (0 : Nat)) ∧ exB a0w 
  a0h a0c a0u a1x a1y a1d = exB a0w a0h a0c a0u a1x a1y a1d ∧ ((1 : Nat) = (1 : Nat) ∧ (0 : Nat) = (0 : Nat)) ∧ exB a0w a0h a0c a0u a1x a1y a1d = exB a0w a0h a0c a0u a1x a1y a1d ∧ True) 
  ∧ ((True ∧ (True ∧ exW a0w a0h a0c a0u a1x a1y a1d = exW a0w a0h a0c a0u a1x a1y a1d) ∧ (True ∧ exH a0w a0h a0c a0u a1x a1y a1d = exH a0w a0h a0c a0u a1x a1y a1d) ∧ exC a0w a0h a0c 
  a0u a1x a1y a1d = exC a0w a0h a0c a0u a1x a1y a1d ∧ exU a0w a0h a0c a0u a1x a1y a1d = exU a0w a0h a0c a0u a1x a1y a1d ∧ True) ∧ (True ∧ (True ∧ exW a0w a0h a0c a0u a1x a1y a1d = exW 
  a0w a0h a0c a0u a1x a1y a1d) ∧ (True ∧ exH a0w a0h a0c a0u a1x a1y a1d = exH a0w a0h a0c a0u a1x a1y a1d) ∧ exC a0w a0h a0c a0u a1x a1y a1d = exC a0w a0h a0c a0u a1x a1y a1d ∧ exU a0w 
  a0h a0c a0u a1x a1y a1d = exU a0w a0h a0c a0u a1x a1y a1d ∧ True) ∧ True) ∧ True) ∧ True) ∧ True) ∧ True) ∧ True) ∧ True) ∧ (((At True ∧ (At True ∧ (At True ∧ (True ∧ (((0 : Nat) = 
  (0 : Nat) ∧ (0 : Nat) = (0 : Nat)) ∧ exB a0w a0h a0c a0u a1x a1y a1d = exB a0w a0h a0c a0u a1x a1y a1d ∧ ((1 : Nat) = (1 : Nat) ∧ (0 : Nat) = (0 : Nat)) ∧ exB a0w a0h a0c a0u a1x a1y 
  a1d = exB a0w a0h a0c a0u a1x a1y a1d ∧ True) ∧ ((True ∧ (True ∧ exW a0w a0h a0c a0u a1x a1y a1d = exW a0w a0h a0c a0u a1x a1y a1d) ∧ (True ∧ exH a0w a0h a0c a0u a1x a1y a1d = exH a0w 
  a0h a0c a0u a1x a1y a1d) ∧ exC a0w a0h a0c a0u a1x a1y a1d = exC a0w a0h a0c a0u a1x a1y a1d ∧ exU a0w a0h a0c a0u a1x a1y a1d = exU a0w a0h a0c a0u a1x a1y a1d ∧ True) ∧ (True ∧ (True 
  ∧ exW a0w a0h a0c a0u a1x a1y a1d = exW a0w a0h a0c a0u a1x a1y a1d) ∧ (True ∧ exH a0w a0h a0c a0u a1x a1y a1d = exH a0w a0h a0c a0u a1x a1y a1d) ∧ exC a0w a0h a0c a0u a1x a1y a1d = 
  exC a0w a0h a0c a0u a1x a1y a1d ∧ exU a0w a0h a0c a0u a1x a1y a1d = exU a0w a0h a0c a0u a1x a1y a1d ∧ True) ∧ True) ∧ True) ∧ True) ∧ True) ∧ True) ∧ True) ∧ True) ∧ True) ∧ True) ∧ 
  True ∧ (((0 : Nat) = (0 : Nat) ∧ (0 : Nat) = (0 : Nat)) ∧ exB a0w a0h a0c a0u a1x a1y a1d = exB a0w a0h a0c a0u a1x a1y a1d ∧ ((1 : Nat) = (1 : Nat) ∧ (0 : Nat) = (0 : Nat)) ∧ exB a0w 
  a0h a0c a0u a1x a1y a1d = exB a0w a0h a0c a0u a1x a1y a1d ∧ True) ∧ ((True ∧ (True ∧ exW a0w a0h a0c a0u a1x a1y a1d = exW a0w a0h a0c a0u a1x a1y a1d) ∧ (True ∧ exH a0w a0h a0c a0u 
  a1x a1y a1d = exH a0w a0h a0c a0u a1x a1y a1d) ∧ exC a0w a0h a0c a0u a1x a1y a1d = exC a0w a0h a0c a0u a1x a1y a1d ∧ exU a0w a0h a0c a0u a1x a1y a1d = exU a0w a0h a0c a0u a1x a1y a1d 
  ∧ True) ∧ (True ∧ (True ∧ exW a0w a0h a0c a0u a1x a1y a1d = exW a0w a0h a0c a0u a1x a1y a1d) ∧ (True ∧ exH a0w a0h a0c a0u a1x a1y a1d = exH a0w a0h a0c a0u a1x a1y a1d) ∧ exC a0w a0h 
  a0c a0u a1x a1y a1d = exC a0w a0h a0c a0u a1x a1y a1d ∧ exU a0w a0h a0c a0u a1x a1y a1d = exU a0w a0h a0c a0u a1x a1y a1d ∧ True) ∧ True) ∧ True) ∧ At True ∧ ((!eqM { w := exW a0w a0h a0c a0u a1x a1y a1d, h := exH a0w a0h a0c a0u a1x a1y a1d, c := exC a0w a0h a0c a0u a1x a1y a1d, t := exU a0w a0h a0c a0u a1x a1y a1d } 
  { w := exW a0w a0h a0c a0u a1x a1y a1d, h := exH a0w a0h a0c a0u a1x a1y a1d, c := exC a0w a0h a0c a0u a1x a1y a1d, t := exU a0w a0h a0c a0u a1x a1y a1d }) = true → K (V.lit false)) 
  ∧ ((!eqM { w := exW a0w a0h a0c a0u a1x a1y a1d, h := exH a0w a0h a0c a0u a1x a1y a1d, c := exC a0w a0h a0c a0u a1x a1y a1d, t := exU a0w a0h a0c a0u a1x a1y a1d } { w := exW a0w a0h a0c a0u a1x a1y a1d, h := exH a0w a0h a0c a0u a1x a1y a1d, c := exC a0w a0h a0c a0u a1x a1y a1d, t := exU a0w a0h a0c a0u a1x a1y a1d }) 
  = false → ((!exB a0w a0h a0c a0u a1x a1y a1d == exB a0w a0h a0c a0u a1x a1y a1d) = true → K (V.lit false)) ∧ ((!exB a0w a0h a0c a0u a1x a1y a1d == exB a0w a0h a0c a0u a1x a1y a1d) = 
  false → K (V.lit true))))

theorem vc_LawMazeAfterBall (a0w : Int) (a0h : Int) (a0c : List UInt8) (a0u : Bool) (a1x : Int) (a1y : Int) (a1d : Int) (ha0w : -9223372036854775808 ≤ a0w ∧ a0w ≤ 9223372036854775807) (ha0h : -9223372036854775808 ≤ a0h ∧ a0h ≤ 9223372036854775807) (ha0c : (a0c.length : Int) ≤ 9223372036854775807) (ha1x : -9223372036854775808 ≤ a1x ∧ a1x ≤ 9223372036854775807) (ha1y : -9223372036854775808 ≤ a1y ∧ a1y ≤ 9223372036854775807) (ha1d : -9223372036854775808 ≤ a1d ∧ a1d ≤ 9223372036854775807) : VC_LawMazeAfterBall a0w a0h a0c a0u a1x a1y a1d (retP (.bool true)) := by
  unfold VC_LawMazeAfterBall
  simp [retP_lit, eqM, ha0c]
end Go.Vi
