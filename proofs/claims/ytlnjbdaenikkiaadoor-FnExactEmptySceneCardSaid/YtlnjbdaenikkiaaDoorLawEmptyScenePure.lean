/- The conditions of FnExactEmptyScene. -/
import Derived.Test.YtlnjbdaenikkiaaDoorTFPf
namespace Go.Vi
set_option linter.unusedVariables false
set_option linter.unusedSimpArgs false
def VC_LawEmptyScene (a0s : Int) (a0i : Int) (a0rn : Nat) (a0r : List Sc) (a1 : Int) (a2 : Int) (g0 : List UInt8) (g1 : List UInt8) (g2 : List UInt8) (g3 : List UInt8) (K : V → Prop) 
  : Prop := At (((0 : Int) ≤ (1048576 : Int) ∧ (1048576 : Int) ≤ (1048576 : Int)) ∧ (↑a0rn : Int) ≤ (9223372036854775807 : Int) ∧ is3 a0r a0rn ∧ ∀ (r : Row3), r ∈ rows3 a0r → (↑(List.length 
  (Row3.t r)) : Int) ≤ (9223372036854775807 : Int)) ∧ (decide (szT (rows3 a0r) (1048576 : Int) < (0 : Int)) = true → K (V.lit true)) ∧ (decide (szT (rows3 a0r) (1048576 : Int) < (0 : 
  Int)) = false → At (is3 a0r a0rn ∧ a0rn ≤ (2000000 : Nat)) ∧ At (is3 a0r a0rn ∧ a0rn ≤ (2000000 : Nat)) ∧ At (is3 a0r a0rn ∧ a0rn ≤ (2000000 : Nat)) ∧ At (is3 a0r a0rn ∧ a0rn ≤ (2000000 
  : Nat) ∧ isSg g0 g1 g2 g3) ∧ At (is3 (flat3 (esR (esB a0s a0i (rows3 a0r) a1 a2) (rows3 a0r))) (List.length (esR (esB a0s a0i (rows3 a0r) a1 a2) (rows3 a0r))) ∧ is3 (flat3 (esR (esB 
  a0s a0i (rows3 a0r) a1 a2) (rows3 a0r))) (List.length (esR (esB a0s a0i (rows3 a0r) a1 a2) (rows3 a0r))) ∧ List.length (esR (esB a0s a0i (rows3 a0r) a1 a2) (rows3 a0r)) ≤ (2000000 : 
  Nat) ∧ List.length (esR (esB a0s a0i (rows3 a0r) a1 a2) (rows3 a0r)) ≤ (2000000 : Nat)) ∧ ((!(zI (esB a0s a0i (rows3 a0r) a1 a2) a0s == zI (esB a0s a0i (rows3 a0r) a1 a2) a0s && zI 
  (esB a0s a0i (rows3 a0r) a1 a2) a0i == zI (esB a0s a0i (rows3 a0r) a1 a2) a0i && rows3 (flat3 (esR (esB a0s a0i (rows3 a0r) a1 a2) (rows3 a0r))) == rows3 (flat3 (esR (esB a0s a0i (rows3 
  a0r) a1 a2) (rows3 a0r))) && zI (esB a0s a0i (rows3 a0r) a1 a2) a1 == zI (esB a0s a0i (rows3 a0r) a1 a2) a1 && zI (esB a0s a0i (rows3 a0r) a1 a2) a2 == zI (esB a0s a0i (rows3 a0r) a1 
  a2) a2 && esU (esB a0s a0i (rows3 a0r) a1 a2) a1 a2 == esU (esB a0s a0i (rows3 a0r) a1 a2) a1 a2 && (0 : Int) == (0 : Int) && (0 : Int) == (0 : Int) && (0 : Int) == (0 : Int) && (0 
  : Int) == (0 : Int))) = true → K (V.lit false)) ∧ ((!(zI (esB a0s a0i (rows3 a0r) a1 a2) a0s == zI (esB a0s a0i (rows3 a0r) a1 a2) a0s && zI (esB a0s a0i (rows3 a0r) a1 a2) a0i == zI 
  (esB a0s a0i (rows3 a0r) a1 a2) a0i && rows3 (flat3 (esR (esB a0s a0i (rows3 a0r) a1 a2) (rows3 a0r))) == rows3 (flat3 (esR (esB a0s a0i (rows3 a0r) a1 a2) (rows3 a0r))) && zI (esB 
  a0s a0i (rows3 a0r) a1 a2) a1 == zI (esB a0s a0i (rows3 a0r) a1 a2) a1 && zI (esB a0s a0i (rows3 a0r) a1 a2) a2 == zI (esB a0s a0i (rows3 a0r) a1 a2) a2 && esU (esB a0s a0i (rows3 a0r) 
  a1 a2) a1 a2 == esU (esB a0s a0i (rows3 a0r) a1 a2) a1 a2 && (0 : Int) == (0 : Int) && (0 : Int) == (0 : Int) && (0 : Int) == (0 : Int) && (0 : Int) == (0 : Int))) = false → ((!esB 
  a0s a0i (rows3 a0r) a1 a2 == esB a0s a0i (rows3 a0r) a1 a2) = true → K (V.lit false)) ∧ ((!esB a0s a0i (rows3 a0r) a1 a2 == esB a0s a0i (rows3 a0r) a1 a2) = false → (((At (is3 a0r a0rn 
  ∧ a0rn ≤ (2000000 : Nat)) ∧ (At (is3 a0r a0rn ∧ is3 a0r a0rn ∧ a0rn ≤ (2000000 : Nat) ∧ a0rn ≤ (2000000 : Nat)) ∧ ((!(a0s == a0s && a0i == a0i && rows3 a0r == rows3 a0r)) = true → K 
  (V.lit false)) ∧ ((!(a0s == a0s && a0i == a0i && rows3 a0r == rows3 a0r)) = false → At (is3 a0r a0rn ∧ a0rn ≤ (2000000 : Nat) ∧ (0 : Int) ≤ (1 : Int) ∧ (1 : Int) ≤ (1000000 : Int)) 
  ∧ (decide ((1 : Int) + (↑((3 : Nat) * a0rn) : Int) < (0 : Int)) = true → K (V.lit false)) ∧ (decide ((1 : Int) + (↑((3 : Nat) * a0rn) : Int) < (0 : Int)) = false → At (is3 (flat3 (esR 
  (esB a0s a0i (rows3 a0r) a1 a2) (rows3 a0r))) (List.length (esR (esB a0s a0i (rows3 a0r) a1 a2) (rows3 a0r))) ∧ is3 (flat3 (esR (esB a0s a0i (rows3 a0r) a1 a2) (rows3 a0r))) (List.length 
  (esR (esB a0s a0i (rows3 a0r) a1 a2) (rows3 a0r))) ∧ List.length (esR (esB a0s a0i (rows3 a0r) a1 a2) (rows3 a0r)) ≤ (2000000 : Nat) ∧ List.length (esR (esB a0s a0i (rows3 a0r) a1 a2) 
  (rows3 a0r)) ≤ (2000000 : Nat)) ∧ ((!(zI (esB a0s a0i (rows3 a0r) a1 a2) a0s == zI (esB a0s a0i (rows3 a0r) a1 a2) a0s && zI (esB a0s a0i (rows3 a0r) a1 a2) a0i == zI (esB a0s a0i (rows3 
  a0r) a1 a2) a0i && rows3 (flat3 (esR (esB a0s a0i (rows3 a0r) a1 a2) (rows3 a0r))) == rows3 (flat3 (esR (esB a0s a0i (rows3 a0r) a1 a2) (rows3 a0r))) && zI (esB a0s a0i (rows3 a0r) 
  a1 a2) a1 == zI (esB a0s a0i (rows3 a0r) a1 a2) a1 && zI (esB a0s a0i (rows3 a0r) a1 a2) a2 == zI (esB a0s a0i (rows3 a0r) a1 a2) a2 && esU (esB a0s a0i (rows3 a0r) a1 a2) a1 a2 == 
  esU (esB a0s a0i (rows3 a0r) a1 a2) a1 a2 && (0 : Int) == (0 : Int) && (0 : Int) == (0 : Int) && (0 : Int) == (0 : Int) && (0 : Int) == (0 : Int))) = true → K (V.lit false)) ∧ ((!(zI 
  (esB a0s a0i (rows3 a0r) a1 a2) a0s == zI (esB a0s a0i (rows3 a0r) a1 a2) a0s && zI (esB a0s a0i (rows3 a0r) a1 a2) a0i == zI (esB a0s a0i (rows3 a0r) a1 a2) a0i && rows3 (flat3 (esR 
  (esB a0s a0i (rows3 a0r) a1 a2) (rows3 a0r))) == rows3 (flat3 (esR (esB a0s a0i (rows3 a0r) a1 a2) (rows3 a0r))) && zI (esB a0s a0i (rows3 a0r) a1 a2) a1 == zI (esB a0s a0i (rows3 a0r) 
  a1 a2) a1 && zI (esB a0s a0i (rows3 a0r) a1 a2) a2 == zI (esB a0s a0i (rows3 a0r) a1 a2) a2 && esU (esB a0s a0i (rows3 a0r) a1 a2) a1 a2 == esU (esB a0s a0i (rows3 a0r) a1 a2) a1 a2 
  && (0 : Int) == (0 : Int) && (0 : Int) == (0 : Int) && (0 : Int) == (0 : Int) && (0 : Int) == (0 : Int))) = false → ((!esB a0s a0i (rows3 a0r) a1 a2 == esB a0s a0i (rows3 a0r) a1 a2) 
  = true → K (V.lit false)) ∧ ((!esB a0s a0i (rows3 a0r) a1 a2 == esB a0s a0i (rows3 a0r) a1 a2) = false → At (is3 (flat3 (esR (esB a0s a0i (rows3 a0r) a1 a2) (rows3 a0r))) (List.length 
  (esR (esB a0s a0i (rows3 a0r) a1 a2) (rows3 a0r))) ∧ List.length (esR (esB a0s a0i (rows3 a0r) a1 a2) (rows3 a0r)) ≤ (2000000 : Nat) ∧ (0 : Int) ≤ (1 : Int) ∧ (1 : Int) ≤ (1000000 : 
  Int)) ∧ At (is3 (flat3 (mkR (1 : Int) (List.length (esR (esB a0s a0i (rows3 a0r) a1 a2) (rows3 a0r))))) (List.length (esR (esB a0s a0i (rows3 a0r) a1 a2) (rows3 a0r))) ∧ List.length 
  (esR (esB a0s a0i (rows3 a0r) a1 a2) (rows3 a0r)) ≤ (2000000 : Nat) ∧ (0 : Int) ≤ (1 : Int) ∧ (1 : Int) ≤ (1000000 : Int)) ∧ (decide ((bif decide (rows3 (flat3 (mkR (1 : Int) (List.length 
  (esR (esB a0s a0i (rows3 a0r) a1 a2) (rows3 a0r))))) = mkR (1 : Int) (List.length (esR (esB a0s a0i (rows3 a0r) a1 a2) (rows3 a0r)))) then (1 : Int) + (↑((3 : Nat) * List.length (esR 
  (esB a0s a0i (rows3 a0r) a1 a2) (rows3 a0r))) : Int) else (-1 : Int)) < (0 : Int)) = true → K (V.lit false)) ∧ (decide ((bif decide (rows3 (flat3 (mkR (1 : Int) (List.length (esR (esB 
  a0s a0i (rows3 a0r) a1 a2) (rows3 a0r))))) = mkR (1 : Int) (List.length (esR (esB a0s a0i (rows3 a0r) a1 a2) (rows3 a0r)))) then (1 : Int) + (↑((3 : Nat) * List.length (esR (esB a0s 
  a0i (rows3 a0r) a1 a2) (rows3 a0r))) : Int) else (-1 : Int)) < (0 : Int)) = false → (((bif decide (rows3 (flat3 (mkR (1 : Int) (List.length (esR (esB a0s a0i (rows3 a0r) a1 a2) (rows3 
  a0r))))) = mkR (1 : Int) (List.length (esR (esB a0s a0i (rows3 a0r) a1 a2) (rows3 a0r)))) then (1 : Int) + (↑((3 : Nat) * List.length (esR (esB a0s a0i (rows3 a0r) a1 a2) (rows3 a0r))) 
  : Int) else (-1 : Int)) != (1 : Int) + (↑((3 : Nat) * List.length (esR (esB a0s a0i (rows3 a0r) a1 a2) (rows3 a0r))) : Int)) = true → K (V.lit false)) ∧ (((bif decide (rows3 (flat3 
  (mkR (1 : Int) (List.length (esR (esB a0s a0i (rows3 a0r) a1 a2) (rows3 a0r))))) = mkR (1 : Int) (List.length (esR (esB a0s a0i (rows3 a0r) a1 a2) (rows3 a0r)))) then (1 : Int) + (↑((3 
  : Nat) * List.length (esR (esB a0s a0i (rows3 a0r) a1 a2) (rows3 a0r))) : Int) else (-1 : Int)) != (1 : Int) + (↑((3 : Nat) * List.length (esR (esB a0s a0i (rows3 a0r) a1 a2) (rows3 
  a0r))) : Int)) = false → At (is3 a0r a0rn ∧ a0rn ≤ (2000000 : Nat)) ∧ At (is3 a0r a0rn ∧ a0rn ≤ (2000000 : Nat) ∧ isSg g0 g1 g2 g3) ∧ At (is3 (flat3 (esR (esB a0s a0i (rows3 a0r) a1 
  a2) (rows3 a0r))) (List.length (esR (esB a0s a0i (rows3 a0r) a1 a2) (rows3 a0r))) ∧ is3 (flat3 (esR (esB a0s a0i (rows3 a0r) a1 a2) (rows3 a0r))) (List.length (esR (esB a0s a0i (rows3 
  a0r) a1 a2) (rows3 a0r))) ∧ List.length (esR (esB a0s a0i (rows3 a0r) a1 a2) (rows3 a0r)) ≤ (2000000 : Nat) ∧ List.length (esR (esB a0s a0i (rows3 a0r) a1 a2) (rows3 a0r)) ≤ (2000000 
  : Nat)) ∧ ((!(zI (esB a0s a0i (rows3 a0r) a1 a2) a0s == zI (esB a0s a0i (rows3 a0r) a1 a2) a0s && zI (esB a0s a0i (rows3 a0r) a1 a2) a0i == zI (esB a0s a0i (rows3 a0r) a1 a2) a0i && 
  rows3 (flat3 (esR (esB a0s a0i (rows3 a0r) a1 a2) (rows3 a0r))) == rows3 (flat3 (esR (esB a0s a0i (rows3 a0r) a1 a2) (rows3 a0r))) && zI (esB a0s a0i (rows3 a0r) a1 a2) a1 == zI (esB 
  a0s a0i (rows3 a0r) a1 a2) a1 && zI (esB a0s a0i (rows3 a0r) a1 a2) a2 == zI (esB a0s a0i (rows3 a0r) a1 a2) a2 && esU (esB a0s a0i (rows3 a0r) a1 a2) a1 a2 == esU (esB a0s a0i (rows3 
  a0r) a1 a2) a1 a2 && (0 : Int) == (0 : Int) && (0 : Int) == (0 : Int) && (0 : Int) == (0 : Int) && (0 : Int) == (0 : Int))) = true → K (V.lit false)) ∧ ((!(zI (esB a0s a0i (rows3 a0r) 
  a1 a2) a0s == zI (esB a0s a0i (rows3 a0r) a1 a2) a0s && zI (esB a0s a0i (rows3 a0r) a1 a2) a0i == zI (esB a0s a0i (rows3 a0r) a1 a2) a0i && rows3 (flat3 (esR (esB a0s a0i (rows3 a0r) 
  a1 a2) (rows3 a0r))) == rows3 (flat3 (esR (esB a0s a0i (rows3 a0r) a1 a2) (rows3 a0r))) && zI (esB a0s a0i (rows3 a0r) a1 a2) a1 == zI (esB a0s a0i (rows3 a0r) a1 a2) a1 && zI (esB 
  a0s a0i (rows3 a0r) a1 a2) a2 == zI (esB a0s a0i (rows3 a0r) a1 a2) a2 && esU (esB a0s a0i (rows3 a0r) a1 a2) a1 a2 == esU (esB a0s a0i (rows3 a0r) a1 a2) a1 a2 && (0 : Int) == (0 : 
  Int) && (0 : Int) == (0 : Int) && (0 : Int) == (0 : Int) && (0 : Int) == (0 : Int))) = false → ((!esB a0s a0i (rows3 a0r) a1 a2 == esB a0s a0i (rows3 a0r) a1 a2) = true → K (V.lit false)) 
  ∧ ((!esB a0s a0i (rows3 a0r) a1 a2 == esB a0s a0i (rows3 a0r) a1 a2) = false → At (is3 (flat3 (mkR (1 : Int) (List.length (esR (esB a0s a0i (rows3 a0r) a1 a2) (rows3 a0r))))) (List.length 
  (esR (esB a0s a0i (rows3 a0r) a1 a2) (rows3 a0r))) ∧ List.length (esR (esB a0s a0i (rows3 a0r) a1 a2) (rows3 a0r)) ≤ (2000000 : Nat) ∧ (0 : Int) ≤ (1 : Int) ∧ (1 : Int) ≤ (1000000 : 
  Int)) ∧ (decide ((bif decide (rows3 (flat3 (mkR (1 : Int) (List.length (esR (esB a0s a0i (rows3 a0r) a1 a2) (rows3 a0r))))) = mkR (1 : Int) (List.length (esR (esB a0s a0i (rows3 a0r) 
  a1 a2) (rows3 a0r)))) then (1 : Int) + (↑((3 : Nat) * List.length (esR (esB a0s a0i (rows3 a0r) a1 a2) (rows3 a0r))) : Int) else (-1 : Int)) < (0 : Int)) = true → K (V.lit false)) ∧ 
  (decide ((bif decide (rows3 (flat3 (mkR (1 : Int) (List.length (esR (esB a0s a0i (rows3 a0r) a1 a2) (rows3 a0r))))) = mkR (1 : Int) (List.length (esR (esB a0s a0i (rows3 a0r) a1 a2) 
  (rows3 a0r)))) then (1 : Int) + (↑((3 : Nat) * List.length (esR (esB a0s a0i (rows3 a0r) a1 a2) (rows3 a0r))) : Int) else (-1 : Int)) < (0 : Int)) = false → (((bif decide (rows3 (flat3 
  (mkR (1 : Int) (List.length (esR (esB a0s a0i (rows3 a0r) a1 a2) (rows3 a0r))))) = mkR (1 : Int) (List.length (esR (esB a0s a0i (rows3 a0r) a1 a2) (rows3 a0r)))) then (1 : Int) + (↑((3 
  : Nat) * List.length (esR (esB a0s a0i (rows3 a0r) a1 a2) (rows3 a0r))) : Int) else (-1 : Int)) != (1 : Int) + (↑((3 : Nat) * List.length (esR (esB a0s a0i (rows3 a0r) a1 a2) (rows3 
  a0r))) : Int)) = true → K (V.lit false)) ∧ (((bif decide (rows3 (flat3 (mkR (1 : Int) (List.length (esR (esB a0s a0i (rows3 a0r) a1 a2) (rows3 a0r))))) = mkR (1 : Int) (List.length 
  (esR (esB a0s a0i (rows3 a0r) a1 a2) (rows3 a0r)))) then (1 : Int) + (↑((3 : Nat) * List.length (esR (esB a0s a0i (rows3 a0r) a1 a2) (rows3 a0r))) : Int) else (-1 : Int)) != (1 : Int) 
  + (↑((3 : Nat) * List.length (esR (esB a0s a0i (rows3 a0r) a1 a2) (rows3 a0r))) : Int)) = false → K (V.lit true)))))))))))) ∧ True) ∧ True) ∧ True) ∧ (((At (is3 a0r a0rn ∧ a0rn ≤ (2000000 
  : Nat)) ∧ (At (is3 a0r a0rn ∧ is3 a0r a0rn ∧ a0rn ≤ (2000000 : Nat) ∧ a0rn ≤ (2000000 : Nat)) ∧ ((!(a0s == a0s && a0i == a0i && rows3 a0r == rows3 a0r)) = true → K (V.lit false)) ∧ 
  ((!(a0s == a0s && a0i == a0i && rows3 a0r == rows3 a0r)) = false → At (is3 a0r a0rn ∧ a0rn ≤ (2000000 : Nat) ∧ (0 : Int) ≤ (1 : Int) ∧ (1 : Int) ≤ (1000000 : Int)) ∧ (decide ((1 : Int) 
  + (↑((3 : Nat) * a0rn) : Int) < (0 : Int)) = true → K (V.lit false)) ∧ (decide ((1 : Int) + (↑((3 : Nat) * a0rn) : Int) < (0 : Int)) = false → At (is3 (flat3 (esR (esB a0s a0i (rows3 
  a0r) a1 a2) (rows3 a0r))) (List.length (esR (esB a0s a0i (rows3 a0r) a1 a2) (rows3 a0r))) ∧ is3 (flat3 (esR (esB a0s a0i (rows3 a0r) a1 a2) (rows3 a0r))) (List.length (esR (esB a0s 
  a0i (rows3 a0r) a1 a2) (rows3 a0r))) ∧ List.length (esR (esB a0s a0i (rows3 a0r) a1 a2) (rows3 a0r)) ≤ (2000000 : Nat) ∧ List.length (esR (esB a0s a0i (rows3 a0r) a1 a2) (rows3 a0r)) 
  ≤ (2000000 : Nat)) ∧ ((!(zI (esB a0s a0i (rows3 a0r) a1 a2) a0s == zI (esB a0s a0i (rows3 a0r) a1 a2) a0s && zI (esB a0s a0i (rows3 a0r) a1 a2) a0i == zI (esB a0s a0i (rows3 a0r) a1 
  a2) a0i && rows3 (flat3 (esR (esB a0s a0i (rows3 a0r) a1 a2) (rows3 a0r))) == rows3 (flat3 (esR (esB a0s a0i (rows3 a0r) a1 a2) (rows3 a0r))) && zI (esB a0s a0i (rows3 a0r) a1 a2) a1 
  == zI (esB a0s a0i (rows3 a0r) a1 a2) a1 && zI (esB a0s a0i (rows3 a0r) a1 a2) a2 == zI (esB a0s a0i (rows3 a0r) a1 a2) a2 && esU (esB a0s a0i (rows3 a0r) a1 a2) a1 a2 == esU (esB a0s 
  a0i (rows3 a0r) a1 a2) a1 a2 && (0 : Int) == (0 : Int) && (0 : Int) == (0 : Int) && (0 : Int) == (0 : Int) && (0 : Int) == (0 : Int))) = true → K (V.lit false)) ∧ ((!(zI (esB a0s a0i 
  (rows3 a0r) a1 a2) a0s == zI (esB a0s a0i (rows3 a0r) a1 a2) a0s && zI (esB a0s a0i (rows3 a0r) a1 a2) a0i == zI (esB a0s a0i (rows3 a0r) a1 a2) a0i && rows3 (flat3 (esR (esB a0s a0i 
  (rows3 a0r) a1 a2) (rows3 a0r))) == rows3 (flat3 (esR (esB a0s a0i (rows3 a0r) a1 a2) (rows3 a0r))) && zI (esB a0s a0i (rows3 a0r) a1 a2) a1 == zI (esB a0s a0i (rows3 a0r) a1 a2) a1 
  && zI (esB a0s a0i (rows3 a0r) a1 a2) a2 == zI (esB a0s a0i (rows3 a0r) a1 a2) a2 && esU (esB a0s a0i (rows3 a0r) a1 a2) a1 a2 == esU (esB a0s a0i (rows3 a0r) a1 a2) a1 a2 && (0 : Int) 
  == (0 : Int) && (0 : Int) == (0 : Int) && (0 : Int) == (0 : Int) && (0 : Int) == (0 : Int))) = false → ((!esB a0s a0i (rows3 a0r) a1 a2 == esB a0s a0i (rows3 a0r) a1 a2) = true → K 
  (V.lit false)) ∧ ((!esB a0s a0i (rows3 a0r) a1 a2 == esB a0s a0i (rows3 a0r) a1 a2) = false → At (is3 (flat3 (esR (esB a0s a0i (rows3 a0r) a1 a2) (rows3 a0r))) (List.length (esR (esB 
  a0s a0i (rows3 a0r) a1 a2) (rows3 a0r))) ∧ List.length (esR (esB a0s a0i (rows3 a0r) a1 a2) (rows3 a0r)) ≤ (2000000 : Nat) ∧ (0 : Int) ≤ (1 : Int) ∧ (1 : Int) ≤ (1000000 : Int)) ∧ At 
  (is3 (flat3 (mkR (1 : Int) (List.length (esR (esB a0s a0i (rows3 a0r) a1 a2) (rows3 a0r))))) (List.length (esR (esB a0s a0i (rows3 a0r) a1 a2) (rows3 a0r))) ∧ List.length (esR (esB 
  a0s a0i (rows3 a0r) a1 a2) (rows3 a0r)) ≤ (2000000 : Nat) ∧ (0 : Int) ≤ (1 : Int) ∧ (1 : Int) ≤ (1000000 : Int)) ∧ (decide ((bif decide (rows3 (flat3 (mkR (1 : Int) (List.length (esR 
  (esB a0s a0i (rows3 a0r) a1 a2) (rows3 a0r))))) = mkR (1 : Int) (List.length (esR (esB a0s a0i (rows3 a0r) a1 a2) (rows3 a0r)))) then (1 : Int) + (↑((3 : Nat) * List.length (esR (esB 
  a0s a0i (rows3 a0r) a1 a2) (rows3 a0r))) : Int) else (-1 : Int)) < (0 : Int)) = true → K (V.lit false)) ∧ (decide ((bif decide (rows3 (flat3 (mkR (1 : Int) (List.length (esR (esB a0s 
  a0i (rows3 a0r) a1 a2) (rows3 a0r))))) = mkR (1 : Int) (List.length (esR (esB a0s a0i (rows3 a0r) a1 a2) (rows3 a0r)))) then (1 : Int) + (↑((3 : Nat) * List.length (esR (esB a0s a0i 
  (rows3 a0r) a1 a2) (rows3 a0r))) : Int) else (-1 : Int)) < (0 : Int)) = false → (((bif decide (rows3 (flat3 (mkR (1 : Int) (List.length (esR (esB a0s a0i (rows3 a0r) a1 a2) (rows3 a0r))))) 
  = mkR (1 : Int) (List.length (esR (esB a0s a0i (rows3 a0r) a1 a2) (rows3 a0r)))) then (1 : Int) + (↑((3 : Nat) * List.length (esR (esB a0s a0i (rows3 a0r) a1 a2) (rows3 a0r))) : Int) 
  else (-1 : Int)) != (1 : Int) + (↑((3 : Nat) * List.length (esR (esB a0s a0i (rows3 a0r) a1 a2) (rows3 a0r))) : Int)) = true → K (V.lit false)) ∧ (((bif decide (rows3 (flat3 (mkR (1 
  : Int) (List.length (esR (esB a0s a0i (rows3 a0r) a1 a2) (rows3 a0r))))) = mkR (1 : Int) (List.length (esR (esB a0s a0i (rows3 a0r) a1 a2) (rows3 a0r)))) then (1 : Int) + (↑((3 : Nat) 
  * List.length (esR (esB a0s a0i (rows3 a0r) a1 a2) (rows3 a0r))) : Int) else (-1 : Int)) != (1 : Int) + (↑((3 : Nat) * List.length (esR (esB a0s a0i (rows3 a0r) a1 a2) (rows3 a0r))) 
  : Int)) = false → At (is3 a0r a0rn ∧ a0rn ≤ (2000000 : Nat)) ∧ At (is3 a0r a0rn ∧ a0rn ≤ (2000000 : Nat) ∧ isSg g0 g1 g2 g3) ∧ At (is3 (flat3 (esR (esB a0s a0i (rows3 a0r) a1 a2) (rows3 
  a0r))) (List.length (esR (esB a0s a0i (rows3 a0r) a1 a2) (rows3 a0r))) ∧ is3 (flat3 (esR (esB a0s a0i (rows3 a0r) a1 a2) (rows3 a0r))) (List.length (esR (esB a0s a0i (rows3 a0r) a1 
  a2) (rows3 a0r))) ∧ List.length (esR (esB a0s a0i (rows3 a0r) a1 a2) (rows3 a0r)) ≤ (2000000 : Nat) ∧ List.length (esR (esB a0s a0i (rows3 a0r) a1 a2) (rows3 a0r)) ≤ (2000000 : Nat)) 
  ∧ ((!(zI (esB a0s a0i (rows3 a0r) a1 a2) a0s == zI (esB a0s a0i (rows3 a0r) a1 a2) a0s && zI (esB a0s a0i (rows3 a0r) a1 a2) a0i == zI (esB a0s a0i (rows3 a0r) a1 a2) a0i && rows3 (flat3 
  (esR (esB a0s a0i (rows3 a0r) a1 a2) (rows3 a0r))) == rows3 (flat3 (esR (esB a0s a0i (rows3 a0r) a1 a2) (rows3 a0r))) && zI (esB a0s a0i (rows3 a0r) a1 a2) a1 == zI (esB a0s a0i (rows3 
  a0r) a1 a2) a1 && zI (esB a0s a0i (rows3 a0r) a1 a2) a2 == zI (esB a0s a0i (rows3 a0r) a1 a2) a2 && esU (esB a0s a0i (rows3 a0r) a1 a2) a1 a2 == esU (esB a0s a0i (rows3 a0r) a1 a2) 
  a1 a2 && (0 : Int) == (0 : Int) && (0 : Int) == (0 : Int) && (0 : Int) == (0 : Int) && (0 : Int) == (0 : Int))) = true → K (V.lit false)) ∧ ((!(zI (esB a0s a0i (rows3 a0r) a1 a2) a0s 
  == zI (esB a0s a0i (rows3 a0r) a1 a2) a0s && zI (esB a0s a0i (rows3 a0r) a1 a2) a0i == zI (esB a0s a0i (rows3 a0r) a1 a2) a0i && rows3 (flat3 (esR (esB a0s a0i (rows3 a0r) a1 a2) (rows3 
  a0r))) == rows3 (flat3 (esR (esB a0s a0i (rows3 a0r) a1 a2) (rows3 a0r))) && zI (esB a0s a0i (rows3 a0r) a1 a2) a1 == zI (esB a0s a0i (rows3 a0r) a1 a2) a1 && zI (esB a0s a0i (rows3 
  a0r) a1 a2) a2 == zI (esB a0s a0i (rows3 a0r) a1 a2) a2 && esU (esB a0s a0i (rows3 a0r) a1 a2) a1 a2 == esU (esB a0s a0i (rows3 a0r) a1 a2) a1 a2 && (0 : Int) == (0 : Int) && (0 : Int) 
  == (0 : Int) && (0 : Int) == (0 : Int) && (0 : Int) == (0 : Int))) = false → ((!esB a0s a0i (rows3 a0r) a1 a2 == esB a0s a0i (rows3 a0r) a1 a2) = true → K (V.lit false)) ∧ ((!esB a0s 
  a0i (rows3 a0r) a1 a2 == esB a0s a0i (rows3 a0r) a1 a2) = false → At (is3 (flat3 (mkR (1 : Int) (List.length (esR (esB a0s a0i (rows3 a0r) a1 a2) (rows3 a0r))))) (List.length (esR (esB 
  a0s a0i (rows3 a0r) a1 a2) (rows3 a0r))) ∧ List.length (esR (esB a0s a0i (rows3 a0r) a1 a2) (rows3 a0r)) ≤ (2000000 : Nat) ∧ (0 : Int) ≤ (1 : Int) ∧ (1 : Int) ≤ (1000000 : Int)) ∧ (decide 
  ((bif decide (rows3 (flat3 (mkR (1 : Int) (List.length (esR (esB a0s a0i (rows3 a0r) a1 a2) (rows3 a0r))))) = mkR (1 : Int) (List.length (esR (esB a0s a0i (rows3 a0r) a1 a2) (rows3 
  a0r)))) then (1 : Int) + (↑((3 : Nat) * List.length (esR (esB a0s a0i (rows3 a0r) a1 a2) (rows3 a0r))) : Int) else (-1 : Int)) < (0 : Int)) = true → K (V.lit false)) ∧ (decide ((bif 
  decide (rows3 (flat3 (mkR (1 : Int) (List.length (esR (esB a0s a0i (rows3 a0r) a1 a2) (rows3 a0r))))) = mkR (1 : Int) (List.length (esR (esB a0s a0i (rows3 a0r) a1 a2) (rows3 a0r)))) 
  then (1 : Int) + (↑((3 : Nat) * List.length (esR (esB a0s a0i (rows3 a0r) a1 a2) (rows3 a0r))) : Int) else (-1 : Int)) < (0 : Int)) = false → (((bif decide (rows3 (flat3 (mkR (1 : Int) 
  (List.length (esR (esB a0s a0i (rows3 a0r) a1 a2) (rows3 a0r))))) = mkR (1 : Int) (List.length (esR (esB a0s a0i (rows3 a0r) a1 a2) (rows3 a0r)))) then (1 : Int) + (↑((3 : Nat) * List.length 
  (esR (esB a0s a0i (rows3 a0r) a1 a2) (rows3 a0r))) : Int) else (-1 : Int)) != (1 : Int) + (↑((3 : Nat) * List.length (esR (esB a0s a0i (rows3 a0r) a1 a2) (rows3 a0r))) : Int)) = true 
  → K (V.lit false)) ∧ (((bif decide (rows3 (flat3 (mkR (1 : Int) (List.length (esR (esB a0s a0i (rows3 a0r) a1 a2) (rows3 a0r))))) = mkR (1 : Int) (List.length (esR (esB a0s a0i (rows3 
  a0r) a1 a2) (rows3 a0r)))) then (1 : Int) + (↑((3 : Nat) * List.length (esR (esB a0s a0i (rows3 a0r) a1 a2) (rows3 a0r))) : Int) else (-1 : Int)) != (1 : Int) + (↑((3 : Nat) * List.length 
  (esR (esB a0s a0i (rows3 a0r) a1 a2) (rows3 a0r))) : Int)) = false → K (V.lit true)))))))))))) ∧ True) ∧ True) ∧ (At (is3 a0r a0rn ∧ a0rn ≤ (2000000 : Nat)) ∧ ((At (is3 a0r a0rn ∧ is3 
  a0r a0rn ∧ a0rn ≤ (2000000 : Nat) ∧ a0rn ≤ (2000000 : Nat)) ∧ ((!(a0s == a0s && a0i == a0i && rows3 a0r == rows3 a0r)) = true → K (V.lit false)) ∧ ((!(a0s == a0s && a0i == a0i && rows3 
  a0r == rows3 a0r)) = false → At (is3 a0r a0rn ∧ a0rn ≤ (2000000 : Nat) ∧ (0 : Int) ≤ (1 : Int) ∧ (1 : Int) ≤ (1000000 : Int)) ∧ (decide ((1 : Int) + (↑((3 : Nat) * a0rn) : Int) < (0 
  : Int)) = true → K (V.lit false)) ∧ (decide ((1 : Int) + (↑((3 : Nat) * a0rn) : Int) < (0 : Int)) = false → At (is3 (flat3 (esR (esB a0s a0i (rows3 a0r) a1 a2) (rows3 a0r))) (List.length 
  (esR (esB a0s a0i (rows3 a0r) a1 a2) (rows3 a0r))) ∧ is3 (flat3 (esR (esB a0s a0i (rows3 a0r) a1 a2) (rows3 a0r))) (List.length (esR (esB a0s a0i (rows3 a0r) a1 a2) (rows3 a0r))) ∧ 
  List.length (esR (esB a0s a0i (rows3 a0r) a1 a2) (rows3 a0r)) ≤ (2000000 : Nat) ∧ List.length (esR (esB a0s a0i (rows3 a0r) a1 a2) (rows3 a0r)) ≤ (2000000 : Nat)) ∧ ((!(zI (esB a0s 
  a0i (rows3 a0r) a1 a2) a0s == zI (esB a0s a0i (rows3 a0r) a1 a2) a0s && zI (esB a0s a0i (rows3 a0r) a1 a2) a0i == zI (esB a0s a0i (rows3 a0r) a1 a2) a0i && rows3 (flat3 (esR (esB a0s 
  a0i (rows3 a0r) a1 a2) (rows3 a0r))) == rows3 (flat3 (esR (esB a0s a0i (rows3 a0r) a1 a2) (rows3 a0r))) && zI (esB a0s a0i (rows3 a0r) a1 a2) a1 == zI (esB a0s a0i (rows3 a0r) a1 a2) 
  a1 && zI (esB a0s a0i (rows3 a0r) a1 a2) a2 == zI (esB a0s a0i (rows3 a0r) a1 a2) a2 && esU (esB a0s a0i (rows3 a0r) a1 a2) a1 a2 == esU (esB a0s a0i (rows3 a0r) a1 a2) a1 a2 && (0 
  : Int) == (0 : Int) && (0 : Int) == (0 : Int) && (0 : Int) == (0 : Int) && (0 : Int) == (0 : Int))) = true → K (V.lit false)) ∧ ((!(zI (esB a0s a0i (rows3 a0r) a1 a2) a0s == zI (esB 
  a0s a0i (rows3 a0r) a1 a2) a0s && zI (esB a0s a0i (rows3 a0r) a1 a2) a0i == zI (esB a0s a0i (rows3 a0r) a1 a2) a0i && rows3 (flat3 (esR (esB a0s a0i (rows3 a0r) a1 a2) (rows3 a0r))) 
  == rows3 (flat3 (esR (esB a0s a0i (rows3 a0r) a1 a2) (rows3 a0r))) && zI (esB a0s a0i (rows3 a0r) a1 a2) a1 == zI (esB a0s a0i (rows3 a0r) a1 a2) a1 && zI (esB a0s a0i (rows3 a0r) a1 
  a2) a2 == zI (esB a0s a0i (rows3 a0r) a1 a2) a2 && esU (esB a0s a0i (rows3 a0r) a1 a2) a1 a2 == esU (esB a0s a0i (rows3 a0r) a1 a2) a1 a2 && (0 : Int) == (0 : Int) && (0 : Int) == (0 
  : Int) && (0 : Int) == (0 : Int) && (0 : Int) == (0 : Int))) = false → ((!esB a0s a0i (rows3 a0r) a1 a2 == esB a0s a0i (rows3 a0r) a1 a2) = true → K (V.lit false)) ∧ ((!esB a0s a0i 
  (rows3 a0r) a1 a2 == esB a0s a0i (rows3 a0r) a1 a2) = false → At (is3 (flat3 (esR (esB a0s a0i (rows3 a0r) a1 a2) (rows3 a0r))) (List.length (esR (esB a0s a0i (rows3 a0r) a1 a2) (rows3 
  a0r))) ∧ List.length (esR (esB a0s a0i (rows3 a0r) a1 a2) (rows3 a0r)) ≤ (2000000 : Nat) ∧ (0 : Int) ≤ (1 : Int) ∧ (1 : Int) ≤ (1000000 : Int)) ∧ At (is3 (flat3 (mkR (1 : Int) (List.length 
  (esR (esB a0s a0i (rows3 a0r) a1 a2) (rows3 a0r))))) (List.length (esR (esB a0s a0i (rows3 a0r) a1 a2) (rows3 a0r))) ∧ List.length (esR (esB a0s a0i (rows3 a0r) a1 a2) (rows3 a0r)) 
  ≤ (2000000 : Nat) ∧ (0 : Int) ≤ (1 : Int) ∧ (1 : Int) ≤ (1000000 : Int)) ∧ (decide ((bif decide (rows3 (flat3 (mkR (1 : Int) (List.length (esR (esB a0s a0i (rows3 a0r) a1 a2) (rows3 
  a0r))))) = mkR (1 : Int) (List.length (esR (esB a0s a0i (rows3 a0r) a1 a2) (rows3 a0r)))) then (1 : Int) + (↑((3 : Nat) * List.length (esR (esB a0s a0i (rows3 a0r) a1 a2) (rows3 a0r))) 
  : Int) else (-1 : Int)) < (0 : Int)) = true → K (V.lit false)) ∧ (decide ((bif decide (rows3 (flat3 (mkR (1 : Int) (List.length (esR (esB a0s a0i (rows3 a0r) a1 a2) (rows3 a0r))))) 
  = mkR (1 : Int) (List.length (esR (esB a0s a0i (rows3 a0r) a1 a2) (rows3 a0r)))) then (1 : Int) + (↑((3 : Nat) * List.length (esR (esB a0s a0i (rows3 a0r) a1 a2) (rows3 a0r))) : Int) 
  else (-1 : Int)) < (0 : Int)) = false → (((bif decide (rows3 (flat3 (mkR (1 : Int) (List.length (esR (esB a0s a0i (rows3 a0r) a1 a2) (rows3 a0r))))) = mkR (1 : Int) (List.length (esR 
  (esB a0s a0i (rows3 a0r) a1 a2) (rows3 a0r)))) then (1 : Int) + (↑((3 : Nat) * List.length (esR (esB a0s a0i (rows3 a0r) a1 a2) (rows3 a0r))) : Int) else (-1 : Int)) != (1 : Int) + 
  (↑((3 : Nat) * List.length (esR (esB a0s a0i (rows3 a0r) a1 a2) (rows3 a0r))) : Int)) = true → K (V.lit false)) ∧ (((bif decide (rows3 (flat3 (mkR (1 : Int) (List.length (esR (esB a0s 
  a0i (rows3 a0r) a1 a2) (rows3 a0r))))) = mkR (1 : Int) (List.length (esR (esB a0s a0i (rows3 a0r) a1 a2) (rows3 a0r)))) then (1 : Int) + (↑((3 : Nat) * List.length (esR (esB a0s a0i 
  (rows3 a0r) a1 a2) (rows3 a0r))) : Int) else (-1 : Int)) != (1 : Int) + (↑((3 : Nat) * List.length (esR (esB a0s a0i (rows3 a0r) a1 a2) (rows3 a0r))) : Int)) = false → At (is3 a0r a0rn 
  ∧ a0rn ≤ (2000000 : Nat)) ∧ At (is3 a0r a0rn ∧ a0rn ≤ (2000000 : Nat) ∧ isSg g0 g1 g2 g3) ∧ At (is3 (flat3 (esR (esB a0s a0i (rows3 a0r) a1 a2) (rows3 a0r))) (List.length (esR (esB 
  a0s a0i (rows3 a0r) a1 a2) (rows3 a0r))) ∧ is3 (flat3 (esR (esB a0s a0i (rows3 a0r) a1 a2) (rows3 a0r))) (List.length (esR (esB a0s a0i (rows3 a0r) a1 a2) (rows3 a0r))) ∧ List.length 
  (esR (esB a0s a0i (rows3 a0r) a1 a2) (rows3 a0r)) ≤ (2000000 : Nat) ∧ List.length (esR (esB a0s a0i (rows3 a0r) a1 a2) (rows3 a0r)) ≤ (2000000 : Nat)) ∧ ((!(zI (esB a0s a0i (rows3 a0r) 
  a1 a2) a0s == zI (esB a0s a0i (rows3 a0r) a1 a2) a0s && zI (esB a0s a0i (rows3 a0r) a1 a2) a0i == zI (esB a0s a0i (rows3 a0r) a1 a2) a0i && rows3 (flat3 (esR (esB a0s a0i (rows3 a0r) 
  a1 a2) (rows3 a0r))) == rows3 (flat3 (esR (esB a0s a0i (rows3 a0r) a1 a2) (rows3 a0r))) && zI (esB a0s a0i (rows3 a0r) a1 a2) a1 == zI (esB a0s a0i (rows3 a0r) a1 a2) a1 && zI (esB 
  a0s a0i (rows3 a0r) a1 a2) a2 == zI (esB a0s a0i (rows3 a0r) a1 a2) a2 && esU (esB a0s a0i (rows3 a0r) a1 a2) a1 a2 == esU (esB a0s a0i (rows3 a0r) a1 a2) a1 a2 && (0 : Int) == (0 : 
  Int) && (0 : Int) == (0 : Int) && (0 : Int) == (0 : Int) && (0 : Int) == (0 : Int))) = true → K (V.lit false)) ∧ ((!(zI (esB a0s a0i (rows3 a0r) a1 a2) a0s == zI (esB a0s a0i (rows3 
  a0r) a1 a2) a0s && zI (esB a0s a0i (rows3 a0r) a1 a2) a0i == zI (esB a0s a0i (rows3 a0r) a1 a2) a0i && rows3 (flat3 (esR (esB a0s a0i (rows3 a0r) a1 a2) (rows3 a0r))) == rows3 (flat3 
  (esR (esB a0s a0i (rows3 a0r) a1 a2) (rows3 a0r))) && zI (esB a0s a0i (rows3 a0r) a1 a2) a1 == zI (esB a0s a0i (rows3 a0r) a1 a2) a1 && zI (esB a0s a0i (rows3 a0r) a1 a2) a2 == zI (esB 
  a0s a0i (rows3 a0r) a1 a2) a2 && esU (esB a0s a0i (rows3 a0r) a1 a2) a1 a2 == esU (esB a0s a0i (rows3 a0r) a1 a2) a1 a2 && (0 : Int) == (0 : Int) && (0 : Int) == (0 : Int) && (0 : Int) 
  == (0 : Int) && (0 : Int) == (0 : Int))) = false → ((!esB a0s a0i (rows3 a0r) a1 a2 == esB a0s a0i (rows3 a0r) a1 a2) = true → K (V.lit false)) ∧ ((!esB a0s a0i (rows3 a0r) a1 a2 == 
  esB a0s a0i (rows3 a0r) a1 a2) = false → At (is3 (flat3 (mkR (1 : Int) (List.length (esR (esB a0s a0i (rows3 a0r) a1 a2) (rows3 a0r))))) (List.length (esR (esB a0s a0i (rows3 a0r) a1 
  a2) (rows3 a0r))) ∧ List.length (esR (esB a0s a0i (rows3 a0r) a1 a2) (rows3 a0r)) ≤ (2000000 : Nat) ∧ (0 : Int) ≤ (1 : Int) ∧ (1 : Int) ≤ (1000000 : Int)) ∧ (decide ((bif decide (rows3 
  (flat3 (mkR (1 : Int) (List.length (esR (esB a0s a0i (rows3 a0r) a1 a2) (rows3 a0r))))) = mkR (1 : Int) (List.length (esR (esB a0s a0i (rows3 a0r) a1 a2) (rows3 a0r)))) then (1 : Int) 
  + (↑((3 : Nat) * List.length (esR (esB a0s a0i (rows3 a0r) a1 a2) (rows3 a0r))) : Int) else (-1 : Int)) < (0 : Int)) = true → K (V.lit false)) ∧ (decide ((bif decide (rows3 (flat3 (mkR 
  (1 : Int) (List.length (esR (esB a0s a0i (rows3 a0r) a1 a2) (rows3 a0r))))) = mkR (1 : Int) (List.length (esR (esB a0s a0i (rows3 a0r) a1 a2) (rows3 a0r)))) then (1 : Int) + (↑((3 : 
  Nat) * List.length (esR (esB a0s a0i (rows3 a0r) a1 a2) (rows3 a0r))) : Int) else (-1 : Int)) < (0 : Int)) = false → (((bif decide (rows3 (flat3 (mkR (1 : Int) (List.length (esR (esB 
  a0s a0i (rows3 a0r) a1 a2) (rows3 a0r))))) = mkR (1 : Int) (List.length (esR (esB a0s a0i (rows3 a0r) a1 a2) (rows3 a0r)))) then (1 : Int) + (↑((3 : Nat) * List.length (esR (esB a0s 
  a0i (rows3 a0r) a1 a2) (rows3 a0r))) : Int) else (-1 : Int)) != (1 : Int) + (↑((3 : Nat) * List.length (esR (esB a0s a0i (rows3 a0r) a1 a2) (rows3 a0r))) : Int)) = true → K (V.lit false)) 
  ∧ (((bif decide (rows3 (flat3 (mkR (1 : Int) (List.length (esR (esB a0s a0i (rows3 a0r) a1 a2) (rows3 a0r))))) = mkR (1 : Int) (List.length (esR (esB a0s a0i (rows3 a0r) a1 a2) (rows3 
  a0r)))) then (1 : Int) + (↑((3 : Nat) * List.length (esR (esB a0s a0i (rows3 a0r) a1 a2) (rows3 a0r))) : Int) else (-1 : Int)) != (1 : Int) + (↑((3 : Nat) * List.length (esR (esB a0s 
  a0i (rows3 a0r) a1 a2) (rows3 a0r))) : Int)) = false → K (V.lit true)))))))))))) ∧ True) ∧ True) ∧ True) ∧ True)))

theorem vc_LawEmptyScene (a0s : Int) (a0i : Int) (a0rn : Nat) (a0r : List Sc) (a1 : Int) (a2 : Int) (g0 g1 g2 g3 : List UInt8) (ha0s : -9223372036854775808 ≤ a0s ∧ a0s ≤ 9223372036854775807) (ha0i : -9223372036854775808 ≤ a0i ∧ a0i ≤ 9223372036854775807) (ha0r : (a0rn : Int) ≤ 9223372036854775807 ∧ is3 a0r a0rn ∧ ∀ r ∈ rows3 a0r, (r.t.length : Int) ≤ 9223372036854775807) (ha1 : -9223372036854775808 ≤ a1 ∧ a1 ≤ 9223372036854775807) (ha2 : -9223372036854775808 ≤ a2 ∧ a2 ≤ 9223372036854775807) (hg : isSg g0 g1 g2 g3) : VC_LawEmptyScene a0s a0i a0rn a0r a1 a2 g0 g1 g2 g3 (retP (.bool true)) := by
  unfold VC_LawEmptyScene
  have hs : ¬ szT (rows3 a0r) 1048576 < 0 → a0rn ≤ 2000000 := fun h => by
    have hn := ha0r.2.1.2
    unfold szT at h
    by_cases hd : (1048576 : Int) - (rows3 a0r).length < 0
    · rw [decide_eq_true hd] at h
      exact absurd (show (-1 : Int) < 0 by omega) h
    · omega
  refine ⟨⟨⟨by omega, by omega⟩, ha0r⟩, fun h => by simp [retP_lit], fun h => ?_⟩
  have hn := hs (of_decide_eq_false h)
  have hM : (esR (esB a0s a0i (rows3 a0r) a1 a2) (rows3 a0r)).length ≤ 2000000 := by
    have h3 := ha0r.2.1.2
    cases esB a0s a0i (rows3 a0r) a1 a2 with
    | false => exact Nat.zero_le _
    | true => show (rows3 a0r).length ≤ _; omega
  have hI := ha0r.2.1
  generalize esR (esB a0s a0i (rows3 a0r) a1 a2) (rows3 a0r) = M at hM ⊢
  have hF := is3_flat M
  have hmk : is3 (flat3 (mkR 1 M.length)) M.length := by
    have := is3_flat (mkR 1 M.length)
    rw [mkR_len] at this
    exact this
  have hneg : ∀ n : Nat, decide ((1 : Int) + ((3 * n : Nat) : Int) < 0) = false := fun n => decide_eq_false (by omega)
  simp only [at_iff, retP_lit, hI, hn, hg, hF, hmk, rows3_flat, hneg, hM, beq_self_eq_true, Bool.not_true, Bool.and_self, decide_true, cond_true, bne_self_eq_false, Bool.false_eq_true, false_implies, true_and, and_true, and_self, forall_const, Int.reduceLE, show (0 : Int) ≤ 1 from by decide]
end Go.Vi
