/- The conditions of FnExactRenameStates. -/
import Derived.Test.YtehglmfhohinbaaDoorTNPf
namespace Go.Vi
set_option linter.unusedVariables false
set_option linter.unusedSimpArgs false
def VC_LawRenameStates (a0s : Int) (a0i : Int) (a0rn : Nat) (a0r : List Sc) (a1n : Nat) (a1 : List Int) (g0 : List UInt8) (g1 : List UInt8) (g2 : List UInt8) (g3 : List UInt8) (K : 
  V → Prop) : Prop := (decide ((↑a1n : Int) > (1048576 : Int)) = true → K (V.lit true)) ∧ (decide ((↑a1n : Int) > (1048576 : Int)) = false → At (((0 : Int) ≤ (1048576 : Int) ∧ (1048576 
  : Int) ≤ (1048576 : Int)) ∧ (↑a0rn : Int) ≤ (9223372036854775807 : Int) ∧ is3 a0r a0rn ∧ ∀ (r : Row3), r ∈ rows3 a0r → (↑(List.length (Row3.t r)) : Int) ≤ (9223372036854775807 : Int)) 
  ∧ (decide (szT (rows3 a0r) (1048576 : Int) < (0 : Int)) = true → K (V.lit true)) ∧ (decide (szT (rows3 a0r) (1048576 : Int) < (0 : Int)) = false → At (is3 a0r a0rn ∧ a0rn ≤ (2000000 
  : Nat)) ∧ At (List.length a1 = a1n ∧ a1n ≤ (2000000 : Nat)) ∧ At (is3 a0r a0rn ∧ a0rn ≤ (2000000 : Nat) ∧ List.length a1 = a1n ∧ a1n ≤ (2000000 : Nat)) ∧ At (is3 a0r a0rn ∧ a0rn ≤ (2000000 
  : Nat)) ∧ At (List.length a1 = a1n ∧ a1n ≤ (2000000 : Nat)) ∧ At (is3 a0r a0rn ∧ a0rn ≤ (2000000 : Nat) ∧ List.length a1 = a1n ∧ a1n ≤ (2000000 : Nat) ∧ isSg g0 g1 g2 g3) ∧ At (is3 
  (flat3 (rnS a0s a0i (rows3 a0r) a1)) (List.length (rnS a0s a0i (rows3 a0r) a1)) ∧ is3 (flat3 (rnS a0s a0i (rows3 a0r) a1)) (List.length (rnS a0s a0i (rows3 a0r) a1)) ∧ List.length (rnS 
  a0s a0i (rows3 a0r) a1) ≤ (2000000 : Nat) ∧ List.length (rnS a0s a0i (rows3 a0r) a1) ≤ (2000000 : Nat)) ∧ ((!(zI (gdS a0s a0i (rows3 a0r) a1) a0s == zI (gdS a0s a0i (rows3 a0r) a1) 
  a0s && zI (gdS a0s a0i (rows3 a0r) a1) a0i == zI (gdS a0s a0i (rows3 a0r) a1) a0i && rows3 (flat3 (rnS a0s a0i (rows3 a0r) a1)) == rows3 (flat3 (rnS a0s a0i (rows3 a0r) a1)))) = true 
  → K (V.lit false)) ∧ ((!(zI (gdS a0s a0i (rows3 a0r) a1) a0s == zI (gdS a0s a0i (rows3 a0r) a1) a0s && zI (gdS a0s a0i (rows3 a0r) a1) a0i == zI (gdS a0s a0i (rows3 a0r) a1) a0i && 
  rows3 (flat3 (rnS a0s a0i (rows3 a0r) a1)) == rows3 (flat3 (rnS a0s a0i (rows3 a0r) a1)))) = false → ((!gdS a0s a0i (rows3 a0r) a1 == gdS a0s a0i (rows3 a0r) a1) = true → K (V.lit false)) 
  ∧ ((!gdS a0s a0i (rows3 a0r) a1 == gdS a0s a0i (rows3 a0r) a1) = false → (((At (is3 a0r a0rn ∧ a0rn ≤ (2000000 : Nat)) ∧ (At (is3 a0r a0rn ∧ is3 a0r a0rn ∧ a0rn ≤ (2000000 : Nat) ∧ 
  a0rn ≤ (2000000 : Nat)) ∧ ((!(a0s == a0s && a0i == a0i && rows3 a0r == rows3 a0r)) = true → K (V.lit false)) ∧ ((!(a0s == a0s && a0i == a0i && rows3 a0r == rows3 a0r)) = false → At 
  (List.length a1 = a1n ∧ a1n ≤ (2000000 : Nat)) ∧ At (List.length a1 = a1n ∧ List.length a1 = a1n ∧ a1n ≤ (2000000 : Nat) ∧ a1n ≤ (2000000 : Nat)) ∧ ((!a1 == a1) = true → K (V.lit false)) 
  ∧ ((!a1 == a1) = false → At (is3 a0r a0rn ∧ a0rn ≤ (2000000 : Nat) ∧ (0 : Int) ≤ (1 : Int) ∧ (1 : Int) ≤ (1000000 : Int)) ∧ At (List.length a1 = a1n ∧ a1n ≤ (2000000 : Nat) ∧ (0 : Int) 
  ≤ (1 : Int) + (↑((3 : Nat) * a0rn) : Int) ∧ (1 : Int) + (↑((3 : Nat) * a0rn) : Int) ≤ (1000000000000000 : Int)) ∧ (decide ((1 : Int) + (↑((3 : Nat) * a0rn) : Int) + (↑a1n : Int) < (0 
  : Int)) = true → K (V.lit false)) ∧ (decide ((1 : Int) + (↑((3 : Nat) * a0rn) : Int) + (↑a1n : Int) < (0 : Int)) = false → At (is3 (flat3 (rnS a0s a0i (rows3 a0r) a1)) (List.length 
  (rnS a0s a0i (rows3 a0r) a1)) ∧ is3 (flat3 (rnS a0s a0i (rows3 a0r) a1)) (List.length (rnS a0s a0i (rows3 a0r) a1)) ∧ List.length (rnS a0s a0i (rows3 a0r) a1) ≤ (2000000 : Nat) ∧ List.length 
  (rnS a0s a0i (rows3 a0r) a1) ≤ (2000000 : Nat)) ∧ ((!(zI (gdS a0s a0i (rows3 a0r) a1) a0s == zI (gdS a0s a0i (rows3 a0r) a1) a0s && zI (gdS a0s a0i (rows3 a0r) a1) a0i == zI (gdS a0s 
  a0i (rows3 a0r) a1) a0i && rows3 (flat3 (rnS a0s a0i (rows3 a0r) a1)) == rows3 (flat3 (rnS a0s a0i (rows3 a0r) a1)))) = true → K (V.lit false)) ∧ ((!(zI (gdS a0s a0i (rows3 a0r) a1) 
  a0s == zI (gdS a0s a0i (rows3 a0r) a1) a0s && zI (gdS a0s a0i (rows3 a0r) a1) a0i == zI (gdS a0s a0i (rows3 a0r) a1) a0i && rows3 (flat3 (rnS a0s a0i (rows3 a0r) a1)) == rows3 (flat3 
  (rnS a0s a0i (rows3 a0r) a1)))) = false → ((!gdS a0s a0i (rows3 a0r) a1 == gdS a0s a0i (rows3 a0r) a1) = true → K (V.lit false)) ∧ ((!gdS a0s a0i (rows3 a0r) a1 == gdS a0s a0i (rows3 
  a0r) a1) = false → At (is3 (flat3 (rnS a0s a0i (rows3 a0r) a1)) (List.length (rnS a0s a0i (rows3 a0r) a1)) ∧ List.length (rnS a0s a0i (rows3 a0r) a1) ≤ (2000000 : Nat) ∧ (0 : Int) ≤ 
  (1 : Int) ∧ (1 : Int) ≤ (1000000 : Int)) ∧ At (is3 (flat3 (mkR (1 : Int) (List.length (rnS a0s a0i (rows3 a0r) a1)))) (List.length (rnS a0s a0i (rows3 a0r) a1)) ∧ List.length (rnS a0s 
  a0i (rows3 a0r) a1) ≤ (2000000 : Nat) ∧ (0 : Int) ≤ (1 : Int) ∧ (1 : Int) ≤ (1000000 : Int)) ∧ (decide ((bif decide (rows3 (flat3 (mkR (1 : Int) (List.length (rnS a0s a0i (rows3 a0r) 
  a1)))) = mkR (1 : Int) (List.length (rnS a0s a0i (rows3 a0r) a1))) then (1 : Int) + (↑((3 : Nat) * List.length (rnS a0s a0i (rows3 a0r) a1)) : Int) else (-1 : Int)) < (0 : Int)) = true 
  → K (V.lit false)) ∧ (decide ((bif decide (rows3 (flat3 (mkR (1 : Int) (List.length (rnS a0s a0i (rows3 a0r) a1)))) = mkR (1 : Int) (List.length (rnS a0s a0i (rows3 a0r) a1))) then 
  (1 : Int) + (↑((3 : Nat) * List.length (rnS a0s a0i (rows3 a0r) a1)) : Int) else (-1 : Int)) < (0 : Int)) = false → (((bif decide (rows3 (flat3 (mkR (1 : Int) (List.length (rnS a0s 
  a0i (rows3 a0r) a1)))) = mkR (1 : Int) (List.length (rnS a0s a0i (rows3 a0r) a1))) then (1 : Int) + (↑((3 : Nat) * List.length (rnS a0s a0i (rows3 a0r) a1)) : Int) else (-1 : Int)) 
  != (1 : Int) + (↑((3 : Nat) * List.length (rnS a0s a0i (rows3 a0r) a1)) : Int)) = true → K (V.lit false)) ∧ (((bif decide (rows3 (flat3 (mkR (1 : Int) (List.length (rnS a0s a0i (rows3 
  a0r) a1)))) = mkR (1 : Int) (List.length (rnS a0s a0i (rows3 a0r) a1))) then (1 : Int) + (↑((3 : Nat) * List.length (rnS a0s a0i (rows3 a0r) a1)) : Int) else (-1 : Int)) != (1 : Int) 
  + (↑((3 : Nat) * List.length (rnS a0s a0i (rows3 a0r) a1)) : Int)) = false → At (is3 a0r a0rn ∧ a0rn ≤ (2000000 : Nat)) ∧ At (List.length a1 = a1n ∧ a1n ≤ (2000000 : Nat)) ∧ At (is3 
  a0r a0rn ∧ a0rn ≤ (2000000 : Nat) ∧ List.length a1 = a1n ∧ a1n ≤ (2000000 : Nat) ∧ isSg g0 g1 g2 g3) ∧ At (is3 (flat3 (rnS a0s a0i (rows3 a0r) a1)) (List.length (rnS a0s a0i (rows3 
  a0r) a1)) ∧ is3 (flat3 (rnS a0s a0i (rows3 a0r) a1)) (List.length (rnS a0s a0i (rows3 a0r) a1)) ∧ List.length (rnS a0s a0i (rows3 a0r) a1) ≤ (2000000 : Nat) ∧ List.length (rnS a0s a0i 
  (rows3 a0r) a1) ≤ (2000000 : Nat)) ∧ ((!(zI (gdS a0s a0i (rows3 a0r) a1) a0s == zI (gdS a0s a0i (rows3 a0r) a1) a0s && zI (gdS a0s a0i (rows3 a0r) a1) a0i == zI (gdS a0s a0i (rows3 
  a0r) a1) a0i && rows3 (flat3 (rnS a0s a0i (rows3 a0r) a1)) == rows3 (flat3 (rnS a0s a0i (rows3 a0r) a1)))) = true → K (V.lit false)) ∧ ((!(zI (gdS a0s a0i (rows3 a0r) a1) a0s == zI 
  (gdS a0s a0i (rows3 a0r) a1) a0s && zI (gdS a0s a0i (rows3 a0r) a1) a0i == zI (gdS a0s a0i (rows3 a0r) a1) a0i && rows3 (flat3 (rnS a0s a0i (rows3 a0r) a1)) == rows3 (flat3 (rnS a0s 
  a0i (rows3 a0r) a1)))) = false → ((!gdS a0s a0i (rows3 a0r) a1 == gdS a0s a0i (rows3 a0r) a1) = true → K (V.lit false)) ∧ ((!gdS a0s a0i (rows3 a0r) a1 == gdS a0s a0i (rows3 a0r) a1) 
  = false → At (is3 (flat3 (mkR (1 : Int) (List.length (rnS a0s a0i (rows3 a0r) a1)))) (List.length (rnS a0s a0i (rows3 a0r) a1)) ∧ List.length (rnS a0s a0i (rows3 a0r) a1) ≤ (2000000 
  : Nat) ∧ (0 : Int) ≤ (1 : Int) ∧ (1 : Int) ≤ (1000000 : Int)) ∧ (decide ((bif decide (rows3 (flat3 (mkR (1 : Int) (List.length (rnS a0s a0i (rows3 a0r) a1)))) = mkR (1 : Int) (List.length 
  (rnS a0s a0i (rows3 a0r) a1))) then (1 : Int) + (↑((3 : Nat) * List.length (rnS a0s a0i (rows3 a0r) a1)) : Int) else (-1 : Int)) < (0 : Int)) = true → K (V.lit false)) ∧ (decide ((bif 
  decide (rows3 (flat3 (mkR (1 : Int) (List.length (rnS a0s a0i (rows3 a0r) a1)))) = mkR (1 : Int) (List.length (rnS a0s a0i (rows3 a0r) a1))) then (1 : Int) + (↑((3 : Nat) * List.length 
  (rnS a0s a0i (rows3 a0r) a1)) : Int) else (-1 : Int)) < (0 : Int)) = false → (((bif decide (rows3 (flat3 (mkR (1 : Int) (List.length (rnS a0s a0i (rows3 a0r) a1)))) = mkR (1 : Int) 
  (List.length (rnS a0s a0i (rows3 a0r) a1))) then (1 : Int) + (↑((3 : Nat) * List.length (rnS a0s a0i (rows3 a0r) a1)) : Int) else (-1 : Int)) != (1 : Int) + (↑((3 : Nat) * List.length 
  (rnS a0s a0i (rows3 a0r) a1)) : Int)) = true → K (V.lit false)) ∧ (((bif decide (rows3 (flat3 (mkR (1 : Int) (List.length (rnS a0s a0i (rows3 a0r) a1)))) = mkR (1 : Int) (List.length 
  (rnS a0s a0i (rows3 a0r) a1))) then (1 : Int) + (↑((3 : Nat) * List.length (rnS a0s a0i (rows3 a0r) a1)) : Int) else (-1 : Int)) != (1 : Int) + (↑((3 : Nat) * List.length (rnS a0s a0i 
  (rows3 a0r) a1)) : Int)) = false → K (V.lit true))))))))))))) ∧ True) ∧ True) ∧ True) ∧ (((At (is3 a0r a0rn ∧ a0rn ≤ (2000000 : Nat)) ∧ (At (is3 a0r a0rn ∧ is3 a0r a0rn ∧ a0rn ≤ (2000000 
  : Nat) ∧ a0rn ≤ (2000000 : Nat)) ∧ ((!(a0s == a0s && a0i == a0i && rows3 a0r == rows3 a0r)) = true → K (V.lit false)) ∧ ((!(a0s == a0s && a0i == a0i && rows3 a0r == rows3 a0r)) = false 
  → At (List.length a1 = a1n ∧ a1n ≤ (2000000 : Nat)) ∧ At (List.length a1 = a1n ∧ List.length a1 = a1n ∧ a1n ≤ (2000000 : Nat) ∧ a1n ≤ (2000000 : Nat)) ∧ ((!a1 == a1) = true → K (V.lit 
  false)) ∧ ((!a1 == a1) = false → At (is3 a0r a0rn ∧ a0rn ≤ (2000000 : Nat) ∧ (0 : Int) ≤ (1 : Int) ∧ (1 : Int) ≤ (1000000 : Int)) ∧ At (List.length a1 = a1n ∧ a1n ≤ (2000000 : Nat) 
  ∧ (0 : Int) ≤ (1 : Int) + (↑((3 : Nat) * a0rn) : Int) ∧ (1 : Int) + (↑((3 : Nat) * a0rn) : Int) ≤ (1000000000000000 : Int)) ∧ (decide ((1 : Int) + (↑((3 : Nat) * a0rn) : Int) + (↑a1n 
  : Int) < (0 : Int)) = true → K (V.lit false)) ∧ (decide ((1 : Int) + (↑((3 : Nat) * a0rn) : Int) + (↑a1n : Int) < (0 : Int)) = false → At (is3 (flat3 (rnS a0s a0i (rows3 a0r) a1)) (List.length 
  (rnS a0s a0i (rows3 a0r) a1)) ∧ is3 (flat3 (rnS a0s a0i (rows3 a0r) a1)) (List.length (rnS a0s a0i (rows3 a0r) a1)) ∧ List.length (rnS a0s a0i (rows3 a0r) a1) ≤ (2000000 : Nat) ∧ List.length 
  (rnS a0s a0i (rows3 a0r) a1) ≤ (2000000 : Nat)) ∧ ((!(zI (gdS a0s a0i (rows3 a0r) a1) a0s == zI (gdS a0s a0i (rows3 a0r) a1) a0s && zI (gdS a0s a0i (rows3 a0r) a1) a0i == zI (gdS a0s 
  a0i (rows3 a0r) a1) a0i && rows3 (flat3 (rnS a0s a0i (rows3 a0r) a1)) == rows3 (flat3 (rnS a0s a0i (rows3 a0r) a1)))) = true → K (V.lit false)) ∧ ((!(zI (gdS a0s a0i (rows3 a0r) a1) 
  a0s == zI (gdS a0s a0i (rows3 a0r) a1) a0s && zI (gdS a0s a0i (rows3 a0r) a1) a0i == zI (gdS a0s a0i (rows3 a0r) a1) a0i && rows3 (flat3 (rnS a0s a0i (rows3 a0r) a1)) == rows3 (flat3 
  (rnS a0s a0i (rows3 a0r) a1)))) = false → ((!gdS a0s a0i (rows3 a0r) a1 == gdS a0s a0i (rows3 a0r) a1) = true → K (V.lit false)) ∧ ((!gdS a0s a0i (rows3 a0r) a1 == gdS a0s a0i (rows3 
  a0r) a1) = false → At (is3 (flat3 (rnS a0s a0i (rows3 a0r) a1)) (List.length (rnS a0s a0i (rows3 a0r) a1)) ∧ List.length (rnS a0s a0i (rows3 a0r) a1) ≤ (2000000 : Nat) ∧ (0 : Int) ≤ 
  (1 : Int) ∧ (1 : Int) ≤ (1000000 : Int)) ∧ At (is3 (flat3 (mkR (1 : Int) (List.length (rnS a0s a0i (rows3 a0r) a1)))) (List.length (rnS a0s a0i (rows3 a0r) a1)) ∧ List.length (rnS a0s 
  a0i (rows3 a0r) a1) ≤ (2000000 : Nat) ∧ (0 : Int) ≤ (1 : Int) ∧ (1 : Int) ≤ (1000000 : Int)) ∧ (decide ((bif decide (rows3 (flat3 (mkR (1 : Int) (List.length (rnS a0s a0i (rows3 a0r) 
  a1)))) = mkR (1 : Int) (List.length (rnS a0s a0i (rows3 a0r) a1))) then (1 : Int) + (↑((3 : Nat) * List.length (rnS a0s a0i (rows3 a0r) a1)) : Int) else (-1 : Int)) < (0 : Int)) = true 
  → K (V.lit false)) ∧ (decide ((bif decide (rows3 (flat3 (mkR (1 : Int) (List.length (rnS a0s a0i (rows3 a0r) a1)))) = mkR (1 : Int) (List.length (rnS a0s a0i (rows3 a0r) a1))) then 
  (1 : Int) + (↑((3 : Nat) * List.length (rnS a0s a0i (rows3 a0r) a1)) : Int) else (-1 : Int)) < (0 : Int)) = false → (((bif decide (rows3 (flat3 (mkR (1 : Int) (List.length (rnS a0s 
  a0i (rows3 a0r) a1)))) = mkR (1 : Int) (List.length (rnS a0s a0i (rows3 a0r) a1))) then (1 : Int) + (↑((3 : Nat) * List.length (rnS a0s a0i (rows3 a0r) a1)) : Int) else (-1 : Int)) 
  != (1 : Int) + (↑((3 : Nat) * List.length (rnS a0s a0i (rows3 a0r) a1)) : Int)) = true → K (V.lit false)) ∧ (((bif decide (rows3 (flat3 (mkR (1 : Int) (List.length (rnS a0s a0i (rows3 
  a0r) a1)))) = mkR (1 : Int) (List.length (rnS a0s a0i (rows3 a0r) a1))) then (1 : Int) + (↑((3 : Nat) * List.length (rnS a0s a0i (rows3 a0r) a1)) : Int) else (-1 : Int)) != (1 : Int) 
  + (↑((3 : Nat) * List.length (rnS a0s a0i (rows3 a0r) a1)) : Int)) = false → At (is3 a0r a0rn ∧ a0rn ≤ (2000000 : Nat)) ∧ At (List.length a1 = a1n ∧ a1n ≤ (2000000 : Nat)) ∧ At (is3 
  a0r a0rn ∧ a0rn ≤ (2000000 : Nat) ∧ List.length a1 = a1n ∧ a1n ≤ (2000000 : Nat) ∧ isSg g0 g1 g2 g3) ∧ At (is3 (flat3 (rnS a0s a0i (rows3 a0r) a1)) (List.length (rnS a0s a0i (rows3 
  a0r) a1)) ∧ is3 (flat3 (rnS a0s a0i (rows3 a0r) a1)) (List.length (rnS a0s a0i (rows3 a0r) a1)) ∧ List.length (rnS a0s a0i (rows3 a0r) a1) ≤ (2000000 : Nat) ∧ List.length (rnS a0s a0i 
  (rows3 a0r) a1) ≤ (2000000 : Nat)) ∧ ((!(zI (gdS a0s a0i (rows3 a0r) a1) a0s == zI (gdS a0s a0i (rows3 a0r) a1) a0s && zI (gdS a0s a0i (rows3 a0r) a1) a0i == zI (gdS a0s a0i (rows3 
  a0r) a1) a0i && rows3 (flat3 (rnS a0s a0i (rows3 a0r) a1)) == rows3 (flat3 (rnS a0s a0i (rows3 a0r) a1)))) = true → K (V.lit false)) ∧ ((!(zI (gdS a0s a0i (rows3 a0r) a1) a0s == zI 
  (gdS a0s a0i (rows3 a0r) a1) a0s && zI (gdS a0s a0i (rows3 a0r) a1) a0i == zI (gdS a0s a0i (rows3 a0r) a1) a0i && rows3 (flat3 (rnS a0s a0i (rows3 a0r) a1)) == rows3 (flat3 (rnS a0s 
  a0i (rows3 a0r) a1)))) = false → ((!gdS a0s a0i (rows3 a0r) a1 == gdS a0s a0i (rows3 a0r) a1) = true → K (V.lit false)) ∧ ((!gdS a0s a0i (rows3 a0r) a1 == gdS a0s a0i (rows3 a0r) a1) 
  = false → At (is3 (flat3 (mkR (1 : Int) (List.length (rnS a0s a0i (rows3 a0r) a1)))) (List.length (rnS a0s a0i (rows3 a0r) a1)) ∧ List.length (rnS a0s a0i (rows3 a0r) a1) ≤ (2000000 
  : Nat) ∧ (0 : Int) ≤ (1 : Int) ∧ (1 : Int) ≤ (1000000 : Int)) ∧ (decide ((bif decide (rows3 (flat3 (mkR (1 : Int) (List.length (rnS a0s a0i (rows3 a0r) a1)))) = mkR (1 : Int) (List.length 
  (rnS a0s a0i (rows3 a0r) a1))) then (1 : Int) + (↑((3 : Nat) * List.length (rnS a0s a0i (rows3 a0r) a1)) : Int) else (-1 : Int)) < (0 : Int)) = true → K (V.lit false)) ∧ (decide ((bif 
  decide (rows3 (flat3 (mkR (1 : Int) (List.length (rnS a0s a0i (rows3 a0r) a1)))) = mkR (1 : Int) (List.length (rnS a0s a0i (rows3 a0r) a1))) then (1 : Int) + (↑((3 : Nat) * List.length 
  (rnS a0s a0i (rows3 a0r) a1)) : Int) else (-1 : Int)) < (0 : Int)) = false → (((bif decide (rows3 (flat3 (mkR (1 : Int) (List.length (rnS a0s a0i (rows3 a0r) a1)))) = mkR (1 : Int) 
  (List.length (rnS a0s a0i (rows3 a0r) a1))) then (1 : Int) + (↑((3 : Nat) * List.length (rnS a0s a0i (rows3 a0r) a1)) : Int) else (-1 : Int)) != (1 : Int) + (↑((3 : Nat) * List.length 
  (rnS a0s a0i (rows3 a0r) a1)) : Int)) = true → K (V.lit false)) ∧ (((bif decide (rows3 (flat3 (mkR (1 : Int) (List.length (rnS a0s a0i (rows3 a0r) a1)))) = mkR (1 : Int) (List.length 
  (rnS a0s a0i (rows3 a0r) a1))) then (1 : Int) + (↑((3 : Nat) * List.length (rnS a0s a0i (rows3 a0r) a1)) : Int) else (-1 : Int)) != (1 : Int) + (↑((3 : Nat) * List.length (rnS a0s a0i 
  (rows3 a0r) a1)) : Int)) = false → K (V.lit true))))))))))))) ∧ True) ∧ True) ∧ (At (is3 a0r a0rn ∧ a0rn ≤ (2000000 : Nat)) ∧ ((At (is3 a0r a0rn ∧ is3 a0r a0rn ∧ a0rn ≤ (2000000 : Nat) 
  ∧ a0rn ≤ (2000000 : Nat)) ∧ ((!(a0s == a0s && a0i == a0i && rows3 a0r == rows3 a0r)) = true → K (V.lit false)) ∧ ((!(a0s == a0s && a0i == a0i && rows3 a0r == rows3 a0r)) = false → At 
  (List.length a1 = a1n ∧ a1n ≤ (2000000 : Nat)) ∧ At (List.length a1 = a1n ∧ List.length a1 = a1n ∧ a1n ≤ (2000000 : Nat) ∧ a1n ≤ (2000000 : Nat)) ∧ ((!a1 == a1) = true → K (V.lit false)) 
  ∧ ((!a1 == a1) = false → At (is3 a0r a0rn ∧ a0rn ≤ (2000000 : Nat) ∧ (0 : Int) ≤ (1 : Int) ∧ (1 : Int) ≤ (1000000 : Int)) ∧ At (List.length a1 = a1n ∧ a1n ≤ (2000000 : Nat) ∧ (0 : Int) 
  ≤ (1 : Int) + (↑((3 : Nat) * a0rn) : Int) ∧ (1 : Int) + (↑((3 : Nat) * a0rn) : Int) ≤ (1000000000000000 : Int)) ∧ (decide ((1 : Int) + (↑((3 : Nat) * a0rn) : Int) + (↑a1n : Int) < (0 
  : Int)) = true → K (V.lit false)) ∧ (decide ((1 : Int) + (↑((3 : Nat) * a0rn) : Int) + (↑a1n : Int) < (0 : Int)) = false → At (is3 (flat3 (rnS a0s a0i (rows3 a0r) a1)) (List.length 
  (rnS a0s a0i (rows3 a0r) a1)) ∧ is3 (flat3 (rnS a0s a0i (rows3 a0r) a1)) (List.length (rnS a0s a0i (rows3 a0r) a1)) ∧ List.length (rnS a0s a0i (rows3 a0r) a1) ≤ (2000000 : Nat) ∧ List.length 
  (rnS a0s a0i (rows3 a0r) a1) ≤ (2000000 : Nat)) ∧ ((!(zI (gdS a0s a0i (rows3 a0r) a1) a0s == zI (gdS a0s a0i (rows3 a0r) a1) a0s && zI (gdS a0s a0i (rows3 a0r) a1) a0i == zI (gdS a0s 
  a0i (rows3 a0r) a1) a0i && rows3 (flat3 (rnS a0s a0i (rows3 a0r) a1)) == rows3 (flat3 (rnS a0s a0i (rows3 a0r) a1)))) = true → K (V.lit false)) ∧ ((!(zI (gdS a0s a0i (rows3 a0r) a1) 
  a0s == zI (gdS a0s a0i (rows3 a0r) a1) a0s && zI (gdS a0s a0i (rows3 a0r) a1) a0i == zI (gdS a0s a0i (rows3 a0r) a1) a0i && rows3 (flat3 (rnS a0s a0i (rows3 a0r) a1)) == rows3 (flat3 
  (rnS a0s a0i (rows3 a0r) a1)))) = false → ((!gdS a0s a0i (rows3 a0r) a1 == gdS a0s a0i (rows3 a0r) a1) = true → K (V.lit false)) ∧ ((!gdS a0s a0i (rows3 a0r) a1 == gdS a0s a0i (rows3 
  a0r) a1) = false → At (is3 (flat3 (rnS a0s a0i (rows3 a0r) a1)) (List.length (rnS a0s a0i (rows3 a0r) a1)) ∧ List.length (rnS a0s a0i (rows3 a0r) a1) ≤ (2000000 : Nat) ∧ (0 : Int) ≤ 
  (1 : Int) ∧ (1 : Int) ≤ (1000000 : Int)) ∧ At (is3 (flat3 (mkR (1 : Int) (List.length (rnS a0s a0i (rows3 a0r) a1)))) (List.length (rnS a0s a0i (rows3 a0r) a1)) ∧ List.length (rnS a0s 
  a0i (rows3 a0r) a1) ≤ (2000000 : Nat) ∧ (0 : Int) ≤ (1 : Int) ∧ (1 : Int) ≤ (1000000 : Int)) ∧ (decide ((bif decide (rows3 (flat3 (mkR (1 : Int) (List.length (rnS a0s a0i (rows3 a0r) 
  a1)))) = mkR (1 : Int) (List.length (rnS a0s a0i (rows3 a0r) a1))) then (1 : Int) + (↑((3 : Nat) * List.length (rnS a0s a0i (rows3 a0r) a1)) : Int) else (-1 : Int)) < (0 : Int)) = true 
  → K (V.lit false)) ∧ (decide ((bif decide (rows3 (flat3 (mkR (1 : Int) (List.length (rnS a0s a0i (rows3 a0r) a1)))) = mkR (1 : Int) (List.length (rnS a0s a0i (rows3 a0r) a1))) then 
  (1 : Int) + (↑((3 : Nat) * List.length (rnS a0s a0i (rows3 a0r) a1)) : Int) else (-1 : Int)) < (0 : Int)) = false → (((bif decide (rows3 (flat3 (mkR (1 : Int) (List.length (rnS a0s 
  a0i (rows3 a0r) a1)))) = mkR (1 : Int) (List.length (rnS a0s a0i (rows3 a0r) a1))) then (1 : Int) + (↑((3 : Nat) * List.length (rnS a0s a0i (rows3 a0r) a1)) : Int) else (-1 : Int)) 
  != (1 : Int) + (↑((3 : Nat) * List.length (rnS a0s a0i (rows3 a0r) a1)) : Int)) = true → K (V.lit false)) ∧ (((bif decide (rows3 (flat3 (mkR (1 : Int) (List.length (rnS a0s a0i (rows3 
  a0r) a1)))) = mkR (1 : Int) (List.length (rnS a0s a0i (rows3 a0r) a1))) then (1 : Int) + (↑((3 : Nat) * List.length (rnS a0s a0i (rows3 a0r) a1)) : Int) else (-1 : Int)) != (1 : Int) 
  + (↑((3 : Nat) * List.length (rnS a0s a0i (rows3 a0r) a1)) : Int)) = false → At (is3 a0r a0rn ∧ a0rn ≤ (2000000 : Nat)) ∧ At (List.length a1 = a1n ∧ a1n ≤ (2000000 : Nat)) ∧ At (is3 
  a0r a0rn ∧ a0rn ≤ (2000000 : Nat) ∧ List.length a1 = a1n ∧ a1n ≤ (2000000 : Nat) ∧ isSg g0 g1 g2 g3) ∧ At (is3 (flat3 (rnS a0s a0i (rows3 a0r) a1)) (List.length (rnS a0s a0i (rows3 
  a0r) a1)) ∧ is3 (flat3 (rnS a0s a0i (rows3 a0r) a1)) (List.length (rnS a0s a0i (rows3 a0r) a1)) ∧ List.length (rnS a0s a0i (rows3 a0r) a1) ≤ (2000000 : Nat) ∧ List.length (rnS a0s a0i 
  (rows3 a0r) a1) ≤ (2000000 : Nat)) ∧ ((!(zI (gdS a0s a0i (rows3 a0r) a1) a0s == zI (gdS a0s a0i (rows3 a0r) a1) a0s && zI (gdS a0s a0i (rows3 a0r) a1) a0i == zI (gdS a0s a0i (rows3 
  a0r) a1) a0i && rows3 (flat3 (rnS a0s a0i (rows3 a0r) a1)) == rows3 (flat3 (rnS a0s a0i (rows3 a0r) a1)))) = true → K (V.lit false)) ∧ ((!(zI (gdS a0s a0i (rows3 a0r) a1) a0s == zI 
  (gdS a0s a0i (rows3 a0r) a1) a0s && zI (gdS a0s a0i (rows3 a0r) a1) a0i == zI (gdS a0s a0i (rows3 a0r) a1) a0i && rows3 (flat3 (rnS a0s a0i (rows3 a0r) a1)) == rows3 (flat3 (rnS a0s 
  a0i (rows3 a0r) a1)))) = false → ((!gdS a0s a0i (rows3 a0r) a1 == gdS a0s a0i (rows3 a0r) a1) = true → K (V.lit false)) ∧ ((!gdS a0s a0i (rows3 a0r) a1 == gdS a0s a0i (rows3 a0r) a1) 
  = false → At (is3 (flat3 (mkR (1 : Int) (List.length (rnS a0s a0i (rows3 a0r) a1)))) (List.length (rnS a0s a0i (rows3 a0r) a1)) ∧ List.length (rnS a0s a0i (rows3 a0r) a1) ≤ (2000000 
  : Nat) ∧ (0 : Int) ≤ (1 : Int) ∧ (1 : Int) ≤ (1000000 : Int)) ∧ (decide ((bif decide (rows3 (flat3 (mkR (1 : Int) (List.length (rnS a0s a0i (rows3 a0r) a1)))) = mkR (1 : Int) (List.length 
  (rnS a0s a0i (rows3 a0r) a1))) then (1 : Int) + (↑((3 : Nat) * List.length (rnS a0s a0i (rows3 a0r) a1)) : Int) else (-1 : Int)) < (0 : Int)) = true → K (V.lit false)) ∧ (decide ((bif 
  decide (rows3 (flat3 (mkR (1 : Int) (List.length (rnS a0s a0i (rows3 a0r) a1)))) = mkR (1 : Int) (List.length (rnS a0s a0i (rows3 a0r) a1))) then (1 : Int) + (↑((3 : Nat) * List.length 
  (rnS a0s a0i (rows3 a0r) a1)) : Int) else (-1 : Int)) < (0 : Int)) = false → (((bif decide (rows3 (flat3 (mkR (1 : Int) (List.length (rnS a0s a0i (rows3 a0r) a1)))) = mkR (1 : Int) 
  (List.length (rnS a0s a0i (rows3 a0r) a1))) then (1 : Int) + (↑((3 : Nat) * List.length (rnS a0s a0i (rows3 a0r) a1)) : Int) else (-1 : Int)) != (1 : Int) + (↑((3 : Nat) * List.length 
  (rnS a0s a0i (rows3 a0r) a1)) : Int)) = true → K (V.lit false)) ∧ (((bif decide (rows3 (flat3 (mkR (1 : Int) (List.length (rnS a0s a0i (rows3 a0r) a1)))) = mkR (1 : Int) (List.length 
  (rnS a0s a0i (rows3 a0r) a1))) then (1 : Int) + (↑((3 : Nat) * List.length (rnS a0s a0i (rows3 a0r) a1)) : Int) else (-1 : Int)) != (1 : Int) + (↑((3 : Nat) * List.length (rnS a0s a0i 
  (rows3 a0r) a1)) : Int)) = false → K (V.lit true))))))))))))) ∧ True) ∧ True) ∧ True) ∧ True))))

theorem vc_LawRenameStates (a0s : Int) (a0i : Int) (a0rn : Nat) (a0r : List Sc) (a1n : Nat) (a1 : List Int) (g0 g1 g2 g3 : List UInt8) (ha0s : -9223372036854775808 ≤ a0s ∧ a0s ≤ 9223372036854775807) (ha0i : -9223372036854775808 ≤ a0i ∧ a0i ≤ 9223372036854775807) (ha0r : (a0rn : Int) ≤ 9223372036854775807 ∧ is3 a0r a0rn ∧ ∀ r ∈ rows3 a0r, (r.t.length : Int) ≤ 9223372036854775807) (ha1 : a1.length = a1n * 1 ∧ (a1n : Int) ≤ 9223372036854775807) (hg : isSg g0 g1 g2 g3) : VC_LawRenameStates a0s a0i a0rn a0r a1n a1 g0 g1 g2 g3 (retP (.bool true)) := by
  obtain ⟨hr1, hr2⟩ := ha1
  rw [Nat.mul_one] at hr1
  subst hr1
  unfold VC_LawRenameStates
  have hs : ¬ szT (rows3 a0r) 1048576 < 0 → a0rn ≤ 2000000 := fun h => by
    have hn := ha0r.2.1.2
    unfold szT at h
    by_cases hd : (1048576 : Int) - (rows3 a0r).length < 0
    · rw [decide_eq_true hd] at h
      exact absurd (show (-1 : Int) < 0 by omega) h
    · omega
  refine ⟨fun h => by simp [retP_lit], fun h0 => ⟨⟨⟨by omega, by omega⟩, ha0r⟩, fun h => by simp [retP_lit], fun h => ?_⟩⟩
  have h0 := of_decide_eq_false h0
  have hl1 : a1.length ≤ 2000000 := by omega
  have hn := hs (of_decide_eq_false h)
  have hM : (rnS a0s a0i (rows3 a0r) a1).length ≤ 2000000 := by
    have h3 := ha0r.2.1.2
    cases hb : gdS a0s a0i (rows3 a0r) a1 with
    | false => rw [rnS_no hb]; exact Nat.zero_le _
    | true => rw [rnS_yes hb, laid_len, zeroR_len]; omega
  have hI := ha0r.2.1
  generalize rnS a0s a0i (rows3 a0r) a1 = M at hM ⊢
  have hF := is3_flat M
  have hmk : is3 (flat3 (mkR 1 M.length)) M.length := by
    have := is3_flat (mkR 1 M.length)
    rw [mkR_len] at this
    exact this
  have hneg : ∀ n : Nat, decide ((1 : Int) + ((3 * n : Nat) : Int) < 0) = false := fun n => decide_eq_false (by omega)
  have hneg2 : decide ((1 : Int) + ((3 * a0rn : Nat) : Int) + (a1.length : Int) < 0) = false := decide_eq_false (by omega)
  have hb1 : (0 : Int) ≤ (1 : Int) + ((3 * a0rn : Nat) : Int) := by omega
  have hb2 : (1 : Int) + ((3 * a0rn : Nat) : Int) ≤ 1000000000000000 := by omega
  simp only [at_iff, retP_lit, hI, hn, hg, hF, hmk, rows3_flat, hneg, hneg2, hb1, hb2, hl1, hM, beq_self_eq_true, Bool.not_true, Bool.and_self, decide_true, cond_true, bne_self_eq_false, Bool.false_eq_true, false_implies, true_and, and_true, and_self, forall_const, Int.reduceLE, show (0 : Int) ≤ 1 from by decide]
end Go.Vi
