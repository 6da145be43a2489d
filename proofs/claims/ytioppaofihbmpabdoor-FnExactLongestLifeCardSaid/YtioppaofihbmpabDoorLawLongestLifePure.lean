/- The conditions of FnExactLongestLife. -/
import Derived.Test.YtioppaofihbmpabDoorWEPf
namespace Go.Vi
set_option linter.unusedVariables false
set_option linter.unusedSimpArgs false
def VC_LawLongestLife (a0w : Int) (a0h : Int) (a0r : List UInt8) (a0n : List UInt8) (a0x : Int) (a0y : Int) (a0d : Int) (g0 : List UInt8) (g1 : List UInt8) (g2 : List UInt8) (g3 : List 
  UInt8) (g4 : List UInt8) (g5 : List UInt8) (K : V → Prop) : Prop := At ((0 : Int) ≤ (1048576 : Int) ∧ (1048576 : Int) ≤ (1000000000 : Int) ∧ (↑(List.length a0r) : Int) ≤ (9223372036854775807 
  : Int) ∧ (↑(List.length a0n) : Int) ≤ (9223372036854775807 : Int)) ∧ (decide (szWo a0r a0n (1048576 : Int) < (0 : Int)) = true → K (V.lit true)) ∧ (decide (szWo a0r a0n (1048576 : Int) 
  < (0 : Int)) = false → At True ∧ At True ∧ At True ∧ At (isTs g0 g1 g2 g3 g4 g5) ∧ At (List.length (llR { w := a0w, h := a0h, r := a0r, n := a0n, x := a0x, y := a0y, d := a0d }) = List.length 
  (llR { w := a0w, h := a0h, r := a0r, n := a0n, x := a0x, y := a0y, d := a0d }) ∧ List.length (llR { w := a0w, h := a0h, r := a0r, n := a0n, x := a0x, y := a0y, d := a0d }) = List.length 
  (llR { w := a0w, h := a0h, r := a0r, n := a0n, x := a0x, y := a0y, d := a0d }) ∧ List.length (llR { w := a0w, h := a0h, r := a0r, n := a0n, x := a0x, y := a0y, d := a0d }) ≤ (2000000 
  : Nat) ∧ List.length (llR { w := a0w, h := a0h, r := a0r, n := a0n, x := a0x, y := a0y, d := a0d }) ≤ (2000000 : Nat)) ∧ ((!llR { w := a0w, h := a0h, r := a0r, n := a0n, x := a0x, y := a0y, d := a0d } 
  == llR { w := a0w, h := a0h, r := a0r, n := a0n, x := a0x, y := a0y, d := a0d }) = true → K (V.lit false)) ∧ ((!llR { w := a0w, h := a0h, r := a0r, n := a0n, x := a0x, y := a0y, d := a0d } 
  == llR { w := a0w, h := a0h, r := a0r, n := a0n, x := a0x, y := a0y, d := a0d }) = false → ((llN { w := a0w, h := a0h, r := a0r, n := a0n, x := a0x, y := a0y, d := a0d } != llN { w := a0w, h := a0h, r := a0r, n := a0n, x := a0x, y := a0y, d := a0d }) 
  = true → K (V.lit false)) ∧ ((llN { w := a0w, h := a0h, r := a0r, n := a0n, x := a0x, y := a0y, d := a0d } != llN { w := a0w, h := a0h, r := a0r, n := a0n, x := a0x, y := a0y, d := a0d }) 
  = false → ((!womB { w := a0w, h := a0h, r := a0r, n := a0n, x := a0x, y := a0y, d := a0d } == womB { w := a0w, h := a0h, r := a0r, n := a0n, x := a0x, y := a0y, d := a0d }) = true → 
  K (V.lit false)) ∧ ((!womB { w := a0w, h := a0h, r := a0r, n := a0n, x := a0x, y := a0y, d := a0d } == womB { w := a0w, h := a0h, r := a0r, n := a0n, x := a0x, y := a0y, d := a0d }) 
  = false → At (List.length (llR { w := a0w, h := a0h, r := a0r, n := a0n, x := a0x, y := a0y, d := a0d }) = List.length (llR { w := a0w, h := a0h, r := a0r, n := a0n, x := a0x, y := a0y, d := a0d }) 
  ∧ List.length (llR { w := a0w, h := a0h, r := a0r, n := a0n, x := a0x, y := a0y, d := a0d }) ≤ (2000000 : Nat) ∧ (0 : Int) ≤ (1 : Int) ∧ (1 : Int) ≤ (10000000 : Int)) ∧ At (List.length 
  (rampS (1 : Int) (List.length (llR { w := a0w, h := a0h, r := a0r, n := a0n, x := a0x, y := a0y, d := a0d }))) = List.length (llR { w := a0w, h := a0h, r := a0r, n := a0n, x := a0x, y := a0y, d := a0d }) 
  ∧ List.length (llR { w := a0w, h := a0h, r := a0r, n := a0n, x := a0x, y := a0y, d := a0d }) ≤ (2000000 : Nat) ∧ (0 : Int) ≤ (1 : Int) ∧ (1 : Int) ≤ (10000000 : Int)) ∧ (decide ((bif 
  rampS (1 : Int) (List.length (llR { w := a0w, h := a0h, r := a0r, n := a0n, x := a0x, y := a0y, d := a0d })) == rampS (1 : Int) (List.length (llR { w := a0w, h := a0h, r := a0r, n := a0n, x := a0x, y := a0y, d := a0d })) 
  then (1 : Int) + (↑(List.length (llR { w := a0w, h := a0h, r := a0r, n := a0n, x := a0x, y := a0y, d := a0d })) : Int) else (-1 : Int)) < (0 : Int)) = true → K (V.lit false)) ∧ (decide 
  ((bif rampS (1 : Int) (List.length (llR { w := a0w, h := a0h, r := a0r, n := a0n, x := a0x, y := a0y, d := a0d })) == rampS (1 : Int) (List.length (llR { w := a0w, h := a0h, r := a0r, n := a0n, x := a0x, y := a0y, d := a0d })) 
  then (1 : Int) + (↑(List.length (llR { w := a0w, h := a0h, r := a0r, n := a0n, x := a0x, y := a0y, d := a0d })) : Int) else (-1 : Int)) < (0 : Int)) = false → (((bif rampS (1 : Int) 
  (List.length (llR { w := a0w, h := a0h, r := a0r, n := a0n, x := a0x, y := a0y, d := a0d })) == rampS (1 : Int) (List.length (llR { w := a0w, h := a0h, r := a0r, n := a0n, x := a0x, y := a0y, d := a0d })) 
  then (1 : Int) + (↑(List.length (llR { w := a0w, h := a0h, r := a0r, n := a0n, x := a0x, y := a0y, d := a0d })) : Int) else (-1 : Int)) != (1 : Int) + (↑(List.length (llR { w := a0w, h := a0h, r := a0r, n := a0n, x := a0x, y := a0y, d := a0d })) 
  : Int)) = true → K (V.lit false)) ∧ (((bif rampS (1 : Int) (List.length (llR { w := a0w, h := a0h, r := a0r, n := a0n, x := a0x, y := a0y, d := a0d })) == rampS (1 : Int) (List.length 
  (llR { w := a0w, h := a0h, r := a0r, n := a0n, x := a0x, y := a0y, d := a0d })) then (1 : Int) + (↑(List.length (llR { w := a0w, h := a0h, r := a0r, n := a0n, x := a0x, y := a0y, d := a0d })) 
  : Int) else (-1 : Int)) != (1 : Int) + (↑(List.length (llR { w := a0w, h := a0h, r := a0r, n := a0n, x := a0x, y := a0y, d := a0d })) : Int)) = false → At True ∧ At (isTs g0 g1 g2 g3 
  g4 g5) ∧ At (List.length (llR { w := a0w, h := a0h, r := a0r, n := a0n, x := a0x, y := a0y, d := a0d }) = List.length (llR { w := a0w, h := a0h, r := a0r, n := a0n, x := a0x, y := a0y, d := a0d }) 
  ∧ List.length (llR { w := a0w, h := a0h, r := a0r, n := a0n, x := a0x, y := a0y, d := a0d }) = List.length (llR { w := a0w, h := a0h, r := a0r, n := a0n, x := a0x, y := a0y, d := a0d }) 
  ∧ List.length (llR { w := a0w, h := a0h, r := a0r, n := a0n, x := a0x, y := a0y, d := a0d }) ≤ (2000000 : Nat) ∧ List.length (llR { w := a0w, h := a0h, r := a0r, n := a0n, x := a0x, y := a0y, d := a0d }) 
  ≤ (2000000 : Nat)) ∧ ((!llR { w := a0w, h := a0h, r := a0r, n := a0n, x := a0x, y := a0y, d := a0d } == llR { w := a0w, h := a0h, r := a0r, n := a0n, x := a0x, y := a0y, d := a0d }) 
  = true → K (V.lit false)) ∧ ((!llR { w := a0w, h := a0h, r := a0r, n := a0n, x := a0x, y := a0y, d := a0d } == llR { w := a0w, h := a0h, r := a0r, n := a0n, x := a0x, y := a0y, d := a0d }) 
  = false → ((llN { w := a0w, h := a0h, r := a0r, n := a0n, x := a0x, y := a0y, d := a0d } != llN { w := a0w, h := a0h, r := a0r, n := a0n, x := a0x, y := a0y, d := a0d }) = true → K 
  (V.lit false)) ∧ ((llN { w := a0w, h := a0h, r := a0r, n := a0n, x := a0x, y := a0y, d := a0d } != llN { w := a0w, h := a0h, r := a0r, n := a0n, x := a0x, y := a0y, d := a0d }) = false 
  → ((!womB { w := a0w, h := a0h, r := a0r, n := a0n, x := a0x, y := a0y, d := a0d } == womB { w := a0w, h := a0h, r := a0r, n := a0n, x := a0x, y := a0y, d := a0d }) = true → K (V.lit 
  false)) ∧ ((!womB { w := a0w, h := a0h, r := a0r, n := a0n, x := a0x, y := a0y, d := a0d } == womB { w := a0w, h := a0h, r := a0r, n := a0n, x := a0x, y := a0y, d := a0d }) = false 
  → At (List.length (rampS (1 : Int) (List.length (llR { w := a0w, h := a0h, r := a0r, n := a0n, x := a0x, y := a0y, d := a0d }))) = List.length (llR { w := a0w, h := a0h, r := a0r, n := a0n, x := a0x, y := a0y, d := a0d }) 
  ∧ List.length (llR { w := a0w, h := a0h, r := a0r, n := a0n, x := a0x, y := a0y, d := a0d }) ≤ (2000000 : Nat) ∧ (0 : Int) ≤ (1 : Int) ∧ (1 : Int) ≤ (10000000 : Int)) ∧ (decide ((bif 
  rampS (1 : Int) (List.length (llR { w := a0w, h := a0h, r := a0r, n := a0n, x := a0x, y := a0y, d := a0d })) == rampS (1 : Int) (List.length (llR { w := a0w, h := a0h, r := a0r, n := a0n, x := a0x, y := a0y, d := a0d })) 
  then (1 : Int) + (↑(List.length (llR { w := a0w, h := a0h, r := a0r, n := a0n, x := a0x, y := a0y, d := a0d })) : Int) else (-1 : Int)) < (0 : Int)) = true → K (V.lit false)) ∧ (decide 
  ((bif rampS (1 : Int) (List.length (llR { w := a0w, h := a0h, r := a0r, n := a0n, x := a0x, y := a0y, d := a0d })) == rampS (1 : Int) (List.length (llR { w := a0w, h := a0h, r := a0r, n := a0n, x := a0x, y := a0y, d := a0d })) 
  then (1 : Int) + (↑(List.length (llR { w := a0w, h := a0h, r := a0r, n := a0n, x := a0x, y := a0y, d := a0d })) : Int) else (-1 : Int)) < (0 : Int)) = false → (((bif rampS (1 : Int) 
  (List.length (llR { w := a0w, h := a0h, r := a0r, n := a0n, x := a0x, y := a0y, d := a0d })) == rampS (1 : Int) (List.length (llR { w := a0w, h := a0h, r := a0r, n := a0n, x := a0x, y := a0y, d := a0d })) 
  then (1 : Int) + (↑(List.length (llR { w := a0w, h := a0h, r := a0r, n := a0n, x := a0x, y := a0y, d := a0d })) : Int) else (-1 : Int)) != (1 : Int) + (↑(List.length (llR { w := a0w, h := a0h, r := a0r, n := a0n, x := a0x, y := a0y, d := a0d })) 
  : Int)) = true → K (V.lit false)) ∧ (((bif rampS (1 : Int) (List.length (llR { w := a0w, h := a0h, r := a0r, n := a0n, x := a0x, y := a0y, d := a0d })) == rampS (1 : Int) (List.length 
  (llR { w := a0w, h := a0h, r := a0r, n := a0n, x := a0x, y := a0y, d := a0d })) then (1 : Int) + (↑(List.length (llR { w := a0w, h := a0h, r := a0r, n := a0n, x := a0x, y := a0y, d := a0d })) 
  : Int) else (-1 : Int)) != (1 : Int) + (↑(List.length (llR { w := a0w, h := a0h, r := a0r, n := a0n, x := a0x, y := a0y, d := a0d })) : Int)) = false → K (V.lit true))))))))))))

theorem vc_LawLongestLife (a0w : Int) (a0h : Int) (a0r : List UInt8) (a0n : List UInt8) (a0x : Int) (a0y : Int) (a0d : Int) (g0 g1 g2 g3 g4 g5 : List UInt8) (ha0w : -9223372036854775808 ≤ a0w ∧ a0w ≤ 9223372036854775807) (ha0h : -9223372036854775808 ≤ a0h ∧ a0h ≤ 9223372036854775807) (ha0r : (a0r.length : Int) ≤ 9223372036854775807) (ha0n : (a0n.length : Int) ≤ 9223372036854775807) (ha0x : -9223372036854775808 ≤ a0x ∧ a0x ≤ 9223372036854775807) (ha0y : -9223372036854775808 ≤ a0y ∧ a0y ≤ 9223372036854775807) (ha0d : -9223372036854775808 ≤ a0d ∧ a0d ≤ 9223372036854775807) (hg : isTs g0 g1 g2 g3 g4 g5) : VC_LawLongestLife a0w a0h a0r a0n a0x a0y a0d g0 g1 g2 g3 g4 g5 (retP (.bool true)) := by
  unfold VC_LawLongestLife
  have hl := llR_len ⟨a0w, a0h, a0r, a0n, a0x, a0y, a0d⟩
  simp [retP_lit, rampS_len, hl, ha0r, ha0n, hg]
  intros
  omega
end Go.Vi
