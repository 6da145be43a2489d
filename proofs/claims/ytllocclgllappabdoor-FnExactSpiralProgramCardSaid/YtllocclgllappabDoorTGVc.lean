/- The conditions, reckoned out by program: texts alone. -/
import Derived.Test.YtllocclgllappabDoorTGDefs
namespace Go.Vi
set_option linter.unusedVariables false
def VC_spec_l1Num (n : Int) (K : V → Prop) : Prop :=
  (decide (n < (10 : Int)) = true →
    At
        (∀ (n_1 : Int),
          n_1 ∈ [IntKind.wrap IntKind.u8 (IntKind.wrap IntKind.i64 ((48 : Int) + n))] →
            (0 : Int) ≤ n_1 ∧ n_1 < (256 : Int)) ∧
      At
          ((1 : Nat) ≤
            List.length
              (List.map (fun (n : Int) ↦ UInt8.ofNat (Int.toNat n))
                [IntKind.wrap IntKind.u8 (IntKind.wrap IntKind.i64 ((48 : Int) + n))])) ∧
        K
          (V.str
            (List.take (1 : Nat)
              (List.map (fun (n : Int) ↦ UInt8.ofNat (Int.toNat n))
                [IntKind.wrap IntKind.u8 (IntKind.wrap IntKind.i64 ((48 : Int) + n))])))) ∧
  (decide (n < (10 : Int)) = false →
    At ((10 : Int) ≠ (0 : Int)) ∧
      At ((10 : Int) ≠ (0 : Int)) ∧
        False ∧
          (False ∧
              (At
                    (∀ (n_1 : Int),
                      n_1 ∈ [IntKind.wrap IntKind.u8 (IntKind.wrap IntKind.i64 ((48 : Int) + Int.tmod n (10 : Int)))] →
                        (0 : Int) ≤ n_1 ∧ n_1 < (256 : Int)) ∧
                  False ∧
                    (At
                          ((1 : Nat) ≤
                            List.length
                              (List.map (fun (n : Int) ↦ UInt8.ofNat (Int.toNat n))
                                [IntKind.wrap IntKind.u8
                                    (IntKind.wrap IntKind.i64 ((48 : Int) + Int.tmod n (10 : Int)))])) ∧
                        False ∧ True) ∧
                      True) ∧
                True) ∧
            True)

def VC_strconv_small (n : Int) (K : V → Prop) : Prop :=
  (decide (n < (10 : Int)) = true →
    At
        ((0 : Int) ≤ n ∧
          n ≤ IntKind.wrap IntKind.i64 (n + (1 : Int)) ∧
            IntKind.wrap IntKind.i64 (n + (1 : Int)) ≤
              (↑(List.length
                    (Array.toList
                      #[(48 : UInt8), (49 : UInt8), (50 : UInt8), (51 : UInt8), (52 : UInt8), (53 : UInt8),
                        (54 : UInt8), (55 : UInt8), (56 : UInt8), (57 : UInt8), (97 : UInt8), (98 : UInt8),
                        (99 : UInt8), (100 : UInt8), (101 : UInt8), (102 : UInt8), (103 : UInt8), (104 : UInt8),
                        (105 : UInt8), (106 : UInt8), (107 : UInt8), (108 : UInt8), (109 : UInt8), (110 : UInt8),
                        (111 : UInt8), (112 : UInt8), (113 : UInt8), (114 : UInt8), (115 : UInt8), (116 : UInt8),
                        (117 : UInt8), (118 : UInt8), (119 : UInt8), (120 : UInt8), (121 : UInt8), (122 : UInt8)])) :
                Int)) ∧
      K
        (V.str
          (List.drop (Int.toNat n)
            (List.take (Int.toNat (IntKind.wrap IntKind.i64 (n + (1 : Int))))
              (Array.toList
                #[(48 : UInt8), (49 : UInt8), (50 : UInt8), (51 : UInt8), (52 : UInt8), (53 : UInt8), (54 : UInt8),
                  (55 : UInt8), (56 : UInt8), (57 : UInt8), (97 : UInt8), (98 : UInt8), (99 : UInt8), (100 : UInt8),
                  (101 : UInt8), (102 : UInt8), (103 : UInt8), (104 : UInt8), (105 : UInt8), (106 : UInt8),
                  (107 : UInt8), (108 : UInt8), (109 : UInt8), (110 : UInt8), (111 : UInt8), (112 : UInt8),
                  (113 : UInt8), (114 : UInt8), (115 : UInt8), (116 : UInt8), (117 : UInt8), (118 : UInt8),
                  (119 : UInt8), (120 : UInt8), (121 : UInt8), (122 : UInt8)]))))) ∧
  (decide (n < (10 : Int)) = false →
    At
        ((0 : Int) ≤ IntKind.wrap IntKind.i64 (n * (2 : Int)) ∧
          IntKind.wrap IntKind.i64 (n * (2 : Int)) ≤
              IntKind.wrap IntKind.i64 (IntKind.wrap IntKind.i64 (n * (2 : Int)) + (2 : Int)) ∧
            IntKind.wrap IntKind.i64 (IntKind.wrap IntKind.i64 (n * (2 : Int)) + (2 : Int)) ≤
              (↑(List.length
                    (Array.toList
                      (List.toArray
                        (List.append
                          (List.append
                            [(48 : UInt8), (48 : UInt8), (48 : UInt8), (49 : UInt8), (48 : UInt8), (50 : UInt8),
                              (48 : UInt8), (51 : UInt8), (48 : UInt8), (52 : UInt8), (48 : UInt8), (53 : UInt8),
                              (48 : UInt8), (54 : UInt8), (48 : UInt8), (55 : UInt8), (48 : UInt8), (56 : UInt8),
                              (48 : UInt8), (57 : UInt8), (49 : UInt8), (48 : UInt8), (49 : UInt8), (49 : UInt8),
                              (49 : UInt8), (50 : UInt8), (49 : UInt8), (51 : UInt8), (49 : UInt8), (52 : UInt8),
                              (49 : UInt8), (53 : UInt8), (49 : UInt8), (54 : UInt8), (49 : UInt8), (55 : UInt8),
                              (49 : UInt8), (56 : UInt8), (49 : UInt8), (57 : UInt8), (50 : UInt8), (48 : UInt8),
                              (50 : UInt8), (49 : UInt8), (50 : UInt8), (50 : UInt8), (50 : UInt8), (51 : UInt8),
                              (50 : UInt8), (52 : UInt8)]
                            [(50 : UInt8), (53 : UInt8), (50 : UInt8), (54 : UInt8), (50 : UInt8), (55 : UInt8),
                              (50 : UInt8), (56 : UInt8), (50 : UInt8), (57 : UInt8), (51 : UInt8), (48 : UInt8),
                              (51 : UInt8), (49 : UInt8), (51 : UInt8), (50 : UInt8), (51 : UInt8), (51 : UInt8),
                              (51 : UInt8), (52 : UInt8), (51 : UInt8), (53 : UInt8), (51 : UInt8), (54 : UInt8),
                              (51 : UInt8), (55 : UInt8), (51 : UInt8), (56 : UInt8), (51 : UInt8), (57 : UInt8),
                              (52 : UInt8), (48 : UInt8), (52 : UInt8), (49 : UInt8), (52 : UInt8), (50 : UInt8),
                              (52 : UInt8), (51 : UInt8), (52 : UInt8), (52 : UInt8), (52 : UInt8), (53 : UInt8),
                              (52 : UInt8), (54 : UInt8), (52 : UInt8), (55 : UInt8), (52 : UInt8), (56 : UInt8),
                              (52 : UInt8), (57 : UInt8)])
                          (List.append
                            [(53 : UInt8), (48 : UInt8), (53 : UInt8), (49 : UInt8), (53 : UInt8), (50 : UInt8),
                              (53 : UInt8), (51 : UInt8), (53 : UInt8), (52 : UInt8), (53 : UInt8), (53 : UInt8),
                              (53 : UInt8), (54 : UInt8), (53 : UInt8), (55 : UInt8), (53 : UInt8), (56 : UInt8),
                              (53 : UInt8), (57 : UInt8), (54 : UInt8), (48 : UInt8), (54 : UInt8), (49 : UInt8),
                              (54 : UInt8), (50 : UInt8), (54 : UInt8), (51 : UInt8), (54 : UInt8), (52 : UInt8),
                              (54 : UInt8), (53 : UInt8), (54 : UInt8), (54 : UInt8), (54 : UInt8), (55 : UInt8),
                              (54 : UInt8), (56 : UInt8), (54 : UInt8), (57 : UInt8), (55 : UInt8), (48 : UInt8),
                              (55 : UInt8), (49 : UInt8), (55 : UInt8), (50 : UInt8), (55 : UInt8), (51 : UInt8),
                              (55 : UInt8), (52 : UInt8)]
                            [(55 : UInt8), (53 : UInt8), (55 : UInt8), (54 : UInt8), (55 : UInt8), (55 : UInt8),
                              (55 : UInt8), (56 : UInt8), (55 : UInt8), (57 : UInt8), (56 : UInt8), (48 : UInt8),
                              (56 : UInt8), (49 : UInt8), (56 : UInt8), (50 : UInt8), (56 : UInt8), (51 : UInt8),
                              (56 : UInt8), (52 : UInt8), (56 : UInt8), (53 : UInt8), (56 : UInt8), (54 : UInt8),
                              (56 : UInt8), (55 : UInt8), (56 : UInt8), (56 : UInt8), (56 : UInt8), (57 : UInt8),
                              (57 : UInt8), (48 : UInt8), (57 : UInt8), (49 : UInt8), (57 : UInt8), (50 : UInt8),
                              (57 : UInt8), (51 : UInt8), (57 : UInt8), (52 : UInt8), (57 : UInt8), (53 : UInt8),
                              (57 : UInt8), (54 : UInt8), (57 : UInt8), (55 : UInt8), (57 : UInt8), (56 : UInt8),
                              (57 : UInt8), (57 : UInt8)]))))) :
                Int)) ∧
      K
        (V.str
          (List.drop (Int.toNat (IntKind.wrap IntKind.i64 (n * (2 : Int))))
            (List.take (Int.toNat (IntKind.wrap IntKind.i64 (IntKind.wrap IntKind.i64 (n * (2 : Int)) + (2 : Int))))
              (Array.toList
                (List.toArray
                  (List.append
                    (List.append
                      [(48 : UInt8), (48 : UInt8), (48 : UInt8), (49 : UInt8), (48 : UInt8), (50 : UInt8), (48 : UInt8),
                        (51 : UInt8), (48 : UInt8), (52 : UInt8), (48 : UInt8), (53 : UInt8), (48 : UInt8),
                        (54 : UInt8), (48 : UInt8), (55 : UInt8), (48 : UInt8), (56 : UInt8), (48 : UInt8),
                        (57 : UInt8), (49 : UInt8), (48 : UInt8), (49 : UInt8), (49 : UInt8), (49 : UInt8),
                        (50 : UInt8), (49 : UInt8), (51 : UInt8), (49 : UInt8), (52 : UInt8), (49 : UInt8),
                        (53 : UInt8), (49 : UInt8), (54 : UInt8), (49 : UInt8), (55 : UInt8), (49 : UInt8),
                        (56 : UInt8), (49 : UInt8), (57 : UInt8), (50 : UInt8), (48 : UInt8), (50 : UInt8),
                        (49 : UInt8), (50 : UInt8), (50 : UInt8), (50 : UInt8), (51 : UInt8), (50 : UInt8),
                        (52 : UInt8)]
                      [(50 : UInt8), (53 : UInt8), (50 : UInt8), (54 : UInt8), (50 : UInt8), (55 : UInt8), (50 : UInt8),
                        (56 : UInt8), (50 : UInt8), (57 : UInt8), (51 : UInt8), (48 : UInt8), (51 : UInt8),
                        (49 : UInt8), (51 : UInt8), (50 : UInt8), (51 : UInt8), (51 : UInt8), (51 : UInt8),
                        (52 : UInt8), (51 : UInt8), (53 : UInt8), (51 : UInt8), (54 : UInt8), (51 : UInt8),
                        (55 : UInt8), (51 : UInt8), (56 : UInt8), (51 : UInt8), (57 : UInt8), (52 : UInt8),
                        (48 : UInt8), (52 : UInt8), (49 : UInt8), (52 : UInt8), (50 : UInt8), (52 : UInt8),
                        (51 : UInt8), (52 : UInt8), (52 : UInt8), (52 : UInt8), (53 : UInt8), (52 : UInt8),
                        (54 : UInt8), (52 : UInt8), (55 : UInt8), (52 : UInt8), (56 : UInt8), (52 : UInt8),
                        (57 : UInt8)])
                    (List.append
                      [(53 : UInt8), (48 : UInt8), (53 : UInt8), (49 : UInt8), (53 : UInt8), (50 : UInt8), (53 : UInt8),
                        (51 : UInt8), (53 : UInt8), (52 : UInt8), (53 : UInt8), (53 : UInt8), (53 : UInt8),
                        (54 : UInt8), (53 : UInt8), (55 : UInt8), (53 : UInt8), (56 : UInt8), (53 : UInt8),
                        (57 : UInt8), (54 : UInt8), (48 : UInt8), (54 : UInt8), (49 : UInt8), (54 : UInt8),
                        (50 : UInt8), (54 : UInt8), (51 : UInt8), (54 : UInt8), (52 : UInt8), (54 : UInt8),
                        (53 : UInt8), (54 : UInt8), (54 : UInt8), (54 : UInt8), (55 : UInt8), (54 : UInt8),
                        (56 : UInt8), (54 : UInt8), (57 : UInt8), (55 : UInt8), (48 : UInt8), (55 : UInt8),
                        (49 : UInt8), (55 : UInt8), (50 : UInt8), (55 : UInt8), (51 : UInt8), (55 : UInt8),
                        (52 : UInt8)]
                      [(55 : UInt8), (53 : UInt8), (55 : UInt8), (54 : UInt8), (55 : UInt8), (55 : UInt8), (55 : UInt8),
                        (56 : UInt8), (55 : UInt8), (57 : UInt8), (56 : UInt8), (48 : UInt8), (56 : UInt8),
                        (49 : UInt8), (56 : UInt8), (50 : UInt8), (56 : UInt8), (51 : UInt8), (56 : UInt8),
                        (52 : UInt8), (56 : UInt8), (53 : UInt8), (56 : UInt8), (54 : UInt8), (56 : UInt8),
                        (55 : UInt8), (56 : UInt8), (56 : UInt8), (56 : UInt8), (57 : UInt8), (57 : UInt8),
                        (48 : UInt8), (57 : UInt8), (49 : UInt8), (57 : UInt8), (50 : UInt8), (57 : UInt8),
                        (51 : UInt8), (57 : UInt8), (52 : UInt8), (57 : UInt8), (53 : UInt8), (57 : UInt8),
                        (54 : UInt8), (57 : UInt8), (55 : UInt8), (57 : UInt8), (56 : UInt8), (57 : UInt8),
                        (57 : UInt8)]))))))))

def VC_impl_programOf (n : Nat) (c : List Sc) (K : V → List Blk → Prop) : Prop := (True ∧ (((1 : Nat) = (1 : Nat) ∧ (0 : Nat) = (0 : Nat)) ∧ ((0 : Nat) = (0 : Nat) ∧ n = n) ∧ (True ∧ (↑n : Int) = (↑n : Int)) ∧ (True ∧ (0 : Int) = (0 : Int)) ∧ True) ∧ ((True ∧ True ∧ c = c) ∧ (True ∧ nilB = prS (List.take (Int.toNat (0 : Int) * (2 : Nat)) c)) ∧ True) ∧ True) ∧ At (ixN n (0 : Int)) ∧ ∀ (a : Int), ixN n a → (decide (a < (↑n : Int)) = true → At ((0 : Int) ≤ a ∧ a < (↑n : Int)) ∧ At (Int.toNat a * (2 : Nat) + (2 : Nat) ≤ List.length c ∧ Int.toNat a * (2 : Nat) % (2 : Nat) = (0 : Nat)) ∧ (decide (Sc.i (List.getD c (Int.toNat a * (2 : Nat)) (Sc.mk ((0 : Int)) ([]))) < (0 : Int)) = true → At (∀ (n : Int), n ∈ [(45 : Int)] → (0 : Int) ≤ n ∧ n < (256 : Int)) ∧ At ((List.length (prS (List.take (Int.toNat a * (2 : Nat)) c)) = (2 : Nat) * Int.toNat a * (1 : Nat) ∧ (1 : Nat) * (1 : Nat) ≤ List.length (List.map (fun (n : Int) ↦ UInt8.ofNat (Int.toNat n)) [(45 : Int)])) ∧ (0 : Nat) < (1 : Nat) ∧ (2 : Nat) * Int.toNat a + (1 : Nat) ≤ (1000000000 : Nat)) ∧ (((10 : Int) == (10 : Int)) = true → (decide (IntKind.wrap IntKind.u64 ((0 : Int) - IntKind.wrap IntKind.u64 (Sc.i (List.getD c (Int.toNat a * (2 : Nat)) (Sc.mk ((0 : Int)) ([]))))) < (100 : Int)) = true → At ((0 : Int) ≤ IntKind.wrap IntKind.i64 (IntKind.wrap IntKind.u64 ((0 : Int) - IntKind.wrap IntKind.u64 (Sc.i (List.getD c (Int.toNat a * (2 : Nat)) (Sc.mk ((0 : Int)) ([])))))) ∧ IntKind.wrap IntKind.i64 (IntKind.wrap IntKind.u64 ((0 : Int) - IntKind.wrap IntKind.u64 (Sc.i (List.getD c (Int.toNat a * (2 : Nat)) (Sc.mk ((0 : Int)) ([])))))) ≤ (9 : Int)) ∧ At (List.length (prS (List.take (Int.toNat a * (2 : Nat)) c) ++ List.take ((1 : Nat) * (1 : Nat)) (List.map (fun (n : Int) ↦ UInt8.ofNat (Int.toNat n)) [(45 : Int)])) = (2 : Nat) * Int.toNat a + (1 : Nat) ∧ (0 : Nat) < List.length (num1 (IntKind.wrap IntKind.i64 (IntKind.wrap IntKind.u64 ((0 : Int) - IntKind.wrap IntKind.u64 (Sc.i (List.getD c (Int.toNat a * (2 : Nat)) (Sc.mk ((0 : Int)) ([])))))))) ∧ (2 : Nat) * Int.toNat a + (1 : Nat) + List.length (num1 (IntKind.wrap IntKind.i64 (IntKind.wrap IntKind.u64 ((0 : Int) - IntKind.wrap IntKind.u64 (Sc.i (List.getD c (Int.toNat a * (2 : Nat)) (Sc.mk ((0 : Int)) ([])))))))) ≤ (1000000000 : Nat)) ∧ At (∀ (n : Int), n ∈ [Sc.i (List.getD c (Int.toNat a * (2 : Nat) + (1 : Nat)) (Sc.mk ((0 : Int)) ([])))] → (0 : Int) ≤ n ∧ n < (256 : Int)) ∧ At ((List.length (prS (List.take (Int.toNat a * (2 : Nat)) c) ++ List.take ((1 : Nat) * (1 : Nat)) (List.map (fun (n : Int) ↦ UInt8.ofNat (Int.toNat n)) [(45 : Int)]) ++ num1 (IntKind.wrap IntKind.i64 (IntKind.wrap IntKind.u64 ((0 : Int) - IntKind.wrap IntKind.u64 (Sc.i (List.getD c (Int.toNat a * (2 : Nat)) (Sc.mk ((0 : Int)) ([])))))))) = ((2 : Nat) * Int.toNat a + (1 : Nat) + List.length (num1 (IntKind.wrap IntKind.i64 (IntKind.wrap IntKind.u64 ((0 : Int) - IntKind.wrap IntKind.u64 (Sc.i (List.getD c (Int.toNat a * (2 : Nat)) (Sc.mk ((0 : Int)) ([]))))))))) * (1 : Nat) ∧ (1 : Nat) * (1 : Nat) ≤ List.length (List.map (fun (n : Int) ↦ UInt8.ofNat (Int.toNat n)) [Sc.i (List.getD c (Int.toNat a * (2 : Nat) + (1 : Nat)) (Sc.mk ((0 : Int)) ([])))])) ∧ (0 : Nat) < (1 : Nat) ∧ (2 : Nat) * Int.toNat a + (1 : Nat) + List.length (num1 (IntKind.wrap IntKind.i64 (IntKind.wrap IntKind.u64 ((0 : Int) - IntKind.wrap IntKind.u64 (Sc.i (List.getD c (Int.toNat a * (2 : Nat)) (Sc.mk ((0 : Int)) ([])))))))) + (1 : Nat) ≤ (1000000000 : Nat)) ∧ (True ∧ (((1 : Nat) = (1 : Nat) ∧ (2 : Nat) * Int.toNat a + (1 : Nat) + List.length (num1 (IntKind.wrap IntKind.i64 (IntKind.wrap IntKind.u64 ((0 : Int) - IntKind.wrap IntKind.u64 (Sc.i (List.getD c (Int.toNat a * (2 : Nat)) (Sc.mk ((0 : Int)) ([])))))))) + (1 : Nat) = (2 : Nat) * Int.toNat (IntKind.wrap IntKind.i64 (a + (1 : Int)))) ∧ ((0 : Nat) = (0 : Nat) ∧ n = n) ∧ (True ∧ (↑n : Int) = (↑n : Int)) ∧ (True ∧ IntKind.wrap IntKind.i64 (a + (1 : Int)) = IntKind.wrap IntKind.i64 (a + (1 : Int))) ∧ True) ∧ ((True ∧ True ∧ c = c) ∧ (True ∧ prS (List.take (Int.toNat a * (2 : Nat)) c) ++ List.take ((1 : Nat) * (1 : Nat)) (List.map (fun (n : Int) ↦ UInt8.ofNat (Int.toNat n)) [(45 : Int)]) ++ num1 (IntKind.wrap IntKind.i64 (IntKind.wrap IntKind.u64 ((0 : Int) - IntKind.wrap IntKind.u64 (Sc.i (List.getD c (Int.toNat a * (2 : Nat)) (Sc.mk ((0 : Int)) ([]))))))) ++ List.take ((1 : Nat) * (1 : Nat)) (List.map (fun (n : Int) ↦ UInt8.ofNat (Int.toNat n)) [Sc.i (List.getD c (Int.toNat a * (2 : Nat) + (1 : Nat)) (Sc.mk ((0 : Int)) ([])))]) = prS (List.take (Int.toNat (IntKind.wrap IntKind.i64 (a + (1 : Int))) * (2 : Nat)) c)) ∧ True) ∧ True) ∧ At (ixN n (IntKind.wrap IntKind.i64 (a + (1 : Int))) ∧ Int.toNat ((↑n : Int) - IntKind.wrap IntKind.i64 (a + (1 : Int))) < Int.toNat ((↑n : Int) - a))) ∧ (decide (IntKind.wrap IntKind.u64 ((0 : Int) - IntKind.wrap IntKind.u64 (Sc.i (List.getD c (Int.toNat a * (2 : Nat)) (Sc.mk ((0 : Int)) ([]))))) < (100 : Int)) = false → False)) ∧ (((10 : Int) == (10 : Int)) = false → (decide ((10 : Int) < (2 : Int)) = true → False) ∧ (decide ((10 : Int) < (2 : Int)) = false → (((10 : Int) == (10 : Int)) = true → False) ∧ (((10 : Int) == (10 : Int)) = false → (decide ((10 : Int) > (36 : Int)) = true → False) ∧ (decide ((10 : Int) > (36 : Int)) = false → False))))) ∧ (decide (Sc.i (List.getD c (Int.toNat a * (2 : Nat)) (Sc.mk ((0 : Int)) ([]))) < (0 : Int)) = false → (((10 : Int) == (10 : Int)) = true → (decide (IntKind.wrap IntKind.u64 (Sc.i (List.getD c (Int.toNat a * (2 : Nat)) (Sc.mk ((0 : Int)) ([])))) < (100 : Int)) = true → At ((0 : Int) ≤ IntKind.wrap IntKind.i64 (IntKind.wrap IntKind.u64 (Sc.i (List.getD c (Int.toNat a * (2 : Nat)) (Sc.mk ((0 : Int)) ([]))))) ∧ IntKind.wrap IntKind.i64 (IntKind.wrap IntKind.u64 (Sc.i (List.getD c (Int.toNat a * (2 : Nat)) (Sc.mk ((0 : Int)) ([]))))) ≤ (9 : Int)) ∧ At (List.length (prS (List.take (Int.toNat a * (2 : Nat)) c)) = (2 : Nat) * Int.toNat a ∧ (0 : Nat) < List.length (num1 (IntKind.wrap IntKind.i64 (IntKind.wrap IntKind.u64 (Sc.i (List.getD c (Int.toNat a * (2 : Nat)) (Sc.mk ((0 : Int)) ([]))))))) ∧ (2 : Nat) * Int.toNat a + List.length (num1 (IntKind.wrap IntKind.i64 (IntKind.wrap IntKind.u64 (Sc.i (List.getD c (Int.toNat a * (2 : Nat)) (Sc.mk ((0 : Int)) ([]))))))) ≤ (1000000000 : Nat)) ∧ At (∀ (n : Int), n ∈ [Sc.i (List.getD c (Int.toNat a * (2 : Nat) + (1 : Nat)) (Sc.mk ((0 : Int)) ([])))] → (0 : Int) ≤ n ∧ n < (256 : Int)) ∧ At ((List.length (prS (List.take (Int.toNat a * (2 : Nat)) c) ++ num1 (IntKind.wrap IntKind.i64 (IntKind.wrap IntKind.u64 (Sc.i (List.getD c (Int.toNat a * (2 : Nat)) (Sc.mk ((0 : Int)) ([]))))))) = ((2 : Nat) * Int.toNat a + List.length (num1 (IntKind.wrap IntKind.i64 (IntKind.wrap IntKind.u64 (Sc.i (List.getD c (Int.toNat a * (2 : Nat)) (Sc.mk ((0 : Int)) ([])))))))) * (1 : Nat) ∧ (1 : Nat) * (1 : Nat) ≤ List.length (List.map (fun (n : Int) ↦ UInt8.ofNat (Int.toNat n)) [Sc.i (List.getD c (Int.toNat a * (2 : Nat) + (1 : Nat)) (Sc.mk ((0 : Int)) ([])))])) ∧ (0 : Nat) < (1 : Nat) ∧ (2 : Nat) * Int.toNat a + List.length (num1 (IntKind.wrap IntKind.i64 (IntKind.wrap IntKind.u64 (Sc.i (List.getD c (Int.toNat a * (2 : Nat)) (Sc.mk ((0 : Int)) ([]))))))) + (1 : Nat) ≤ (1000000000 : Nat)) ∧ (True ∧ (((1 : Nat) = (1 : Nat) ∧ (2 : Nat) * Int.toNat a + List.length (num1 (IntKind.wrap IntKind.i64 (IntKind.wrap IntKind.u64 (Sc.i (List.getD c (Int.toNat a * (2 : Nat)) (Sc.mk ((0 : Int)) ([]))))))) + (1 : Nat) = (2 : Nat) * Int.toNat (IntKind.wrap IntKind.i64 (a + (1 : Int)))) ∧ ((0 : Nat) = (0 : Nat) ∧ n = n) ∧ (True ∧ (↑n : Int) = (↑n : Int)) ∧ (True ∧ IntKind.wrap IntKind.i64 (a + (1 : Int)) = IntKind.wrap IntKind.i64 (a + (1 : Int))) ∧ True) ∧ ((True ∧ True ∧ c = c) ∧ (True ∧ prS (List.take (Int.toNat a * (2 : Nat)) c) ++ num1 (IntKind.wrap IntKind.i64 (IntKind.wrap IntKind.u64 (Sc.i (List.getD c (Int.toNat a * (2 : Nat)) (Sc.mk ((0 : Int)) ([])))))) ++ List.take ((1 : Nat) * (1 : Nat)) (List.map (fun (n : Int) ↦ UInt8.ofNat (Int.toNat n)) [Sc.i (List.getD c (Int.toNat a * (2 : Nat) + (1 : Nat)) (Sc.mk ((0 : Int)) ([])))]) = prS (List.take (Int.toNat (IntKind.wrap IntKind.i64 (a + (1 : Int))) * (2 : Nat)) c)) ∧ True) ∧ True) ∧ At (ixN n (IntKind.wrap IntKind.i64 (a + (1 : Int))) ∧ Int.toNat ((↑n : Int) - IntKind.wrap IntKind.i64 (a + (1 : Int))) < Int.toNat ((↑n : Int) - a))) ∧ (decide (IntKind.wrap IntKind.u64 (Sc.i (List.getD c (Int.toNat a * (2 : Nat)) (Sc.mk ((0 : Int)) ([])))) < (100 : Int)) = false → False)) ∧ (((10 : Int) == (10 : Int)) = false → (decide ((10 : Int) < (2 : Int)) = true → False) ∧ (decide ((10 : Int) < (2 : Int)) = false → (((10 : Int) == (10 : Int)) = true → False) ∧ (((10 : Int) == (10 : Int)) = false → (decide ((10 : Int) > (36 : Int)) = true → False) ∧ (decide ((10 : Int) > (36 : Int)) = false → False)))))) ∧ (decide (a < (↑n : Int)) = false → At ((2 : Nat) * Int.toNat a ≤ List.length (prS (List.take (Int.toNat a * (2 : Nat)) c))) ∧ K (V.str (List.take ((2 : Nat) * Int.toNat a) (prS (List.take (Int.toNat a * (2 : Nat)) c)))) [{ cs := Cells.recs [Sh.int IntKind.i64, Sh.int IntKind.u8] c, elem := 38, kind := Kind.rows (2 : Nat) }, { cs := Cells.bytes (prS (List.take (Int.toNat a * (2 : Nat)) c)), elem := 5, kind := Kind.row }]) 

def VC_impl_part (n : Nat) (c : List Sc) (K : V → List Blk → Prop) : Prop := ((((0 : Nat) = (0 : Nat) ∧ n = n) ∧ (True ∧ (0 : Int) = (0 : Int)) ∧ (True ∧ IntKind.wrap IntKind.i64 ((↑n : Int) - (1 : Int)) = (↑n : Int) - (1 : Int) - (0 : Int)) ∧ True) ∧ ((True ∧ True ∧ c = swC c n (Int.toNat (0 : Int))) ∧ True) ∧ True) ∧ At (rvInv n (0 : Int)) ∧ ∀ (a : Int), rvInv n a → (decide (a < (↑n : Int) - (1 : Int) - a) = true → At ((0 : Int) ≤ (↑n : Int) - (1 : Int) - a ∧ (↑n : Int) - (1 : Int) - a < (↑n : Int)) ∧ At ((0 : Int) ≤ a ∧ a < (↑n : Int)) ∧ At (Int.toNat ((↑n : Int) - (1 : Int) - a) * (2 : Nat) + (2 : Nat) ≤ List.length (swC c n (Int.toNat a)) ∧ Int.toNat ((↑n : Int) - (1 : Int) - a) * (2 : Nat) % (2 : Nat) = (0 : Nat)) ∧ At (Int.toNat a * (2 : Nat) + (2 : Nat) ≤ List.length (swC c n (Int.toNat a)) ∧ Int.toNat a * (2 : Nat) % (2 : Nat) = (0 : Nat)) ∧ At ((0 : Int) ≤ a ∧ a < (↑n : Int)) ∧ (At (Int.toNat a * (2 : Nat) + (2 : Nat) ≤ List.length (swC c n (Int.toNat a)) ∧ Int.toNat a * (2 : Nat) % (2 : Nat) = (0 : Nat)) ∧ At ((0 : Int) ≤ (↑n : Int) - (1 : Int) - a ∧ (↑n : Int) - (1 : Int) - a < (↑n : Int)) ∧ (At (Int.toNat ((↑n : Int) - (1 : Int) - a) * (2 : Nat) + (2 : Nat) ≤ List.length (setScs (swC c n (Int.toNat a)) (Int.toNat a * (2 : Nat)) [(Sc.mk (Sc.i (List.getD (swC c n (Int.toNat a)) (Int.toNat ((↑n : Int) - (1 : Int) - a) * (2 : Nat)) (Sc.mk ((0 : Int)) ([])))
) ([])), (Sc.mk (Sc.i (List.getD (swC c n (Int.toNat a)) (Int.toNat ((↑n : Int) - (1 : Int) - a) * (2 : Nat) + (1 : Nat)) (Sc.mk ((0 : Int)) ([])))
) ([]))]) ∧ Int.toNat ((↑n : Int) - (1 : Int) - a) * (2 : Nat) % (2 : Nat) = (0 : Nat)) ∧ ((((0 : Nat) = (0 : Nat) ∧ n = n) ∧ (True ∧ IntKind.wrap IntKind.i64 (a + (1 : Int)) = IntKind.wrap IntKind.i64 (a + (1 : Int))) ∧ (True ∧ IntKind.wrap IntKind.i64 ((↑n : Int) - (1 : Int) - a - (1 : Int)) = (↑n : Int) - (1 : Int) - IntKind.wrap IntKind.i64 (a + (1 : Int))) ∧ True) ∧ ((True ∧ True ∧ setScs (setScs (swC c n (Int.toNat a)) (Int.toNat a * (2 : Nat)) [(Sc.mk (Sc.i (List.getD (swC c n (Int.toNat a)) (Int.toNat ((↑n : Int) - (1 : Int) - a) * (2 : Nat)) (Sc.mk ((0 : Int)) ([])))
) ([])), (Sc.mk (Sc.i (List.getD (swC c n (Int.toNat a)) (Int.toNat ((↑n : Int) - (1 : Int) - a) * (2 : Nat) + (1 : Nat)) (Sc.mk ((0 : Int)) ([])))
) ([]))]) (Int.toNat ((↑n : Int) - (1 : Int) - a) * (2 : Nat)) [(Sc.mk (Sc.i (List.getD (swC c n (Int.toNat a)) (Int.toNat a * (2 : Nat)) (Sc.mk ((0 : Int)) ([])))
) ([])), (Sc.mk (Sc.i (List.getD (swC c n (Int.toNat a)) (Int.toNat a * (2 : Nat) + (1 : Nat)) (Sc.mk ((0 : Int)) ([])))
) ([]))] = swC c n (Int.toNat (IntKind.wrap IntKind.i64 (a + (1 : Int))))) ∧ True) ∧ True) ∧ At (rvInv n (IntKind.wrap IntKind.i64 (a + (1 : Int))) ∧ Int.toNat ((↑n : Int) - IntKind.wrap IntKind.i64 (a + (1 : Int))) < Int.toNat ((↑n : Int) - a))) ∧ True) ∧ True) ∧ (decide (a < (↑n : Int) - (1 : Int) - a) = false → K (V.tup []) [{ cs := Cells.recs [Sh.int IntKind.i64, Sh.int IntKind.u8] (swC c n (Int.toNat a)), elem := 38, kind := Kind.rows (2 : Nat) }]) 

def VC_spec_BackProgram (s : List UInt8) (K : V → Prop) : Prop :=
  At ((↑(List.length s) : Int) ≤ (9223372036854775807 : Int)) ∧
  ((!progB s) = true → K (V.tup [V.str (Array.toList #[]), V.lit false])) ∧
    ((!progB s) = false →
      ((s = s ∧
            nilB =
                bk
                  (List.drop (Int.toNat (IntKind.wrap IntKind.i64 ((↑(List.length s) : Int) - (2 : Int)) + (2 : Int)))
                    s) ∧
              (True ∧
                  IntKind.wrap IntKind.i64 ((↑(List.length s) : Int) - (2 : Int)) =
                    IntKind.wrap IntKind.i64 ((↑(List.length s) : Int) - (2 : Int))) ∧
                True) ∧
          True ∧ True) ∧
        At (bkInv s (IntKind.wrap IntKind.i64 ((↑(List.length s) : Int) - (2 : Int)))) ∧
          ∀ (a : Int),
            bkInv s a →
              (decide (a ≥ (0 : Int)) = true →
                  True ∧
                    At
                        ((0 : Int) ≤ a ∧
                          a ≤ IntKind.wrap IntKind.i64 (a + (1 : Int)) ∧
                            IntKind.wrap IntKind.i64 (a + (1 : Int)) ≤ (↑(List.length s) : Int)) ∧
                      At
                          ((0 : Int) ≤ IntKind.wrap IntKind.i64 (a + (1 : Int)) ∧
                            IntKind.wrap IntKind.i64 (a + (1 : Int)) ≤ IntKind.wrap IntKind.i64 (a + (2 : Int)) ∧
                              IntKind.wrap IntKind.i64 (a + (2 : Int)) ≤ (↑(List.length s) : Int)) ∧
                        At
                            (List.length
                                (List.drop (Int.toNat (IntKind.wrap IntKind.i64 (a + (1 : Int))))
                                  (List.take (Int.toNat (IntKind.wrap IntKind.i64 (a + (2 : Int)))) s)) ≤
                              (1000 : Nat)) ∧
                          At
                              (List.length
                                    (List.drop (Int.toNat a)
                                      (List.take (Int.toNat (IntKind.wrap IntKind.i64 (a + (1 : Int)))) s)) +
                                  List.length
                                    (othR
                                      (List.drop (Int.toNat (IntKind.wrap IntKind.i64 (a + (1 : Int))))
                                        (List.take (Int.toNat (IntKind.wrap IntKind.i64 (a + (2 : Int)))) s))) ≤
                                (9223372036854775807 : Nat)) ∧
                            At
                                (List.length (bk (List.drop (Int.toNat (a + (2 : Int))) s)) +
                                    List.length
                                      (List.drop (Int.toNat a)
                                          (List.take (Int.toNat (IntKind.wrap IntKind.i64 (a + (1 : Int)))) s) ++
                                        othR
                                          (List.drop (Int.toNat (IntKind.wrap IntKind.i64 (a + (1 : Int))))
                                            (List.take (Int.toNat (IntKind.wrap IntKind.i64 (a + (2 : Int)))) s))) ≤
                                  (9223372036854775807 : Nat)) ∧
                              ((s = s ∧
                                    bk (List.drop (Int.toNat (a + (2 : Int))) s) ++
                                          (List.drop (Int.toNat a)
                                              (List.take (Int.toNat (IntKind.wrap IntKind.i64 (a + (1 : Int)))) s) ++
                                            othR
                                              (List.drop (Int.toNat (IntKind.wrap IntKind.i64 (a + (1 : Int))))
                                                (List.take (Int.toNat (IntKind.wrap IntKind.i64 (a + (2 : Int)))) s))) =
                                        bk
                                          (List.drop (Int.toNat (IntKind.wrap IntKind.i64 (a - (2 : Int)) + (2 : Int)))
                                            s) ∧
                                      (True ∧
                                          IntKind.wrap IntKind.i64 (a - (2 : Int)) =
                                            IntKind.wrap IntKind.i64 (a - (2 : Int))) ∧
                                        True) ∧
                                  True ∧ True) ∧
                                At
                                  (bkInv s (IntKind.wrap IntKind.i64 (a - (2 : Int))) ∧
                                    Int.toNat (IntKind.wrap IntKind.i64 (a - (2 : Int)) + (2 : Int)) <
                                      Int.toNat (a + (2 : Int)))) ∧
                (decide (a ≥ (0 : Int)) = false →
                  K (V.tup [V.str (bk (List.drop (Int.toNat (a + (2 : Int))) s)), V.lit true])))

def VC_impl_BackProgram (s : List UInt8) (K : V → Prop) : Prop :=
  At ((↑(List.length s) : Int) ≤ (9223372036854775807 : Int)) ∧
  ((!progB s) = true → K (V.tup [V.str (Array.toList #[]), V.lit false])) ∧
    ((!progB s) = false →
      At (List.length (partsC s) = partsN s * (2 : Nat) ∧ partsN s ≤ (9 : Nat) ∧ zsC (partsC s)) ∧
        At
            (List.length (revC (partsC s)) = partsN s * (2 : Nat) ∧
              partsN s ≤ (9 : Nat) ∧ okC (revC (partsC s)) ∧ sgC (revC (partsC s))) ∧
          At (List.length (prS (revC (partsC s))) ≤ (1000 : Nat)) ∧
            K (V.tup [V.str (othR (prS (revC (partsC s)))), V.lit true]))

def VC_spec_GrowProgram (s : List UInt8) (k : Int) (K : V → Prop) : Prop :=
  At ((↑(List.length s) : Int) ≤ (9223372036854775807 : Int)) ∧
  ((!progB s) = true → K (V.tup [V.str (Array.toList #[]), V.lit false])) ∧
    ((!progB s) = false →
      At True ∧
        ((!inB k (1 : Int) (9 : Int)) = true → K (V.tup [V.str (Array.toList #[]), V.lit false])) ∧
          ((!inB k (1 : Int) (9 : Int)) = false →
            ((s = s ∧
                  (True ∧ k = k) ∧
                    nilB = prS (gwC k (ptS (List.take (Int.toNat (0 : Int)) s))) ∧
                      (True ∧ (0 : Int) = (0 : Int)) ∧ True) ∧
                True ∧ True) ∧
              At (gsInv s k (0 : Int)) ∧
                ∀ (a : Int),
                  gsInv s k a →
                    (decide (a < (↑(List.length s) : Int)) = true →
                        At ((0 : Int) ≤ a ∧ a < (↑(List.length s) : Int)) ∧
                          (decide
                                  (IntKind.wrap IntKind.i64
                                      (IntKind.wrap IntKind.i64
                                          (IntKind.wrap IntKind.u8
                                            ((↑(UInt8.toNat (List.getD s (Int.toNat a) (0 : UInt8))) : Int) -
                                              (48 : Int))) *
                                        k) >
                                    (9 : Int)) =
                                true →
                              K (V.tup [V.str (Array.toList #[]), V.lit false])) ∧
                            (decide
                                  (IntKind.wrap IntKind.i64
                                      (IntKind.wrap IntKind.i64
                                          (IntKind.wrap IntKind.u8
                                            ((↑(UInt8.toNat (List.getD s (Int.toNat a) (0 : UInt8))) : Int) -
                                              (48 : Int))) *
                                        k) >
                                    (9 : Int)) =
                                false →
                              True ∧
                                At
                                    ((0 : Int) ≤
                                        IntKind.wrap IntKind.i64
                                          (IntKind.wrap IntKind.i64
                                              (IntKind.wrap IntKind.u8
                                                ((↑(UInt8.toNat (List.getD s (Int.toNat a) (0 : UInt8))) : Int) -
                                                  (48 : Int))) *
                                            k) ∧
                                      IntKind.wrap IntKind.i64
                                          (IntKind.wrap IntKind.i64
                                              (IntKind.wrap IntKind.u8
                                                ((↑(UInt8.toNat (List.getD s (Int.toNat a) (0 : UInt8))) : Int) -
                                                  (48 : Int))) *
                                            k) ≤
                                        (9 : Int)) ∧
                                  At
                                      ((0 : Int) ≤ IntKind.wrap IntKind.i64 (a + (1 : Int)) ∧
                                        IntKind.wrap IntKind.i64 (a + (1 : Int)) ≤
                                            IntKind.wrap IntKind.i64 (a + (2 : Int)) ∧
                                          IntKind.wrap IntKind.i64 (a + (2 : Int)) ≤ (↑(List.length s) : Int)) ∧
                                    At
                                        (List.length
                                              (num1
                                                (IntKind.wrap IntKind.i64
                                                  (IntKind.wrap IntKind.i64
                                                      (IntKind.wrap IntKind.u8
                                                        ((↑(UInt8.toNat (List.getD s (Int.toNat a) (0 : UInt8))) :
                                                            Int) -
                                                          (48 : Int))) *
                                                    k))) +
                                            List.length
                                              (List.drop (Int.toNat (IntKind.wrap IntKind.i64 (a + (1 : Int))))
                                                (List.take (Int.toNat (IntKind.wrap IntKind.i64 (a + (2 : Int)))) s)) ≤
                                          (9223372036854775807 : Nat)) ∧
                                      At
                                          (List.length (prS (gwC k (ptS (List.take (Int.toNat a) s)))) +
                                              List.length
                                                (num1
                                                    (IntKind.wrap IntKind.i64
                                                      (IntKind.wrap IntKind.i64
                                                          (IntKind.wrap IntKind.u8
                                                            ((↑(UInt8.toNat (List.getD s (Int.toNat a) (0 : UInt8))) :
                                                                Int) -
                                                              (48 : Int))) *
                                                        k)) ++
                                                  List.drop (Int.toNat (IntKind.wrap IntKind.i64 (a + (1 : Int))))
                                                    (List.take (Int.toNat (IntKind.wrap IntKind.i64 (a + (2 : Int))))
                                                      s)) ≤
                                            (9223372036854775807 : Nat)) ∧
                                        ((s = s ∧
                                              (True ∧ k = k) ∧
                                                prS (gwC k (ptS (List.take (Int.toNat a) s))) ++
                                                      (num1
                                                          (IntKind.wrap IntKind.i64
                                                            (IntKind.wrap IntKind.i64
                                                                (IntKind.wrap IntKind.u8
                                                                  ((↑(UInt8.toNat
                                                                          (List.getD s (Int.toNat a) (0 : UInt8))) :
                                                                      Int) -
                                                                    (48 : Int))) *
                                                              k)) ++
                                                        List.drop (Int.toNat (IntKind.wrap IntKind.i64 (a + (1 : Int))))
                                                          (List.take
                                                            (Int.toNat (IntKind.wrap IntKind.i64 (a + (2 : Int)))) s)) =
                                                    prS
                                                      (gwC k
                                                        (ptS
                                                          (List.take
                                                            (Int.toNat (IntKind.wrap IntKind.i64 (a + (2 : Int))))
                                                            s))) ∧
                                                  (True ∧
                                                      IntKind.wrap IntKind.i64 (a + (2 : Int)) =
                                                        IntKind.wrap IntKind.i64 (a + (2 : Int))) ∧
                                                    True) ∧
                                            True ∧ True) ∧
                                          At
                                            (gsInv s k (IntKind.wrap IntKind.i64 (a + (2 : Int))) ∧
                                              Int.toNat
                                                  ((↑(List.length s) : Int) -
                                                    IntKind.wrap IntKind.i64 (a + (2 : Int))) <
                                                Int.toNat ((↑(List.length s) : Int) - a)))) ∧
                      (decide (a < (↑(List.length s) : Int)) = false →
                        K (V.tup [V.str (prS (gwC k (ptS (List.take (Int.toNat a) s)))), V.lit true]))))

def VC_impl_GrowProgram (s : List UInt8) (k : Int) (K : V → Prop) : Prop := At ((↑(List.length s) : Int) ≤ (9223372036854775807 : Int)) ∧ ((!progB s) = true → K (V.tup [V.str (Array.toList #[]), V.lit false])) ∧ ((!progB s) = false → At True ∧ ((!inB k (1 : Int) (9 : Int)) = true → K (V.tup [V.str (Array.toList #[]), V.lit false])) ∧ ((!inB k (1 : Int) (9 : Int)) = false → (((True ∧ k = k) ∧ ((0 : Nat) = (0 : Nat) ∧ partsN s = partsN s) ∧ (True ∧ (↑(partsN s) : Int) = (↑(partsN s) : Int)) ∧ (True ∧ (0 : Int) = (0 : Int)) ∧ True) ∧ ((True ∧ True ∧ partsC s = gwC k (List.take (Int.toNat (0 : Int) * (2 : Nat)) (partsC s)) ++ List.drop (Int.toNat (0 : Int) * (2 : Nat)) (partsC s)) ∧ True) ∧ True) ∧ At (giInv (partsC s) (partsN s) k (0 : Int)) ∧ ∀ (a : Int), giInv (partsC s) (partsN s) k a → (decide (a < (↑(partsN s) : Int)) = true → At ((0 : Int) ≤ a ∧ a < (↑(partsN s) : Int)) ∧ At (Int.toNat a * (2 : Nat) + (0 : Nat) < List.length (gwC k (List.take (Int.toNat a * (2 : Nat)) (partsC s)) ++ List.drop (Int.toNat a * (2 : Nat)) (partsC s)) ∧ shAt [Sh.int IntKind.i64, Sh.int IntKind.u8] (Int.toNat a * (2 : Nat) + (0 : Nat)) = Sh.int IntKind.i64) ∧ At ((0 : Int) ≤ a ∧ a < (↑(partsN s) : Int)) ∧ At (Int.toNat a * (2 : Nat) + (0 : Nat) < List.length (gwC k (List.take (Int.toNat a * (2 : Nat)) (partsC s)) ++ List.drop (Int.toNat a * (2 : Nat)) (partsC s)) ∧ shAt [Sh.int IntKind.i64, Sh.int IntKind.u8] (Int.toNat a * (2 : Nat) + (0 : Nat)) = Sh.int IntKind.i64) ∧ At ((0 : Int) ≤ a ∧ a < (↑(partsN s) : Int)) ∧ At (Int.toNat a * (2 : Nat) + (0 : Nat) < List.length (List.set (gwC k (List.take (Int.toNat a * (2 : Nat)) (partsC s)) ++ List.drop (Int.toNat a * (2 : Nat)) (partsC s)) (Int.toNat a * (2 : Nat) + (0 : Nat)) (Sc.mk (IntKind.wrap IntKind.i64 (Sc.i (List.getD (gwC k (List.take (Int.toNat a * (2 : Nat)) (partsC s)) ++ List.drop (Int.toNat a * (2 : Nat)) (partsC s)) (Int.toNat a * (2 : Nat) + (0 : Nat)) (Sc.mk ((0 : Int)) ([]))) * k)
) ([]))) ∧ shAt [Sh.int IntKind.i64, Sh.int IntKind.u8] (Int.toNat a * (2 : Nat) + (0 : Nat)) = Sh.int IntKind.i64) ∧ (decide (Sc.i (List.getD (List.set (gwC k (List.take (Int.toNat a * (2 : Nat)) (partsC s)) ++ List.drop (Int.toNat a * (2 : Nat)) (partsC s)) (Int.toNat a * (2 : Nat) + (0 : Nat)) (Sc.mk (IntKind.wrap IntKind.i64 (Sc.i (List.getD (gwC k (List.take (Int.toNat a * (2 : Nat)) (partsC s)) ++ List.drop (Int.toNat a * (2 : Nat)) (partsC s)) (Int.toNat a * (2 : Nat) + (0 : Nat)) (Sc.mk ((0 : Int)) ([]))) * k)
) ([]))) (Int.toNat a * (2 : Nat) + (0 : Nat)) (Sc.mk ((0 : Int)) ([]))) > (9 : Int)) = true → K (V.tup [V.str (Array.toList #[]), V.lit false])) ∧ (decide (Sc.i (List.getD (List.set (gwC k (List.take (Int.toNat a * (2 : Nat)) (partsC s)) ++ List.drop (Int.toNat a * (2 : Nat)) (partsC s)) (Int.toNat a * (2 : Nat) + (0 : Nat)) (Sc.mk (IntKind.wrap IntKind.i64 (Sc.i (List.getD (gwC k (List.take (Int.toNat a * (2 : Nat)) (partsC s)) ++ List.drop (Int.toNat a * (2 : Nat)) (partsC s)) (Int.toNat a * (2 : Nat) + (0 : Nat)) (Sc.mk ((0 : Int)) ([]))) * k)
) ([]))) (Int.toNat a * (2 : Nat) + (0 : Nat)) (Sc.mk ((0 : Int)) ([]))) > (9 : Int)) = false → (((True ∧ k = k) ∧ ((0 : Nat) = (0 : Nat) ∧ partsN s = partsN s) ∧ (True ∧ (↑(partsN s) : Int) = (↑(partsN s) : Int)) ∧ (True ∧ IntKind.wrap IntKind.i64 (a + (1 : Int)) = IntKind.wrap IntKind.i64 (a + (1 : Int))) ∧ True) ∧ ((True ∧ True ∧ List.set (gwC k (List.take (Int.toNat a * (2 : Nat)) (partsC s)) ++ List.drop (Int.toNat a * (2 : Nat)) (partsC s)) (Int.toNat a * (2 : Nat) + (0 : Nat)) (Sc.mk (IntKind.wrap IntKind.i64 (Sc.i (List.getD (gwC k (List.take (Int.toNat a * (2 : Nat)) (partsC s)) ++ List.drop (Int.toNat a * (2 : Nat)) (partsC s)) (Int.toNat a * (2 : Nat) + (0 : Nat)) (Sc.mk ((0 : Int)) ([]))) * k)
) ([])) = gwC k (List.take (Int.toNat (IntKind.wrap IntKind.i64 (a + (1 : Int))) * (2 : Nat)) (partsC s)) ++ List.drop (Int.toNat (IntKind.wrap IntKind.i64 (a + (1 : Int))) * (2 : Nat)) (partsC s)) ∧ True) ∧ True) ∧ At (giInv (partsC s) (partsN s) k (IntKind.wrap IntKind.i64 (a + (1 : Int))) ∧ Int.toNat ((↑(partsN s) : Int) - IntKind.wrap IntKind.i64 (a + (1 : Int))) < Int.toNat ((↑(partsN s) : Int) - a)))) ∧ (decide (a < (↑(partsN s) : Int)) = false → At (List.length (gwC k (List.take (Int.toNat a * (2 : Nat)) (partsC s)) ++ List.drop (Int.toNat a * (2 : Nat)) (partsC s)) = partsN s * (2 : Nat) ∧ partsN s ≤ (9 : Nat) ∧ okC (gwC k (List.take (Int.toNat a * (2 : Nat)) (partsC s)) ++ List.drop (Int.toNat a * (2 : Nat)) (partsC s)) ∧ sgC (gwC k (List.take (Int.toNat a * (2 : Nat)) (partsC s)) ++ List.drop (Int.toNat a * (2 : Nat)) (partsC s))) ∧ K (V.tup [V.str (prS (gwC k (List.take (Int.toNat a * (2 : Nat)) (partsC s)) ++ List.drop (Int.toNat a * (2 : Nat)) (partsC s))), V.lit true])))) 

end Go.Vi
