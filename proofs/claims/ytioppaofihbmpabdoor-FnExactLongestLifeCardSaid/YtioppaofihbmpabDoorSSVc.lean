/- The conditions, reckoned out by program: texts alone. -/
import Derived.Test.YtioppaofihbmpabDoorSSDefs
namespace Go.Vi
set_option linter.unusedVariables false
def VC_laws_eqStringS (n : Nat) (m : Nat) (a : List (List UInt8)) (b : List (List UInt8)) (e : TypeId) (k : Kind) (f : TypeId) (q : Kind) (K : V → List Blk → Prop) : Prop :=
  (((↑n : Int) != (↑m : Int)) = true →
    K (V.lit false) [{ cs := Cells.strs a, elem := e, kind := k }, { cs := Cells.strs b, elem := f, kind := q }]) ∧
  (((↑n : Int) != (↑m : Int)) = false →
    ((((0 : Nat) = (0 : Nat) ∧ n = n) ∧ ((1 : Nat) = (1 : Nat) ∧ m = m) ∧ (True ∧ (0 : Int) = (0 : Int)) ∧ True) ∧
        ((Bool.rec False True (Nat.beq e e && decide (k = k)) ∧ a = a) ∧
            (Bool.rec False True (Nat.beq f f && decide (q = q)) ∧ b = b) ∧ True) ∧
          True) ∧
      At (eqtInv a b (0 : Int)) ∧
        ∀ (a_2 : Int),
          eqtInv a b a_2 →
            (decide (a_2 < (↑n : Int)) = true →
                True ∧
                  At ((0 : Int) ≤ a_2 ∧ a_2 < (↑n : Int)) ∧
                    At (Int.toNat a_2 < List.length a) ∧
                      At ((0 : Int) ≤ a_2 ∧ a_2 < (↑m : Int)) ∧
                        At (Int.toNat a_2 < List.length b) ∧
                          ((!List.getD a (Int.toNat a_2) [] == List.getD b (Int.toNat a_2) []) = true →
                              K (V.lit false)
                                [{ cs := Cells.strs a, elem := e, kind := k },
                                  { cs := Cells.strs b, elem := f, kind := q }]) ∧
                            ((!List.getD a (Int.toNat a_2) [] == List.getD b (Int.toNat a_2) []) = false →
                              ((((0 : Nat) = (0 : Nat) ∧ n = n) ∧
                                    ((1 : Nat) = (1 : Nat) ∧ m = m) ∧
                                      (True ∧
                                          IntKind.wrap IntKind.i64 (a_2 + (1 : Int)) =
                                            IntKind.wrap IntKind.i64 (a_2 + (1 : Int))) ∧
                                        True) ∧
                                  ((Bool.rec False True (Nat.beq e e && decide (k = k)) ∧ a = a) ∧
                                      (Bool.rec False True (Nat.beq f f && decide (q = q)) ∧ b = b) ∧ True) ∧
                                    True) ∧
                                At
                                  (eqtInv a b (IntKind.wrap IntKind.i64 (a_2 + (1 : Int))) ∧
                                    Int.toNat ((↑(List.length a) : Int) - IntKind.wrap IntKind.i64 (a_2 + (1 : Int))) <
                                      Int.toNat ((↑(List.length a) : Int) - a_2)))) ∧
              (decide (a_2 < (↑n : Int)) = false →
                K (V.lit true)
                  [{ cs := Cells.strs a, elem := e, kind := k }, { cs := Cells.strs b, elem := f, kind := q }]))

def VC_laws_markText (k : Int) (K : V → Prop) : Prop :=
  (decide (k ≤ (0 : Int)) = true → K (V.str (Array.toList #[(109 : UInt8), (48 : UInt8)]))) ∧
  (decide (k ≤ (0 : Int)) = false →
    (((True ∧ k = k) ∧ nilB = nilB ∧ True) ∧ True ∧ True) ∧
      At (mtInv k (k, Array.toList #[])) ∧
        ∀ (a : Int × List UInt8),
          mtInv k a →
            (decide (Prod.fst a > (0 : Int)) = true →
                At ((10 : Int) ≠ (0 : Int)) ∧
                  At
                      (∀ (n : Int),
                        n ∈
                            [IntKind.wrap IntKind.u8
                                (IntKind.wrap IntKind.i64 ((48 : Int) + Int.tmod (Prod.fst a) (10 : Int)))] →
                          (0 : Int) ≤ n ∧ n < (256 : Int)) ∧
                    At
                        ((1 : Nat) ≤
                          List.length
                            (List.map (fun (n : Int) ↦ UInt8.ofNat (Int.toNat n))
                              [IntKind.wrap IntKind.u8
                                  (IntKind.wrap IntKind.i64 ((48 : Int) + Int.tmod (Prod.fst a) (10 : Int)))])) ∧
                      At
                          (List.length
                                (List.take (1 : Nat)
                                  (List.map (fun (n : Int) ↦ UInt8.ofNat (Int.toNat n))
                                    [IntKind.wrap IntKind.u8
                                        (IntKind.wrap IntKind.i64 ((48 : Int) + Int.tmod (Prod.fst a) (10 : Int)))])) +
                              List.length (Prod.snd a) ≤
                            (9223372036854775807 : Nat)) ∧
                        At ((10 : Int) ≠ (0 : Int)) ∧
                          (((True ∧
                                  IntKind.wrap IntKind.i64 (Int.tdiv (Prod.fst a) (10 : Int)) =
                                    IntKind.wrap IntKind.i64 (Int.tdiv (Prod.fst a) (10 : Int))) ∧
                                List.take (1 : Nat)
                                        (List.map (fun (n : Int) ↦ UInt8.ofNat (Int.toNat n))
                                          [IntKind.wrap IntKind.u8
                                              (IntKind.wrap IntKind.i64
                                                ((48 : Int) + Int.tmod (Prod.fst a) (10 : Int)))]) ++
                                      Prod.snd a =
                                    List.take (1 : Nat)
                                        (List.map (fun (n : Int) ↦ UInt8.ofNat (Int.toNat n))
                                          [IntKind.wrap IntKind.u8
                                              (IntKind.wrap IntKind.i64
                                                ((48 : Int) + Int.tmod (Prod.fst a) (10 : Int)))]) ++
                                      Prod.snd a ∧
                                  True) ∧
                              True ∧ True) ∧
                            At
                              (mtInv k
                                  (IntKind.wrap IntKind.i64 (Int.tdiv (Prod.fst a) (10 : Int)),
                                    List.take (1 : Nat)
                                        (List.map (fun (n : Int) ↦ UInt8.ofNat (Int.toNat n))
                                          [IntKind.wrap IntKind.u8
                                              (IntKind.wrap IntKind.i64
                                                ((48 : Int) + Int.tmod (Prod.fst a) (10 : Int)))]) ++
                                      Prod.snd a) ∧
                                Int.toNat (IntKind.wrap IntKind.i64 (Int.tdiv (Prod.fst a) (10 : Int))) <
                                  Int.toNat (Prod.fst a))) ∧
              (decide (Prod.fst a > (0 : Int)) = false →
                At
                    (List.length (Array.toList #[(109 : UInt8)]) + List.length (Prod.snd a) ≤
                      (9223372036854775807 : Nat)) ∧
                  K (V.str (Array.toList #[(109 : UInt8)] ++ Prod.snd a))))

def VC_laws_markStringS (k : Int) (n : Nat) (a : List (List UInt8)) (K : V → List Blk → Prop) : Prop :=
  ((((0 : Nat) = (0 : Nat) ∧ n = n) ∧ (True ∧ k = k + (0 : Int)) ∧ (True ∧ (0 : Int) = (0 : Int)) ∧ True) ∧
    ((True ∧ a = mrkS a k (Int.toNat (0 : Int))) ∧ True) ∧ True) ∧
  At (ixInv (List.length a) (0 : Int)) ∧
    ∀ (a_1 : Int),
      ixInv (List.length a) a_1 →
        (decide (a_1 < (↑n : Int)) = true →
            At ((0 : Int) ≤ k + a_1 ∧ k + a_1 ≤ (100000000 : Int)) ∧
              At ((0 : Int) ≤ a_1 ∧ a_1 < (↑n : Int)) ∧
                At (Int.toNat a_1 < List.length (mrkS a k (Int.toNat a_1))) ∧
                  ((((0 : Nat) = (0 : Nat) ∧ n = n) ∧
                        (True ∧
                            IntKind.wrap IntKind.i64 (k + a_1 + (1 : Int)) =
                              k + IntKind.wrap IntKind.i64 (a_1 + (1 : Int))) ∧
                          (True ∧
                              IntKind.wrap IntKind.i64 (a_1 + (1 : Int)) = IntKind.wrap IntKind.i64 (a_1 + (1 : Int))) ∧
                            True) ∧
                      ((True ∧
                            List.set (mrkS a k (Int.toNat a_1)) (Int.toNat a_1) (mtx (k + a_1)) =
                              mrkS a k (Int.toNat (IntKind.wrap IntKind.i64 (a_1 + (1 : Int))))) ∧
                          True) ∧
                        True) ∧
                    At
                      (ixInv (List.length a) (IntKind.wrap IntKind.i64 (a_1 + (1 : Int))) ∧
                        Int.toNat ((↑(List.length a) : Int) - IntKind.wrap IntKind.i64 (a_1 + (1 : Int))) <
                          Int.toNat ((↑(List.length a) : Int) - a_1))) ∧
          (decide (a_1 < (↑n : Int)) = false →
            K (V.int IntKind.i64 (k + a_1))
              [{ cs := Cells.strs (mrkS a k (Int.toNat a_1)), elem := 9, kind := Kind.row }])

def VC_laws_heldStringS (q : Int) (n : Nat) (a : List (List UInt8)) (K : V → List Blk → Prop) : Prop :=
  ((((0 : Nat) = (0 : Nat) ∧ n = n) ∧ (True ∧ q = q + (0 : Int)) ∧ (True ∧ (0 : Int) = (0 : Int)) ∧ True) ∧
    ((True ∧ a = a) ∧ True) ∧ True) ∧
  At (hldS a q (0 : Int)) ∧
    ∀ (a_1 : Int),
      hldS a q a_1 →
        (decide (a_1 < (↑n : Int)) = true →
            True ∧
              At ((0 : Int) ≤ a_1 ∧ a_1 < (↑n : Int)) ∧
                At (Int.toNat a_1 < List.length a) ∧
                  At ((0 : Int) ≤ q + a_1 ∧ q + a_1 ≤ (100000000 : Int)) ∧
                    ((!List.getD a (Int.toNat a_1) [] == mtx (q + a_1)) = true →
                        K (V.int IntKind.i64 (-1 : Int))
                          [{ cs := Cells.strs a, elem := 9, kind := Kind.row }]) ∧
                      ((!List.getD a (Int.toNat a_1) [] == mtx (q + a_1)) = false →
                        ((((0 : Nat) = (0 : Nat) ∧ n = n) ∧
                              (True ∧
                                  IntKind.wrap IntKind.i64 (q + a_1 + (1 : Int)) =
                                    q + IntKind.wrap IntKind.i64 (a_1 + (1 : Int))) ∧
                                (True ∧
                                    IntKind.wrap IntKind.i64 (a_1 + (1 : Int)) =
                                      IntKind.wrap IntKind.i64 (a_1 + (1 : Int))) ∧
                                  True) ∧
                            ((True ∧ a = a) ∧ True) ∧ True) ∧
                          At
                            (hldS a q (IntKind.wrap IntKind.i64 (a_1 + (1 : Int))) ∧
                              Int.toNat ((↑(List.length a) : Int) - IntKind.wrap IntKind.i64 (a_1 + (1 : Int))) <
                                Int.toNat ((↑(List.length a) : Int) - a_1)))) ∧
          (decide (a_1 < (↑n : Int)) = false →
            K (V.int IntKind.i64 (q + a_1)) [{ cs := Cells.strs a, elem := 9, kind := Kind.row }])

end Go.Vi
