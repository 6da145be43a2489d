/- The conditions, reckoned out by program: texts alone. -/
import Derived.Test.YtllocclgllappaaTUDefs
namespace Go.Vi
set_option linter.unusedVariables false
def VC_spec_IsProgram (s : List UInt8) (K : V → Prop) : Prop :=
  At ((↑(List.length s) : Int) ≤ (9223372036854775807 : Int)) ∧ K (V.bool (progB s))

def VC_impl_IsProgram (s : List UInt8) (K : V → Prop) : Prop :=
  At ((↑(List.length s) : Int) ≤ (9223372036854775807 : Int)) ∧ K (V.bool (progB s))

def VC_impl_quarters (b : Int) (K : V → Prop) : Prop :=
  ((b == (82 : Int)) = true → K (V.int IntKind.i64 (1 : Int))) ∧
  ((b == (82 : Int)) = false →
    ((b == (85 : Int)) = true → K (V.int IntKind.i64 (2 : Int))) ∧
      ((b == (85 : Int)) = false →
        ((b == (76 : Int)) = true → K (V.int IntKind.i64 (3 : Int))) ∧
          ((b == (76 : Int)) = false → K (V.int IntKind.i64 (0 : Int)))))

def VC_spec_woTurn (b : Int) (K : V → Prop) : Prop :=
  ((b == (82 : Int)) = true → K (V.int IntKind.i64 (1 : Int))) ∧
  ((b == (82 : Int)) = false →
    ((b == (85 : Int)) = true → K (V.int IntKind.i64 (2 : Int))) ∧
      ((b == (85 : Int)) = false →
        ((b == (76 : Int)) = true → K (V.int IntKind.i64 (3 : Int))) ∧
          ((b == (76 : Int)) = false → K (V.int IntKind.i64 (0 : Int)))))

def VC_impl_direction (w : Int) (K : V → Prop) : Prop :=
  ((w == (0 : Int)) = true → K (V.tup [V.int IntKind.i64 (0 : Int), V.int IntKind.i64 (-1 : Int)])) ∧
  ((w == (0 : Int)) = false →
    ((w == (1 : Int)) = true → K (V.tup [V.int IntKind.i64 (1 : Int), V.int IntKind.i64 (0 : Int)])) ∧
      ((w == (1 : Int)) = false →
        ((w == (2 : Int)) = true → K (V.tup [V.int IntKind.i64 (0 : Int), V.int IntKind.i64 (1 : Int)])) ∧
          ((w == (2 : Int)) = false → K (V.tup [V.int IntKind.i64 (-1 : Int), V.int IntKind.i64 (0 : Int)]))))

def VC_spec_tuQuarters (s : List UInt8) (K : V → Prop) : Prop :=
  ((s = s ∧
      (True ∧ (0 : Int) = quC (ptS (List.take (Int.toNat (1 : Int) - (1 : Nat)) s))) ∧
        (True ∧ (1 : Int) = (1 : Int)) ∧ True) ∧
    True ∧ True) ∧
  At (odInv s (1 : Int)) ∧
    ∀ (a : Int),
      odInv s a →
        (decide (a < (↑(List.length s) : Int)) = true →
            At ((0 : Int) ≤ a ∧ a < (↑(List.length s) : Int)) ∧
              (((↑(UInt8.toNat (List.getD s (Int.toNat a) (0 : UInt8))) : Int) == (76 : Int)) = true →
                  ((s = s ∧
                        (True ∧
                            IntKind.wrap IntKind.i64 (quC (ptS (List.take (Int.toNat a - (1 : Nat)) s)) - (1 : Int)) =
                              quC
                                (ptS
                                  (List.take (Int.toNat (IntKind.wrap IntKind.i64 (a + (2 : Int))) - (1 : Nat)) s))) ∧
                          (True ∧ IntKind.wrap IntKind.i64 (a + (2 : Int)) = IntKind.wrap IntKind.i64 (a + (2 : Int))) ∧
                            True) ∧
                      True ∧ True) ∧
                    At
                      (odInv s (IntKind.wrap IntKind.i64 (a + (2 : Int))) ∧
                        Int.toNat ((↑(List.length s) : Int) + (1 : Int) - IntKind.wrap IntKind.i64 (a + (2 : Int))) <
                          Int.toNat ((↑(List.length s) : Int) + (1 : Int) - a))) ∧
                (((↑(UInt8.toNat (List.getD s (Int.toNat a) (0 : UInt8))) : Int) == (76 : Int)) = false →
                  (((↑(UInt8.toNat (List.getD s (Int.toNat a) (0 : UInt8))) : Int) == (82 : Int)) = true →
                      ((s = s ∧
                            (True ∧
                                IntKind.wrap IntKind.i64
                                    (quC (ptS (List.take (Int.toNat a - (1 : Nat)) s)) + (1 : Int)) =
                                  quC
                                    (ptS
                                      (List.take (Int.toNat (IntKind.wrap IntKind.i64 (a + (2 : Int))) - (1 : Nat))
                                        s))) ∧
                              (True ∧
                                  IntKind.wrap IntKind.i64 (a + (2 : Int)) = IntKind.wrap IntKind.i64 (a + (2 : Int))) ∧
                                True) ∧
                          True ∧ True) ∧
                        At
                          (odInv s (IntKind.wrap IntKind.i64 (a + (2 : Int))) ∧
                            Int.toNat
                                ((↑(List.length s) : Int) + (1 : Int) - IntKind.wrap IntKind.i64 (a + (2 : Int))) <
                              Int.toNat ((↑(List.length s) : Int) + (1 : Int) - a))) ∧
                    (((↑(UInt8.toNat (List.getD s (Int.toNat a) (0 : UInt8))) : Int) == (82 : Int)) = false →
                      (((↑(UInt8.toNat (List.getD s (Int.toNat a) (0 : UInt8))) : Int) == (85 : Int)) = true →
                          ((s = s ∧
                                (True ∧
                                    IntKind.wrap IntKind.i64
                                        (quC (ptS (List.take (Int.toNat a - (1 : Nat)) s)) + (2 : Int)) =
                                      quC
                                        (ptS
                                          (List.take (Int.toNat (IntKind.wrap IntKind.i64 (a + (2 : Int))) - (1 : Nat))
                                            s))) ∧
                                  (True ∧
                                      IntKind.wrap IntKind.i64 (a + (2 : Int)) =
                                        IntKind.wrap IntKind.i64 (a + (2 : Int))) ∧
                                    True) ∧
                              True ∧ True) ∧
                            At
                              (odInv s (IntKind.wrap IntKind.i64 (a + (2 : Int))) ∧
                                Int.toNat
                                    ((↑(List.length s) : Int) + (1 : Int) - IntKind.wrap IntKind.i64 (a + (2 : Int))) <
                                  Int.toNat ((↑(List.length s) : Int) + (1 : Int) - a))) ∧
                        (((↑(UInt8.toNat (List.getD s (Int.toNat a) (0 : UInt8))) : Int) == (85 : Int)) = false →
                          ((s = s ∧
                                (True ∧
                                    quC (ptS (List.take (Int.toNat a - (1 : Nat)) s)) =
                                      quC
                                        (ptS
                                          (List.take (Int.toNat (IntKind.wrap IntKind.i64 (a + (2 : Int))) - (1 : Nat))
                                            s))) ∧
                                  (True ∧
                                      IntKind.wrap IntKind.i64 (a + (2 : Int)) =
                                        IntKind.wrap IntKind.i64 (a + (2 : Int))) ∧
                                    True) ∧
                              True ∧ True) ∧
                            At
                              (odInv s (IntKind.wrap IntKind.i64 (a + (2 : Int))) ∧
                                Int.toNat
                                    ((↑(List.length s) : Int) + (1 : Int) - IntKind.wrap IntKind.i64 (a + (2 : Int))) <
                                  Int.toNat ((↑(List.length s) : Int) + (1 : Int) - a)))))) ∧
          (decide (a < (↑(List.length s) : Int)) = false →
            K (V.int IntKind.i64 (quC (ptS (List.take (Int.toNat a - (1 : Nat)) s)))))

def VC_spec_QuartersOf (s : List UInt8) (K : V → Prop) : Prop :=
  At ((↑(List.length s) : Int) ≤ (9223372036854775807 : Int)) ∧
  ((!progB s) = true → K (V.tup [V.int IntKind.i64 (0 : Int), V.lit false])) ∧
    ((!progB s) = false → At (progB s = true) ∧ K (V.tup [V.int IntKind.i64 (quC (ptS s)), V.lit true]))

def VC_impl_QuartersOf (s : List UInt8) (K : V → Prop) : Prop := At ((↑(List.length s) : Int) ≤ (9223372036854775807 : Int)) ∧ ((!progB s) = true → K (V.tup [V.int IntKind.i64 (0 : Int), V.lit false])) ∧ ((!progB s) = false → (((True ∧ (0 : Int) = quC (List.take (Int.toNat (0 : Int) * (2 : Nat)) (partsC s))) ∧ ((0 : Nat) = (0 : Nat) ∧ partsN s = partsN s) ∧ (True ∧ (↑(partsN s) : Int) = (↑(partsN s) : Int)) ∧ (True ∧ (0 : Int) = (0 : Int)) ∧ True) ∧ ((True ∧ True ∧ partsC s = partsC s) ∧ True) ∧ True) ∧ At (ixN (partsN s) (0 : Int)) ∧ ∀ (a : Int), ixN (partsN s) a → (decide (a < (↑(partsN s) : Int)) = true → At ((0 : Int) ≤ a ∧ a < (↑(partsN s) : Int)) ∧ At (Int.toNat a * (2 : Nat) + (2 : Nat) ≤ List.length (partsC s) ∧ Int.toNat a * (2 : Nat) % (2 : Nat) = (0 : Nat)) ∧ ((Sc.i (List.getD (partsC s) (Int.toNat a * (2 : Nat) + (1 : Nat)) (Sc.mk ((0 : Int)) ([]))) == (76 : Int)) = true → (((True ∧ IntKind.wrap IntKind.i64 (quC (List.take (Int.toNat a * (2 : Nat)) (partsC s)) - (1 : Int)) = quC (List.take (Int.toNat (IntKind.wrap IntKind.i64 (a + (1 : Int))) * (2 : Nat)) (partsC s))) ∧ ((0 : Nat) = (0 : Nat) ∧ partsN s = partsN s) ∧ (True ∧ (↑(partsN s) : Int) = (↑(partsN s) : Int)) ∧ (True ∧ IntKind.wrap IntKind.i64 (a + (1 : Int)) = IntKind.wrap IntKind.i64 (a + (1 : Int))) ∧ True) ∧ ((True ∧ True ∧ partsC s = partsC s) ∧ True) ∧ True) ∧ At (ixN (partsN s) (IntKind.wrap IntKind.i64 (a + (1 : Int))) ∧ Int.toNat ((↑(partsN s) : Int) - IntKind.wrap IntKind.i64 (a + (1 : Int))) < Int.toNat ((↑(partsN s) : Int) - a))) ∧ ((Sc.i (List.getD (partsC s) (Int.toNat a * (2 : Nat) + (1 : Nat)) (Sc.mk ((0 : Int)) ([]))) == (76 : Int)) = false → At True ∧ (((True ∧ IntKind.wrap IntKind.i64 (quC (List.take (Int.toNat a * (2 : Nat)) (partsC s)) + qI (Sc.i (List.getD (partsC s) (Int.toNat a * (2 : Nat) + (1 : Nat)) (Sc.mk ((0 : Int)) ([]))))) = quC (List.take (Int.toNat (IntKind.wrap IntKind.i64 (a + (1 : Int))) * (2 : Nat)) (partsC s))) ∧ ((0 : Nat) = (0 : Nat) ∧ partsN s = partsN s) ∧ (True ∧ (↑(partsN s) : Int) = (↑(partsN s) : Int)) ∧ (True ∧ IntKind.wrap IntKind.i64 (a + (1 : Int)) = IntKind.wrap IntKind.i64 (a + (1 : Int))) ∧ True) ∧ ((True ∧ True ∧ partsC s = partsC s) ∧ True) ∧ True) ∧ At (ixN (partsN s) (IntKind.wrap IntKind.i64 (a + (1 : Int))) ∧ Int.toNat ((↑(partsN s) : Int) - IntKind.wrap IntKind.i64 (a + (1 : Int))) < Int.toNat ((↑(partsN s) : Int) - a)))) ∧ (decide (a < (↑(partsN s) : Int)) = false → K (V.tup [V.int IntKind.i64 (quC (List.take (Int.toNat a * (2 : Nat)) (partsC s))), V.lit true]))) 

def VC_spec_tuLength (s : List UInt8) (K : V → Prop) : Prop :=
  ((s = s ∧ (True ∧ (0 : Int) = lenC (ptS (List.take (Int.toNat (0 : Int)) s))) ∧ (True ∧ (0 : Int) = (0 : Int)) ∧ True) ∧
    True ∧ True) ∧
  At (evInv s (0 : Int)) ∧
    ∀ (a : Int),
      evInv s a →
        (decide (a < (↑(List.length s) : Int)) = true →
            At ((0 : Int) ≤ a ∧ a < (↑(List.length s) : Int)) ∧
              ((s = s ∧
                    (True ∧
                        IntKind.wrap IntKind.i64
                            (lenC (ptS (List.take (Int.toNat a) s)) +
                              IntKind.wrap IntKind.i64
                                (IntKind.wrap IntKind.u8
                                  ((↑(UInt8.toNat (List.getD s (Int.toNat a) (0 : UInt8))) : Int) - (48 : Int)))) =
                          lenC (ptS (List.take (Int.toNat (IntKind.wrap IntKind.i64 (a + (2 : Int)))) s))) ∧
                      (True ∧ IntKind.wrap IntKind.i64 (a + (2 : Int)) = IntKind.wrap IntKind.i64 (a + (2 : Int))) ∧
                        True) ∧
                  True ∧ True) ∧
                At
                  (evInv s (IntKind.wrap IntKind.i64 (a + (2 : Int))) ∧
                    Int.toNat ((↑(List.length s) : Int) - IntKind.wrap IntKind.i64 (a + (2 : Int))) <
                      Int.toNat ((↑(List.length s) : Int) - a))) ∧
          (decide (a < (↑(List.length s) : Int)) = false →
            K (V.int IntKind.i64 (lenC (ptS (List.take (Int.toNat a) s)))))

def VC_impl_stepsOf (n : Nat) (c : List Sc) (k : Kind) (K : V → List Blk → Prop) : Prop := (((True ∧ (0 : Int) = lenC (List.take (Int.toNat (0 : Int) * (2 : Nat)) c)) ∧ ((0 : Nat) = (0 : Nat) ∧ n = n) ∧ (True ∧ (↑n : Int) = (↑n : Int)) ∧ (True ∧ (0 : Int) = (0 : Int)) ∧ True) ∧ ((Bool.rec False True (Nat.beq (57 : TypeId) (57 : TypeId) && decide (k = k)) ∧ True ∧ c = c) ∧ True) ∧ True) ∧ At (ixN n (0 : Int)) ∧ ∀ (a : Int), ixN n a → (decide (a < (↑n : Int)) = true → At ((0 : Int) ≤ a ∧ a < (↑n : Int)) ∧ At (Int.toNat a * (2 : Nat) + (2 : Nat) ≤ List.length c ∧ Int.toNat a * (2 : Nat) % (2 : Nat) = (0 : Nat)) ∧ (((True ∧ IntKind.wrap IntKind.i64 (lenC (List.take (Int.toNat a * (2 : Nat)) c) + Sc.i (List.getD c (Int.toNat a * (2 : Nat)) (Sc.mk ((0 : Int)) ([])))) = lenC (List.take (Int.toNat (IntKind.wrap IntKind.i64 (a + (1 : Int))) * (2 : Nat)) c)) ∧ ((0 : Nat) = (0 : Nat) ∧ n = n) ∧ (True ∧ (↑n : Int) = (↑n : Int)) ∧ (True ∧ IntKind.wrap IntKind.i64 (a + (1 : Int)) = IntKind.wrap IntKind.i64 (a + (1 : Int))) ∧ True) ∧ ((Bool.rec False True (Nat.beq (57 : TypeId) (57 : TypeId) && decide (k = k)) ∧ True ∧ c = c) ∧ True) ∧ True) ∧ At (ixN n (IntKind.wrap IntKind.i64 (a + (1 : Int))) ∧ Int.toNat ((↑n : Int) - IntKind.wrap IntKind.i64 (a + (1 : Int))) < Int.toNat ((↑n : Int) - a))) ∧ (decide (a < (↑n : Int)) = false → K (V.int IntKind.i64 (lenC (List.take (Int.toNat a * (2 : Nat)) c))) [{ cs := Cells.recs [Sh.int IntKind.i64, Sh.int IntKind.u8] c, elem := 57, kind := k }]) 

def VC_spec_tuAsked (s : List UInt8) (k : Int) (K : V → Prop) : Prop :=
  At ((↑(List.length s) : Int) ≤ (9223372036854775807 : Int)) ∧
  (progB s = true → At True ∧ K (V.bool (inB k (0 : Int) (100 : Int)))) ∧ (progB s = false → K (V.lit false))

def VC_bits_Mul64 (x : Int) (y : Int) (K : V → Prop) : Prop :=
  At
    ((0 : Int) ≤ x ∧
      x < (18446744073709551616 : Int) ∧
        (0 : Int) ≤ (4294967295 : Int) ∧ (4294967295 : Int) < (18446744073709551616 : Int)) ∧
  At ((0 : Int) ≤ (32 : Int) ∧ (32 : Int) < (64 : Int)) ∧
    At
        ((0 : Int) ≤ y ∧
          y < (18446744073709551616 : Int) ∧
            (0 : Int) ≤ (4294967295 : Int) ∧ (4294967295 : Int) < (18446744073709551616 : Int)) ∧
      At ((0 : Int) ≤ (32 : Int) ∧ (32 : Int) < (64 : Int)) ∧
        At ((0 : Int) ≤ (32 : Int) ∧ (32 : Int) < (64 : Int)) ∧
          At
              ((0 : Int) ≤
                  IntKind.wrap IntKind.u64
                    (IntKind.wrap IntKind.u64
                        (Int.fdiv x ((2 : Int) ^ Int.toNat (32 : Int)) *
                          (↑(Int.toNat y &&& Int.toNat (4294967295 : Int)) : Int)) +
                      Int.fdiv
                        (IntKind.wrap IntKind.u64
                          ((↑(Int.toNat x &&& Int.toNat (4294967295 : Int)) : Int) *
                            (↑(Int.toNat y &&& Int.toNat (4294967295 : Int)) : Int)))
                        ((2 : Int) ^ Int.toNat (32 : Int))) ∧
                IntKind.wrap IntKind.u64
                      (IntKind.wrap IntKind.u64
                          (Int.fdiv x ((2 : Int) ^ Int.toNat (32 : Int)) *
                            (↑(Int.toNat y &&& Int.toNat (4294967295 : Int)) : Int)) +
                        Int.fdiv
                          (IntKind.wrap IntKind.u64
                            ((↑(Int.toNat x &&& Int.toNat (4294967295 : Int)) : Int) *
                              (↑(Int.toNat y &&& Int.toNat (4294967295 : Int)) : Int)))
                          ((2 : Int) ^ Int.toNat (32 : Int))) <
                    (18446744073709551616 : Int) ∧
                  (0 : Int) ≤ (4294967295 : Int) ∧ (4294967295 : Int) < (18446744073709551616 : Int)) ∧
            At ((0 : Int) ≤ (32 : Int) ∧ (32 : Int) < (64 : Int)) ∧
              At ((0 : Int) ≤ (32 : Int) ∧ (32 : Int) < (64 : Int)) ∧
                K
                  (V.tup
                    [V.int IntKind.u64
                        (IntKind.wrap IntKind.u64
                          (IntKind.wrap IntKind.u64
                              (IntKind.wrap IntKind.u64
                                  (Int.fdiv x ((2 : Int) ^ Int.toNat (32 : Int)) *
                                    Int.fdiv y ((2 : Int) ^ Int.toNat (32 : Int))) +
                                Int.fdiv
                                  (IntKind.wrap IntKind.u64
                                    (IntKind.wrap IntKind.u64
                                        (Int.fdiv x ((2 : Int) ^ Int.toNat (32 : Int)) *
                                          (↑(Int.toNat y &&& Int.toNat (4294967295 : Int)) : Int)) +
                                      Int.fdiv
                                        (IntKind.wrap IntKind.u64
                                          ((↑(Int.toNat x &&& Int.toNat (4294967295 : Int)) : Int) *
                                            (↑(Int.toNat y &&& Int.toNat (4294967295 : Int)) : Int)))
                                        ((2 : Int) ^ Int.toNat (32 : Int))))
                                  ((2 : Int) ^ Int.toNat (32 : Int))) +
                            Int.fdiv
                              (IntKind.wrap IntKind.u64
                                ((↑(Int.toNat
                                          (IntKind.wrap IntKind.u64
                                            (IntKind.wrap IntKind.u64
                                                (Int.fdiv x ((2 : Int) ^ Int.toNat (32 : Int)) *
                                                  (↑(Int.toNat y &&& Int.toNat (4294967295 : Int)) : Int)) +
                                              Int.fdiv
                                                (IntKind.wrap IntKind.u64
                                                  ((↑(Int.toNat x &&& Int.toNat (4294967295 : Int)) : Int) *
                                                    (↑(Int.toNat y &&& Int.toNat (4294967295 : Int)) : Int)))
                                                ((2 : Int) ^ Int.toNat (32 : Int)))) &&&
                                        Int.toNat (4294967295 : Int)) :
                                    Int) +
                                  IntKind.wrap IntKind.u64
                                    ((↑(Int.toNat x &&& Int.toNat (4294967295 : Int)) : Int) *
                                      Int.fdiv y ((2 : Int) ^ Int.toNat (32 : Int)))))
                              ((2 : Int) ^ Int.toNat (32 : Int)))),
                      V.int IntKind.u64 (IntKind.wrap IntKind.u64 (x * y))])

def VC_bits_Mul (x : Int) (y : Int) (K : V → Prop) : Prop :=
  At ((0 : Int) ≤ x ∧ x ≤ (100 : Int) ∧ (0 : Int) ≤ y ∧ y ≤ (100 : Int)) ∧
  K (V.tup [V.int IntKind.u64 (0 : Int), V.int IntKind.u64 (x * y)])

def VC_impl_part (k : Int) (n : Nat) (c : List Sc) (K : V → List Blk → Prop) : Prop := (decide (k < (0 : Int)) = true → False) ∧ (decide (k < (0 : Int)) = false → At ((0 : Int) ≤ IntKind.wrap IntKind.u64 (↑n : Int) ∧ IntKind.wrap IntKind.u64 (↑n : Int) ≤ (100 : Int) ∧ (0 : Int) ≤ IntKind.wrap IntKind.u64 k ∧ IntKind.wrap IntKind.u64 k ≤ (100 : Int)) ∧ (decide ((0 : Int) > (0 : Int)) = true → False) ∧ (decide ((0 : Int) > (0 : Int)) = false → (decide (IntKind.wrap IntKind.u64 (↑n : Int) * IntKind.wrap IntKind.u64 k > (9223372036854775807 : Int)) = true → False) ∧ (decide (IntKind.wrap IntKind.u64 (↑n : Int) * IntKind.wrap IntKind.u64 k > (9223372036854775807 : Int)) = false → At ((0 : Int) ≤ IntKind.wrap IntKind.i64 (IntKind.wrap IntKind.u64 (↑n : Int) * IntKind.wrap IntKind.u64 k) ∧ IntKind.wrap IntKind.i64 (IntKind.wrap IntKind.u64 (↑n : Int) * IntKind.wrap IntKind.u64 k) ≤ IntKind.wrap IntKind.i64 (IntKind.wrap IntKind.u64 (↑n : Int) * IntKind.wrap IntKind.u64 k) ∧ IntKind.wrap IntKind.i64 (IntKind.wrap IntKind.u64 (↑n : Int) * IntKind.wrap IntKind.u64 k) ≤ (1000000000 : Int)) ∧ At (n * (2 : Nat) ≤ List.length c ∧ ((0 : Nat) + Nat.min n (Int.toNat (IntKind.wrap IntKind.i64 (IntKind.wrap IntKind.u64 (↑n : Int) * IntKind.wrap IntKind.u64 k)))) * (2 : Nat) ≤ List.length (List.replicate (Int.toNat (IntKind.wrap IntKind.i64 (IntKind.wrap IntKind.u64 (↑n : Int) * IntKind.wrap IntKind.u64 k)) * (2 : Nat)) (Sc.mk ((0 : Int)) ([])))) ∧ (True ∧ (((0 : Nat) = (0 : Nat) ∧ n = n) ∧ ((1 : Nat) = (1 : Nat) ∧ Int.toNat (IntKind.wrap IntKind.i64 (IntKind.wrap IntKind.u64 (↑n : Int) * IntKind.wrap IntKind.u64 k)) = n * Int.toNat k) ∧ (True ∧ (↑(Nat.min n (Int.toNat (IntKind.wrap IntKind.i64 (IntKind.wrap IntKind.u64 (↑n : Int) * IntKind.wrap IntKind.u64 k)))) : Int) = (↑(Nat.min n (Int.toNat (IntKind.wrap IntKind.i64 (IntKind.wrap IntKind.u64 (↑n : Int) * IntKind.wrap IntKind.u64 k)))) : Int)) ∧ True) ∧ ((True ∧ True ∧ c = c) ∧ (True ∧ True ∧ List.take ((0 : Nat) * (2 : Nat)) (List.replicate (Int.toNat (IntKind.wrap IntKind.i64 (IntKind.wrap IntKind.u64 (↑n : Int) * IntKind.wrap IntKind.u64 k)) * (2 : Nat)) (Sc.mk ((0 : Int)) ([]))) ++ List.take (Nat.min n (Int.toNat (IntKind.wrap IntKind.i64 (IntKind.wrap IntKind.u64 (↑n : Int) * IntKind.wrap IntKind.u64 k))) * (2 : Nat)) c ++ List.drop (((0 : Nat) + Nat.min n (Int.toNat (IntKind.wrap IntKind.i64 (IntKind.wrap IntKind.u64 (↑n : Int) * IntKind.wrap IntKind.u64 k)))) * (2 : Nat)) (List.replicate (Int.toNat (IntKind.wrap IntKind.i64 (IntKind.wrap IntKind.u64 (↑n : Int) * IntKind.wrap IntKind.u64 k)) * (2 : Nat)) (Sc.mk ((0 : Int)) ([]))) = repZ c (n * Int.toNat k * (2 : Nat)) (Int.toNat (↑(Nat.min n (Int.toNat (IntKind.wrap IntKind.i64 (IntKind.wrap IntKind.u64 (↑n : Int) * IntKind.wrap IntKind.u64 k)))) : Int) * (2 : Nat))) ∧ True) ∧ True) ∧ At (rpInv n (Int.toNat k) (↑(Nat.min n (Int.toNat (IntKind.wrap IntKind.i64 (IntKind.wrap IntKind.u64 (↑n : Int) * IntKind.wrap IntKind.u64 k)))) : Int)) ∧ ∀ (a : Int), rpInv n (Int.toNat k) a → (decide (a < (↑(n * Int.toNat k) : Int)) = true → (At ((0 : Int) ≤ a ∧ a ≤ (↑(n * Int.toNat k) : Int) ∧ n * Int.toNat k * (2 : Nat) ≤ Cells.len (Cells.recs [Sh.int IntKind.i64, Sh.int IntKind.u8] (repZ c (n * Int.toNat k * (2 : Nat)) (Int.toNat a * (2 : Nat))))) ∧ (At ((0 : Int) ≤ a ∧ a ≤ (↑(n * Int.toNat k) : Int) ∧ n * Int.toNat k * (2 : Nat) ≤ Cells.len (Cells.recs [Sh.int IntKind.i64, Sh.int IntKind.u8] (repZ c (n * Int.toNat k * (2 : Nat)) (Int.toNat a * (2 : Nat))))) ∧ (At (Int.toNat a * (2 : Nat) ≤ List.length (List.drop ((0 : Nat) * (2 : Nat)) (repZ c (n * Int.toNat k * (2 : Nat)) (Int.toNat a * (2 : Nat)))) ∧ (Int.toNat a + Nat.min (Int.toNat a) (n * Int.toNat k - Int.toNat a)) * (2 : Nat) ≤ List.length (repZ c (n * Int.toNat k * (2 : Nat)) (Int.toNat a * (2 : Nat)))) ∧ (True ∧ (((0 : Nat) = (0 : Nat) ∧ n = n) ∧ ((1 : Nat) = (1 : Nat) ∧ n * Int.toNat k = n * Int.toNat k) ∧ (True ∧ IntKind.wrap IntKind.i64 (a + (↑(Nat.min (Int.toNat a) (n * Int.toNat k - Int.toNat a)) : Int)) = IntKind.wrap IntKind.i64 (a + (↑(Nat.min (Int.toNat a) (n * Int.toNat k - Int.toNat a)) : Int))) ∧ True) ∧ ((True ∧ True ∧ c = c) ∧ (True ∧ True ∧ List.take (Int.toNat a * (2 : Nat)) (repZ c (n * Int.toNat k * (2 : Nat)) (Int.toNat a * (2 : Nat))) ++ List.take (Nat.min (Int.toNat a) (n * Int.toNat k - Int.toNat a) * (2 : Nat)) (List.drop ((0 : Nat) * (2 : Nat)) (repZ c (n * Int.toNat k * (2 : Nat)) (Int.toNat a * (2 : Nat)))) ++ List.drop ((Int.toNat a + Nat.min (Int.toNat a) (n * Int.toNat k - Int.toNat a)) * (2 : Nat)) (repZ c (n * Int.toNat k * (2 : Nat)) (Int.toNat a * (2 : Nat))) = repZ c (n * Int.toNat k * (2 : Nat)) (Int.toNat (IntKind.wrap IntKind.i64 (a + (↑(Nat.min (Int.toNat a) (n * Int.toNat k - Int.toNat a)) : Int))) * (2 : Nat))) ∧ True) ∧ True) ∧ At (rpInv n (Int.toNat k) (IntKind.wrap IntKind.i64 (a + (↑(Nat.min (Int.toNat a) (n * Int.toNat k - Int.toNat a)) : Int))) ∧ Int.toNat ((↑(n * Int.toNat k) : Int) - IntKind.wrap IntKind.i64 (a + (↑(Nat.min (Int.toNat a) (n * Int.toNat k - Int.toNat a)) : Int))) < Int.toNat ((↑(n * Int.toNat k) : Int) - a))) ∧ True) ∧ True) ∧ (At ((0 : Int) ≤ a ∧ a ≤ (↑(n * Int.toNat k) : Int) ∧ n * Int.toNat k * (2 : Nat) ≤ Cells.len (Cells.recs [Sh.int IntKind.i64, Sh.int IntKind.u8] (repZ c (n * Int.toNat k * (2 : Nat)) (Int.toNat a * (2 : Nat))))) ∧ (At ((0 : Int) ≤ a ∧ a ≤ (↑(n * Int.toNat k) : Int) ∧ n * Int.toNat k * (2 : Nat) ≤ Cells.len (Cells.recs [Sh.int IntKind.i64, Sh.int IntKind.u8] (repZ c (n * Int.toNat k * (2 : Nat)) (Int.toNat a * (2 : Nat))))) ∧ (At (Int.toNat a * (2 : Nat) ≤ List.length (List.drop ((0 : Nat) * (2 : Nat)) (repZ c (n * Int.toNat k * (2 : Nat)) (Int.toNat a * (2 : Nat)))) ∧ (Int.toNat a + Nat.min (Int.toNat a) (n * Int.toNat k - Int.toNat a)) * (2 : Nat) ≤ List.length (repZ c (n * Int.toNat k * (2 : Nat)) (Int.toNat a * (2 : Nat)))) ∧ (True ∧ (((0 : Nat) = (0 : Nat) ∧ n = n) ∧ ((1 : Nat) = (1 : Nat) ∧ n * Int.toNat k = n * Int.toNat k) ∧ (True ∧ IntKind.wrap IntKind.i64 (a + (↑(Nat.min (Int.toNat a) (n * Int.toNat k - Int.toNat a)) : Int)) = IntKind.wrap IntKind.i64 (a + (↑(Nat.min (Int.toNat a) (n * Int.toNat k - Int.toNat a)) : Int))) ∧ True) ∧ ((True ∧ True ∧ c = c) ∧ (True ∧ True ∧ List.take (Int.toNat a * (2 : Nat)) (repZ c (n * Int.toNat k * (2 : Nat)) (Int.toNat a * (2 : Nat))) ++ List.take (Nat.min (Int.toNat a) (n * Int.toNat k - Int.toNat a) * (2 : Nat)) (List.drop ((0 : Nat) * (2 : Nat)) (repZ c (n * Int.toNat k * (2 : Nat)) (Int.toNat a * (2 : Nat)))) ++ List.drop ((Int.toNat a + Nat.min (Int.toNat a) (n * Int.toNat k - Int.toNat a)) * (2 : Nat)) (repZ c (n * Int.toNat k * (2 : Nat)) (Int.toNat a * (2 : Nat))) = repZ c (n * Int.toNat k * (2 : Nat)) (Int.toNat (IntKind.wrap IntKind.i64 (a + (↑(Nat.min (Int.toNat a) (n * Int.toNat k - Int.toNat a)) : Int))) * (2 : Nat))) ∧ True) ∧ True) ∧ At (rpInv n (Int.toNat k) (IntKind.wrap IntKind.i64 (a + (↑(Nat.min (Int.toNat a) (n * Int.toNat k - Int.toNat a)) : Int))) ∧ Int.toNat ((↑(n * Int.toNat k) : Int) - IntKind.wrap IntKind.i64 (a + (↑(Nat.min (Int.toNat a) (n * Int.toNat k - Int.toNat a)) : Int))) < Int.toNat ((↑(n * Int.toNat k) : Int) - a))) ∧ True) ∧ True) ∧ True) ∧ (decide (a < (↑(n * Int.toNat k) : Int)) = false → K (V.row (1 : Nat) (n * Int.toNat k)) [{ cs := Cells.recs [Sh.int IntKind.i64, Sh.int IntKind.u8] c, elem := 57, kind := Kind.rows (2 : Nat) }, { cs := Cells.recs [Sh.int IntKind.i64, Sh.int IntKind.u8] (repZ c (n * Int.toNat k * (2 : Nat)) (Int.toNat a * (2 : Nat))), elem := 57, kind := Kind.rows (2 : Nat) }])))) 

def VC_impl_repeated (s : List UInt8) (k : Int) (K : V → List Blk → Prop) : Prop :=
  At ((↑(List.length s) : Int) ≤ (9223372036854775807 : Int)) ∧
  ((!progB s) = true →
      K (V.tup [V.raw (Value.slice none (0 : Nat) (0 : Nat)), V.lit false])
        [{ cs := Cells.recs [Sh.int IntKind.i64, Sh.int IntKind.u8] (partsC s), elem := 57,
            kind := Kind.rows (2 : Nat) }]) ∧
    ((!progB s) = false →
      At True ∧
        ((!inB k (0 : Int) (100 : Int)) = true →
            K (V.tup [V.raw (Value.slice none (0 : Nat) (0 : Nat)), V.lit false])
              [{ cs := Cells.recs [Sh.int IntKind.i64, Sh.int IntKind.u8] (partsC s), elem := 57,
                  kind := Kind.rows (2 : Nat) }]) ∧
          ((!inB k (0 : Int) (100 : Int)) = false →
            At
                (List.length (partsC s) = partsN s * (2 : Nat) ∧
                  (1 : Nat) ≤ partsN s ∧ partsN s ≤ (9 : Nat) ∧ (0 : Int) ≤ k ∧ k ≤ (100 : Int)) ∧
              K (V.tup [V.row (1 : Nat) (partsN s * Int.toNat k), V.lit true])
                [{ cs := Cells.recs [Sh.int IntKind.i64, Sh.int IntKind.u8] (partsC s), elem := 57,
                    kind := Kind.rows (2 : Nat) },
                  { cs := Cells.recs [Sh.int IntKind.i64, Sh.int IntKind.u8] (repC (Int.toNat k) (partsC s)),
                    elem := 57, kind := Kind.rows (2 : Nat) }]))

def VC_spec_LengthOf (s : List UInt8) (k : Int) (K : V → Prop) : Prop :=
  At ((↑(List.length s) : Int) ≤ (9223372036854775807 : Int)) ∧
  ((!askB s k) = true → K (V.tup [V.int IntKind.i64 (0 : Int), V.lit false])) ∧
    ((!askB s k) = false →
      At (progB s = true) ∧ K (V.tup [V.int IntKind.i64 (IntKind.wrap IntKind.i64 (lenC (ptS s) * k)), V.lit true]))

def VC_impl_LengthOf (s : List UInt8) (k : Int) (K : V → Prop) : Prop :=
  At ((↑(List.length s) : Int) ≤ (9223372036854775807 : Int)) ∧
  ((!askB s k) = true → K (V.tup [V.int IntKind.i64 (0 : Int), V.lit false])) ∧
    ((!askB s k) = false →
      At (List.length (repS s k) = repN s k * (2 : Nat) ∧ repN s k ≤ (900 : Nat) ∧ okC (repS s k)) ∧
        K (V.tup [V.int IntKind.i64 (lenC (repS s k)), V.lit true]))

def VC_spec_tuTurtle_tuGo (a : Int) (x : Int) (y : Int) (w : Int) (K : V → List Blk → Prop) : Prop :=
  ((w == (0 : Int)) = true →
    K (V.tup [])
      [{
          cs :=
            Cells.vals [V.int IntKind.i64 x, V.int IntKind.i64 (IntKind.wrap IntKind.i64 (y - a)), V.int IntKind.i64 w],
          elem := 45, kind := Kind.box }]) ∧
  ((w == (0 : Int)) = false →
    ((w == (1 : Int)) = true →
        K (V.tup [])
          [{
              cs :=
                Cells.vals
                  [V.int IntKind.i64 (IntKind.wrap IntKind.i64 (x + a)), V.int IntKind.i64 y, V.int IntKind.i64 w],
              elem := 45, kind := Kind.box }]) ∧
      ((w == (1 : Int)) = false →
        ((w == (2 : Int)) = true →
            K (V.tup [])
              [{
                  cs :=
                    Cells.vals
                      [V.int IntKind.i64 x, V.int IntKind.i64 (IntKind.wrap IntKind.i64 (y + a)), V.int IntKind.i64 w],
                  elem := 45, kind := Kind.box }]) ∧
          ((w == (2 : Int)) = false →
            K (V.tup [])
              [{
                  cs :=
                    Cells.vals
                      [V.int IntKind.i64 (IntKind.wrap IntKind.i64 (x - a)), V.int IntKind.i64 y, V.int IntKind.i64 w],
                  elem := 45, kind := Kind.box }])))

def VC_spec_tuTurtle_tuPart (s : List UInt8) (i : Int) (x : Int) (y : Int) (w : Int) (K : V → List Blk → Prop) : Prop :=
  At ((0 : Int) ≤ i ∧ i < (↑(List.length s) : Int)) ∧
  At
      (okT (9000 : Int) { x := x, y := y, w := w } ∧
        (0 : Int) ≤
            IntKind.wrap IntKind.i64
              (IntKind.wrap IntKind.u8 ((↑(UInt8.toNat (List.getD s (Int.toNat i) (0 : UInt8))) : Int) - (48 : Int))) ∧
          IntKind.wrap IntKind.i64
              (IntKind.wrap IntKind.u8 ((↑(UInt8.toNat (List.getD s (Int.toNat i) (0 : UInt8))) : Int) - (48 : Int))) ≤
            (9 : Int)) ∧
    K (V.tup [])
      [{
          cs :=
            Cells.vals
              [V.int IntKind.i64
                  (Tt.x
                    (goT
                      (IntKind.wrap IntKind.i64
                        (IntKind.wrap IntKind.u8
                          ((↑(UInt8.toNat (List.getD s (Int.toNat i) (0 : UInt8))) : Int) - (48 : Int))))
                      { x := x, y := y, w := w })),
                V.int IntKind.i64
                  (Tt.y
                    (goT
                      (IntKind.wrap IntKind.i64
                        (IntKind.wrap IntKind.u8
                          ((↑(UInt8.toNat (List.getD s (Int.toNat i) (0 : UInt8))) : Int) - (48 : Int))))
                      { x := x, y := y, w := w })),
                V.int IntKind.i64
                  (Tt.w
                    (goT
                      (IntKind.wrap IntKind.i64
                        (IntKind.wrap IntKind.u8
                          ((↑(UInt8.toNat (List.getD s (Int.toNat i) (0 : UInt8))) : Int) - (48 : Int))))
                      { x := x, y := y, w := w }))],
          elem := 45, kind := Kind.box }]

def VC_spec_tuTurtle_tuSign (s : List UInt8) (i : Int) (x : Int) (y : Int) (w : Int) (K : V → List Blk → Prop) : Prop :=
  True ∧
  At
      ((0 : Int) ≤ IntKind.wrap IntKind.i64 (i + (1 : Int)) ∧
        IntKind.wrap IntKind.i64 (i + (1 : Int)) < (↑(List.length s) : Int)) ∧
    At True ∧
      At ((4 : Int) ≠ (0 : Int)) ∧
        K (V.tup [])
          [{
              cs :=
                Cells.vals
                  [V.int IntKind.i64 x, V.int IntKind.i64 y,
                    V.int IntKind.i64
                      (Int.tmod
                        (IntKind.wrap IntKind.i64
                          (w +
                            qI
                              (↑(UInt8.toNat
                                    (List.getD s (Int.toNat (IntKind.wrap IntKind.i64 (i + (1 : Int)))) (0 : UInt8))) :
                                Int)))
                        (4 : Int))],
              elem := 45, kind := Kind.box }]

def VC_spec_tuAfter (s : List UInt8) (k : Int) (K : V → Prop) : Prop :=
  (True ∧
    (s = s ∧
        (True ∧ k = k) ∧
          ((0 : Nat) = (0 : Nat) ∧ (0 : Nat) = (0 : Nat)) ∧ ((1 : Nat) = (1 : Nat) ∧ (0 : Nat) = (0 : Nat)) ∧ True) ∧
      ((True ∧
            (True ∧ (0 : Int) = Tt.x zeroT) ∧
              (True ∧ (0 : Int) = Tt.y zeroT) ∧ (True ∧ (0 : Int) = Tt.w zeroT) ∧ True) ∧
          (True ∧
              (True ∧ (0 : Int) = Tt.x (aftR s (Int.toNat (k - k)))) ∧
                (True ∧ (0 : Int) = Tt.y (aftR s (Int.toNat (k - k)))) ∧
                  (True ∧ (0 : Int) = Tt.w (aftR s (Int.toNat (k - k)))) ∧ True) ∧
            True) ∧
        True) ∧
  At ((0 : Int) ≤ k ∧ k ≤ k) ∧
    ∀ (a : Int),
      (0 : Int) ≤ a ∧ a ≤ k →
        (decide (a > (0 : Int)) = true →
            (True ∧
                (s = s ∧
                    (True ∧ a = a) ∧
                      ((0 : Nat) = (0 : Nat) ∧ (0 : Nat) = (0 : Nat)) ∧
                        ((1 : Nat) = (1 : Nat) ∧ (0 : Nat) = (0 : Nat)) ∧ (True ∧ (0 : Int) = (0 : Int)) ∧ True) ∧
                  ((True ∧
                        (True ∧ Tt.x zeroT = Tt.x zeroT) ∧
                          (True ∧ Tt.y zeroT = Tt.y zeroT) ∧ (True ∧ Tt.w zeroT = Tt.w zeroT) ∧ True) ∧
                      (True ∧
                          (True ∧
                              Tt.x (aftR s (Int.toNat (k - a))) =
                                Tt.x (goC (ptS (List.take (Int.toNat (0 : Int)) s)) (aftR s (Int.toNat (k - a))))) ∧
                            (True ∧
                                Tt.y (aftR s (Int.toNat (k - a))) =
                                  Tt.y (goC (ptS (List.take (Int.toNat (0 : Int)) s)) (aftR s (Int.toNat (k - a))))) ∧
                              (True ∧
                                  Tt.w (aftR s (Int.toNat (k - a))) =
                                    Tt.w (goC (ptS (List.take (Int.toNat (0 : Int)) s)) (aftR s (Int.toNat (k - a))))) ∧
                                True) ∧
                        True) ∧
                    True) ∧
              At (evInv s (0 : Int)) ∧
                ∀ (a_3 : Int),
                  evInv s a_3 →
                    (decide (a_3 < (↑(List.length s) : Int)) = true →
                        At
                            (okT (9000 : Int) (goC (ptS (List.take (Int.toNat a_3) s)) (aftR s (Int.toNat (k - a)))) ∧
                              (0 : Int) ≤ a_3 ∧
                                a_3 < (↑(List.length s) : Int) ∧
                                  digU (List.getD s (Int.toNat a_3) (0 : UInt8)) = true) ∧
                          At
                              (okT (9000 : Int)
                                  (goT ((↑(UInt8.toNat (List.getD s (Int.toNat a_3) (0 : UInt8))) : Int) - (48 : Int))
                                    (goC (ptS (List.take (Int.toNat a_3) s)) (aftR s (Int.toNat (k - a))))) ∧
                                (0 : Int) ≤ a_3 ∧
                                  a_3 + (1 : Int) < (↑(List.length s) : Int) ∧ List.length s ≤ (100 : Nat)) ∧
                            (True ∧
                                (s = s ∧
                                    (True ∧ a = a) ∧
                                      ((0 : Nat) = (0 : Nat) ∧ (0 : Nat) = (0 : Nat)) ∧
                                        ((1 : Nat) = (1 : Nat) ∧ (0 : Nat) = (0 : Nat)) ∧
                                          (True ∧
                                              IntKind.wrap IntKind.i64 (a_3 + (2 : Int)) =
                                                IntKind.wrap IntKind.i64 (a_3 + (2 : Int))) ∧
                                            True) ∧
                                  ((True ∧
                                        (True ∧ Tt.x zeroT = Tt.x zeroT) ∧
                                          (True ∧ Tt.y zeroT = Tt.y zeroT) ∧ (True ∧ Tt.w zeroT = Tt.w zeroT) ∧ True) ∧
                                      (True ∧
                                          (True ∧
                                              Tt.x
                                                  (tnT
                                                    (↑(UInt8.toNat
                                                          (List.getD s (Int.toNat a_3 + (1 : Nat)) (0 : UInt8))) :
                                                      Int)
                                                    (goT
                                                      ((↑(UInt8.toNat (List.getD s (Int.toNat a_3) (0 : UInt8))) :
                                                          Int) -
                                                        (48 : Int))
                                                      (goC (ptS (List.take (Int.toNat a_3) s))
                                                        (aftR s (Int.toNat (k - a)))))) =
                                                Tt.x
                                                  (goC
                                                    (ptS
                                                      (List.take
                                                        (Int.toNat (IntKind.wrap IntKind.i64 (a_3 + (2 : Int)))) s))
                                                    (aftR s (Int.toNat (k - a))))) ∧
                                            (True ∧
                                                Tt.y
                                                    (tnT
                                                      (↑(UInt8.toNat
                                                            (List.getD s (Int.toNat a_3 + (1 : Nat)) (0 : UInt8))) :
                                                        Int)
                                                      (goT
                                                        ((↑(UInt8.toNat (List.getD s (Int.toNat a_3) (0 : UInt8))) :
                                                            Int) -
                                                          (48 : Int))
                                                        (goC (ptS (List.take (Int.toNat a_3) s))
                                                          (aftR s (Int.toNat (k - a)))))) =
                                                  Tt.y
                                                    (goC
                                                      (ptS
                                                        (List.take
                                                          (Int.toNat (IntKind.wrap IntKind.i64 (a_3 + (2 : Int)))) s))
                                                      (aftR s (Int.toNat (k - a))))) ∧
                                              (True ∧
                                                  Tt.w
                                                      (tnT
                                                        (↑(UInt8.toNat
                                                              (List.getD s (Int.toNat a_3 + (1 : Nat)) (0 : UInt8))) :
                                                          Int)
                                                        (goT
                                                          ((↑(UInt8.toNat (List.getD s (Int.toNat a_3) (0 : UInt8))) :
                                                              Int) -
                                                            (48 : Int))
                                                          (goC (ptS (List.take (Int.toNat a_3) s))
                                                            (aftR s (Int.toNat (k - a)))))) =
                                                    Tt.w
                                                      (goC
                                                        (ptS
                                                          (List.take
                                                            (Int.toNat (IntKind.wrap IntKind.i64 (a_3 + (2 : Int)))) s))
                                                        (aftR s (Int.toNat (k - a))))) ∧
                                                True) ∧
                                        True) ∧
                                    True) ∧
                              At
                                (evInv s (IntKind.wrap IntKind.i64 (a_3 + (2 : Int))) ∧
                                  Int.toNat ((↑(List.length s) : Int) - IntKind.wrap IntKind.i64 (a_3 + (2 : Int))) <
                                    Int.toNat ((↑(List.length s) : Int) - a_3))) ∧
                      (decide (a_3 < (↑(List.length s) : Int)) = false →
                        (True ∧
                            (s = s ∧
                                (True ∧
                                    IntKind.wrap IntKind.i64 (a - (1 : Int)) =
                                      IntKind.wrap IntKind.i64 (a - (1 : Int))) ∧
                                  ((0 : Nat) = (0 : Nat) ∧ (0 : Nat) = (0 : Nat)) ∧
                                    ((1 : Nat) = (1 : Nat) ∧ (0 : Nat) = (0 : Nat)) ∧ True) ∧
                              ((True ∧
                                    (True ∧ Tt.x zeroT = Tt.x zeroT) ∧
                                      (True ∧ Tt.y zeroT = Tt.y zeroT) ∧ (True ∧ Tt.w zeroT = Tt.w zeroT) ∧ True) ∧
                                  (True ∧
                                      (True ∧
                                          Tt.x (goC (ptS (List.take (Int.toNat a_3) s)) (aftR s (Int.toNat (k - a)))) =
                                            Tt.x (aftR s (Int.toNat (k - IntKind.wrap IntKind.i64 (a - (1 : Int)))))) ∧
                                        (True ∧
                                            Tt.y
                                                (goC (ptS (List.take (Int.toNat a_3) s)) (aftR s (Int.toNat (k - a)))) =
                                              Tt.y
                                                (aftR s (Int.toNat (k - IntKind.wrap IntKind.i64 (a - (1 : Int)))))) ∧
                                          (True ∧
                                              Tt.w
                                                  (goC (ptS (List.take (Int.toNat a_3) s))
                                                    (aftR s (Int.toNat (k - a)))) =
                                                Tt.w
                                                  (aftR s (Int.toNat (k - IntKind.wrap IntKind.i64 (a - (1 : Int)))))) ∧
                                            True) ∧
                                    True) ∧
                                True) ∧
                          At
                            (((0 : Int) ≤ IntKind.wrap IntKind.i64 (a - (1 : Int)) ∧
                                IntKind.wrap IntKind.i64 (a - (1 : Int)) ≤ k) ∧
                              Int.toNat (IntKind.wrap IntKind.i64 (a - (1 : Int))) < Int.toNat a))) ∧
          (decide (a > (0 : Int)) = false →
            K
              (V.agg
                [V.int IntKind.i64 (Tt.x (aftR s (Int.toNat (k - a)))),
                  V.int IntKind.i64 (Tt.y (aftR s (Int.toNat (k - a)))),
                  V.int IntKind.i64 (Tt.w (aftR s (Int.toNat (k - a))))]))

def VC_impl_newTurtle_1 (n : Nat) (c : List Sc) (x : Int) (y : Int) (w : Int) (K : V → List Blk → Prop) : Prop := (True ∧ (((1 : Nat) = (1 : Nat) ∧ (0 : Nat) = (0 : Nat)) ∧ ((2 : Nat) = (2 : Nat) ∧ (0 : Nat) = (0 : Nat)) ∧ ((0 : Nat) = (0 : Nat) ∧ n = n) ∧ (True ∧ (↑n : Int) = (↑n : Int)) ∧ (True ∧ (0 : Int) = (0 : Int)) ∧ True) ∧ ((True ∧ True ∧ c = c) ∧ (True ∧ (True ∧ x = Tt.x (goC (List.take (Int.toNat (0 : Int) * (2 : Nat)) c) { x := x, y := y, w := w })) ∧ (True ∧ y = Tt.y (goC (List.take (Int.toNat (0 : Int) * (2 : Nat)) c) { x := x, y := y, w := w })) ∧ (True ∧ w = Tt.w (goC (List.take (Int.toNat (0 : Int) * (2 : Nat)) c) { x := x, y := y, w := w })) ∧ True) ∧ (True ∧ (True ∧ (0 : Int) = Tt.x zeroT) ∧ (True ∧ (0 : Int) = Tt.y zeroT) ∧ (True ∧ (0 : Int) = Tt.w zeroT) ∧ True) ∧ True) ∧ True) ∧ At (ixN n (0 : Int)) ∧ ∀ (a : Int), ixN n a → (decide (a < (↑n : Int)) = true → At ((0 : Int) ≤ a ∧ a < (↑n : Int)) ∧ At (Int.toNat a * (2 : Nat) + (2 : Nat) ≤ List.length c ∧ Int.toNat a * (2 : Nat) % (2 : Nat) = (0 : Nat)) ∧ At ((0 : Int) ≤ (2 : Int) ∧ (2 : Int) < (↑(3 : Nat) : Int)) ∧ At True ∧ At ((0 : Int) ≤ (0 : Int) ∧ (0 : Int) < (↑(3 : Nat) : Int)) ∧ At ((0 : Int) ≤ (0 : Int) ∧ (0 : Int) < (↑(3 : Nat) : Int)) ∧ At ((0 : Int) ≤ (1 : Int) ∧ (1 : Int) < (↑(3 : Nat) : Int)) ∧ At ((0 : Int) ≤ (1 : Int) ∧ (1 : Int) < (↑(3 : Nat) : Int)) ∧ True ∧ At ((0 : Int) ≤ (2 : Int) ∧ (2 : Int) < (↑(3 : Nat) : Int)) ∧ At True ∧ At ((4 : Int) ≠ (0 : Int)) ∧ At ((0 : Int) ≤ (2 : Int) ∧ (2 : Int) < (↑(3 : Nat) : Int)) ∧ (True ∧ (((1 : Nat) = (1 : Nat) ∧ (0 : Nat) = (0 : Nat)) ∧ ((2 : Nat) = (2 : Nat) ∧ (0 : Nat) = (0 : Nat)) ∧ ((0 : Nat) = (0 : Nat) ∧ n = n) ∧ (True ∧ (↑n : Int) = (↑n : Int)) ∧ (True ∧ IntKind.wrap IntKind.i64 (a + (1 : Int)) = IntKind.wrap IntKind.i64 (a + (1 : Int))) ∧ True) ∧ ((True ∧ True ∧ c = c) ∧ (True ∧ (True ∧ IntKind.wrap IntKind.i64 (Tt.x (goC (List.take (Int.toNat a * (2 : Nat)) c) { x := x, y := y, w := w }) + IntKind.wrap IntKind.i64 (Sc.i (List.getD c (Int.toNat a * (2 : Nat)) (Sc.mk ((0 : Int)) ([]))) * dxI (Tt.w (goC (List.take (Int.toNat a * (2 : Nat)) c) { x := x, y := y, w := w })))) = Tt.x (goC (List.take (Int.toNat (IntKind.wrap IntKind.i64 (a + (1 : Int))) * (2 : Nat)) c) { x := x, y := y, w := w })) ∧ (True ∧ IntKind.wrap IntKind.i64 (Tt.y (goC (List.take (Int.toNat a * (2 : Nat)) c) { x := x, y := y, w := w }) + IntKind.wrap IntKind.i64 (Sc.i (List.getD c (Int.toNat a * (2 : Nat)) (Sc.mk ((0 : Int)) ([]))) * dyI (Tt.w (goC (List.take (Int.toNat a * (2 : Nat)) c) { x := x, y := y, w := w })))) = Tt.y (goC (List.take (Int.toNat (IntKind.wrap IntKind.i64 (a + (1 : Int))) * (2 : Nat)) c) { x := x, y := y, w := w })) ∧ (True ∧ Int.tmod (IntKind.wrap IntKind.i64 (Tt.w (goC (List.take (Int.toNat a * (2 : Nat)) c) { x := x, y := y, w := w }) + qI (Sc.i (List.getD c (Int.toNat a * (2 : Nat) + (1 : Nat)) (Sc.mk ((0 : Int)) ([])))))) (4 : Int) = Tt.w (goC (List.take (Int.toNat (IntKind.wrap IntKind.i64 (a + (1 : Int))) * (2 : Nat)) c) { x := x, y := y, w := w })) ∧ True) ∧ (True ∧ (True ∧ Tt.x zeroT = Tt.x zeroT) ∧ (True ∧ Tt.y zeroT = Tt.y zeroT) ∧ (True ∧ Tt.w zeroT = Tt.w zeroT) ∧ True) ∧ True) ∧ True) ∧ At (ixN n (IntKind.wrap IntKind.i64 (a + (1 : Int))) ∧ Int.toNat ((↑n : Int) - IntKind.wrap IntKind.i64 (a + (1 : Int))) < Int.toNat ((↑n : Int) - a))) ∧ (decide (a < (↑n : Int)) = false → K (V.agg [V.int IntKind.i64 (Tt.x (goC (List.take (Int.toNat a * (2 : Nat)) c) { x := x, y := y, w := w })), V.int IntKind.i64 (Tt.y (goC (List.take (Int.toNat a * (2 : Nat)) c) { x := x, y := y, w := w })), V.int IntKind.i64 (Tt.w (goC (List.take (Int.toNat a * (2 : Nat)) c) { x := x, y := y, w := w }))]) [{ cs := Cells.recs [Sh.int IntKind.i64, Sh.int IntKind.u8] c, elem := 57, kind := Kind.rows (2 : Nat) }, { cs := Cells.vals [V.int IntKind.i64 (Tt.x (goC (List.take (Int.toNat a * (2 : Nat)) c) { x := x, y := y, w := w })), V.int IntKind.i64 (Tt.y (goC (List.take (Int.toNat a * (2 : Nat)) c) { x := x, y := y, w := w })), V.int IntKind.i64 (Tt.w (goC (List.take (Int.toNat a * (2 : Nat)) c) { x := x, y := y, w := w }))], elem := 51, kind := Kind.box }, { cs := Cells.vals [V.int IntKind.i64 (Tt.x (goC (List.take (Int.toNat a * (2 : Nat)) c) { x := x, y := y, w := w })), V.int IntKind.i64 (Tt.y (goC (List.take (Int.toNat a * (2 : Nat)) c) { x := x, y := y, w := w })), V.int IntKind.i64 (Tt.w (goC (List.take (Int.toNat a * (2 : Nat)) c) { x := x, y := y, w := w }))], elem := 51, kind := Kind.box }]) 

def VC_impl_newTurtle_1_2 (x : Int) (y : Int) (w : Int) (K : V → List Blk → Prop) : Prop :=
  (True ∧
    (((0 : Nat) = (0 : Nat) ∧ (0 : Nat) = (0 : Nat)) ∧
        ((1 : Nat) = (1 : Nat) ∧ (0 : Nat) = (0 : Nat)) ∧
          Value.slice none (0 : Nat) (0 : Nat) = Value.slice none (0 : Nat) (0 : Nat) ∧
            (True ∧ (↑(0 : Nat) : Int) = (↑(0 : Nat) : Int)) ∧ (True ∧ (0 : Int) = (0 : Int)) ∧ True) ∧
      ((True ∧ (True ∧ x = x) ∧ (True ∧ y = y) ∧ (True ∧ w = w) ∧ True) ∧
          (True ∧
              (True ∧ (0 : Int) = Tt.x zeroT) ∧
                (True ∧ (0 : Int) = Tt.y zeroT) ∧ (True ∧ (0 : Int) = Tt.w zeroT) ∧ True) ∧
            True) ∧
        True) ∧
  At ((0 : Int) = (0 : Int)) ∧
    ∀ (a : Int),
      a = (0 : Int) →
        (decide (a < (↑(0 : Nat) : Int)) = true → False) ∧
          (decide (a < (↑(0 : Nat) : Int)) = false →
            K (V.agg [V.int IntKind.i64 x, V.int IntKind.i64 y, V.int IntKind.i64 w])
              [{ cs := Cells.vals [V.int IntKind.i64 x, V.int IntKind.i64 y, V.int IntKind.i64 w], elem := 51,
                  kind := Kind.box },
                { cs := Cells.vals [V.int IntKind.i64 x, V.int IntKind.i64 y, V.int IntKind.i64 w], elem := 51,
                  kind := Kind.box }])

def VC_impl_newTurtle_1_3 (n : Nat) (c : List Sc) (x : Int) (y : Int) (w : Int) (K : V → List Blk → Prop) : Prop := (True ∧ (((1 : Nat) = (1 : Nat) ∧ (0 : Nat) = (0 : Nat)) ∧ ((2 : Nat) = (2 : Nat) ∧ (0 : Nat) = (0 : Nat)) ∧ ((0 : Nat) = (0 : Nat) ∧ n = n) ∧ (True ∧ (↑n : Int) = (↑n : Int)) ∧ (True ∧ (0 : Int) = (0 : Int)) ∧ True) ∧ ((True ∧ True ∧ c = c) ∧ (True ∧ (True ∧ x = Tt.x (goC (List.take (Int.toNat (0 : Int) * (2 : Nat)) c) { x := x, y := y, w := w })) ∧ (True ∧ y = Tt.y (goC (List.take (Int.toNat (0 : Int) * (2 : Nat)) c) { x := x, y := y, w := w })) ∧ (True ∧ w = Tt.w (goC (List.take (Int.toNat (0 : Int) * (2 : Nat)) c) { x := x, y := y, w := w })) ∧ True) ∧ (True ∧ (True ∧ (0 : Int) = Tt.x zeroT) ∧ (True ∧ (0 : Int) = Tt.y zeroT) ∧ (True ∧ (0 : Int) = Tt.w zeroT) ∧ True) ∧ True) ∧ True) ∧ At (ixN n (0 : Int)) ∧ ∀ (a : Int), ixN n a → (decide (a < (↑n : Int)) = true → At ((0 : Int) ≤ a ∧ a < (↑n : Int)) ∧ At (Int.toNat a * (2 : Nat) + (2 : Nat) ≤ List.length c ∧ Int.toNat a * (2 : Nat) % (2 : Nat) = (0 : Nat)) ∧ At ((0 : Int) ≤ (2 : Int) ∧ (2 : Int) < (↑(3 : Nat) : Int)) ∧ At True ∧ At ((0 : Int) ≤ (0 : Int) ∧ (0 : Int) < (↑(3 : Nat) : Int)) ∧ At ((0 : Int) ≤ (0 : Int) ∧ (0 : Int) < (↑(3 : Nat) : Int)) ∧ At ((0 : Int) ≤ (1 : Int) ∧ (1 : Int) < (↑(3 : Nat) : Int)) ∧ At ((0 : Int) ≤ (1 : Int) ∧ (1 : Int) < (↑(3 : Nat) : Int)) ∧ True ∧ At ((0 : Int) ≤ (2 : Int) ∧ (2 : Int) < (↑(3 : Nat) : Int)) ∧ At True ∧ At ((4 : Int) ≠ (0 : Int)) ∧ At ((0 : Int) ≤ (2 : Int) ∧ (2 : Int) < (↑(3 : Nat) : Int)) ∧ (True ∧ (((1 : Nat) = (1 : Nat) ∧ (0 : Nat) = (0 : Nat)) ∧ ((2 : Nat) = (2 : Nat) ∧ (0 : Nat) = (0 : Nat)) ∧ ((0 : Nat) = (0 : Nat) ∧ n = n) ∧ (True ∧ (↑n : Int) = (↑n : Int)) ∧ (True ∧ IntKind.wrap IntKind.i64 (a + (1 : Int)) = IntKind.wrap IntKind.i64 (a + (1 : Int))) ∧ True) ∧ ((True ∧ True ∧ c = c) ∧ (True ∧ (True ∧ IntKind.wrap IntKind.i64 (Tt.x (goC (List.take (Int.toNat a * (2 : Nat)) c) { x := x, y := y, w := w }) + IntKind.wrap IntKind.i64 (Sc.i (List.getD c (Int.toNat a * (2 : Nat)) (Sc.mk ((0 : Int)) ([]))) * dxI (Tt.w (goC (List.take (Int.toNat a * (2 : Nat)) c) { x := x, y := y, w := w })))) = Tt.x (goC (List.take (Int.toNat (IntKind.wrap IntKind.i64 (a + (1 : Int))) * (2 : Nat)) c) { x := x, y := y, w := w })) ∧ (True ∧ IntKind.wrap IntKind.i64 (Tt.y (goC (List.take (Int.toNat a * (2 : Nat)) c) { x := x, y := y, w := w }) + IntKind.wrap IntKind.i64 (Sc.i (List.getD c (Int.toNat a * (2 : Nat)) (Sc.mk ((0 : Int)) ([]))) * dyI (Tt.w (goC (List.take (Int.toNat a * (2 : Nat)) c) { x := x, y := y, w := w })))) = Tt.y (goC (List.take (Int.toNat (IntKind.wrap IntKind.i64 (a + (1 : Int))) * (2 : Nat)) c) { x := x, y := y, w := w })) ∧ (True ∧ Int.tmod (IntKind.wrap IntKind.i64 (Tt.w (goC (List.take (Int.toNat a * (2 : Nat)) c) { x := x, y := y, w := w }) + qI (Sc.i (List.getD c (Int.toNat a * (2 : Nat) + (1 : Nat)) (Sc.mk ((0 : Int)) ([])))))) (4 : Int) = Tt.w (goC (List.take (Int.toNat (IntKind.wrap IntKind.i64 (a + (1 : Int))) * (2 : Nat)) c) { x := x, y := y, w := w })) ∧ True) ∧ (True ∧ (True ∧ Tt.x zeroT = Tt.x zeroT) ∧ (True ∧ Tt.y zeroT = Tt.y zeroT) ∧ (True ∧ Tt.w zeroT = Tt.w zeroT) ∧ True) ∧ True) ∧ True) ∧ At (ixN n (IntKind.wrap IntKind.i64 (a + (1 : Int))) ∧ Int.toNat ((↑n : Int) - IntKind.wrap IntKind.i64 (a + (1 : Int))) < Int.toNat ((↑n : Int) - a))) ∧ (decide (a < (↑n : Int)) = false → K (V.agg [V.int IntKind.i64 (Tt.x (goC (List.take (Int.toNat a * (2 : Nat)) c) { x := x, y := y, w := w })), V.int IntKind.i64 (Tt.y (goC (List.take (Int.toNat a * (2 : Nat)) c) { x := x, y := y, w := w })), V.int IntKind.i64 (Tt.w (goC (List.take (Int.toNat a * (2 : Nat)) c) { x := x, y := y, w := w }))]) [{ cs := Cells.recs [Sh.int IntKind.i64, Sh.int IntKind.u8] c, elem := 57, kind := Kind.arg (2 : Nat) }, { cs := Cells.vals [V.int IntKind.i64 (Tt.x (goC (List.take (Int.toNat a * (2 : Nat)) c) { x := x, y := y, w := w })), V.int IntKind.i64 (Tt.y (goC (List.take (Int.toNat a * (2 : Nat)) c) { x := x, y := y, w := w })), V.int IntKind.i64 (Tt.w (goC (List.take (Int.toNat a * (2 : Nat)) c) { x := x, y := y, w := w }))], elem := 51, kind := Kind.box }, { cs := Cells.vals [V.int IntKind.i64 (Tt.x (goC (List.take (Int.toNat a * (2 : Nat)) c) { x := x, y := y, w := w })), V.int IntKind.i64 (Tt.y (goC (List.take (Int.toNat a * (2 : Nat)) c) { x := x, y := y, w := w })), V.int IntKind.i64 (Tt.w (goC (List.take (Int.toNat a * (2 : Nat)) c) { x := x, y := y, w := w }))], elem := 51, kind := Kind.box }]) 

def VC_spec_PlaceAfter (s : List UInt8) (k : Int) (K : V → Prop) : Prop :=
  At ((↑(List.length s) : Int) ≤ (9223372036854775807 : Int)) ∧
  ((!askB s k) = true →
      K (V.tup [V.int IntKind.i64 (0 : Int), V.int IntKind.i64 (0 : Int), V.int IntKind.i64 (0 : Int), V.lit false])) ∧
    ((!askB s k) = false →
      At (askB s k = true) ∧
        True ∧
          K
            (V.tup
              [V.int IntKind.i64 (Tt.x (aftR s (Int.toNat k))), V.int IntKind.i64 (Tt.y (aftR s (Int.toNat k))),
                V.int IntKind.i64 (Tt.w (aftR s (Int.toNat k))), V.lit true]))

def VC_impl_PlaceAfter (s : List UInt8) (k : Int) (K : V → Prop) : Prop :=
  At ((↑(List.length s) : Int) ≤ (9223372036854775807 : Int)) ∧
  ((!askB s k) = true →
      K (V.tup [V.int IntKind.i64 (0 : Int), V.int IntKind.i64 (0 : Int), V.int IntKind.i64 (0 : Int), V.lit false])) ∧
    ((!askB s k) = false →
      At
          (List.length (repS s k) = repN s k * (2 : Nat) ∧
            repN s k ≤ (900 : Nat) ∧
              okC (repS s k) ∧
                okT ((9 : Int) * ((900 : Int) - (↑(repN s k) : Int)))
                  { x := (0 : Int), y := (0 : Int), w := (0 : Int) }) ∧
        True ∧
          At ((0 : Int) ≤ (0 : Int) ∧ (0 : Int) < (↑(3 : Nat) : Int)) ∧
            At ((0 : Int) ≤ (1 : Int) ∧ (1 : Int) < (↑(3 : Nat) : Int)) ∧
              At ((0 : Int) ≤ (2 : Int) ∧ (2 : Int) < (↑(3 : Nat) : Int)) ∧
                K
                  (V.tup
                    [V.int IntKind.i64 (Tt.x (goC (repS s k) { x := (0 : Int), y := (0 : Int), w := (0 : Int) })),
                      V.int IntKind.i64 (Tt.y (goC (repS s k) { x := (0 : Int), y := (0 : Int), w := (0 : Int) })),
                      V.int IntKind.i64 (Tt.w (goC (repS s k) { x := (0 : Int), y := (0 : Int), w := (0 : Int) })),
                      V.lit true]))

def VC_spec_tuCloses (s : List UInt8) (K : V → Prop) : Prop :=
  ((s = s ∧ (True ∧ (1 : Int) = (1 : Int)) ∧ True) ∧ True ∧ True) ∧
  At (clInv s (1 : Int)) ∧
    ∀ (a : Int),
      clInv s a →
        (decide (a ≤ (4 : Int)) = true →
            At (askB s a = true) ∧
              ((Tt.x (aftR s (Int.toNat a)) == (0 : Int) &&
                      (Tt.y (aftR s (Int.toNat a)) == (0 : Int) &&
                        (Tt.w (aftR s (Int.toNat a)) == (0 : Int) && true))) =
                    true →
                  K (V.int IntKind.i64 a)) ∧
                ((Tt.x (aftR s (Int.toNat a)) == (0 : Int) &&
                      (Tt.y (aftR s (Int.toNat a)) == (0 : Int) &&
                        (Tt.w (aftR s (Int.toNat a)) == (0 : Int) && true))) =
                    false →
                  ((s = s ∧
                        (True ∧ IntKind.wrap IntKind.i64 (a + (1 : Int)) = IntKind.wrap IntKind.i64 (a + (1 : Int))) ∧
                          True) ∧
                      True ∧ True) ∧
                    At
                      (clInv s (IntKind.wrap IntKind.i64 (a + (1 : Int))) ∧
                        Int.toNat ((5 : Int) - IntKind.wrap IntKind.i64 (a + (1 : Int))) <
                          Int.toNat ((5 : Int) - a)))) ∧
          (decide (a ≤ (4 : Int)) = false → K (V.int IntKind.i64 (0 : Int)))

def VC_impl_haltsOf (e : Int) (n : Nat) (c : List Sc) (K : V → List Blk → Prop) : Prop :=
  At True ∧
  (True ∧
      (((0 : Nat) = (0 : Nat) ∧ n = n) ∧
          (True ∧ e = e) ∧
            ((78 : Nat) = (78 : Nat) ∧ [(1 : Nat)] = [(1 : Nat)]) ∧
              ((2 : Nat) = (2 : Nat) ∧ (1 : Nat) = Int.toNat (0 : Int) / Int.toNat e + (1 : Nat)) ∧
                (True ∧ (0 : Int) = (0 : Int)) ∧ True) ∧
        ((True ∧ True ∧ c = c) ∧
            (True ∧
                (True ∧ (0 : Int) = Tt.x (goC (List.take (Int.toNat (0 : Int) * (2 : Nat)) c) zeroT)) ∧
                  (True ∧ (0 : Int) = Tt.y (goC (List.take (Int.toNat (0 : Int) * (2 : Nat)) c) zeroT)) ∧
                    (True ∧ (0 : Int) = Tt.w (goC (List.take (Int.toNat (0 : Int) * (2 : Nat)) c) zeroT)) ∧ True) ∧
              (True ∧
                  IntKind.i64 = IntKind.i64 ∧
                    [(0 : Int), (0 : Int), (0 : Int)] =
                      hlC c (Int.toNat e) (Int.toNat (0 : Int) / Int.toNat e + (1 : Nat))) ∧
                True) ∧
          True) ∧
    At (hlInv n e (0 : Int)) ∧
      ∀ (a : Int),
        hlInv n e a →
          (decide (a < (↑n : Int)) = true →
              At
                  ((0 : Int) ≤ a ∧
                    a ≤ IntKind.wrap IntKind.i64 (a + e) ∧
                      IntKind.wrap IntKind.i64 (a + e) ≤ IntKind.wrap IntKind.i64 (a + e) ∧
                        IntKind.wrap IntKind.i64 (a + e) ≤ (↑n : Int) ∧
                          n * (2 : Nat) ≤ Cells.len (Cells.recs [Sh.int IntKind.i64, Sh.int IntKind.u8] c)) ∧
                At
                    (List.length
                          (List.take ((Int.toNat (IntKind.wrap IntKind.i64 (a + e)) - Int.toNat a) * (2 : Nat))
                            (List.drop (Int.toNat a * (2 : Nat)) c)) =
                        (Int.toNat (IntKind.wrap IntKind.i64 (a + e)) - Int.toNat a) * (2 : Nat) ∧
                      Int.toNat (IntKind.wrap IntKind.i64 (a + e)) - Int.toNat a ≤ (900 : Nat) ∧
                        okC
                            (List.take ((Int.toNat (IntKind.wrap IntKind.i64 (a + e)) - Int.toNat a) * (2 : Nat))
                              (List.drop (Int.toNat a * (2 : Nat)) c)) ∧
                          okT
                            ((9 : Int) *
                              ((900 : Int) - (↑(Int.toNat (IntKind.wrap IntKind.i64 (a + e)) - Int.toNat a) : Int)))
                            (goC (List.take (Int.toNat a * (2 : Nat)) c) zeroT)) ∧
                  At
                      ((List.length (hlC c (Int.toNat e) (Int.toNat a / Int.toNat e + (1 : Nat))) =
                            (Int.toNat a / Int.toNat e + (1 : Nat)) * (3 : Nat) ∧
                          (1 : Nat) * (3 : Nat) ≤
                            List.length
                              [Tt.x
                                  (goC
                                    (List.take
                                      ((Int.toNat (IntKind.wrap IntKind.i64 (a + e)) - Int.toNat a) * (2 : Nat))
                                      (List.drop (Int.toNat a * (2 : Nat)) c))
                                    (goC (List.take (Int.toNat a * (2 : Nat)) c) zeroT)),
                                Tt.y
                                  (goC
                                    (List.take
                                      ((Int.toNat (IntKind.wrap IntKind.i64 (a + e)) - Int.toNat a) * (2 : Nat))
                                      (List.drop (Int.toNat a * (2 : Nat)) c))
                                    (goC (List.take (Int.toNat a * (2 : Nat)) c) zeroT)),
                                Tt.w
                                  (goC
                                    (List.take
                                      ((Int.toNat (IntKind.wrap IntKind.i64 (a + e)) - Int.toNat a) * (2 : Nat))
                                      (List.drop (Int.toNat a * (2 : Nat)) c))
                                    (goC (List.take (Int.toNat a * (2 : Nat)) c) zeroT))]) ∧
                        (0 : Nat) < (1 : Nat) ∧
                          Int.toNat a / Int.toNat e + (1 : Nat) + (1 : Nat) ≤ (1000000000 : Nat)) ∧
                    (True ∧
                        (((0 : Nat) = (0 : Nat) ∧ n = n) ∧
                            (True ∧ e = e) ∧
                              ((78 : Nat) = (78 : Nat) ∧ [(1 : Nat)] = [(1 : Nat)]) ∧
                                ((2 : Nat) = (2 : Nat) ∧
                                    Int.toNat a / Int.toNat e + (1 : Nat) + (1 : Nat) =
                                      Int.toNat (IntKind.wrap IntKind.i64 (a + e)) / Int.toNat e + (1 : Nat)) ∧
                                  (True ∧ IntKind.wrap IntKind.i64 (a + e) = IntKind.wrap IntKind.i64 (a + e)) ∧ True) ∧
                          ((True ∧ True ∧ c = c) ∧
                              (True ∧
                                  (True ∧
                                      Tt.x
                                          (goC
                                            (List.take
                                              ((Int.toNat (IntKind.wrap IntKind.i64 (a + e)) - Int.toNat a) * (2 : Nat))
                                              (List.drop (Int.toNat a * (2 : Nat)) c))
                                            (goC (List.take (Int.toNat a * (2 : Nat)) c) zeroT)) =
                                        Tt.x
                                          (goC (List.take (Int.toNat (IntKind.wrap IntKind.i64 (a + e)) * (2 : Nat)) c)
                                            zeroT)) ∧
                                    (True ∧
                                        Tt.y
                                            (goC
                                              (List.take
                                                ((Int.toNat (IntKind.wrap IntKind.i64 (a + e)) - Int.toNat a) *
                                                  (2 : Nat))
                                                (List.drop (Int.toNat a * (2 : Nat)) c))
                                              (goC (List.take (Int.toNat a * (2 : Nat)) c) zeroT)) =
                                          Tt.y
                                            (goC
                                              (List.take (Int.toNat (IntKind.wrap IntKind.i64 (a + e)) * (2 : Nat)) c)
                                              zeroT)) ∧
                                      (True ∧
                                          Tt.w
                                              (goC
                                                (List.take
                                                  ((Int.toNat (IntKind.wrap IntKind.i64 (a + e)) - Int.toNat a) *
                                                    (2 : Nat))
                                                  (List.drop (Int.toNat a * (2 : Nat)) c))
                                                (goC (List.take (Int.toNat a * (2 : Nat)) c) zeroT)) =
                                            Tt.w
                                              (goC
                                                (List.take (Int.toNat (IntKind.wrap IntKind.i64 (a + e)) * (2 : Nat)) c)
                                                zeroT)) ∧
                                        True) ∧
                                (True ∧
                                    IntKind.i64 = IntKind.i64 ∧
                                      hlC c (Int.toNat e) (Int.toNat a / Int.toNat e + (1 : Nat)) ++
                                          List.take ((1 : Nat) * (3 : Nat))
                                            [Tt.x
                                                (goC
                                                  (List.take
                                                    ((Int.toNat (IntKind.wrap IntKind.i64 (a + e)) - Int.toNat a) *
                                                      (2 : Nat))
                                                    (List.drop (Int.toNat a * (2 : Nat)) c))
                                                  (goC (List.take (Int.toNat a * (2 : Nat)) c) zeroT)),
                                              Tt.y
                                                (goC
                                                  (List.take
                                                    ((Int.toNat (IntKind.wrap IntKind.i64 (a + e)) - Int.toNat a) *
                                                      (2 : Nat))
                                                    (List.drop (Int.toNat a * (2 : Nat)) c))
                                                  (goC (List.take (Int.toNat a * (2 : Nat)) c) zeroT)),
                                              Tt.w
                                                (goC
                                                  (List.take
                                                    ((Int.toNat (IntKind.wrap IntKind.i64 (a + e)) - Int.toNat a) *
                                                      (2 : Nat))
                                                    (List.drop (Int.toNat a * (2 : Nat)) c))
                                                  (goC (List.take (Int.toNat a * (2 : Nat)) c) zeroT))] =
                                        hlC c (Int.toNat e)
                                          (Int.toNat (IntKind.wrap IntKind.i64 (a + e)) / Int.toNat e + (1 : Nat))) ∧
                                  True) ∧
                            True) ∧
                      At
                        (hlInv n e (IntKind.wrap IntKind.i64 (a + e)) ∧
                          Int.toNat ((↑n : Int) - IntKind.wrap IntKind.i64 (a + e)) < Int.toNat ((↑n : Int) - a))) ∧
            (decide (a < (↑n : Int)) = false →
              K (V.row (2 : Nat) (Int.toNat a / Int.toNat e + (1 : Nat)))
                [{ cs := Cells.recs [Sh.int IntKind.i64, Sh.int IntKind.u8] c, elem := 57,
                    kind := Kind.rows (2 : Nat) },
                  {
                    cs :=
                      Cells.vals
                        [V.int IntKind.i64 (Tt.x (goC (List.take (Int.toNat a * (2 : Nat)) c) zeroT)),
                          V.int IntKind.i64 (Tt.y (goC (List.take (Int.toNat a * (2 : Nat)) c) zeroT)),
                          V.int IntKind.i64 (Tt.w (goC (List.take (Int.toNat a * (2 : Nat)) c) zeroT))],
                    elem := 51, kind := Kind.box },
                  { cs := Cells.ints IntKind.i64 (hlC c (Int.toNat e) (Int.toNat a / Int.toNat e + (1 : Nat))),
                    elem := 51, kind := Kind.rows (3 : Nat) }])

def VC_spec_ClosesAfter (s : List UInt8) (K : V → Prop) : Prop :=
  At ((↑(List.length s) : Int) ≤ (9223372036854775807 : Int)) ∧
  ((!progB s) = true → K (V.tup [V.int IntKind.i64 (0 : Int), V.lit false])) ∧
    ((!progB s) = false →
      At (progB s = true) ∧ K (V.tup [V.int IntKind.i64 (clS s), V.bool (decide (clS s > (0 : Int)))]))

def VC_impl_ClosesAfter (s : List UInt8) (K : V → Prop) : Prop :=
  At ((↑(List.length s) : Int) ≤ (9223372036854775807 : Int)) ∧
  ((!progB s) = true → K (V.tup [V.int IntKind.i64 (0 : Int), V.lit false])) ∧
    ((!progB s) = false →
      At
          (List.length (partsC s) = partsN s * (2 : Nat) ∧
            (1 : Nat) ≤ partsN s ∧ partsN s ≤ (9 : Nat) ∧ (0 : Int) ≤ (4 : Int) ∧ (4 : Int) ≤ (100 : Int)) ∧
        At
            (List.length (repC (Int.toNat (4 : Int)) (partsC s)) = partsN s * Int.toNat (4 : Int) * (2 : Nat) ∧
              partsN s * Int.toNat (4 : Int) ≤ (900 : Nat) ∧
                okC (repC (Int.toNat (4 : Int)) (partsC s)) ∧
                  (1 : Int) ≤ (↑(partsN s) : Int) ∧
                    (↑(partsN s) : Int) ≤ (9 : Int) ∧
                      partsN s * Int.toNat (4 : Int) % Int.toNat (↑(partsN s) : Int) = (0 : Nat)) ∧
          ((s = s ∧
                ((2 : Nat) = (2 : Nat) ∧
                    partsN s * Int.toNat (4 : Int) / Int.toNat (↑(partsN s) : Int) + (1 : Nat) =
                      partsN s * Int.toNat (4 : Int) / Int.toNat (↑(partsN s) : Int) + (1 : Nat)) ∧
                  (True ∧ (1 : Int) = (1 : Int)) ∧ True) ∧
              ((True ∧ True ∧ partsC s = partsC s) ∧
                  (True ∧ True ∧ repC (Int.toNat (4 : Int)) (partsC s) = repC (Int.toNat (4 : Int)) (partsC s)) ∧
                    (True ∧
                        IntKind.i64 = IntKind.i64 ∧
                          hlC (repC (Int.toNat (4 : Int)) (partsC s)) (Int.toNat (↑(partsN s) : Int))
                              (partsN s * Int.toNat (4 : Int) / Int.toNat (↑(partsN s) : Int) + (1 : Nat)) =
                            hlC (repC (Int.toNat (4 : Int)) (partsC s)) (Int.toNat (↑(partsN s) : Int))
                              (partsN s * Int.toNat (4 : Int) / Int.toNat (↑(partsN s) : Int) + (1 : Nat))) ∧
                      True) ∧
                True) ∧
            At (clInv s (1 : Int)) ∧
              ∀ (a : Int),
                clInv s a →
                  (decide (a < (↑(partsN s * Int.toNat (4 : Int) / Int.toNat (↑(partsN s) : Int) + (1 : Nat)) : Int)) =
                        true →
                      True ∧
                        At
                            ((0 : Int) ≤ a ∧
                              a <
                                (↑(partsN s * Int.toNat (4 : Int) / Int.toNat (↑(partsN s) : Int) + (1 : Nat)) : Int)) ∧
                          At
                              (Int.toNat a * (3 : Nat) + (3 : Nat) ≤
                                List.length
                                  (hlC (repC (Int.toNat (4 : Int)) (partsC s)) (Int.toNat (↑(partsN s) : Int))
                                    (partsN s * Int.toNat (4 : Int) / Int.toNat (↑(partsN s) : Int) + (1 : Nat)))) ∧
                            At
                                ((0 : Int) ≤ (0 : Int) ∧
                                  (0 : Int) <
                                    (↑(partsN s * Int.toNat (4 : Int) / Int.toNat (↑(partsN s) : Int) + (1 : Nat)) :
                                      Int)) ∧
                              At
                                  (Int.toNat (0 : Int) * (3 : Nat) + (3 : Nat) ≤
                                    List.length
                                      (hlC (repC (Int.toNat (4 : Int)) (partsC s)) (Int.toNat (↑(partsN s) : Int))
                                        (partsN s * Int.toNat (4 : Int) / Int.toNat (↑(partsN s) : Int) + (1 : Nat)))) ∧
                                ((List.getD
                                            (hlC (repC (Int.toNat (4 : Int)) (partsC s)) (Int.toNat (↑(partsN s) : Int))
                                              (partsN s * Int.toNat (4 : Int) / Int.toNat (↑(partsN s) : Int) +
                                                (1 : Nat)))
                                            (Int.toNat a * (3 : Nat)) (0 : Int) ==
                                          List.getD
                                            (hlC (repC (Int.toNat (4 : Int)) (partsC s)) (Int.toNat (↑(partsN s) : Int))
                                              (partsN s * Int.toNat (4 : Int) / Int.toNat (↑(partsN s) : Int) +
                                                (1 : Nat)))
                                            (Int.toNat (0 : Int) * (3 : Nat)) (0 : Int) &&
                                        (List.getD
                                              (hlC (repC (Int.toNat (4 : Int)) (partsC s))
                                                (Int.toNat (↑(partsN s) : Int))
                                                (partsN s * Int.toNat (4 : Int) / Int.toNat (↑(partsN s) : Int) +
                                                  (1 : Nat)))
                                              (Int.toNat a * (3 : Nat) + (1 : Nat)) (0 : Int) ==
                                            List.getD
                                              (hlC (repC (Int.toNat (4 : Int)) (partsC s))
                                                (Int.toNat (↑(partsN s) : Int))
                                                (partsN s * Int.toNat (4 : Int) / Int.toNat (↑(partsN s) : Int) +
                                                  (1 : Nat)))
                                              (Int.toNat (0 : Int) * (3 : Nat) + (1 : Nat)) (0 : Int) &&
                                          (List.getD
                                                (hlC (repC (Int.toNat (4 : Int)) (partsC s))
                                                  (Int.toNat (↑(partsN s) : Int))
                                                  (partsN s * Int.toNat (4 : Int) / Int.toNat (↑(partsN s) : Int) +
                                                    (1 : Nat)))
                                                (Int.toNat a * (3 : Nat) + (1 : Nat) + (1 : Nat)) (0 : Int) ==
                                              List.getD
                                                (hlC (repC (Int.toNat (4 : Int)) (partsC s))
                                                  (Int.toNat (↑(partsN s) : Int))
                                                  (partsN s * Int.toNat (4 : Int) / Int.toNat (↑(partsN s) : Int) +
                                                    (1 : Nat)))
                                                (Int.toNat (0 : Int) * (3 : Nat) + (1 : Nat) + (1 : Nat)) (0 : Int) &&
                                            true))) =
                                      true →
                                    K (V.tup [V.int IntKind.i64 a, V.lit true])) ∧
                                  ((List.getD
                                            (hlC (repC (Int.toNat (4 : Int)) (partsC s)) (Int.toNat (↑(partsN s) : Int))
                                              (partsN s * Int.toNat (4 : Int) / Int.toNat (↑(partsN s) : Int) +
                                                (1 : Nat)))
                                            (Int.toNat a * (3 : Nat)) (0 : Int) ==
                                          List.getD
                                            (hlC (repC (Int.toNat (4 : Int)) (partsC s)) (Int.toNat (↑(partsN s) : Int))
                                              (partsN s * Int.toNat (4 : Int) / Int.toNat (↑(partsN s) : Int) +
                                                (1 : Nat)))
                                            (Int.toNat (0 : Int) * (3 : Nat)) (0 : Int) &&
                                        (List.getD
                                              (hlC (repC (Int.toNat (4 : Int)) (partsC s))
                                                (Int.toNat (↑(partsN s) : Int))
                                                (partsN s * Int.toNat (4 : Int) / Int.toNat (↑(partsN s) : Int) +
                                                  (1 : Nat)))
                                              (Int.toNat a * (3 : Nat) + (1 : Nat)) (0 : Int) ==
                                            List.getD
                                              (hlC (repC (Int.toNat (4 : Int)) (partsC s))
                                                (Int.toNat (↑(partsN s) : Int))
                                                (partsN s * Int.toNat (4 : Int) / Int.toNat (↑(partsN s) : Int) +
                                                  (1 : Nat)))
                                              (Int.toNat (0 : Int) * (3 : Nat) + (1 : Nat)) (0 : Int) &&
                                          (List.getD
                                                (hlC (repC (Int.toNat (4 : Int)) (partsC s))
                                                  (Int.toNat (↑(partsN s) : Int))
                                                  (partsN s * Int.toNat (4 : Int) / Int.toNat (↑(partsN s) : Int) +
                                                    (1 : Nat)))
                                                (Int.toNat a * (3 : Nat) + (1 : Nat) + (1 : Nat)) (0 : Int) ==
                                              List.getD
                                                (hlC (repC (Int.toNat (4 : Int)) (partsC s))
                                                  (Int.toNat (↑(partsN s) : Int))
                                                  (partsN s * Int.toNat (4 : Int) / Int.toNat (↑(partsN s) : Int) +
                                                    (1 : Nat)))
                                                (Int.toNat (0 : Int) * (3 : Nat) + (1 : Nat) + (1 : Nat)) (0 : Int) &&
                                            true))) =
                                      false →
                                    ((s = s ∧
                                          ((2 : Nat) = (2 : Nat) ∧
                                              partsN s * Int.toNat (4 : Int) / Int.toNat (↑(partsN s) : Int) +
                                                  (1 : Nat) =
                                                partsN s * Int.toNat (4 : Int) / Int.toNat (↑(partsN s) : Int) +
                                                  (1 : Nat)) ∧
                                            (True ∧
                                                IntKind.wrap IntKind.i64 (a + (1 : Int)) =
                                                  IntKind.wrap IntKind.i64 (a + (1 : Int))) ∧
                                              True) ∧
                                        ((True ∧ True ∧ partsC s = partsC s) ∧
                                            (True ∧
                                                True ∧
                                                  repC (Int.toNat (4 : Int)) (partsC s) =
                                                    repC (Int.toNat (4 : Int)) (partsC s)) ∧
                                              (True ∧
                                                  IntKind.i64 = IntKind.i64 ∧
                                                    hlC (repC (Int.toNat (4 : Int)) (partsC s))
                                                        (Int.toNat (↑(partsN s) : Int))
                                                        (partsN s * Int.toNat (4 : Int) /
                                                            Int.toNat (↑(partsN s) : Int) +
                                                          (1 : Nat)) =
                                                      hlC (repC (Int.toNat (4 : Int)) (partsC s))
                                                        (Int.toNat (↑(partsN s) : Int))
                                                        (partsN s * Int.toNat (4 : Int) /
                                                            Int.toNat (↑(partsN s) : Int) +
                                                          (1 : Nat))) ∧
                                                True) ∧
                                          True) ∧
                                      At
                                        (clInv s (IntKind.wrap IntKind.i64 (a + (1 : Int))) ∧
                                          Int.toNat ((5 : Int) - IntKind.wrap IntKind.i64 (a + (1 : Int))) <
                                            Int.toNat ((5 : Int) - a)))) ∧
                    (decide
                          (a < (↑(partsN s * Int.toNat (4 : Int) / Int.toNat (↑(partsN s) : Int) + (1 : Nat)) : Int)) =
                        false →
                      K (V.tup [V.int IntKind.i64 (0 : Int), V.lit false])))

end Go.Vi
