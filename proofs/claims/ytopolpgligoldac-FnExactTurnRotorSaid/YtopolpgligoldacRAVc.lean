/- The conditions, reckoned out by program: texts alone. -/
import Derived.Test.YtopolpgligoldacRADefs
namespace Go.Vi
set_option linter.unusedVariables false
def VC_spec_l1In (n : Int) (lo : Int) (hi : Int) (K : V → Prop) : Prop :=
  (decide (n ≥ lo) = true → K (V.bool (decide (n ≤ hi)))) ∧ (decide (n ≥ lo) = false → K (V.lit false))

def VC_impl_within (n : Int) (lo : Int) (hi : Int) (K : V → Prop) : Prop :=
  (decide (lo ≤ n) = true → K (V.bool (decide (n ≤ hi)))) ∧ (decide (lo ≤ n) = false → K (V.lit false))

def VC_laws_szIntS (left : Int) (n : Nat) (a : List Int) (e : TypeId) (k : Kind) (K : V → List Blk → Prop) : Prop :=
  (decide (IntKind.wrap IntKind.i64 (left - (↑n : Int)) < (0 : Int)) = true →
    K (V.int IntKind.i64 (-1 : Int)) [{ cs := Cells.ints IntKind.i64 a, elem := e, kind := k }]) ∧
  (decide (IntKind.wrap IntKind.i64 (left - (↑n : Int)) < (0 : Int)) = false →
    K (V.int IntKind.i64 (IntKind.wrap IntKind.i64 (left - (↑n : Int))))
      [{ cs := Cells.ints IntKind.i64 a, elem := e, kind := k }])

def VC_laws_szIntSS (left : Int) (n : Nat) (l : List (List Int)) (K : V → List Blk → Prop) : Prop :=
  (decide (IntKind.wrap IntKind.i64 (left - (↑n : Int)) < (0 : Int)) = true →
    K (V.int IntKind.i64 (-1 : Int))
      [{ cs := Cells.mat IntKind.i64 (3 : Nat) l, elem := 23, kind := Kind.amat }]) ∧
  (decide (IntKind.wrap IntKind.i64 (left - (↑n : Int)) < (0 : Int)) = false →
    ((((0 : Nat) = (0 : Nat) ∧ n = n) ∧
          (True ∧ IntKind.wrap IntKind.i64 (left - (↑n : Int)) = IntKind.wrap IntKind.i64 (left - (↑n : Int))) ∧
            (True ∧ (0 : Int) = (0 : Int)) ∧ True) ∧
        ((True ∧ True ∧ l = l) ∧ True) ∧ True) ∧
      At
          (szInv l (IntKind.wrap IntKind.i64 (left - (↑n : Int)))
            ((0 : Int), IntKind.wrap IntKind.i64 (left - (↑n : Int)))) ∧
        ∀ (a : Int × Int),
          szInv l (IntKind.wrap IntKind.i64 (left - (↑n : Int))) a →
            (decide (Prod.fst a < (↑n : Int)) = true →
                At ((0 : Int) ≤ Prod.fst a ∧ Prod.fst a < (↑n : Int)) ∧
                  At (Int.toNat (Prod.fst a) < List.length l) ∧
                    At
                        ((0 : Int) ≤ Prod.snd a ∧
                          Prod.snd a ≤ (1048576 : Int) ∧
                            (↑(List.length (List.getD l (Int.toNat (Prod.fst a)) [])) : Int) ≤
                              (9223372036854775807 : Int)) ∧
                      (decide
                              (szI (↑(List.length (List.getD l (Int.toNat (Prod.fst a)) [])) : Int) (Prod.snd a) <
                                (0 : Int)) =
                            true →
                          K (V.int IntKind.i64 (-1 : Int))
                            [{ cs := Cells.mat IntKind.i64 (3 : Nat) l, elem := 23, kind := Kind.amat },
                              { cs := Cells.dead, elem := 3, kind := Kind.arg (1 : Nat) }]) ∧
                        (decide
                              (szI (↑(List.length (List.getD l (Int.toNat (Prod.fst a)) [])) : Int) (Prod.snd a) <
                                (0 : Int)) =
                            false →
                          ((((0 : Nat) = (0 : Nat) ∧ n = n) ∧
                                (True ∧
                                    szI (↑(List.length (List.getD l (Int.toNat (Prod.fst a)) [])) : Int) (Prod.snd a) =
                                      szI (↑(List.length (List.getD l (Int.toNat (Prod.fst a)) [])) : Int)
                                        (Prod.snd a)) ∧
                                  (True ∧
                                      IntKind.wrap IntKind.i64 (Prod.fst a + (1 : Int)) =
                                        IntKind.wrap IntKind.i64 (Prod.fst a + (1 : Int))) ∧
                                    True) ∧
                              ((True ∧ True ∧ l = l) ∧ True) ∧ True) ∧
                            At
                              (szInv l (IntKind.wrap IntKind.i64 (left - (↑n : Int)))
                                  (IntKind.wrap IntKind.i64 (Prod.fst a + (1 : Int)),
                                    szI (↑(List.length (List.getD l (Int.toNat (Prod.fst a)) [])) : Int) (Prod.snd a)) ∧
                                Int.toNat
                                    ((↑(List.length l) : Int) - IntKind.wrap IntKind.i64 (Prod.fst a + (1 : Int))) <
                                  Int.toNat ((↑(List.length l) : Int) - Prod.fst a)))) ∧
              (decide (Prod.fst a < (↑n : Int)) = false →
                K (V.int IntKind.i64 (Prod.snd a))
                  [{ cs := Cells.mat IntKind.i64 (3 : Nat) l, elem := 23, kind := Kind.amat }]))

def VC_laws_szRoute (left : Int) (n : Nat) (m : Nat) (l : List (List Int)) (ro : List Int) (K : V → List Blk → Prop) : Prop :=
  At
    ((0 : Int) ≤ left ∧
      left ≤ (1048576 : Int) ∧
        (↑n : Int) ≤ (9223372036854775807 : Int) ∧
          List.length l = n ∧ ∀ (r : List Int), r ∈ l → (↑(List.length r) : Int) ≤ (9223372036854775807 : Int)) ∧
  (decide (szM l left < (0 : Int)) = true →
      K (V.int IntKind.i64 (-1 : Int))
        [{ cs := Cells.mat IntKind.i64 (3 : Nat) l, elem := 23, kind := Kind.amat },
          { cs := Cells.ints IntKind.i64 ro, elem := 3, kind := Kind.arg (1 : Nat) },
          { cs := Cells.vals [V.row (0 : Nat) n, V.row (1 : Nat) m], elem := 25, kind := Kind.box }]) ∧
    (decide (szM l left < (0 : Int)) = false →
      At ((0 : Int) ≤ szM l left ∧ szM l left ≤ (1048576 : Int) ∧ (↑m : Int) ≤ (9223372036854775807 : Int)) ∧
        (decide (szI (↑m : Int) (szM l left) < (0 : Int)) = true →
            K (V.int IntKind.i64 (-1 : Int))
              [{ cs := Cells.mat IntKind.i64 (3 : Nat) l, elem := 23, kind := Kind.amat },
                { cs := Cells.ints IntKind.i64 ro, elem := 3, kind := Kind.arg (1 : Nat) },
                { cs := Cells.vals [V.row (0 : Nat) n, V.row (1 : Nat) m], elem := 25, kind := Kind.box }]) ∧
          (decide (szI (↑m : Int) (szM l left) < (0 : Int)) = false →
            K (V.int IntKind.i64 (szI (↑m : Int) (szM l left)))
              [{ cs := Cells.mat IntKind.i64 (3 : Nat) l, elem := 23, kind := Kind.amat },
                { cs := Cells.ints IntKind.i64 ro, elem := 3, kind := Kind.arg (1 : Nat) },
                { cs := Cells.vals [V.row (0 : Nat) n, V.row (1 : Nat) m], elem := 25, kind := Kind.box }]))

def VC_laws_toIntS (n : Nat) (a : List Int) (e : TypeId) (k : Kind) (K : V → List Blk → Prop) : Prop :=
  At ((0 : Int) ≤ (↑n : Int) ∧ (↑n : Int) ≤ (↑n : Int) ∧ (↑n : Int) ≤ (1000000000 : Int)) ∧
  (True ∧
      (((0 : Nat) = (0 : Nat) ∧ n = List.length a) ∧
          ((1 : Nat) = (1 : Nat) ∧ n = List.length a) ∧ (True ∧ (0 : Int) = (0 : Int)) ∧ True) ∧
        ((Bool.rec False True (Nat.beq e e && decide (k = k)) ∧ IntKind.i64 = IntKind.i64 ∧ a = a) ∧
            (True ∧
                IntKind.i64 = IntKind.i64 ∧
                  List.replicate (Int.toNat (↑n : Int)) (0 : Int) =
                    List.take (Int.toNat (0 : Int)) a ++
                      List.replicate (List.length a - Int.toNat (0 : Int)) (0 : Int)) ∧
              True) ∧
          True) ∧
    At (ixInv (List.length a) (0 : Int)) ∧
      ∀ (a_1 : Int),
        ixInv (List.length a) a_1 →
          (decide (a_1 < (↑(List.length a) : Int)) = true →
              At ((0 : Int) ≤ a_1 ∧ a_1 < (↑(List.length a) : Int)) ∧
                At (Int.toNat a_1 < List.length a) ∧
                  At ((0 : Int) ≤ a_1 ∧ a_1 < (↑(List.length a) : Int)) ∧
                    At
                        (Int.toNat a_1 <
                          List.length
                            (List.take (Int.toNat a_1) a ++ List.replicate (List.length a - Int.toNat a_1) (0 : Int))) ∧
                      (True ∧
                          (((0 : Nat) = (0 : Nat) ∧ List.length a = List.length a) ∧
                              ((1 : Nat) = (1 : Nat) ∧ List.length a = List.length a) ∧
                                (True ∧
                                    IntKind.wrap IntKind.i64 (a_1 + (1 : Int)) =
                                      IntKind.wrap IntKind.i64 (a_1 + (1 : Int))) ∧
                                  True) ∧
                            ((Bool.rec False True (Nat.beq e e && decide (k = k)) ∧ IntKind.i64 = IntKind.i64 ∧ a = a) ∧
                                (True ∧
                                    IntKind.i64 = IntKind.i64 ∧
                                      List.set
                                          (List.take (Int.toNat a_1) a ++
                                            List.replicate (List.length a - Int.toNat a_1) (0 : Int))
                                          (Int.toNat a_1) (List.getD a (Int.toNat a_1) (0 : Int)) =
                                        List.take (Int.toNat (IntKind.wrap IntKind.i64 (a_1 + (1 : Int)))) a ++
                                          List.replicate
                                            (List.length a - Int.toNat (IntKind.wrap IntKind.i64 (a_1 + (1 : Int))))
                                            (0 : Int)) ∧
                                  True) ∧
                              True) ∧
                        At
                          (ixInv (List.length a) (IntKind.wrap IntKind.i64 (a_1 + (1 : Int))) ∧
                            Int.toNat ((↑(List.length a) : Int) - IntKind.wrap IntKind.i64 (a_1 + (1 : Int))) <
                              Int.toNat ((↑(List.length a) : Int) - a_1))) ∧
            (decide (a_1 < (↑(List.length a) : Int)) = false →
              K (V.row (1 : Nat) (List.length a))
                [{ cs := Cells.ints IntKind.i64 a, elem := e, kind := k },
                  {
                    cs :=
                      Cells.ints IntKind.i64
                        (List.take (Int.toNat a_1) a ++ List.replicate (List.length a - Int.toNat a_1) (0 : Int)),
                    elem := 3, kind := Kind.row }])

def VC_laws_toIntSS (n : Nat) (l : List (List Int)) (K : V → List Blk → Prop) : Prop :=
  At ((0 : Int) ≤ (↑n : Int) ∧ (↑n : Int) ≤ (↑n : Int) ∧ (↑n : Int) ≤ (1000000000 : Int)) ∧
  (True ∧
      (((0 : Nat) = (0 : Nat) ∧ n = List.length l) ∧
          ((1 : Nat) = (1 : Nat) ∧ n = List.length l) ∧ (True ∧ (0 : Int) = (0 : Int)) ∧ True) ∧
        ((True ∧ True ∧ l = l) ∧
            (True ∧
                True ∧
                  List.replicate (Int.toNat (↑n : Int)) [] =
                    List.take (Int.toNat (0 : Int)) l ++ List.replicate (List.length l - Int.toNat (0 : Int)) nilI) ∧
              True) ∧
          True) ∧
    At (ixInv (List.length l) (0 : Int)) ∧
      ∀ (a : Int),
        ixInv (List.length l) a →
          (decide (a < (↑(List.length l) : Int)) = true →
              At ((0 : Int) ≤ a ∧ a < (↑(List.length l) : Int)) ∧
                At (Int.toNat a < List.length l) ∧
                  At
                      (List.length (List.getD l (Int.toNat a) []) = List.length (List.getD l (Int.toNat a) []) ∧
                        List.length (List.getD l (Int.toNat a) []) ≤ (2000000 : Nat)) ∧
                    At ((0 : Int) ≤ a ∧ a < (↑(List.length l) : Int)) ∧
                      At
                          (Int.toNat a <
                              List.length
                                (List.take (Int.toNat a) l ++ List.replicate (List.length l - Int.toNat a) nilI) ∧
                            List.length (List.getD l (Int.toNat a) []) = List.length (List.getD l (Int.toNat a) [])) ∧
                        (True ∧
                            (((0 : Nat) = (0 : Nat) ∧ List.length l = List.length l) ∧
                                ((1 : Nat) = (1 : Nat) ∧ List.length l = List.length l) ∧
                                  (True ∧
                                      IntKind.wrap IntKind.i64 (a + (1 : Int)) =
                                        IntKind.wrap IntKind.i64 (a + (1 : Int))) ∧
                                    True) ∧
                              ((True ∧ True ∧ l = l) ∧
                                  (True ∧
                                      True ∧
                                        List.set
                                            (List.take (Int.toNat a) l ++
                                              List.replicate (List.length l - Int.toNat a) nilI)
                                            (Int.toNat a) (List.getD l (Int.toNat a) []) =
                                          List.take (Int.toNat (IntKind.wrap IntKind.i64 (a + (1 : Int)))) l ++
                                            List.replicate
                                              (List.length l - Int.toNat (IntKind.wrap IntKind.i64 (a + (1 : Int))))
                                              nilI) ∧
                                    True) ∧
                                True) ∧
                          At
                            (ixInv (List.length l) (IntKind.wrap IntKind.i64 (a + (1 : Int))) ∧
                              Int.toNat ((↑(List.length l) : Int) - IntKind.wrap IntKind.i64 (a + (1 : Int))) <
                                Int.toNat ((↑(List.length l) : Int) - a))) ∧
            (decide (a < (↑(List.length l) : Int)) = false →
              K (V.row (1 : Nat) (List.length l))
                [{ cs := Cells.mat IntKind.i64 (3 : Nat) l, elem := 23, kind := Kind.amat },
                  {
                    cs :=
                      Cells.mat IntKind.i64 (3 : Nat)
                        (List.take (Int.toNat a) l ++ List.replicate (List.length l - Int.toNat a) nilI),
                    elem := 23, kind := Kind.mat }])

def VC_laws_toRoute (n : Nat) (m : Nat) (l : List (List Int)) (ro : List Int) (K : V → List Blk → Prop) : Prop :=
  At (List.length l = n ∧ smallM l) ∧
  At (List.length ro = m ∧ m ≤ (2000000 : Nat)) ∧
    K (V.agg [V.row (5 : Nat) n, V.row (6 : Nat) m])
      [{ cs := Cells.mat IntKind.i64 (3 : Nat) l, elem := 23, kind := Kind.amat },
        { cs := Cells.ints IntKind.i64 ro, elem := 3, kind := Kind.arg (1 : Nat) },
        { cs := Cells.vals [V.row (0 : Nat) n, V.row (1 : Nat) m], elem := 25, kind := Kind.box },
        { cs := Cells.vals [V.row (5 : Nat) n, V.row (6 : Nat) m], elem := 29, kind := Kind.box },
        { cs := Cells.vals [V.row (5 : Nat) n, V.row (6 : Nat) m], elem := 29, kind := Kind.box },
        { cs := Cells.mat IntKind.i64 (3 : Nat) l, elem := 23, kind := Kind.mat },
        { cs := Cells.ints IntKind.i64 ro, elem := 3, kind := Kind.row }]

def VC_laws_eqIntS (n : Nat) (m : Nat) (a : List Int) (b : List Int) (e : TypeId) (k : Kind) (f : TypeId) (q : Kind) (K : V → List Blk → Prop) : Prop :=
  (((↑n : Int) != (↑m : Int)) = true →
    K (V.lit false)
      [{ cs := Cells.ints IntKind.i64 a, elem := e, kind := k },
        { cs := Cells.ints IntKind.i64 b, elem := f, kind := q }]) ∧
  (((↑n : Int) != (↑m : Int)) = false →
    ((((0 : Nat) = (0 : Nat) ∧ n = n) ∧ ((1 : Nat) = (1 : Nat) ∧ m = m) ∧ (True ∧ (0 : Int) = (0 : Int)) ∧ True) ∧
        ((Bool.rec False True (Nat.beq e e && decide (k = k)) ∧ IntKind.i64 = IntKind.i64 ∧ a = a) ∧
            (Bool.rec False True (Nat.beq f f && decide (q = q)) ∧ IntKind.i64 = IntKind.i64 ∧ b = b) ∧ True) ∧
          True) ∧
      At (eqsInv a b (0 : Int)) ∧
        ∀ (a_2 : Int),
          eqsInv a b a_2 →
            (decide (a_2 < (↑n : Int)) = true →
                True ∧
                  At ((0 : Int) ≤ a_2 ∧ a_2 < (↑n : Int)) ∧
                    At (Int.toNat a_2 < List.length a) ∧
                      At ((0 : Int) ≤ a_2 ∧ a_2 < (↑m : Int)) ∧
                        At (Int.toNat a_2 < List.length b) ∧
                          ((List.getD a (Int.toNat a_2) (0 : Int) != List.getD b (Int.toNat a_2) (0 : Int)) = true →
                              K (V.lit false)
                                [{ cs := Cells.ints IntKind.i64 a, elem := e, kind := k },
                                  { cs := Cells.ints IntKind.i64 b, elem := f, kind := q }]) ∧
                            ((List.getD a (Int.toNat a_2) (0 : Int) != List.getD b (Int.toNat a_2) (0 : Int)) = false →
                              ((((0 : Nat) = (0 : Nat) ∧ n = n) ∧
                                    ((1 : Nat) = (1 : Nat) ∧ m = m) ∧
                                      (True ∧
                                          IntKind.wrap IntKind.i64 (a_2 + (1 : Int)) =
                                            IntKind.wrap IntKind.i64 (a_2 + (1 : Int))) ∧
                                        True) ∧
                                  ((Bool.rec False True (Nat.beq e e && decide (k = k)) ∧
                                        IntKind.i64 = IntKind.i64 ∧ a = a) ∧
                                      (Bool.rec False True (Nat.beq f f && decide (q = q)) ∧
                                          IntKind.i64 = IntKind.i64 ∧ b = b) ∧
                                        True) ∧
                                    True) ∧
                                At
                                  (eqsInv a b (IntKind.wrap IntKind.i64 (a_2 + (1 : Int))) ∧
                                    Int.toNat ((↑(List.length a) : Int) - IntKind.wrap IntKind.i64 (a_2 + (1 : Int))) <
                                      Int.toNat ((↑(List.length a) : Int) - a_2)))) ∧
              (decide (a_2 < (↑n : Int)) = false →
                K (V.lit true)
                  [{ cs := Cells.ints IntKind.i64 a, elem := e, kind := k },
                    { cs := Cells.ints IntKind.i64 b, elem := f, kind := q }]))

def VC_laws_eqIntSS (n : Nat) (m : Nat) (l : List (List Int)) (j : List (List Int)) (K : V → List Blk → Prop) : Prop :=
  (((↑n : Int) != (↑m : Int)) = true →
    K (V.lit false)
      [{ cs := Cells.mat IntKind.i64 (3 : Nat) l, elem := 23, kind := Kind.mat },
        { cs := Cells.mat IntKind.i64 (3 : Nat) j, elem := 23, kind := Kind.mat }]) ∧
  (((↑n : Int) != (↑m : Int)) = false →
    ((((0 : Nat) = (0 : Nat) ∧ n = n) ∧ ((1 : Nat) = (1 : Nat) ∧ m = m) ∧ (True ∧ (0 : Int) = (0 : Int)) ∧ True) ∧
        ((True ∧ True ∧ l = l) ∧ (True ∧ True ∧ j = j) ∧ True) ∧ True) ∧
      At (eqmInv l j (0 : Int)) ∧
        ∀ (a : Int),
          eqmInv l j a →
            (decide (a < (↑n : Int)) = true →
                True ∧
                  At ((0 : Int) ≤ a ∧ a < (↑n : Int)) ∧
                    At (Int.toNat a < List.length l) ∧
                      At ((0 : Int) ≤ a ∧ a < (↑m : Int)) ∧
                        At (Int.toNat a < List.length j) ∧
                          At
                              (List.length (List.getD l (Int.toNat a) []) = List.length (List.getD l (Int.toNat a) []) ∧
                                List.length (List.getD j (Int.toNat a) []) =
                                    List.length (List.getD j (Int.toNat a) []) ∧
                                  List.length (List.getD l (Int.toNat a) []) ≤ (2000000 : Nat) ∧
                                    List.length (List.getD j (Int.toNat a) []) ≤ (2000000 : Nat)) ∧
                            ((!List.getD l (Int.toNat a) [] == List.getD j (Int.toNat a) []) = true →
                                K (V.lit false)
                                  [{ cs := Cells.mat IntKind.i64 (3 : Nat) l, elem := 23, kind := Kind.mat },
                                    { cs := Cells.mat IntKind.i64 (3 : Nat) j, elem := 23,
                                      kind := Kind.mat }]) ∧
                              ((!List.getD l (Int.toNat a) [] == List.getD j (Int.toNat a) []) = false →
                                ((((0 : Nat) = (0 : Nat) ∧ n = n) ∧
                                      ((1 : Nat) = (1 : Nat) ∧ m = m) ∧
                                        (True ∧
                                            IntKind.wrap IntKind.i64 (a + (1 : Int)) =
                                              IntKind.wrap IntKind.i64 (a + (1 : Int))) ∧
                                          True) ∧
                                    ((True ∧ True ∧ l = l) ∧ (True ∧ True ∧ j = j) ∧ True) ∧ True) ∧
                                  At
                                    (eqmInv l j (IntKind.wrap IntKind.i64 (a + (1 : Int))) ∧
                                      Int.toNat ((↑(List.length l) : Int) - IntKind.wrap IntKind.i64 (a + (1 : Int))) <
                                        Int.toNat ((↑(List.length l) : Int) - a)))) ∧
              (decide (a < (↑n : Int)) = false →
                K (V.lit true)
                  [{ cs := Cells.mat IntKind.i64 (3 : Nat) l, elem := 23, kind := Kind.mat },
                    { cs := Cells.mat IntKind.i64 (3 : Nat) j, elem := 23, kind := Kind.mat }]))

def VC_laws_eqRoute (n : Nat) (m : Nat) (l : List (List Int)) (ro : List Int) (u : Nat) (v : Nat) (j : List (List Int)) (so : List Int) (K : V → List Blk → Prop) : Prop :=
  At (List.length l = n ∧ List.length j = u ∧ smallM l ∧ smallM j) ∧
  ((!l == j) = true →
      K (V.lit false)
        [{ cs := Cells.mat IntKind.i64 (3 : Nat) l, elem := 23, kind := Kind.mat },
          { cs := Cells.ints IntKind.i64 ro, elem := 3, kind := Kind.row },
          { cs := Cells.mat IntKind.i64 (3 : Nat) j, elem := 23, kind := Kind.mat },
          { cs := Cells.ints IntKind.i64 so, elem := 3, kind := Kind.row },
          { cs := Cells.vals [V.row (0 : Nat) n, V.row (1 : Nat) m], elem := 29, kind := Kind.box },
          { cs := Cells.vals [V.row (2 : Nat) u, V.row (3 : Nat) v], elem := 29, kind := Kind.box }]) ∧
    ((!l == j) = false →
      At (List.length ro = m ∧ List.length so = v ∧ m ≤ (2000000 : Nat) ∧ v ≤ (2000000 : Nat)) ∧
        ((!ro == so) = true →
            K (V.lit false)
              [{ cs := Cells.mat IntKind.i64 (3 : Nat) l, elem := 23, kind := Kind.mat },
                { cs := Cells.ints IntKind.i64 ro, elem := 3, kind := Kind.row },
                { cs := Cells.mat IntKind.i64 (3 : Nat) j, elem := 23, kind := Kind.mat },
                { cs := Cells.ints IntKind.i64 so, elem := 3, kind := Kind.row },
                { cs := Cells.vals [V.row (0 : Nat) n, V.row (1 : Nat) m], elem := 29, kind := Kind.box },
                { cs := Cells.vals [V.row (2 : Nat) u, V.row (3 : Nat) v], elem := 29, kind := Kind.box }]) ∧
          ((!ro == so) = false →
            K (V.lit true)
              [{ cs := Cells.mat IntKind.i64 (3 : Nat) l, elem := 23, kind := Kind.mat },
                { cs := Cells.ints IntKind.i64 ro, elem := 3, kind := Kind.row },
                { cs := Cells.mat IntKind.i64 (3 : Nat) j, elem := 23, kind := Kind.mat },
                { cs := Cells.ints IntKind.i64 so, elem := 3, kind := Kind.row },
                { cs := Cells.vals [V.row (0 : Nat) n, V.row (1 : Nat) m], elem := 29, kind := Kind.box },
                { cs := Cells.vals [V.row (2 : Nat) u, V.row (3 : Nat) v], elem := 29, kind := Kind.box }]))

def VC_spec_l1All (lo : Int) (hi : Int) (n : Nat) (a : List Int) (e : TypeId) (k : Kind) (K : V → List Blk → Prop) : Prop :=
  (((True ∧ lo = lo) ∧
      (True ∧ hi = hi) ∧
        ((0 : Nat) = (0 : Nat) ∧ n = n) ∧ (True ∧ (↑n : Int) = (↑n : Int)) ∧ (True ∧ (0 : Int) = (0 : Int)) ∧ True) ∧
    ((Bool.rec False True (Nat.beq e e && decide (k = k)) ∧ IntKind.i64 = IntKind.i64 ∧ a = a) ∧ True) ∧ True) ∧
  At (allInv a lo hi (0 : Int)) ∧
    ∀ (a_1 : Int),
      allInv a lo hi a_1 →
        (decide (a_1 < (↑n : Int)) = true →
            At ((0 : Int) ≤ a_1 ∧ a_1 < (↑n : Int)) ∧
              At (Int.toNat a_1 < List.length a) ∧
                At True ∧
                  ((!inB (List.getD a (Int.toNat a_1) (0 : Int)) lo hi) = true →
                      K (V.lit false) [{ cs := Cells.ints IntKind.i64 a, elem := e, kind := k }]) ∧
                    ((!inB (List.getD a (Int.toNat a_1) (0 : Int)) lo hi) = false →
                      (((True ∧ lo = lo) ∧
                            (True ∧ hi = hi) ∧
                              ((0 : Nat) = (0 : Nat) ∧ n = n) ∧
                                (True ∧ (↑n : Int) = (↑n : Int)) ∧
                                  (True ∧
                                      IntKind.wrap IntKind.i64 (a_1 + (1 : Int)) =
                                        IntKind.wrap IntKind.i64 (a_1 + (1 : Int))) ∧
                                    True) ∧
                          ((Bool.rec False True (Nat.beq e e && decide (k = k)) ∧ IntKind.i64 = IntKind.i64 ∧ a = a) ∧
                              True) ∧
                            True) ∧
                        At
                          (allInv a lo hi (IntKind.wrap IntKind.i64 (a_1 + (1 : Int))) ∧
                            Int.toNat ((↑(List.length a) : Int) - IntKind.wrap IntKind.i64 (a_1 + (1 : Int))) <
                              Int.toNat ((↑(List.length a) : Int) - a_1)))) ∧
          (decide (a_1 < (↑n : Int)) = false →
            K (V.lit true) [{ cs := Cells.ints IntKind.i64 a, elem := e, kind := k }])

def VC_spec_roGood (n : Nat) (m : Nat) (l : List (List Int)) (ro : List Int) (K : V → List Blk → Prop) : Prop :=
  At True ∧
  ((!inB (↑n : Int) (1 : Int) (10 : Int)) = true →
      K (V.lit false)
        [{ cs := Cells.mat IntKind.i64 (3 : Nat) l, elem := 23, kind := Kind.mat },
          { cs := Cells.ints IntKind.i64 ro, elem := 3, kind := Kind.row },
          { cs := Cells.vals [V.row (0 : Nat) n, V.row (1 : Nat) m], elem := 29, kind := Kind.box }]) ∧
    ((!inB (↑n : Int) (1 : Int) (10 : Int)) = false →
      (((↑m : Int) != (↑n : Int)) = true →
          K (V.lit false)
            [{ cs := Cells.mat IntKind.i64 (3 : Nat) l, elem := 23, kind := Kind.mat },
              { cs := Cells.ints IntKind.i64 ro, elem := 3, kind := Kind.row },
              { cs := Cells.vals [V.row (0 : Nat) n, V.row (1 : Nat) m], elem := 29, kind := Kind.box }]) ∧
        (((↑m : Int) != (↑n : Int)) = false →
          ((((2 : Nat) = (2 : Nat) ∧ (0 : Nat) = (0 : Nat)) ∧
                (True ∧ (↑n : Int) = (↑n : Int)) ∧
                  ((0 : Nat) = (0 : Nat) ∧ n = n) ∧
                    (True ∧ (↑n : Int) = (↑n : Int)) ∧ (True ∧ (0 : Int) = (0 : Int)) ∧ True) ∧
              ((True ∧ True ∧ l = l) ∧
                  (True ∧ IntKind.i64 = IntKind.i64 ∧ ro = ro) ∧
                    (True ∧ ((0 : Nat) = (0 : Nat) ∧ n = n) ∧ ((1 : Nat) = (1 : Nat) ∧ m = m) ∧ True) ∧ True) ∧
                True) ∧
            At (rtInv l ro (0 : Int)) ∧
              ∀ (a : Int),
                rtInv l ro a →
                  (decide (a < (↑n : Int)) = true →
                      At ((0 : Int) ≤ a ∧ a < (↑n : Int)) ∧
                        At (Int.toNat a < List.length l) ∧
                          At True ∧
                            ((!inB (↑(List.length (List.getD l (Int.toNat a) [])) : Int) (1 : Int) (4 : Int)) = true →
                                K (V.lit false)
                                  [{ cs := Cells.mat IntKind.i64 (3 : Nat) l, elem := 23, kind := Kind.mat },
                                    { cs := Cells.ints IntKind.i64 ro, elem := 3, kind := Kind.row },
                                    { cs := Cells.vals [V.row (0 : Nat) n, V.row (1 : Nat) m], elem := 29,
                                      kind := Kind.box }]) ∧
                              ((!inB (↑(List.length (List.getD l (Int.toNat a) [])) : Int) (1 : Int) (4 : Int)) =
                                  false →
                                At
                                    (List.length (List.getD l (Int.toNat a) []) =
                                        List.length (List.getD l (Int.toNat a) []) ∧
                                      List.length (List.getD l (Int.toNat a) []) ≤ (2000000 : Nat)) ∧
                                  ((!allB (List.getD l (Int.toNat a) []) (0 : Int)
                                            (IntKind.wrap IntKind.i64 ((↑n : Int) - (1 : Int)))) =
                                        true →
                                      K (V.lit false)
                                        [{ cs := Cells.mat IntKind.i64 (3 : Nat) l, elem := 23,
                                            kind := Kind.mat },
                                          { cs := Cells.ints IntKind.i64 ro, elem := 3, kind := Kind.row },
                                          { cs := Cells.vals [V.row (0 : Nat) n, V.row (1 : Nat) m], elem := 29,
                                            kind := Kind.box },
                                          { cs := Cells.dead, elem := 3, kind := Kind.arg (1 : Nat) }]) ∧
                                    ((!allB (List.getD l (Int.toNat a) []) (0 : Int)
                                            (IntKind.wrap IntKind.i64 ((↑n : Int) - (1 : Int)))) =
                                        false →
                                      At ((0 : Int) ≤ a ∧ a < (↑m : Int)) ∧
                                        At (Int.toNat a < List.length ro) ∧
                                          At True ∧
                                            ((!inB (List.getD ro (Int.toNat a) (0 : Int)) (0 : Int)
                                                      (IntKind.wrap IntKind.i64
                                                        ((↑(List.length (List.getD l (Int.toNat a) [])) : Int) -
                                                          (1 : Int)))) =
                                                  true →
                                                K (V.lit false)
                                                  [{ cs := Cells.mat IntKind.i64 (3 : Nat) l, elem := 23,
                                                      kind := Kind.mat },
                                                    { cs := Cells.ints IntKind.i64 ro, elem := 3,
                                                      kind := Kind.row },
                                                    { cs := Cells.vals [V.row (0 : Nat) n, V.row (1 : Nat) m],
                                                      elem := 29, kind := Kind.box },
                                                    { cs := Cells.dead, elem := 3,
                                                      kind := Kind.arg (1 : Nat) }]) ∧
                                              ((!inB (List.getD ro (Int.toNat a) (0 : Int)) (0 : Int)
                                                      (IntKind.wrap IntKind.i64
                                                        ((↑(List.length (List.getD l (Int.toNat a) [])) : Int) -
                                                          (1 : Int)))) =
                                                  false →
                                                ((((2 : Nat) = (2 : Nat) ∧ (0 : Nat) = (0 : Nat)) ∧
                                                      (True ∧ (↑n : Int) = (↑n : Int)) ∧
                                                        ((0 : Nat) = (0 : Nat) ∧ n = n) ∧
                                                          (True ∧ (↑n : Int) = (↑n : Int)) ∧
                                                            (True ∧
                                                                IntKind.wrap IntKind.i64 (a + (1 : Int)) =
                                                                  IntKind.wrap IntKind.i64 (a + (1 : Int))) ∧
                                                              True) ∧
                                                    ((True ∧ True ∧ l = l) ∧
                                                        (True ∧ IntKind.i64 = IntKind.i64 ∧ ro = ro) ∧
                                                          (True ∧
                                                              ((0 : Nat) = (0 : Nat) ∧ n = n) ∧
                                                                ((1 : Nat) = (1 : Nat) ∧ m = m) ∧ True) ∧
                                                            True) ∧
                                                      True) ∧
                                                  At
                                                    (rtInv l ro (IntKind.wrap IntKind.i64 (a + (1 : Int))) ∧
                                                      Int.toNat
                                                          ((↑(List.length l) : Int) -
                                                            IntKind.wrap IntKind.i64 (a + (1 : Int))) <
                                                        Int.toNat ((↑(List.length l) : Int) - a)))))) ∧
                    (decide (a < (↑n : Int)) = false →
                      K (V.lit true)
                        [{ cs := Cells.mat IntKind.i64 (3 : Nat) l, elem := 23, kind := Kind.mat },
                          { cs := Cells.ints IntKind.i64 ro, elem := 3, kind := Kind.row },
                          { cs := Cells.vals [V.row (0 : Nat) n, V.row (1 : Nat) m], elem := 29,
                            kind := Kind.box }])))

def VC_impl_isNode (node : Int) (n : Nat) (m : Nat) (l : List (List Int)) (ro : List Int) (K : V → List Blk → Prop) : Prop :=
  At True ∧
  K (V.bool (inB node (0 : Int) (IntKind.wrap IntKind.i64 ((↑n : Int) - (1 : Int)))))
    [{ cs := Cells.mat IntKind.i64 (3 : Nat) l, elem := 23, kind := Kind.mat },
      { cs := Cells.ints IntKind.i64 ro, elem := 3, kind := Kind.row },
      { cs := Cells.vals [V.row (0 : Nat) n, V.row (1 : Nat) m], elem := 29, kind := Kind.box }]

def VC_impl_IsRoute (n : Nat) (m : Nat) (l : List (List Int)) (ro : List Int) (K : V → List Blk → Prop) : Prop :=
  At True ∧
  ((!inB (↑n : Int) (1 : Int) (10 : Int)) = true →
      K (V.lit false)
        [{ cs := Cells.mat IntKind.i64 (3 : Nat) l, elem := 23, kind := Kind.mat },
          { cs := Cells.ints IntKind.i64 ro, elem := 3, kind := Kind.row },
          { cs := Cells.vals [V.row (0 : Nat) n, V.row (1 : Nat) m], elem := 29, kind := Kind.box }]) ∧
    ((!inB (↑n : Int) (1 : Int) (10 : Int)) = false →
      (((↑m : Int) != (↑n : Int)) = true →
          K (V.lit false)
            [{ cs := Cells.mat IntKind.i64 (3 : Nat) l, elem := 23, kind := Kind.mat },
              { cs := Cells.ints IntKind.i64 ro, elem := 3, kind := Kind.row },
              { cs := Cells.vals [V.row (0 : Nat) n, V.row (1 : Nat) m], elem := 29, kind := Kind.box }]) ∧
        (((↑m : Int) != (↑n : Int)) = false →
          ((((2 : Nat) = (2 : Nat) ∧ (0 : Nat) = (0 : Nat)) ∧
                ((0 : Nat) = (0 : Nat) ∧ n = n) ∧
                  (True ∧ (↑n : Int) = (↑n : Int)) ∧ (True ∧ (0 : Int) = (0 : Int)) ∧ True) ∧
              ((True ∧ True ∧ l = l) ∧
                  (True ∧ IntKind.i64 = IntKind.i64 ∧ ro = ro) ∧
                    (True ∧ ((0 : Nat) = (0 : Nat) ∧ n = n) ∧ ((1 : Nat) = (1 : Nat) ∧ m = m) ∧ True) ∧ True) ∧
                True) ∧
            At (rtInv l ro (0 : Int)) ∧
              ∀ (a : Int),
                rtInv l ro a →
                  (decide (a < (↑n : Int)) = true →
                      At ((0 : Int) ≤ a ∧ a < (↑n : Int)) ∧
                        At (Int.toNat a < List.length l) ∧
                          At True ∧
                            ((!inB (↑(List.length (List.getD l (Int.toNat a) [])) : Int) (1 : Int) (4 : Int)) = true →
                                K (V.lit false)
                                  [{ cs := Cells.mat IntKind.i64 (3 : Nat) l, elem := 23, kind := Kind.mat },
                                    { cs := Cells.ints IntKind.i64 ro, elem := 3, kind := Kind.row },
                                    { cs := Cells.vals [V.row (0 : Nat) n, V.row (1 : Nat) m], elem := 29,
                                      kind := Kind.box }]) ∧
                              ((!inB (↑(List.length (List.getD l (Int.toNat a) [])) : Int) (1 : Int) (4 : Int)) =
                                  false →
                                At ((0 : Int) ≤ a ∧ a < (↑m : Int)) ∧
                                  At (Int.toNat a < List.length ro) ∧
                                    At True ∧
                                      ((!inB (List.getD ro (Int.toNat a) (0 : Int)) (0 : Int)
                                                (IntKind.wrap IntKind.i64
                                                  ((↑(List.length (List.getD l (Int.toNat a) [])) : Int) -
                                                    (1 : Int)))) =
                                            true →
                                          K (V.lit false)
                                            [{ cs := Cells.mat IntKind.i64 (3 : Nat) l, elem := 23,
                                                kind := Kind.mat },
                                              { cs := Cells.ints IntKind.i64 ro, elem := 3, kind := Kind.row },
                                              { cs := Cells.vals [V.row (0 : Nat) n, V.row (1 : Nat) m],
                                                elem := 29, kind := Kind.box }]) ∧
                                        ((!inB (List.getD ro (Int.toNat a) (0 : Int)) (0 : Int)
                                                (IntKind.wrap IntKind.i64
                                                  ((↑(List.length (List.getD l (Int.toNat a) [])) : Int) -
                                                    (1 : Int)))) =
                                            false →
                                          ((((2 : Nat) = (2 : Nat) ∧ (0 : Nat) = (0 : Nat)) ∧
                                                ((0 : Nat) = (0 : Nat) ∧ n = n) ∧
                                                  (True ∧ (↑n : Int) = (↑n : Int)) ∧
                                                    (True ∧ a = a) ∧
                                                      ((0 : Nat) = (0 : Nat) ∧
                                                          Int.toNat a = Int.toNat a ∧
                                                            List.length (List.getD l (Int.toNat a) []) =
                                                              List.length (List.getD l (Int.toNat a) [])) ∧
                                                        (True ∧
                                                            (↑(List.length (List.getD l (Int.toNat a) [])) : Int) =
                                                              (↑(List.length (List.getD l (Int.toNat a) [])) : Int)) ∧
                                                          (True ∧ (0 : Int) = (0 : Int)) ∧ True) ∧
                                              ((True ∧ True ∧ l = l) ∧
                                                  (True ∧ IntKind.i64 = IntKind.i64 ∧ ro = ro) ∧
                                                    (True ∧
                                                        ((0 : Nat) = (0 : Nat) ∧ n = n) ∧
                                                          ((1 : Nat) = (1 : Nat) ∧ m = m) ∧ True) ∧
                                                      True) ∧
                                                True) ∧
                                            At
                                                (allInv (List.getD l (Int.toNat a) []) (0 : Int)
                                                  ((↑(List.length l) : Int) - (1 : Int)) (0 : Int)) ∧
                                              ∀ (a_5 : Int),
                                                allInv (List.getD l (Int.toNat a) []) (0 : Int)
                                                    ((↑(List.length l) : Int) - (1 : Int)) a_5 →
                                                  (decide
                                                          (a_5 <
                                                            (↑(List.length (List.getD l (Int.toNat a) [])) : Int)) =
                                                        true →
                                                      At
                                                          ((0 : Int) ≤ a_5 ∧
                                                            a_5 <
                                                              (↑(List.length (List.getD l (Int.toNat a) [])) : Int)) ∧
                                                        At
                                                            (Int.toNat a < List.length l ∧
                                                              Int.toNat a_5 <
                                                                List.length (List.getD l (Int.toNat a) [])) ∧
                                                          At
                                                              (List.length l = n ∧
                                                                List.length ro = m ∧ smallM l ∧ m ≤ (2000000 : Nat)) ∧
                                                            ((!inB
                                                                      (List.getD (List.getD l (Int.toNat a) [])
                                                                        (Int.toNat a_5) (0 : Int))
                                                                      (0 : Int) ((↑n : Int) - (1 : Int))) =
                                                                  true →
                                                                K (V.lit false)
                                                                  [{ cs := Cells.mat IntKind.i64 (3 : Nat) l,
                                                                      elem := 23, kind := Kind.mat },
                                                                    { cs := Cells.ints IntKind.i64 ro,
                                                                      elem := 3, kind := Kind.row },
                                                                    {
                                                                      cs :=
                                                                        Cells.vals
                                                                          [V.row (0 : Nat) n, V.row (1 : Nat) m],
                                                                      elem := 29, kind := Kind.box }]) ∧
                                                              ((!inB
                                                                      (List.getD (List.getD l (Int.toNat a) [])
                                                                        (Int.toNat a_5) (0 : Int))
                                                                      (0 : Int) ((↑n : Int) - (1 : Int))) =
                                                                  false →
                                                                ((((2 : Nat) = (2 : Nat) ∧ (0 : Nat) = (0 : Nat)) ∧
                                                                      ((0 : Nat) = (0 : Nat) ∧ n = n) ∧
                                                                        (True ∧ (↑n : Int) = (↑n : Int)) ∧
                                                                          (True ∧ a = a) ∧
                                                                            ((0 : Nat) = (0 : Nat) ∧
                                                                                Int.toNat a = Int.toNat a ∧
                                                                                  List.length
                                                                                      (List.getD l (Int.toNat a) []) =
                                                                                    List.length
                                                                                      (List.getD l (Int.toNat a) [])) ∧
                                                                              (True ∧
                                                                                  (↑(List.length
                                                                                          (List.getD l (Int.toNat a)
                                                                                            [])) :
                                                                                      Int) =
                                                                                    (↑(List.length
                                                                                          (List.getD l (Int.toNat a)
                                                                                            [])) :
                                                                                      Int)) ∧
                                                                                (True ∧
                                                                                    IntKind.wrap IntKind.i64
                                                                                        (a_5 + (1 : Int)) =
                                                                                      IntKind.wrap IntKind.i64
                                                                                        (a_5 + (1 : Int))) ∧
                                                                                  True) ∧
                                                                    ((True ∧ True ∧ l = l) ∧
                                                                        (True ∧ IntKind.i64 = IntKind.i64 ∧ ro = ro) ∧
                                                                          (True ∧
                                                                              ((0 : Nat) = (0 : Nat) ∧ n = n) ∧
                                                                                ((1 : Nat) = (1 : Nat) ∧ m = m) ∧
                                                                                  True) ∧
                                                                            True) ∧
                                                                      True) ∧
                                                                  At
                                                                    (allInv (List.getD l (Int.toNat a) []) (0 : Int)
                                                                        ((↑(List.length l) : Int) - (1 : Int))
                                                                        (IntKind.wrap IntKind.i64 (a_5 + (1 : Int))) ∧
                                                                      Int.toNat
                                                                          ((↑(List.length
                                                                                  (List.getD l (Int.toNat a) [])) :
                                                                              Int) -
                                                                            IntKind.wrap IntKind.i64
                                                                              (a_5 + (1 : Int))) <
                                                                        Int.toNat
                                                                          ((↑(List.length
                                                                                  (List.getD l (Int.toNat a) [])) :
                                                                              Int) -
                                                                            a_5)))) ∧
                                                    (decide
                                                          (a_5 <
                                                            (↑(List.length (List.getD l (Int.toNat a) [])) : Int)) =
                                                        false →
                                                      ((((2 : Nat) = (2 : Nat) ∧ (0 : Nat) = (0 : Nat)) ∧
                                                            ((0 : Nat) = (0 : Nat) ∧ n = n) ∧
                                                              (True ∧ (↑n : Int) = (↑n : Int)) ∧
                                                                (True ∧
                                                                    IntKind.wrap IntKind.i64 (a + (1 : Int)) =
                                                                      IntKind.wrap IntKind.i64 (a + (1 : Int))) ∧
                                                                  True) ∧
                                                          ((True ∧ True ∧ l = l) ∧
                                                              (True ∧ IntKind.i64 = IntKind.i64 ∧ ro = ro) ∧
                                                                (True ∧
                                                                    ((0 : Nat) = (0 : Nat) ∧ n = n) ∧
                                                                      ((1 : Nat) = (1 : Nat) ∧ m = m) ∧ True) ∧
                                                                  True) ∧
                                                            True) ∧
                                                        At
                                                          (rtInv l ro (IntKind.wrap IntKind.i64 (a + (1 : Int))) ∧
                                                            Int.toNat
                                                                ((↑(List.length l) : Int) -
                                                                  IntKind.wrap IntKind.i64 (a + (1 : Int))) <
                                                              Int.toNat ((↑(List.length l) : Int) - a)))))) ∧
                    (decide (a < (↑n : Int)) = false →
                      K (V.lit true)
                        [{ cs := Cells.mat IntKind.i64 (3 : Nat) l, elem := 23, kind := Kind.mat },
                          { cs := Cells.ints IntKind.i64 ro, elem := 3, kind := Kind.row },
                          { cs := Cells.vals [V.row (0 : Nat) n, V.row (1 : Nat) m], elem := 29,
                            kind := Kind.box }])))

end Go.Vi
