/- The conditions, reckoned out by program: texts alone. -/
import Derived.Test.YtopolpgligoldacRDDefs
namespace Go.Vi
set_option linter.unusedVariables false
def VC_spec_roNode (x : Int) (n : Nat) (m : Nat) (l : List (List Int)) (ro : List Int) (K : V → List Blk → Prop) : Prop :=
  At (List.length l = n ∧ List.length ro = m ∧ smallM l ∧ m ≤ (2000000 : Nat)) ∧
  (routeB l ro = true →
      At True ∧
        K (V.bool (inB x (0 : Int) (IntKind.wrap IntKind.i64 ((↑n : Int) - (1 : Int)))))
          [{ cs := Cells.mat IntKind.i64 (3 : Nat) l, elem := 23, kind := Kind.mat },
            { cs := Cells.ints IntKind.i64 ro, elem := 3, kind := Kind.row },
            { cs := Cells.vals [V.row (0 : Nat) n, V.row (1 : Nat) m], elem := 29, kind := Kind.box }]) ∧
    (routeB l ro = false →
      K (V.lit false)
        [{ cs := Cells.mat IntKind.i64 (3 : Nat) l, elem := 23, kind := Kind.mat },
          { cs := Cells.ints IntKind.i64 ro, elem := 3, kind := Kind.row },
          { cs := Cells.vals [V.row (0 : Nat) n, V.row (1 : Nat) m], elem := 29, kind := Kind.box }])

def VC_spec_roWalk (x : Int) (steps : Int) (n : Nat) (m : Nat) (l : List (List Int)) (ro : List Int) (K : V → List Blk → Prop) : Prop :=
  At (List.length l = n ∧ List.length ro = m ∧ smallM l ∧ m ≤ (2000000 : Nat)) ∧
  (rtOk l ro n x = true →
      At True ∧
        K (V.bool (inB steps (0 : Int) (3000 : Int)))
          [{ cs := Cells.mat IntKind.i64 (3 : Nat) l, elem := 23, kind := Kind.mat },
            { cs := Cells.ints IntKind.i64 ro, elem := 3, kind := Kind.row },
            { cs := Cells.vals [V.row (0 : Nat) n, V.row (1 : Nat) m], elem := 29, kind := Kind.box }]) ∧
    (rtOk l ro n x = false →
      K (V.lit false)
        [{ cs := Cells.mat IntKind.i64 (3 : Nat) l, elem := 23, kind := Kind.mat },
          { cs := Cells.ints IntKind.i64 ro, elem := 3, kind := Kind.row },
          { cs := Cells.vals [V.row (0 : Nat) n, V.row (1 : Nat) m], elem := 29, kind := Kind.box }])

def VC_impl_isWalk (steps : Int) (K : V → Prop) : Prop :=
  At True ∧ K (V.bool (inB steps (0 : Int) (3000 : Int)))

def VC_spec_roOwn (n : Nat) (m : Nat) (l : List (List Int)) (ro : List Int) (K : V → List Blk → Prop) : Prop :=
  At
    ((List.length (List.replicate (0 : Nat) (0 : Int)) = (0 : Nat) * (1 : Nat) ∧ m * (1 : Nat) ≤ List.length ro) ∧
      (0 : Nat) < m ∧ (0 : Nat) + m ≤ (1000000000 : Nat)) ∧
  (True ∧
      (((2 : Nat) = (2 : Nat) ∧ (0 : Nat) = (0 : Nat)) ∧
          ((3 : Nat) = (3 : Nat) ∧ (0 : Nat) = (0 : Nat)) ∧
            ((0 : Nat) = (0 : Nat) ∧ n = List.length l) ∧
              (True ∧ (↑n : Int) = (↑(List.length l) : Int)) ∧ (True ∧ (0 : Int) = (0 : Int)) ∧ True) ∧
        ((True ∧ True ∧ l = l) ∧
            (True ∧ IntKind.i64 = IntKind.i64 ∧ ro = ro) ∧
              (True ∧
                  Value.slice none (0 : Nat) (0 : Nat) = Value.slice none (0 : Nat) (0 : Nat) ∧
                    Value.slice none (0 : Nat) (0 : Nat) = Value.slice none (0 : Nat) (0 : Nat) ∧ True) ∧
                (True ∧
                    ((4 : Nat) = (4 : Nat) ∧ (0 : Nat) = (0 : Nat)) ∧
                      ((5 : Nat) = (5 : Nat) ∧ (0 : Nat) + m = List.length ro) ∧ True) ∧
                  (True ∧ True ∧ [] = List.take (Int.toNat (0 : Int)) l) ∧
                    (True ∧
                        IntKind.i64 = IntKind.i64 ∧
                          List.replicate (0 : Nat) (0 : Int) ++ List.take (m * (1 : Nat)) ro = ro) ∧
                      True) ∧
          True) ∧
    At (ixInv (List.length l) (0 : Int)) ∧
      ∀ (a : Int),
        ixInv (List.length l) a →
          (decide (a < (↑(List.length l) : Int)) = true →
              At ((0 : Int) ≤ a ∧ a < (↑(List.length l) : Int)) ∧
                At (Int.toNat a < List.length l) ∧
                  (((At
                            ((List.length (List.replicate (0 : Nat) (0 : Int)) = (0 : Nat) * (1 : Nat) ∧
                                List.length (List.getD l (Int.toNat a) []) * (1 : Nat) ≤
                                  List.length (List.getD l (Int.toNat a) [])) ∧
                              (0 : Nat) < List.length (List.getD l (Int.toNat a) []) ∧
                                (0 : Nat) + List.length (List.getD l (Int.toNat a) []) ≤ (1000000000 : Nat)) ∧
                          ((At
                                  (List.length
                                        (List.replicate (0 : Nat) (0 : Int) ++
                                          List.take (List.length (List.getD l (Int.toNat a) []) * (1 : Nat))
                                            (List.getD l (Int.toNat a) [])) =
                                      (0 : Nat) + List.length (List.getD l (Int.toNat a) []) ∧
                                    List.length (List.take (Int.toNat a) l) = Int.toNat a ∧
                                      Int.toNat a + (1 : Nat) ≤ (1000000000 : Nat)) ∧
                                (True ∧
                                    (((2 : Nat) = (2 : Nat) ∧ (0 : Nat) = (0 : Nat)) ∧
                                        ((3 : Nat) = (3 : Nat) ∧ (0 : Nat) = (0 : Nat)) ∧
                                          ((0 : Nat) = (0 : Nat) ∧ List.length l = List.length l) ∧
                                            (True ∧ (↑(List.length l) : Int) = (↑(List.length l) : Int)) ∧
                                              (True ∧ a = a) ∧ True) ∧
                                      ((True ∧ True ∧ l = l) ∧
                                          (True ∧ IntKind.i64 = IntKind.i64 ∧ ro = ro) ∧
                                            (True ∧
                                                Value.slice none (0 : Nat) (0 : Nat) =
                                                    Value.slice none (0 : Nat) (0 : Nat) ∧
                                                  Value.slice none (0 : Nat) (0 : Nat) =
                                                      Value.slice none (0 : Nat) (0 : Nat) ∧
                                                    True) ∧
                                              (True ∧
                                                  ((4 : Nat) = (4 : Nat) ∧
                                                      Int.toNat a + (1 : Nat) = Int.toNat a + (1 : Nat)) ∧
                                                    ((5 : Nat) = (5 : Nat) ∧ List.length ro = List.length ro) ∧ True) ∧
                                                (True ∧
                                                    True ∧
                                                      List.take (Int.toNat a) l ++
                                                          [List.replicate (0 : Nat) (0 : Int) ++
                                                              List.take
                                                                (List.length (List.getD l (Int.toNat a) []) * (1 : Nat))
                                                                (List.getD l (Int.toNat a) [])] =
                                                        List.take (Int.toNat a + (1 : Nat)) l) ∧
                                                  (True ∧ IntKind.i64 = IntKind.i64 ∧ ro = ro) ∧ True) ∧
                                        True) ∧
                                  True) ∧
                              True) ∧
                            True) ∧
                        True) ∧
                      (At
                            ((List.length (List.replicate (0 : Nat) (0 : Int)) = (0 : Nat) * (1 : Nat) ∧
                                List.length (List.getD l (Int.toNat a) []) * (1 : Nat) ≤
                                  List.length (List.getD l (Int.toNat a) [])) ∧
                              (0 : Nat) < List.length (List.getD l (Int.toNat a) []) ∧
                                (0 : Nat) + List.length (List.getD l (Int.toNat a) []) ≤ (1000000000 : Nat)) ∧
                          (((At
                                    (List.length
                                          (List.replicate (0 : Nat) (0 : Int) ++
                                            List.take (List.length (List.getD l (Int.toNat a) []) * (1 : Nat))
                                              (List.getD l (Int.toNat a) [])) =
                                        (0 : Nat) + List.length (List.getD l (Int.toNat a) []) ∧
                                      List.length (List.take (Int.toNat a) l) = Int.toNat a ∧
                                        Int.toNat a + (1 : Nat) ≤ (1000000000 : Nat)) ∧
                                  (True ∧
                                      (((2 : Nat) = (2 : Nat) ∧ (0 : Nat) = (0 : Nat)) ∧
                                          ((3 : Nat) = (3 : Nat) ∧ (0 : Nat) = (0 : Nat)) ∧
                                            ((0 : Nat) = (0 : Nat) ∧ List.length l = List.length l) ∧
                                              (True ∧ (↑(List.length l) : Int) = (↑(List.length l) : Int)) ∧
                                                (True ∧ a = a) ∧ True) ∧
                                        ((True ∧ True ∧ l = l) ∧
                                            (True ∧ IntKind.i64 = IntKind.i64 ∧ ro = ro) ∧
                                              (True ∧
                                                  Value.slice none (0 : Nat) (0 : Nat) =
                                                      Value.slice none (0 : Nat) (0 : Nat) ∧
                                                    Value.slice none (0 : Nat) (0 : Nat) =
                                                        Value.slice none (0 : Nat) (0 : Nat) ∧
                                                      True) ∧
                                                (True ∧
                                                    ((4 : Nat) = (4 : Nat) ∧
                                                        Int.toNat a + (1 : Nat) = Int.toNat a + (1 : Nat)) ∧
                                                      ((5 : Nat) = (5 : Nat) ∧ List.length ro = List.length ro) ∧
                                                        True) ∧
                                                  (True ∧
                                                      True ∧
                                                        List.take (Int.toNat a) l ++
                                                            [List.replicate (0 : Nat) (0 : Int) ++
                                                                List.take
                                                                  (List.length (List.getD l (Int.toNat a) []) *
                                                                    (1 : Nat))
                                                                  (List.getD l (Int.toNat a) [])] =
                                                          List.take (Int.toNat a + (1 : Nat)) l) ∧
                                                    (True ∧ IntKind.i64 = IntKind.i64 ∧ ro = ro) ∧ True) ∧
                                          True) ∧
                                    True) ∧
                                True) ∧
                              True) ∧
                            ((At
                                    (List.length
                                          (List.replicate (0 : Nat) (0 : Int) ++
                                            List.take (List.length (List.getD l (Int.toNat a) []) * (1 : Nat))
                                              (List.getD l (Int.toNat a) [])) =
                                        (0 : Nat) + List.length (List.getD l (Int.toNat a) []) ∧
                                      List.length (List.take (Int.toNat a) l) = Int.toNat a ∧
                                        Int.toNat a + (1 : Nat) ≤ (1000000000 : Nat)) ∧
                                  (True ∧
                                      (((2 : Nat) = (2 : Nat) ∧ (0 : Nat) = (0 : Nat)) ∧
                                          ((3 : Nat) = (3 : Nat) ∧ (0 : Nat) = (0 : Nat)) ∧
                                            ((0 : Nat) = (0 : Nat) ∧ List.length l = List.length l) ∧
                                              (True ∧ (↑(List.length l) : Int) = (↑(List.length l) : Int)) ∧
                                                (True ∧ a = a) ∧ True) ∧
                                        ((True ∧ True ∧ l = l) ∧
                                            (True ∧ IntKind.i64 = IntKind.i64 ∧ ro = ro) ∧
                                              (True ∧
                                                  Value.slice none (0 : Nat) (0 : Nat) =
                                                      Value.slice none (0 : Nat) (0 : Nat) ∧
                                                    Value.slice none (0 : Nat) (0 : Nat) =
                                                        Value.slice none (0 : Nat) (0 : Nat) ∧
                                                      True) ∧
                                                (True ∧
                                                    ((4 : Nat) = (4 : Nat) ∧
                                                        Int.toNat a + (1 : Nat) = Int.toNat a + (1 : Nat)) ∧
                                                      ((5 : Nat) = (5 : Nat) ∧ List.length ro = List.length ro) ∧
                                                        True) ∧
                                                  (True ∧
                                                      True ∧
                                                        List.take (Int.toNat a) l ++
                                                            [List.replicate (0 : Nat) (0 : Int) ++
                                                                List.take
                                                                  (List.length (List.getD l (Int.toNat a) []) *
                                                                    (1 : Nat))
                                                                  (List.getD l (Int.toNat a) [])] =
                                                          List.take (Int.toNat a + (1 : Nat)) l) ∧
                                                    (True ∧ IntKind.i64 = IntKind.i64 ∧ ro = ro) ∧ True) ∧
                                          True) ∧
                                    True) ∧
                                True) ∧
                              True) ∧
                        True) ∧
                    (True ∧
                        (((2 : Nat) = (2 : Nat) ∧ (0 : Nat) = (0 : Nat)) ∧
                            ((3 : Nat) = (3 : Nat) ∧ (0 : Nat) = (0 : Nat)) ∧
                              ((0 : Nat) = (0 : Nat) ∧ List.length l = List.length l) ∧
                                (True ∧ (↑(List.length l) : Int) = (↑(List.length l) : Int)) ∧
                                  (True ∧
                                      IntKind.wrap IntKind.i64 (a + (1 : Int)) =
                                        IntKind.wrap IntKind.i64 (a + (1 : Int))) ∧
                                    True) ∧
                          ((True ∧ True ∧ l = l) ∧
                              (True ∧ IntKind.i64 = IntKind.i64 ∧ ro = ro) ∧
                                (True ∧
                                    Value.slice none (0 : Nat) (0 : Nat) = Value.slice none (0 : Nat) (0 : Nat) ∧
                                      Value.slice none (0 : Nat) (0 : Nat) = Value.slice none (0 : Nat) (0 : Nat) ∧
                                        True) ∧
                                  (True ∧
                                      ((4 : Nat) = (4 : Nat) ∧
                                          Int.toNat a + (1 : Nat) =
                                            Int.toNat (IntKind.wrap IntKind.i64 (a + (1 : Int)))) ∧
                                        ((5 : Nat) = (5 : Nat) ∧ List.length ro = List.length ro) ∧ True) ∧
                                    (True ∧
                                        True ∧
                                          List.take (Int.toNat a + (1 : Nat)) l =
                                            List.take (Int.toNat (IntKind.wrap IntKind.i64 (a + (1 : Int)))) l) ∧
                                      (True ∧ IntKind.i64 = IntKind.i64 ∧ ro = ro) ∧ True) ∧
                            True) ∧
                      At
                        (ixInv (List.length l) (IntKind.wrap IntKind.i64 (a + (1 : Int))) ∧
                          Int.toNat ((↑(List.length l) : Int) - IntKind.wrap IntKind.i64 (a + (1 : Int))) <
                            Int.toNat ((↑(List.length l) : Int) - a))) ∧
            (decide (a < (↑(List.length l) : Int)) = false →
              K (V.agg [V.row (4 : Nat) (Int.toNat a), V.row (5 : Nat) (List.length ro)])
                [{ cs := Cells.mat IntKind.i64 (3 : Nat) l, elem := 23, kind := Kind.mat },
                  { cs := Cells.ints IntKind.i64 ro, elem := 3, kind := Kind.row },
                  { cs := Cells.vals [V.row (4 : Nat) (Int.toNat a), V.row (5 : Nat) (List.length ro)],
                    elem := 29, kind := Kind.box },
                  { cs := Cells.vals [V.row (4 : Nat) (Int.toNat a), V.row (5 : Nat) (List.length ro)],
                    elem := 29, kind := Kind.box },
                  { cs := Cells.mat IntKind.i64 (3 : Nat) (List.take (Int.toNat a) l), elem := 23,
                    kind := Kind.mat },
                  { cs := Cells.ints IntKind.i64 ro, elem := 3, kind := Kind.row }])

def VC_spec_roStep (x : Int) (n : Nat) (m : Nat) (l : List (List Int)) (ro : List Int) (K : V → List Blk → Prop) : Prop :=
  At ((0 : Int) ≤ x ∧ x < (↑m : Int)) ∧
  At (Int.toNat x < List.length ro) ∧
    True ∧
      At ((0 : Int) ≤ x ∧ x < (↑n : Int)) ∧
        At (Int.toNat x < List.length l) ∧
          At ((↑(List.length (List.getD l (Int.toNat x) [])) : Int) ≠ (0 : Int)) ∧
            At ((0 : Int) ≤ x ∧ x < (↑m : Int)) ∧
              At (Int.toNat x < List.length ro) ∧
                At ((0 : Int) ≤ x ∧ x < (↑n : Int)) ∧
                  At (Int.toNat x < List.length l) ∧
                    At
                        ((0 : Int) ≤ List.getD ro (Int.toNat x) (0 : Int) ∧
                          List.getD ro (Int.toNat x) (0 : Int) <
                            (↑(List.length (List.getD l (Int.toNat x) [])) : Int)) ∧
                      At
                          (Int.toNat x < List.length l ∧
                            Int.toNat (List.getD ro (Int.toNat x) (0 : Int)) <
                              List.length (List.getD l (Int.toNat x) [])) ∧
                        K
                          (V.int IntKind.i64
                            (List.getD (List.getD l (Int.toNat x) []) (Int.toNat (List.getD ro (Int.toNat x) (0 : Int)))
                              (0 : Int)))
                          [{ cs := Cells.mat IntKind.i64 (3 : Nat) l, elem := 23, kind := Kind.mat },
                            {
                              cs :=
                                Cells.ints IntKind.i64
                                  (List.set ro (Int.toNat x)
                                    (Int.tmod
                                      (IntKind.wrap IntKind.i64 (List.getD ro (Int.toNat x) (0 : Int) + (1 : Int)))
                                      (↑(List.length (List.getD l (Int.toNat x) [])) : Int))),
                              elem := 3, kind := Kind.row },
                            { cs := Cells.vals [V.row (0 : Nat) n, V.row (1 : Nat) m], elem := 29,
                              kind := Kind.box }]

def VC_impl_walk_goOn (n : Nat) (x : Int) (q : List Int) (l : List (List Int)) (K : V → List Blk → Prop) : Prop :=
  At ((0 : Int) ≤ x ∧ x < (↑(10 : Nat) : Int)) ∧
  At ((0 : Int) ≤ x ∧ x < (↑n : Int)) ∧
    At (Int.toNat x < List.length l) ∧
      At
          ((0 : Int) ≤ List.getD q (Int.toNat x) (0 : Int) ∧
            List.getD q (Int.toNat x) (0 : Int) < (↑(List.length (List.getD l (Int.toNat x) [])) : Int)) ∧
        At
            (Int.toNat x < List.length l ∧
              Int.toNat (List.getD q (Int.toNat x) (0 : Int)) < List.length (List.getD l (Int.toNat x) [])) ∧
          True ∧
            At ((0 : Int) ≤ x ∧ x < (↑n : Int)) ∧
              At (Int.toNat x < List.length l) ∧
                At ((↑(List.length (List.getD l (Int.toNat x) [])) : Int) ≠ (0 : Int)) ∧
                  At ((0 : Int) ≤ x ∧ x < (↑(10 : Nat) : Int)) ∧
                    K (V.int IntKind.i64 (List.getD q (Int.toNat x) (0 : Int)))
                      [{
                          cs :=
                            Cells.mixi
                              [V.row (1 : Nat) n,
                                V.int IntKind.i64
                                  (List.getD (List.getD l (Int.toNat x) [])
                                    (Int.toNat (List.getD q (Int.toNat x) (0 : Int))) (0 : Int))]
                              (10 : Nat)
                              (List.set (padI (10 : Nat) q) (Int.toNat x)
                                (Int.tmod (IntKind.wrap IntKind.i64 (List.getD q (Int.toNat x) (0 : Int) + (1 : Int)))
                                  (↑(List.length (List.getD l (Int.toNat x) [])) : Int)))
                              [],
                          elem := 58, kind := Kind.box },
                        { cs := Cells.mat IntKind.i64 (3 : Nat) l, elem := 23, kind := Kind.mat }]

def VC_impl_walk_routeNow (n : Nat) (x : Int) (q : List Int) (l : List (List Int)) (K : V → List Blk → Prop) : Prop :=
  (((At ((0 : Int) ≤ (↑n : Int) ∧ (↑n : Int) ≤ (↑(10 : Nat) : Int)) ∧
        (At ((0 : Nat) < Int.toNat (↑n : Int)) ∧
            At
                ((List.length (List.replicate (0 : Nat) (0 : Int)) = (0 : Nat) * (1 : Nat) ∧
                    Int.toNat (↑n : Int) * (1 : Nat) ≤ List.length (padI (10 : Nat) q)) ∧
                  (0 : Nat) < Int.toNat (↑n : Int) ∧ (0 : Nat) + Int.toNat (↑n : Int) ≤ (1000000000 : Nat)) ∧
              ((True ∧
                    (((0 : Nat) = (0 : Nat) ∧ (0 : Nat) = (0 : Nat)) ∧
                        ((2 : Nat) = (2 : Nat) ∧ (0 : Nat) = (0 : Nat)) ∧
                          ((3 : Nat) = (3 : Nat) ∧ (0 : Nat) = (0 : Nat)) ∧ True) ∧
                      ((True ∧
                            (((1 : Nat) = (1 : Nat) ∧ n = List.length l) ∧ (True ∧ x = x) ∧ True) ∧
                              True ∧ q = q ∧ True) ∧
                          (True ∧ True ∧ l = l) ∧
                            (True ∧
                                Value.slice none (0 : Nat) (0 : Nat) = Value.slice none (0 : Nat) (0 : Nat) ∧
                                  Value.slice none (0 : Nat) (0 : Nat) = Value.slice none (0 : Nat) (0 : Nat) ∧ True) ∧
                              (True ∧
                                  Value.slice none (0 : Nat) (0 : Nat) = Value.slice none (0 : Nat) (0 : Nat) ∧
                                    ((4 : Nat) = (4 : Nat) ∧ (0 : Nat) + Int.toNat (↑n : Int) = List.length l) ∧ True) ∧
                                (True ∧
                                    IntKind.i64 = IntKind.i64 ∧
                                      List.replicate (0 : Nat) (0 : Int) ++
                                          List.take (Int.toNat (↑n : Int) * (1 : Nat)) (padI (10 : Nat) q) =
                                        List.take (List.length l) q) ∧
                                  True) ∧
                        True) ∧
                  True) ∧
                True) ∧
          ((At ((0 : Nat) < Int.toNat (↑n : Int)) ∧
                At
                    ((List.length (List.replicate (0 : Nat) (0 : Int)) = (0 : Nat) * (1 : Nat) ∧
                        Int.toNat (↑n : Int) * (1 : Nat) ≤ List.length (padI (10 : Nat) q)) ∧
                      (0 : Nat) < Int.toNat (↑n : Int) ∧ (0 : Nat) + Int.toNat (↑n : Int) ≤ (1000000000 : Nat)) ∧
                  (True ∧
                      (((0 : Nat) = (0 : Nat) ∧ (0 : Nat) = (0 : Nat)) ∧
                          ((2 : Nat) = (2 : Nat) ∧ (0 : Nat) = (0 : Nat)) ∧
                            ((3 : Nat) = (3 : Nat) ∧ (0 : Nat) = (0 : Nat)) ∧ True) ∧
                        ((True ∧
                              (((1 : Nat) = (1 : Nat) ∧ n = List.length l) ∧ (True ∧ x = x) ∧ True) ∧
                                True ∧ q = q ∧ True) ∧
                            (True ∧ True ∧ l = l) ∧
                              (True ∧
                                  Value.slice none (0 : Nat) (0 : Nat) = Value.slice none (0 : Nat) (0 : Nat) ∧
                                    Value.slice none (0 : Nat) (0 : Nat) = Value.slice none (0 : Nat) (0 : Nat) ∧
                                      True) ∧
                                (True ∧
                                    Value.slice none (0 : Nat) (0 : Nat) = Value.slice none (0 : Nat) (0 : Nat) ∧
                                      ((4 : Nat) = (4 : Nat) ∧ (0 : Nat) + Int.toNat (↑n : Int) = List.length l) ∧
                                        True) ∧
                                  (True ∧
                                      IntKind.i64 = IntKind.i64 ∧
                                        List.replicate (0 : Nat) (0 : Int) ++
                                            List.take (Int.toNat (↑n : Int) * (1 : Nat)) (padI (10 : Nat) q) =
                                          List.take (List.length l) q) ∧
                                    True) ∧
                          True) ∧
                    True) ∧
              True) ∧
            True) ∧
      ((At ((0 : Int) ≤ (↑n : Int) ∧ (↑n : Int) ≤ (↑(10 : Nat) : Int)) ∧
            (At ((0 : Nat) < Int.toNat (↑n : Int)) ∧
                At
                    ((List.length (List.replicate (0 : Nat) (0 : Int)) = (0 : Nat) * (1 : Nat) ∧
                        Int.toNat (↑n : Int) * (1 : Nat) ≤ List.length (padI (10 : Nat) q)) ∧
                      (0 : Nat) < Int.toNat (↑n : Int) ∧ (0 : Nat) + Int.toNat (↑n : Int) ≤ (1000000000 : Nat)) ∧
                  (True ∧
                      (((0 : Nat) = (0 : Nat) ∧ (0 : Nat) = (0 : Nat)) ∧
                          ((2 : Nat) = (2 : Nat) ∧ (0 : Nat) = (0 : Nat)) ∧
                            ((3 : Nat) = (3 : Nat) ∧ (0 : Nat) = (0 : Nat)) ∧ True) ∧
                        ((True ∧
                              (((1 : Nat) = (1 : Nat) ∧ n = List.length l) ∧ (True ∧ x = x) ∧ True) ∧
                                True ∧ q = q ∧ True) ∧
                            (True ∧ True ∧ l = l) ∧
                              (True ∧
                                  Value.slice none (0 : Nat) (0 : Nat) = Value.slice none (0 : Nat) (0 : Nat) ∧
                                    Value.slice none (0 : Nat) (0 : Nat) = Value.slice none (0 : Nat) (0 : Nat) ∧
                                      True) ∧
                                (True ∧
                                    Value.slice none (0 : Nat) (0 : Nat) = Value.slice none (0 : Nat) (0 : Nat) ∧
                                      ((4 : Nat) = (4 : Nat) ∧ (0 : Nat) + Int.toNat (↑n : Int) = List.length l) ∧
                                        True) ∧
                                  (True ∧
                                      IntKind.i64 = IntKind.i64 ∧
                                        List.replicate (0 : Nat) (0 : Int) ++
                                            List.take (Int.toNat (↑n : Int) * (1 : Nat)) (padI (10 : Nat) q) =
                                          List.take (List.length l) q) ∧
                                    True) ∧
                          True) ∧
                    True) ∧
              True) ∧
          True) ∧
        True) ∧
    (((At ((0 : Int) ≤ (↑n : Int) ∧ (↑n : Int) ≤ (↑(10 : Nat) : Int)) ∧
            (At ((0 : Nat) < Int.toNat (↑n : Int)) ∧
                At
                    ((List.length (List.replicate (0 : Nat) (0 : Int)) = (0 : Nat) * (1 : Nat) ∧
                        Int.toNat (↑n : Int) * (1 : Nat) ≤ List.length (padI (10 : Nat) q)) ∧
                      (0 : Nat) < Int.toNat (↑n : Int) ∧ (0 : Nat) + Int.toNat (↑n : Int) ≤ (1000000000 : Nat)) ∧
                  (True ∧
                      (((0 : Nat) = (0 : Nat) ∧ (0 : Nat) = (0 : Nat)) ∧
                          ((2 : Nat) = (2 : Nat) ∧ (0 : Nat) = (0 : Nat)) ∧
                            ((3 : Nat) = (3 : Nat) ∧ (0 : Nat) = (0 : Nat)) ∧ True) ∧
                        ((True ∧
                              (((1 : Nat) = (1 : Nat) ∧ n = List.length l) ∧ (True ∧ x = x) ∧ True) ∧
                                True ∧ q = q ∧ True) ∧
                            (True ∧ True ∧ l = l) ∧
                              (True ∧
                                  Value.slice none (0 : Nat) (0 : Nat) = Value.slice none (0 : Nat) (0 : Nat) ∧
                                    Value.slice none (0 : Nat) (0 : Nat) = Value.slice none (0 : Nat) (0 : Nat) ∧
                                      True) ∧
                                (True ∧
                                    Value.slice none (0 : Nat) (0 : Nat) = Value.slice none (0 : Nat) (0 : Nat) ∧
                                      ((4 : Nat) = (4 : Nat) ∧ (0 : Nat) + Int.toNat (↑n : Int) = List.length l) ∧
                                        True) ∧
                                  (True ∧
                                      IntKind.i64 = IntKind.i64 ∧
                                        List.replicate (0 : Nat) (0 : Int) ++
                                            List.take (Int.toNat (↑n : Int) * (1 : Nat)) (padI (10 : Nat) q) =
                                          List.take (List.length l) q) ∧
                                    True) ∧
                          True) ∧
                    True) ∧
              True) ∧
          True) ∧
        True) ∧
      True) ∧
  (True ∧
      (((2 : Nat) = (2 : Nat) ∧ (0 : Nat) = (0 : Nat)) ∧
          ((3 : Nat) = (3 : Nat) ∧ (0 : Nat) = (0 : Nat)) ∧
            ((1 : Nat) = (1 : Nat) ∧ List.length l = List.length l) ∧
              (True ∧ (↑(List.length l) : Int) = (↑(List.length l) : Int)) ∧ (True ∧ (0 : Int) = (0 : Int)) ∧ True) ∧
        ((True ∧
              (((1 : Nat) = (1 : Nat) ∧ List.length l = List.length l) ∧ (True ∧ x = x) ∧ True) ∧ True ∧ q = q ∧ True) ∧
            (True ∧ True ∧ l = l) ∧
              (True ∧
                  Value.slice none (0 : Nat) (0 : Nat) = Value.slice none (0 : Nat) (0 : Nat) ∧
                    Value.slice none (0 : Nat) (0 : Nat) = Value.slice none (0 : Nat) (0 : Nat) ∧ True) ∧
                (True ∧
                    ((4 : Nat) = (4 : Nat) ∧ (0 : Nat) = (0 : Nat)) ∧
                      ((5 : Nat) = (5 : Nat) ∧ List.length l = List.length l) ∧ True) ∧
                  (True ∧ True ∧ [] = List.take (Int.toNat (0 : Int)) l) ∧
                    (True ∧ IntKind.i64 = IntKind.i64 ∧ List.take (List.length l) q = List.take (List.length l) q) ∧
                      True) ∧
          True) ∧
    At (ixInv (List.length l) (0 : Int)) ∧
      ∀ (a : Int),
        ixInv (List.length l) a →
          (decide (a < (↑(List.length l) : Int)) = true →
              At ((0 : Int) ≤ a ∧ a < (↑(List.length l) : Int)) ∧
                At (Int.toNat a < List.length l) ∧
                  (((At ((0 : Nat) < List.length (List.getD l (Int.toNat a) [])) ∧
                          At
                              ((List.length (List.replicate (0 : Nat) (0 : Int)) = (0 : Nat) * (1 : Nat) ∧
                                  List.length (List.getD l (Int.toNat a) []) * (1 : Nat) ≤
                                    List.length (List.getD l (Int.toNat a) [])) ∧
                                (0 : Nat) < List.length (List.getD l (Int.toNat a) []) ∧
                                  (0 : Nat) + List.length (List.getD l (Int.toNat a) []) ≤ (1000000000 : Nat)) ∧
                            ((At
                                    (List.length
                                          (List.replicate (0 : Nat) (0 : Int) ++
                                            List.take (List.length (List.getD l (Int.toNat a) []) * (1 : Nat))
                                              (List.getD l (Int.toNat a) [])) =
                                        (0 : Nat) + List.length (List.getD l (Int.toNat a) []) ∧
                                      List.length (List.take (Int.toNat a) l) = Int.toNat a ∧
                                        Int.toNat a + (1 : Nat) ≤ (1000000000 : Nat)) ∧
                                  (True ∧
                                      (((2 : Nat) = (2 : Nat) ∧ (0 : Nat) = (0 : Nat)) ∧
                                          ((3 : Nat) = (3 : Nat) ∧ (0 : Nat) = (0 : Nat)) ∧
                                            ((1 : Nat) = (1 : Nat) ∧ List.length l = List.length l) ∧
                                              (True ∧ (↑(List.length l) : Int) = (↑(List.length l) : Int)) ∧
                                                (True ∧ a = a) ∧ True) ∧
                                        ((True ∧
                                              (((1 : Nat) = (1 : Nat) ∧ List.length l = List.length l) ∧
                                                  (True ∧ x = x) ∧ True) ∧
                                                True ∧ q = q ∧ True) ∧
                                            (True ∧ True ∧ l = l) ∧
                                              (True ∧
                                                  Value.slice none (0 : Nat) (0 : Nat) =
                                                      Value.slice none (0 : Nat) (0 : Nat) ∧
                                                    Value.slice none (0 : Nat) (0 : Nat) =
                                                        Value.slice none (0 : Nat) (0 : Nat) ∧
                                                      True) ∧
                                                (True ∧
                                                    ((4 : Nat) = (4 : Nat) ∧
                                                        Int.toNat a + (1 : Nat) = Int.toNat a + (1 : Nat)) ∧
                                                      ((5 : Nat) = (5 : Nat) ∧ List.length l = List.length l) ∧ True) ∧
                                                  (True ∧
                                                      True ∧
                                                        List.take (Int.toNat a) l ++
                                                            [List.replicate (0 : Nat) (0 : Int) ++
                                                                List.take
                                                                  (List.length (List.getD l (Int.toNat a) []) *
                                                                    (1 : Nat))
                                                                  (List.getD l (Int.toNat a) [])] =
                                                          List.take (Int.toNat a + (1 : Nat)) l) ∧
                                                    (True ∧
                                                        IntKind.i64 = IntKind.i64 ∧
                                                          List.take (List.length l) q = List.take (List.length l) q) ∧
                                                      True) ∧
                                          True) ∧
                                    True) ∧
                                True) ∧
                              True) ∧
                        True) ∧
                      (At ((0 : Nat) < List.length (List.getD l (Int.toNat a) [])) ∧
                          At
                              ((List.length (List.replicate (0 : Nat) (0 : Int)) = (0 : Nat) * (1 : Nat) ∧
                                  List.length (List.getD l (Int.toNat a) []) * (1 : Nat) ≤
                                    List.length (List.getD l (Int.toNat a) [])) ∧
                                (0 : Nat) < List.length (List.getD l (Int.toNat a) []) ∧
                                  (0 : Nat) + List.length (List.getD l (Int.toNat a) []) ≤ (1000000000 : Nat)) ∧
                            (((At
                                      (List.length
                                            (List.replicate (0 : Nat) (0 : Int) ++
                                              List.take (List.length (List.getD l (Int.toNat a) []) * (1 : Nat))
                                                (List.getD l (Int.toNat a) [])) =
                                          (0 : Nat) + List.length (List.getD l (Int.toNat a) []) ∧
                                        List.length (List.take (Int.toNat a) l) = Int.toNat a ∧
                                          Int.toNat a + (1 : Nat) ≤ (1000000000 : Nat)) ∧
                                    (True ∧
                                        (((2 : Nat) = (2 : Nat) ∧ (0 : Nat) = (0 : Nat)) ∧
                                            ((3 : Nat) = (3 : Nat) ∧ (0 : Nat) = (0 : Nat)) ∧
                                              ((1 : Nat) = (1 : Nat) ∧ List.length l = List.length l) ∧
                                                (True ∧ (↑(List.length l) : Int) = (↑(List.length l) : Int)) ∧
                                                  (True ∧ a = a) ∧ True) ∧
                                          ((True ∧
                                                (((1 : Nat) = (1 : Nat) ∧ List.length l = List.length l) ∧
                                                    (True ∧ x = x) ∧ True) ∧
                                                  True ∧ q = q ∧ True) ∧
                                              (True ∧ True ∧ l = l) ∧
                                                (True ∧
                                                    Value.slice none (0 : Nat) (0 : Nat) =
                                                        Value.slice none (0 : Nat) (0 : Nat) ∧
                                                      Value.slice none (0 : Nat) (0 : Nat) =
                                                          Value.slice none (0 : Nat) (0 : Nat) ∧
                                                        True) ∧
                                                  (True ∧
                                                      ((4 : Nat) = (4 : Nat) ∧
                                                          Int.toNat a + (1 : Nat) = Int.toNat a + (1 : Nat)) ∧
                                                        ((5 : Nat) = (5 : Nat) ∧ List.length l = List.length l) ∧
                                                          True) ∧
                                                    (True ∧
                                                        True ∧
                                                          List.take (Int.toNat a) l ++
                                                              [List.replicate (0 : Nat) (0 : Int) ++
                                                                  List.take
                                                                    (List.length (List.getD l (Int.toNat a) []) *
                                                                      (1 : Nat))
                                                                    (List.getD l (Int.toNat a) [])] =
                                                            List.take (Int.toNat a + (1 : Nat)) l) ∧
                                                      (True ∧
                                                          IntKind.i64 = IntKind.i64 ∧
                                                            List.take (List.length l) q = List.take (List.length l) q) ∧
                                                        True) ∧
                                            True) ∧
                                      True) ∧
                                  True) ∧
                                True) ∧
                              ((At
                                      (List.length
                                            (List.replicate (0 : Nat) (0 : Int) ++
                                              List.take (List.length (List.getD l (Int.toNat a) []) * (1 : Nat))
                                                (List.getD l (Int.toNat a) [])) =
                                          (0 : Nat) + List.length (List.getD l (Int.toNat a) []) ∧
                                        List.length (List.take (Int.toNat a) l) = Int.toNat a ∧
                                          Int.toNat a + (1 : Nat) ≤ (1000000000 : Nat)) ∧
                                    (True ∧
                                        (((2 : Nat) = (2 : Nat) ∧ (0 : Nat) = (0 : Nat)) ∧
                                            ((3 : Nat) = (3 : Nat) ∧ (0 : Nat) = (0 : Nat)) ∧
                                              ((1 : Nat) = (1 : Nat) ∧ List.length l = List.length l) ∧
                                                (True ∧ (↑(List.length l) : Int) = (↑(List.length l) : Int)) ∧
                                                  (True ∧ a = a) ∧ True) ∧
                                          ((True ∧
                                                (((1 : Nat) = (1 : Nat) ∧ List.length l = List.length l) ∧
                                                    (True ∧ x = x) ∧ True) ∧
                                                  True ∧ q = q ∧ True) ∧
                                              (True ∧ True ∧ l = l) ∧
                                                (True ∧
                                                    Value.slice none (0 : Nat) (0 : Nat) =
                                                        Value.slice none (0 : Nat) (0 : Nat) ∧
                                                      Value.slice none (0 : Nat) (0 : Nat) =
                                                          Value.slice none (0 : Nat) (0 : Nat) ∧
                                                        True) ∧
                                                  (True ∧
                                                      ((4 : Nat) = (4 : Nat) ∧
                                                          Int.toNat a + (1 : Nat) = Int.toNat a + (1 : Nat)) ∧
                                                        ((5 : Nat) = (5 : Nat) ∧ List.length l = List.length l) ∧
                                                          True) ∧
                                                    (True ∧
                                                        True ∧
                                                          List.take (Int.toNat a) l ++
                                                              [List.replicate (0 : Nat) (0 : Int) ++
                                                                  List.take
                                                                    (List.length (List.getD l (Int.toNat a) []) *
                                                                      (1 : Nat))
                                                                    (List.getD l (Int.toNat a) [])] =
                                                            List.take (Int.toNat a + (1 : Nat)) l) ∧
                                                      (True ∧
                                                          IntKind.i64 = IntKind.i64 ∧
                                                            List.take (List.length l) q = List.take (List.length l) q) ∧
                                                        True) ∧
                                            True) ∧
                                      True) ∧
                                  True) ∧
                                True) ∧
                        True) ∧
                    (True ∧
                        (((2 : Nat) = (2 : Nat) ∧ (0 : Nat) = (0 : Nat)) ∧
                            ((3 : Nat) = (3 : Nat) ∧ (0 : Nat) = (0 : Nat)) ∧
                              ((1 : Nat) = (1 : Nat) ∧ List.length l = List.length l) ∧
                                (True ∧ (↑(List.length l) : Int) = (↑(List.length l) : Int)) ∧
                                  (True ∧
                                      IntKind.wrap IntKind.i64 (a + (1 : Int)) =
                                        IntKind.wrap IntKind.i64 (a + (1 : Int))) ∧
                                    True) ∧
                          ((True ∧
                                (((1 : Nat) = (1 : Nat) ∧ List.length l = List.length l) ∧ (True ∧ x = x) ∧ True) ∧
                                  True ∧ q = q ∧ True) ∧
                              (True ∧ True ∧ l = l) ∧
                                (True ∧
                                    Value.slice none (0 : Nat) (0 : Nat) = Value.slice none (0 : Nat) (0 : Nat) ∧
                                      Value.slice none (0 : Nat) (0 : Nat) = Value.slice none (0 : Nat) (0 : Nat) ∧
                                        True) ∧
                                  (True ∧
                                      ((4 : Nat) = (4 : Nat) ∧
                                          Int.toNat a + (1 : Nat) =
                                            Int.toNat (IntKind.wrap IntKind.i64 (a + (1 : Int)))) ∧
                                        ((5 : Nat) = (5 : Nat) ∧ List.length l = List.length l) ∧ True) ∧
                                    (True ∧
                                        True ∧
                                          List.take (Int.toNat a + (1 : Nat)) l =
                                            List.take (Int.toNat (IntKind.wrap IntKind.i64 (a + (1 : Int)))) l) ∧
                                      (True ∧
                                          IntKind.i64 = IntKind.i64 ∧
                                            List.take (List.length l) q = List.take (List.length l) q) ∧
                                        True) ∧
                            True) ∧
                      At
                        (ixInv (List.length l) (IntKind.wrap IntKind.i64 (a + (1 : Int))) ∧
                          Int.toNat ((↑(List.length l) : Int) - IntKind.wrap IntKind.i64 (a + (1 : Int))) <
                            Int.toNat ((↑(List.length l) : Int) - a))) ∧
            (decide (a < (↑(List.length l) : Int)) = false →
              K (V.agg [V.row (4 : Nat) (Int.toNat a), V.row (5 : Nat) (List.length l)])
                [{ cs := Cells.mixi [V.row (1 : Nat) (List.length l), V.int IntKind.i64 x] (10 : Nat) q [],
                    elem := 58, kind := Kind.box },
                  { cs := Cells.mat IntKind.i64 (3 : Nat) l, elem := 23, kind := Kind.mat },
                  { cs := Cells.vals [V.row (4 : Nat) (Int.toNat a), V.row (5 : Nat) (List.length l)],
                    elem := 29, kind := Kind.box },
                  { cs := Cells.vals [V.row (4 : Nat) (Int.toNat a), V.row (5 : Nat) (List.length l)],
                    elem := 29, kind := Kind.box },
                  { cs := Cells.mat IntKind.i64 (3 : Nat) (List.take (Int.toNat a) l), elem := 23,
                    kind := Kind.mat },
                  { cs := Cells.ints IntKind.i64 (List.take (List.length l) q), elem := 3, kind := Kind.row }])

def VC_spec_WalkAfter (x : Int) (steps : Int) (n : Nat) (m : Nat) (l : List (List Int)) (ro : List Int) (K : V → List Blk → Prop) : Prop :=
  At (List.length l = n ∧ List.length ro = m ∧ smallM l ∧ m ≤ (2000000 : Nat)) ∧
  ((!wkOk l ro n x steps) = true →
      K
        (V.tup
          [V.agg [V.raw (Value.slice none (0 : Nat) (0 : Nat)), V.raw (Value.slice none (0 : Nat) (0 : Nat))],
            V.int IntKind.i64 (0 : Int), V.lit false])
        [{ cs := Cells.mat IntKind.i64 (3 : Nat) l, elem := 23, kind := Kind.mat },
          { cs := Cells.ints IntKind.i64 ro, elem := 3, kind := Kind.row },
          { cs := Cells.vals [V.row (0 : Nat) n, V.row (1 : Nat) m], elem := 29, kind := Kind.box },
          {
            cs :=
              Cells.vals [V.raw (Value.slice none (0 : Nat) (0 : Nat)), V.raw (Value.slice none (0 : Nat) (0 : Nat))],
            elem := 29, kind := Kind.box }]) ∧
    ((!wkOk l ro n x steps) = false →
      At
          (List.length l = n ∧
            List.length ro = m ∧
              smallM l ∧ m ≤ (2000000 : Nat) ∧ (0 : Nat) < m ∧ ∀ (r : List Int), r ∈ l → (0 : Nat) < List.length r) ∧
        (True ∧
            ((True ∧ x = wA l x ro (Int.toNat (steps - steps))) ∧
                (True ∧ steps = steps) ∧
                  ((2 : Nat) = (2 : Nat) ∧ (0 : Nat) = (0 : Nat)) ∧
                    ((3 : Nat) = (3 : Nat) ∧ (0 : Nat) = (0 : Nat)) ∧ True) ∧
              ((True ∧ True ∧ l = l) ∧
                  (True ∧ IntKind.i64 = IntKind.i64 ∧ ro = ro) ∧
                    (True ∧
                        Value.slice none (0 : Nat) (0 : Nat) = Value.slice none (0 : Nat) (0 : Nat) ∧
                          Value.slice none (0 : Nat) (0 : Nat) = Value.slice none (0 : Nat) (0 : Nat) ∧ True) ∧
                      (True ∧
                          ((4 : Nat) = (4 : Nat) ∧ n = List.length l) ∧
                            ((5 : Nat) = (5 : Nat) ∧ m = List.length ro) ∧ True) ∧
                        (True ∧ True ∧ l = l) ∧
                          (True ∧ IntKind.i64 = IntKind.i64 ∧ ro = wR l x ro (Int.toNat (steps - steps))) ∧ True) ∧
                True) ∧
          At ((0 : Int) ≤ steps ∧ steps ≤ steps) ∧
            ∀ (a : Int),
              (0 : Int) ≤ a ∧ a ≤ steps →
                (decide (a > (0 : Int)) = true →
                    At
                        (List.length l = List.length l ∧
                          List.length (wR l x ro (Int.toNat (steps - a))) = List.length ro ∧
                            okW l (wR l x ro (Int.toNat (steps - a))) (wA l x ro (Int.toNat (steps - a)))) ∧
                      (True ∧
                          ((True ∧
                                atNext l (wA l x ro (Int.toNat (steps - a))) (wR l x ro (Int.toNat (steps - a))) =
                                  wA l x ro (Int.toNat (steps - IntKind.wrap IntKind.i64 (a - (1 : Int))))) ∧
                              (True ∧
                                  IntKind.wrap IntKind.i64 (a - (1 : Int)) = IntKind.wrap IntKind.i64 (a - (1 : Int))) ∧
                                ((2 : Nat) = (2 : Nat) ∧ (0 : Nat) = (0 : Nat)) ∧
                                  ((3 : Nat) = (3 : Nat) ∧ (0 : Nat) = (0 : Nat)) ∧ True) ∧
                            ((True ∧ True ∧ l = l) ∧
                                (True ∧ IntKind.i64 = IntKind.i64 ∧ ro = ro) ∧
                                  (True ∧
                                      Value.slice none (0 : Nat) (0 : Nat) = Value.slice none (0 : Nat) (0 : Nat) ∧
                                        Value.slice none (0 : Nat) (0 : Nat) = Value.slice none (0 : Nat) (0 : Nat) ∧
                                          True) ∧
                                    (True ∧
                                        ((4 : Nat) = (4 : Nat) ∧ List.length l = List.length l) ∧
                                          ((5 : Nat) = (5 : Nat) ∧ List.length ro = List.length ro) ∧ True) ∧
                                      (True ∧ True ∧ l = l) ∧
                                        (True ∧
                                            IntKind.i64 = IntKind.i64 ∧
                                              roNext l (wA l x ro (Int.toNat (steps - a)))
                                                  (wR l x ro (Int.toNat (steps - a))) =
                                                wR l x ro
                                                  (Int.toNat (steps - IntKind.wrap IntKind.i64 (a - (1 : Int))))) ∧
                                          True) ∧
                              True) ∧
                        At
                          (((0 : Int) ≤ IntKind.wrap IntKind.i64 (a - (1 : Int)) ∧
                              IntKind.wrap IntKind.i64 (a - (1 : Int)) ≤ steps) ∧
                            Int.toNat (IntKind.wrap IntKind.i64 (a - (1 : Int))) < Int.toNat a)) ∧
                  (decide (a > (0 : Int)) = false →
                    K
                      (V.tup
                        [V.agg [V.row (4 : Nat) (List.length l), V.row (5 : Nat) (List.length ro)],
                          V.int IntKind.i64 (wA l x ro (Int.toNat (steps - a))), V.lit true])
                      [{ cs := Cells.mat IntKind.i64 (3 : Nat) l, elem := 23, kind := Kind.mat },
                        { cs := Cells.ints IntKind.i64 ro, elem := 3, kind := Kind.row },
                        { cs := Cells.vals [V.row (4 : Nat) (List.length l), V.row (5 : Nat) (List.length ro)],
                          elem := 29, kind := Kind.box },
                        { cs := Cells.vals [V.row (4 : Nat) (List.length l), V.row (5 : Nat) (List.length ro)],
                          elem := 29, kind := Kind.box },
                        { cs := Cells.mat IntKind.i64 (3 : Nat) l, elem := 23, kind := Kind.mat },
                        { cs := Cells.ints IntKind.i64 (wR l x ro (Int.toNat (steps - a))), elem := 3,
                          kind := Kind.row }]))

def VC_impl_WalkAfter (x : Int) (steps : Int) (n : Nat) (m : Nat) (l : List (List Int)) (ro : List Int) (K : V → List Blk → Prop) : Prop :=
  At (List.length l = n ∧ List.length ro = m ∧ smallM l ∧ m ≤ (2000000 : Nat)) ∧
  ((!routeB l ro) = true →
      K
        (V.tup
          [V.agg [V.raw (Value.slice none (0 : Nat) (0 : Nat)), V.raw (Value.slice none (0 : Nat) (0 : Nat))],
            V.int IntKind.i64 (0 : Int), V.lit false])
        [{ cs := Cells.mat IntKind.i64 (3 : Nat) l, elem := 23, kind := Kind.mat },
          { cs := Cells.ints IntKind.i64 ro, elem := 3, kind := Kind.row },
          { cs := Cells.vals [V.row (0 : Nat) n, V.row (1 : Nat) m], elem := 29, kind := Kind.box },
          {
            cs :=
              Cells.vals [V.raw (Value.slice none (0 : Nat) (0 : Nat)), V.raw (Value.slice none (0 : Nat) (0 : Nat))],
            elem := 29, kind := Kind.box }]) ∧
    ((!routeB l ro) = false →
      At (List.length l = n ∧ List.length ro = m ∧ smallM l ∧ m ≤ (2000000 : Nat)) ∧
        ((!inB x (0 : Int) ((↑n : Int) - (1 : Int))) = true →
            K
              (V.tup
                [V.agg [V.raw (Value.slice none (0 : Nat) (0 : Nat)), V.raw (Value.slice none (0 : Nat) (0 : Nat))],
                  V.int IntKind.i64 (0 : Int), V.lit false])
              [{ cs := Cells.mat IntKind.i64 (3 : Nat) l, elem := 23, kind := Kind.mat },
                { cs := Cells.ints IntKind.i64 ro, elem := 3, kind := Kind.row },
                { cs := Cells.vals [V.row (0 : Nat) n, V.row (1 : Nat) m], elem := 29, kind := Kind.box },
                {
                  cs :=
                    Cells.vals
                      [V.raw (Value.slice none (0 : Nat) (0 : Nat)), V.raw (Value.slice none (0 : Nat) (0 : Nat))],
                  elem := 29, kind := Kind.box }]) ∧
          ((!inB x (0 : Int) ((↑n : Int) - (1 : Int))) = false →
            True ∧
              At (List.length ro = m) ∧
                At True ∧
                  ((!inB steps (0 : Int) (3000 : Int)) = true →
                      K
                        (V.tup
                          [V.agg
                              [V.raw (Value.slice none (0 : Nat) (0 : Nat)),
                                V.raw (Value.slice none (0 : Nat) (0 : Nat))],
                            V.int IntKind.i64 (0 : Int), V.lit false])
                        [{ cs := Cells.mat IntKind.i64 (3 : Nat) l, elem := 23, kind := Kind.mat },
                          { cs := Cells.ints IntKind.i64 ro, elem := 3, kind := Kind.row },
                          { cs := Cells.vals [V.row (0 : Nat) n, V.row (1 : Nat) m], elem := 29,
                            kind := Kind.box },
                          {
                            cs :=
                              Cells.vals
                                [V.raw (Value.slice none (0 : Nat) (0 : Nat)),
                                  V.raw (Value.slice none (0 : Nat) (0 : Nat))],
                            elem := 29, kind := Kind.box },
                          {
                            cs :=
                              Cells.mixi [V.row (0 : Nat) n, V.int IntKind.i64 x] (10 : Nat)
                                (cpI (10 : Nat)
                                  [(0 : Int), (0 : Int), (0 : Int), (0 : Int), (0 : Int), (0 : Int), (0 : Int),
                                    (0 : Int), (0 : Int), (0 : Int)]
                                  (10 : Nat) ro)
                                [],
                            elem := 58, kind := Kind.box }]) ∧
                    ((!inB steps (0 : Int) (3000 : Int)) = false →
                      (True ∧
                          (((2 : Nat) = (2 : Nat) ∧ (0 : Nat) = (0 : Nat)) ∧
                              ((3 : Nat) = (3 : Nat) ∧ (0 : Nat) = (0 : Nat)) ∧
                                (True ∧ steps = steps) ∧ (True ∧ (0 : Int) = (0 : Int)) ∧ True) ∧
                            ((True ∧ True ∧ l = l) ∧
                                (True ∧ IntKind.i64 = IntKind.i64 ∧ ro = ro) ∧
                                  (True ∧
                                      Value.slice none (0 : Nat) (0 : Nat) = Value.slice none (0 : Nat) (0 : Nat) ∧
                                        Value.slice none (0 : Nat) (0 : Nat) = Value.slice none (0 : Nat) (0 : Nat) ∧
                                          True) ∧
                                    (True ∧
                                        (((0 : Nat) = (0 : Nat) ∧ n = List.length l) ∧
                                            (True ∧ x = wA l x (q0 ro) (Int.toNat (0 : Int))) ∧ True) ∧
                                          True ∧
                                            cpI (10 : Nat)
                                                  [(0 : Int), (0 : Int), (0 : Int), (0 : Int), (0 : Int), (0 : Int),
                                                    (0 : Int), (0 : Int), (0 : Int), (0 : Int)]
                                                  (10 : Nat) ro =
                                                wR l x (q0 ro) (Int.toNat (0 : Int)) ∧
                                              True) ∧
                                      True) ∧
                              True) ∧
                        At ((0 : Int) ≤ (0 : Int) ∧ (0 : Int) ≤ steps) ∧
                          ∀ (a : Int),
                            (0 : Int) ≤ a ∧ a ≤ steps →
                              (decide (a < steps) = true →
                                  At
                                      (List.length l = List.length l ∧
                                        List.length (wR l x (q0 ro) (Int.toNat a)) = (10 : Nat) ∧
                                          okW l (wR l x (q0 ro) (Int.toNat a)) (wA l x (q0 ro) (Int.toNat a))) ∧
                                    (True ∧
                                        (((2 : Nat) = (2 : Nat) ∧ (0 : Nat) = (0 : Nat)) ∧
                                            ((3 : Nat) = (3 : Nat) ∧ (0 : Nat) = (0 : Nat)) ∧
                                              (True ∧ steps = steps) ∧
                                                (True ∧
                                                    IntKind.wrap IntKind.i64 (a + (1 : Int)) =
                                                      IntKind.wrap IntKind.i64 (a + (1 : Int))) ∧
                                                  True) ∧
                                          ((True ∧ True ∧ l = l) ∧
                                              (True ∧ IntKind.i64 = IntKind.i64 ∧ ro = ro) ∧
                                                (True ∧
                                                    Value.slice none (0 : Nat) (0 : Nat) =
                                                        Value.slice none (0 : Nat) (0 : Nat) ∧
                                                      Value.slice none (0 : Nat) (0 : Nat) =
                                                          Value.slice none (0 : Nat) (0 : Nat) ∧
                                                        True) ∧
                                                  (True ∧
                                                      (((0 : Nat) = (0 : Nat) ∧ List.length l = List.length l) ∧
                                                          (True ∧
                                                              atNext l (wA l x (q0 ro) (Int.toNat a))
                                                                  (wR l x (q0 ro) (Int.toNat a)) =
                                                                wA l x (q0 ro)
                                                                  (Int.toNat
                                                                    (IntKind.wrap IntKind.i64 (a + (1 : Int))))) ∧
                                                            True) ∧
                                                        True ∧
                                                          roNext l (wA l x (q0 ro) (Int.toNat a))
                                                                (wR l x (q0 ro) (Int.toNat a)) =
                                                              wR l x (q0 ro)
                                                                (Int.toNat (IntKind.wrap IntKind.i64 (a + (1 : Int)))) ∧
                                                            True) ∧
                                                    True) ∧
                                            True) ∧
                                      At
                                        (((0 : Int) ≤ IntKind.wrap IntKind.i64 (a + (1 : Int)) ∧
                                            IntKind.wrap IntKind.i64 (a + (1 : Int)) ≤ steps) ∧
                                          Int.toNat (steps - IntKind.wrap IntKind.i64 (a + (1 : Int))) <
                                            Int.toNat (steps - a))) ∧
                                (decide (a < steps) = false →
                                  ((At
                                          (List.length l = List.length l ∧
                                            List.length (wR l x (q0 ro) (Int.toNat a)) = (10 : Nat) ∧
                                              okW l (wR l x (q0 ro) (Int.toNat a)) (wA l x (q0 ro) (Int.toNat a))) ∧
                                        ((True ∧
                                              (((2 : Nat) = (2 : Nat) ∧ (0 : Nat) = (0 : Nat)) ∧
                                                  (True ∧ wA l x (q0 ro) (Int.toNat a) = wA l x (q0 ro) (Int.toNat a)) ∧
                                                    true = true ∧ True) ∧
                                                ((True ∧ True ∧ l = l) ∧
                                                    (True ∧ IntKind.i64 = IntKind.i64 ∧ ro = ro) ∧
                                                      (True ∧
                                                          ((3 : Nat) = (3 : Nat) ∧ List.length l = List.length l) ∧
                                                            ((4 : Nat) = (4 : Nat) ∧ List.length l = List.length l) ∧
                                                              True) ∧
                                                        (True ∧ True ∧ l = l) ∧
                                                          (True ∧
                                                              IntKind.i64 = IntKind.i64 ∧
                                                                List.take (List.length l)
                                                                    (wR l x (q0 ro) (Int.toNat a)) =
                                                                  List.take (List.length l)
                                                                    (wR l x (q0 ro) (Int.toNat a))) ∧
                                                            True) ∧
                                                  True) ∧
                                            True) ∧
                                          (True ∧
                                              (((2 : Nat) = (2 : Nat) ∧ (0 : Nat) = (0 : Nat)) ∧
                                                  (True ∧ wA l x (q0 ro) (Int.toNat a) = wA l x (q0 ro) (Int.toNat a)) ∧
                                                    true = true ∧ True) ∧
                                                ((True ∧ True ∧ l = l) ∧
                                                    (True ∧ IntKind.i64 = IntKind.i64 ∧ ro = ro) ∧
                                                      (True ∧
                                                          ((3 : Nat) = (3 : Nat) ∧ List.length l = List.length l) ∧
                                                            ((4 : Nat) = (4 : Nat) ∧ List.length l = List.length l) ∧
                                                              True) ∧
                                                        (True ∧ True ∧ l = l) ∧
                                                          (True ∧
                                                              IntKind.i64 = IntKind.i64 ∧
                                                                List.take (List.length l)
                                                                    (wR l x (q0 ro) (Int.toNat a)) =
                                                                  List.take (List.length l)
                                                                    (wR l x (q0 ro) (Int.toNat a))) ∧
                                                            True) ∧
                                                  True) ∧
                                            True) ∧
                                      ((At
                                              (List.length l = List.length l ∧
                                                List.length (wR l x (q0 ro) (Int.toNat a)) = (10 : Nat) ∧
                                                  okW l (wR l x (q0 ro) (Int.toNat a)) (wA l x (q0 ro) (Int.toNat a))) ∧
                                            (True ∧
                                                (((2 : Nat) = (2 : Nat) ∧ (0 : Nat) = (0 : Nat)) ∧
                                                    (True ∧
                                                        wA l x (q0 ro) (Int.toNat a) = wA l x (q0 ro) (Int.toNat a)) ∧
                                                      true = true ∧ True) ∧
                                                  ((True ∧ True ∧ l = l) ∧
                                                      (True ∧ IntKind.i64 = IntKind.i64 ∧ ro = ro) ∧
                                                        (True ∧
                                                            ((3 : Nat) = (3 : Nat) ∧ List.length l = List.length l) ∧
                                                              ((4 : Nat) = (4 : Nat) ∧ List.length l = List.length l) ∧
                                                                True) ∧
                                                          (True ∧ True ∧ l = l) ∧
                                                            (True ∧
                                                                IntKind.i64 = IntKind.i64 ∧
                                                                  List.take (List.length l)
                                                                      (wR l x (q0 ro) (Int.toNat a)) =
                                                                    List.take (List.length l)
                                                                      (wR l x (q0 ro) (Int.toNat a))) ∧
                                                              True) ∧
                                                    True) ∧
                                              True) ∧
                                          True) ∧
                                        True) ∧
                                    K
                                      (V.tup
                                        [V.agg [V.row (3 : Nat) (List.length l), V.row (4 : Nat) (List.length l)],
                                          V.int IntKind.i64 (wA l x (q0 ro) (Int.toNat a)), V.lit true])
                                      [{ cs := Cells.mat IntKind.i64 (3 : Nat) l, elem := 23,
                                          kind := Kind.mat },
                                        { cs := Cells.ints IntKind.i64 ro, elem := 3, kind := Kind.row },
                                        {
                                          cs :=
                                            Cells.vals
                                              [V.row (3 : Nat) (List.length l), V.row (4 : Nat) (List.length l)],
                                          elem := 29, kind := Kind.box },
                                        { cs := Cells.mat IntKind.i64 (3 : Nat) l, elem := 23,
                                          kind := Kind.mat },
                                        {
                                          cs :=
                                            Cells.ints IntKind.i64
                                              (List.take (List.length l) (wR l x (q0 ro) (Int.toNat a))),
                                          elem := 3, kind := Kind.row }]))))

def VC_spec_StepRoute (x : Int) (n : Nat) (m : Nat) (l : List (List Int)) (ro : List Int) (K : V → List Blk → Prop) : Prop :=
  At (List.length l = n ∧ List.length ro = m ∧ smallM l ∧ m ≤ (2000000 : Nat)) ∧
  ((!rtOk l ro n x) = true →
      K
        (V.tup
          [V.agg [V.raw (Value.slice none (0 : Nat) (0 : Nat)), V.raw (Value.slice none (0 : Nat) (0 : Nat))],
            V.int IntKind.i64 (0 : Int), V.lit false])
        [{ cs := Cells.mat IntKind.i64 (3 : Nat) l, elem := 23, kind := Kind.mat },
          { cs := Cells.ints IntKind.i64 ro, elem := 3, kind := Kind.row },
          { cs := Cells.vals [V.row (0 : Nat) n, V.row (1 : Nat) m], elem := 29, kind := Kind.box },
          {
            cs :=
              Cells.vals [V.raw (Value.slice none (0 : Nat) (0 : Nat)), V.raw (Value.slice none (0 : Nat) (0 : Nat))],
            elem := 29, kind := Kind.box }]) ∧
    ((!rtOk l ro n x) = false →
      At
          (List.length l = n ∧
            List.length ro = m ∧
              smallM l ∧ m ≤ (2000000 : Nat) ∧ (0 : Nat) < m ∧ ∀ (r : List Int), r ∈ l → (0 : Nat) < List.length r) ∧
        At (List.length l = n ∧ List.length ro = m ∧ okW l ro x) ∧
          K (V.tup [V.agg [V.row (4 : Nat) n, V.row (5 : Nat) m], V.int IntKind.i64 (atNext l x ro), V.lit true])
            [{ cs := Cells.mat IntKind.i64 (3 : Nat) l, elem := 23, kind := Kind.mat },
              { cs := Cells.ints IntKind.i64 ro, elem := 3, kind := Kind.row },
              { cs := Cells.vals [V.row (0 : Nat) n, V.row (1 : Nat) m], elem := 29, kind := Kind.box },
              { cs := Cells.vals [V.row (4 : Nat) n, V.row (5 : Nat) m], elem := 29, kind := Kind.box },
              { cs := Cells.mat IntKind.i64 (3 : Nat) l, elem := 23, kind := Kind.mat },
              { cs := Cells.ints IntKind.i64 (roNext l x ro), elem := 3, kind := Kind.row },
              { cs := Cells.vals [V.row (4 : Nat) n, V.row (5 : Nat) m], elem := 29, kind := Kind.box }])

def VC_impl_StepRoute (x : Int) (n : Nat) (m : Nat) (l : List (List Int)) (ro : List Int) (K : V → List Blk → Prop) : Prop :=
  At (List.length l = n ∧ List.length ro = m ∧ smallM l ∧ m ≤ (2000000 : Nat)) ∧
  K
    (V.tup
      [V.agg [V.row (4 : Nat) (numW l ro n x (1 : Int) n), V.row (5 : Nat) (numW l ro n x (1 : Int) n)],
        V.int IntKind.i64 (walkA l ro n x (1 : Int)), V.bool (wkOk l ro n x (1 : Int))])
    [{ cs := Cells.mat IntKind.i64 (3 : Nat) l, elem := 23, kind := Kind.mat },
      { cs := Cells.ints IntKind.i64 ro, elem := 3, kind := Kind.row },
      { cs := Cells.vals [V.row (0 : Nat) n, V.row (1 : Nat) m], elem := 29, kind := Kind.box },
      { cs := Cells.vals [V.row (4 : Nat) (numW l ro n x (1 : Int) n), V.row (5 : Nat) (numW l ro n x (1 : Int) n)],
        elem := 29, kind := Kind.box },
      { cs := Cells.mat IntKind.i64 (3 : Nat) (walkL l ro n x (1 : Int)), elem := 23, kind := Kind.mat },
      { cs := Cells.ints IntKind.i64 (walkR l ro n x (1 : Int)), elem := 3, kind := Kind.row }]

def VC_spec_roTrack (x : Int) (steps : Int) (n : Nat) (m : Nat) (l : List (List Int)) (ro : List Int) (K : V → List Blk → Prop) : Prop :=
  At
    (List.length l = n ∧
      List.length ro = m ∧
        smallM l ∧ m ≤ (2000000 : Nat) ∧ (0 : Nat) < m ∧ ∀ (r : List Int), r ∈ l → (0 : Nat) < List.length r) ∧
  (True ∧
      ((True ∧ x = wA l x ro (Int.toNat (steps - steps))) ∧
          (True ∧ steps = steps) ∧
            ((2 : Nat) = (2 : Nat) ∧ (0 : Nat) = (0 : Nat)) ∧
              ((3 : Nat) = (3 : Nat) ∧ (0 : Nat) = Int.toNat (steps - steps)) ∧ True) ∧
        ((True ∧ True ∧ l = l) ∧
            (True ∧ IntKind.i64 = IntKind.i64 ∧ ro = ro) ∧
              (True ∧
                  ((4 : Nat) = (4 : Nat) ∧ n = List.length l) ∧ ((5 : Nat) = (5 : Nat) ∧ m = List.length ro) ∧ True) ∧
                (True ∧ IntKind.i64 = IntKind.i64 ∧ nilI = trk l x ro (Int.toNat (steps - steps))) ∧
                  (True ∧ True ∧ l = l) ∧
                    (True ∧ IntKind.i64 = IntKind.i64 ∧ ro = wR l x ro (Int.toNat (steps - steps))) ∧ True) ∧
          True) ∧
    At ((0 : Int) ≤ steps ∧ steps ≤ steps) ∧
      ∀ (a : Int),
        (0 : Int) ≤ a ∧ a ≤ steps →
          (decide (a > (0 : Int)) = true →
              At
                  (List.length l = List.length l ∧
                    List.length (wR l x ro (Int.toNat (steps - a))) = List.length ro ∧
                      okW l (wR l x ro (Int.toNat (steps - a))) (wA l x ro (Int.toNat (steps - a)))) ∧
                At
                    ((List.length (trk l x ro (Int.toNat (steps - a))) = Int.toNat (steps - a) * (1 : Nat) ∧
                        (1 : Nat) * (1 : Nat) ≤
                          List.length
                            [atNext l (wA l x ro (Int.toNat (steps - a))) (wR l x ro (Int.toNat (steps - a)))]) ∧
                      (0 : Nat) < (1 : Nat) ∧ Int.toNat (steps - a) + (1 : Nat) ≤ (1000000000 : Nat)) ∧
                  (True ∧
                      ((True ∧
                            atNext l (wA l x ro (Int.toNat (steps - a))) (wR l x ro (Int.toNat (steps - a))) =
                              wA l x ro (Int.toNat (steps - IntKind.wrap IntKind.i64 (a - (1 : Int))))) ∧
                          (True ∧ IntKind.wrap IntKind.i64 (a - (1 : Int)) = IntKind.wrap IntKind.i64 (a - (1 : Int))) ∧
                            ((2 : Nat) = (2 : Nat) ∧ (0 : Nat) = (0 : Nat)) ∧
                              ((3 : Nat) = (3 : Nat) ∧
                                  Int.toNat (steps - a) + (1 : Nat) =
                                    Int.toNat (steps - IntKind.wrap IntKind.i64 (a - (1 : Int)))) ∧
                                True) ∧
                        ((True ∧ True ∧ l = l) ∧
                            (True ∧ IntKind.i64 = IntKind.i64 ∧ ro = ro) ∧
                              (True ∧
                                  ((4 : Nat) = (4 : Nat) ∧ List.length l = List.length l) ∧
                                    ((5 : Nat) = (5 : Nat) ∧ List.length ro = List.length ro) ∧ True) ∧
                                (True ∧
                                    IntKind.i64 = IntKind.i64 ∧
                                      trk l x ro (Int.toNat (steps - a)) ++
                                          List.take ((1 : Nat) * (1 : Nat))
                                            [atNext l (wA l x ro (Int.toNat (steps - a)))
                                                (wR l x ro (Int.toNat (steps - a)))] =
                                        trk l x ro (Int.toNat (steps - IntKind.wrap IntKind.i64 (a - (1 : Int))))) ∧
                                  (True ∧ True ∧ l = l) ∧
                                    (True ∧
                                        IntKind.i64 = IntKind.i64 ∧
                                          roNext l (wA l x ro (Int.toNat (steps - a)))
                                              (wR l x ro (Int.toNat (steps - a))) =
                                            wR l x ro (Int.toNat (steps - IntKind.wrap IntKind.i64 (a - (1 : Int))))) ∧
                                      True) ∧
                          True) ∧
                    At
                      (((0 : Int) ≤ IntKind.wrap IntKind.i64 (a - (1 : Int)) ∧
                          IntKind.wrap IntKind.i64 (a - (1 : Int)) ≤ steps) ∧
                        Int.toNat (IntKind.wrap IntKind.i64 (a - (1 : Int))) < Int.toNat a)) ∧
            (decide (a > (0 : Int)) = false →
              K (V.row (3 : Nat) (Int.toNat (steps - a)))
                [{ cs := Cells.mat IntKind.i64 (3 : Nat) l, elem := 23, kind := Kind.mat },
                  { cs := Cells.ints IntKind.i64 ro, elem := 3, kind := Kind.row },
                  { cs := Cells.vals [V.row (4 : Nat) (List.length l), V.row (5 : Nat) (List.length ro)],
                    elem := 29, kind := Kind.box },
                  { cs := Cells.ints IntKind.i64 (trk l x ro (Int.toNat (steps - a))), elem := 3,
                    kind := Kind.row },
                  { cs := Cells.mat IntKind.i64 (3 : Nat) l, elem := 23, kind := Kind.mat },
                  { cs := Cells.ints IntKind.i64 (wR l x ro (Int.toNat (steps - a))), elem := 3,
                    kind := Kind.row }])

def VC_spec_TrackOfWalk (x : Int) (steps : Int) (n : Nat) (m : Nat) (l : List (List Int)) (ro : List Int) (K : V → List Blk → Prop) : Prop :=
  At (List.length l = n ∧ List.length ro = m ∧ smallM l ∧ m ≤ (2000000 : Nat)) ∧
  ((!wkOk l ro n x steps) = true →
      K (V.tup [V.raw (Value.slice none (0 : Nat) (0 : Nat)), V.lit false])
        [{ cs := Cells.mat IntKind.i64 (3 : Nat) l, elem := 23, kind := Kind.mat },
          { cs := Cells.ints IntKind.i64 ro, elem := 3, kind := Kind.row },
          { cs := Cells.vals [V.row (0 : Nat) n, V.row (1 : Nat) m], elem := 29, kind := Kind.box }]) ∧
    ((!wkOk l ro n x steps) = false →
      (decide (steps > (200 : Int)) = true →
          K (V.tup [V.raw (Value.slice none (0 : Nat) (0 : Nat)), V.lit false])
            [{ cs := Cells.mat IntKind.i64 (3 : Nat) l, elem := 23, kind := Kind.mat },
              { cs := Cells.ints IntKind.i64 ro, elem := 3, kind := Kind.row },
              { cs := Cells.vals [V.row (0 : Nat) n, V.row (1 : Nat) m], elem := 29, kind := Kind.box }]) ∧
        (decide (steps > (200 : Int)) = false →
          At (List.length l = n ∧ List.length ro = m ∧ smallM l ∧ m ≤ (2000000 : Nat) ∧ wkOk l ro n x steps = true) ∧
            K (V.tup [V.row (3 : Nat) (Int.toNat steps), V.lit true])
              [{ cs := Cells.mat IntKind.i64 (3 : Nat) l, elem := 23, kind := Kind.mat },
                { cs := Cells.ints IntKind.i64 ro, elem := 3, kind := Kind.row },
                { cs := Cells.vals [V.row (0 : Nat) n, V.row (1 : Nat) m], elem := 29, kind := Kind.box },
                { cs := Cells.ints IntKind.i64 (trk l x ro (Int.toNat steps)), elem := 3, kind := Kind.row }]))

def VC_impl_TrackOfWalk (x : Int) (steps : Int) (n : Nat) (m : Nat) (l : List (List Int)) (ro : List Int) (K : V → List Blk → Prop) : Prop :=
  At (List.length l = n ∧ List.length ro = m ∧ smallM l ∧ m ≤ (2000000 : Nat)) ∧
  ((!routeB l ro) = true →
      K (V.tup [V.raw (Value.slice none (0 : Nat) (0 : Nat)), V.lit false])
        [{ cs := Cells.mat IntKind.i64 (3 : Nat) l, elem := 23, kind := Kind.mat },
          { cs := Cells.ints IntKind.i64 ro, elem := 3, kind := Kind.row },
          { cs := Cells.vals [V.row (0 : Nat) n, V.row (1 : Nat) m], elem := 29, kind := Kind.box }]) ∧
    ((!routeB l ro) = false →
      At (List.length l = n ∧ List.length ro = m ∧ smallM l ∧ m ≤ (2000000 : Nat)) ∧
        ((!inB x (0 : Int) ((↑n : Int) - (1 : Int))) = true →
            K (V.tup [V.raw (Value.slice none (0 : Nat) (0 : Nat)), V.lit false])
              [{ cs := Cells.mat IntKind.i64 (3 : Nat) l, elem := 23, kind := Kind.mat },
                { cs := Cells.ints IntKind.i64 ro, elem := 3, kind := Kind.row },
                { cs := Cells.vals [V.row (0 : Nat) n, V.row (1 : Nat) m], elem := 29, kind := Kind.box }]) ∧
          ((!inB x (0 : Int) ((↑n : Int) - (1 : Int))) = false →
            True ∧
              At (List.length ro = m) ∧
                At True ∧
                  ((!inB steps (0 : Int) (200 : Int)) = true →
                      K (V.tup [V.raw (Value.slice none (0 : Nat) (0 : Nat)), V.lit false])
                        [{ cs := Cells.mat IntKind.i64 (3 : Nat) l, elem := 23, kind := Kind.mat },
                          { cs := Cells.ints IntKind.i64 ro, elem := 3, kind := Kind.row },
                          { cs := Cells.vals [V.row (0 : Nat) n, V.row (1 : Nat) m], elem := 29,
                            kind := Kind.box },
                          {
                            cs :=
                              Cells.mixi [V.row (0 : Nat) n, V.int IntKind.i64 x] (10 : Nat)
                                (cpI (10 : Nat)
                                  [(0 : Int), (0 : Int), (0 : Int), (0 : Int), (0 : Int), (0 : Int), (0 : Int),
                                    (0 : Int), (0 : Int), (0 : Int)]
                                  (10 : Nat) ro)
                                [],
                            elem := 58, kind := Kind.box }]) ∧
                    ((!inB steps (0 : Int) (200 : Int)) = false →
                      At ((0 : Int) ≤ (0 : Int) ∧ (0 : Int) ≤ steps ∧ steps ≤ (1000000000 : Int)) ∧
                        (True ∧
                            (((2 : Nat) = (2 : Nat) ∧ (0 : Nat) = (0 : Nat)) ∧
                                ((3 : Nat) = (3 : Nat) ∧ (0 : Nat) = (0 : Nat)) ∧
                                  (True ∧ steps = steps) ∧ (True ∧ (0 : Int) = (0 : Int)) ∧ True) ∧
                              ((True ∧ True ∧ l = l) ∧
                                  (True ∧ IntKind.i64 = IntKind.i64 ∧ ro = ro) ∧
                                    (True ∧
                                        (((0 : Nat) = (0 : Nat) ∧ n = List.length l) ∧
                                            (True ∧ x = wA l x (q0 ro) (Int.toNat (0 : Int))) ∧ True) ∧
                                          True ∧
                                            cpI (10 : Nat)
                                                  [(0 : Int), (0 : Int), (0 : Int), (0 : Int), (0 : Int), (0 : Int),
                                                    (0 : Int), (0 : Int), (0 : Int), (0 : Int)]
                                                  (10 : Nat) ro =
                                                wR l x (q0 ro) (Int.toNat (0 : Int)) ∧
                                              True) ∧
                                      (True ∧
                                          IntKind.i64 = IntKind.i64 ∧
                                            List.replicate (Int.toNat (0 : Int)) (0 : Int) =
                                              trk l x (q0 ro) (Int.toNat (0 : Int))) ∧
                                        True) ∧
                                True) ∧
                          At ((0 : Int) ≤ (0 : Int) ∧ (0 : Int) ≤ steps) ∧
                            ∀ (a : Int),
                              (0 : Int) ≤ a ∧ a ≤ steps →
                                (decide (a < steps) = true →
                                    At
                                        (List.length l = List.length l ∧
                                          List.length (wR l x (q0 ro) (Int.toNat a)) = (10 : Nat) ∧
                                            okW l (wR l x (q0 ro) (Int.toNat a)) (wA l x (q0 ro) (Int.toNat a))) ∧
                                      At
                                          ((List.length (trk l x (q0 ro) (Int.toNat a)) = Int.toNat a * (1 : Nat) ∧
                                              (1 : Nat) * (1 : Nat) ≤
                                                List.length
                                                  [atNext l (wA l x (q0 ro) (Int.toNat a))
                                                      (wR l x (q0 ro) (Int.toNat a))]) ∧
                                            (0 : Nat) < (1 : Nat) ∧ Int.toNat a + (1 : Nat) ≤ (1000000000 : Nat)) ∧
                                        (True ∧
                                            (((2 : Nat) = (2 : Nat) ∧ (0 : Nat) = (0 : Nat)) ∧
                                                ((3 : Nat) = (3 : Nat) ∧
                                                    Int.toNat a + (1 : Nat) =
                                                      Int.toNat (IntKind.wrap IntKind.i64 (a + (1 : Int)))) ∧
                                                  (True ∧ steps = steps) ∧
                                                    (True ∧
                                                        IntKind.wrap IntKind.i64 (a + (1 : Int)) =
                                                          IntKind.wrap IntKind.i64 (a + (1 : Int))) ∧
                                                      True) ∧
                                              ((True ∧ True ∧ l = l) ∧
                                                  (True ∧ IntKind.i64 = IntKind.i64 ∧ ro = ro) ∧
                                                    (True ∧
                                                        (((0 : Nat) = (0 : Nat) ∧ List.length l = List.length l) ∧
                                                            (True ∧
                                                                atNext l (wA l x (q0 ro) (Int.toNat a))
                                                                    (wR l x (q0 ro) (Int.toNat a)) =
                                                                  wA l x (q0 ro)
                                                                    (Int.toNat
                                                                      (IntKind.wrap IntKind.i64 (a + (1 : Int))))) ∧
                                                              True) ∧
                                                          True ∧
                                                            roNext l (wA l x (q0 ro) (Int.toNat a))
                                                                  (wR l x (q0 ro) (Int.toNat a)) =
                                                                wR l x (q0 ro)
                                                                  (Int.toNat
                                                                    (IntKind.wrap IntKind.i64 (a + (1 : Int)))) ∧
                                                              True) ∧
                                                      (True ∧
                                                          IntKind.i64 = IntKind.i64 ∧
                                                            trk l x (q0 ro) (Int.toNat a) ++
                                                                List.take ((1 : Nat) * (1 : Nat))
                                                                  [atNext l (wA l x (q0 ro) (Int.toNat a))
                                                                      (wR l x (q0 ro) (Int.toNat a))] =
                                                              trk l x (q0 ro)
                                                                (Int.toNat
                                                                  (IntKind.wrap IntKind.i64 (a + (1 : Int))))) ∧
                                                        True) ∧
                                                True) ∧
                                          At
                                            (((0 : Int) ≤ IntKind.wrap IntKind.i64 (a + (1 : Int)) ∧
                                                IntKind.wrap IntKind.i64 (a + (1 : Int)) ≤ steps) ∧
                                              Int.toNat (steps - IntKind.wrap IntKind.i64 (a + (1 : Int))) <
                                                Int.toNat (steps - a))) ∧
                                  (decide (a < steps) = false →
                                    K (V.tup [V.row (3 : Nat) (Int.toNat a), V.lit true])
                                      [{ cs := Cells.mat IntKind.i64 (3 : Nat) l, elem := 23,
                                          kind := Kind.mat },
                                        { cs := Cells.ints IntKind.i64 ro, elem := 3, kind := Kind.row },
                                        {
                                          cs :=
                                            Cells.mixi
                                              [V.row (0 : Nat) (List.length l),
                                                V.int IntKind.i64 (wA l x (q0 ro) (Int.toNat a))]
                                              (10 : Nat) (wR l x (q0 ro) (Int.toNat a)) [],
                                          elem := 58, kind := Kind.box },
                                        { cs := Cells.ints IntKind.i64 (trk l x (q0 ro) (Int.toNat a)),
                                          elem := 3, kind := Kind.row }]))))

def VC_spec_VisitsOfWalk (x : Int) (steps : Int) (n : Nat) (m : Nat) (l : List (List Int)) (ro : List Int) (K : V → List Blk → Prop) : Prop :=
  At (List.length l = n ∧ List.length ro = m ∧ smallM l ∧ m ≤ (2000000 : Nat)) ∧
  ((!wkOk l ro n x steps) = true →
      K (V.tup [V.raw (Value.slice none (0 : Nat) (0 : Nat)), V.lit false])
        [{ cs := Cells.mat IntKind.i64 (3 : Nat) l, elem := 23, kind := Kind.mat },
          { cs := Cells.ints IntKind.i64 ro, elem := 3, kind := Kind.row },
          { cs := Cells.vals [V.row (0 : Nat) n, V.row (1 : Nat) m], elem := 29, kind := Kind.box }]) ∧
    ((!wkOk l ro n x steps) = false →
      At ((0 : Int) ≤ (↑n : Int) ∧ (↑n : Int) ≤ (↑n : Int) ∧ (↑n : Int) ≤ (1000000000 : Int)) ∧
        At (List.length l = n ∧ List.length ro = m ∧ smallM l ∧ m ≤ (2000000 : Nat) ∧ wkOk l ro n x steps = true) ∧
          (True ∧
              (((2 : Nat) = (2 : Nat) ∧ n = List.length l) ∧
                  ((3 : Nat) = (3 : Nat) ∧ Int.toNat steps = Int.toNat steps) ∧
                    (True ∧ (↑(Int.toNat steps) : Int) = (↑(Int.toNat steps) : Int)) ∧
                      (True ∧ (0 : Int) = (0 : Int)) ∧ True) ∧
                ((True ∧ True ∧ l = l) ∧
                    (True ∧ IntKind.i64 = IntKind.i64 ∧ ro = ro) ∧
                      (True ∧
                          IntKind.i64 = IntKind.i64 ∧
                            List.replicate (Int.toNat (↑n : Int)) (0 : Int) = vis l x ro (Int.toNat (0 : Int))) ∧
                        (True ∧
                            IntKind.i64 = IntKind.i64 ∧ trk l x ro (Int.toNat steps) = trk l x ro (Int.toNat steps)) ∧
                          True) ∧
                  True) ∧
            At ((0 : Int) ≤ (0 : Int) ∧ (0 : Int) ≤ steps) ∧
              ∀ (a : Int),
                (0 : Int) ≤ a ∧ a ≤ steps →
                  (decide (a < (↑(Int.toNat steps) : Int)) = true →
                      At ((0 : Int) ≤ a ∧ a < (↑(Int.toNat steps) : Int)) ∧
                        At (Int.toNat a < List.length (trk l x ro (Int.toNat steps))) ∧
                          At
                              ((0 : Int) ≤ List.getD (trk l x ro (Int.toNat steps)) (Int.toNat a) (0 : Int) ∧
                                List.getD (trk l x ro (Int.toNat steps)) (Int.toNat a) (0 : Int) <
                                  (↑(List.length l) : Int)) ∧
                            At
                                (Int.toNat (List.getD (trk l x ro (Int.toNat steps)) (Int.toNat a) (0 : Int)) <
                                  List.length (vis l x ro (Int.toNat a))) ∧
                              At
                                  ((0 : Int) ≤ List.getD (trk l x ro (Int.toNat steps)) (Int.toNat a) (0 : Int) ∧
                                    List.getD (trk l x ro (Int.toNat steps)) (Int.toNat a) (0 : Int) <
                                      (↑(List.length l) : Int)) ∧
                                At
                                    (Int.toNat (List.getD (trk l x ro (Int.toNat steps)) (Int.toNat a) (0 : Int)) <
                                      List.length (vis l x ro (Int.toNat a))) ∧
                                  (True ∧
                                      (((2 : Nat) = (2 : Nat) ∧ List.length l = List.length l) ∧
                                          ((3 : Nat) = (3 : Nat) ∧ Int.toNat steps = Int.toNat steps) ∧
                                            (True ∧ (↑(Int.toNat steps) : Int) = (↑(Int.toNat steps) : Int)) ∧
                                              (True ∧
                                                  IntKind.wrap IntKind.i64 (a + (1 : Int)) =
                                                    IntKind.wrap IntKind.i64 (a + (1 : Int))) ∧
                                                True) ∧
                                        ((True ∧ True ∧ l = l) ∧
                                            (True ∧ IntKind.i64 = IntKind.i64 ∧ ro = ro) ∧
                                              (True ∧
                                                  IntKind.i64 = IntKind.i64 ∧
                                                    List.set (vis l x ro (Int.toNat a))
                                                        (Int.toNat
                                                          (List.getD (trk l x ro (Int.toNat steps)) (Int.toNat a)
                                                            (0 : Int)))
                                                        (IntKind.wrap IntKind.i64
                                                          (List.getD (vis l x ro (Int.toNat a))
                                                              (Int.toNat
                                                                (List.getD (trk l x ro (Int.toNat steps)) (Int.toNat a)
                                                                  (0 : Int)))
                                                              (0 : Int) +
                                                            (1 : Int))) =
                                                      vis l x ro
                                                        (Int.toNat (IntKind.wrap IntKind.i64 (a + (1 : Int))))) ∧
                                                (True ∧
                                                    IntKind.i64 = IntKind.i64 ∧
                                                      trk l x ro (Int.toNat steps) = trk l x ro (Int.toNat steps)) ∧
                                                  True) ∧
                                          True) ∧
                                    At
                                      (((0 : Int) ≤ IntKind.wrap IntKind.i64 (a + (1 : Int)) ∧
                                          IntKind.wrap IntKind.i64 (a + (1 : Int)) ≤ steps) ∧
                                        Int.toNat (steps - IntKind.wrap IntKind.i64 (a + (1 : Int))) <
                                          Int.toNat (steps - a))) ∧
                    (decide (a < (↑(Int.toNat steps) : Int)) = false →
                      K (V.tup [V.row (2 : Nat) (List.length l), V.lit true])
                        [{ cs := Cells.mat IntKind.i64 (3 : Nat) l, elem := 23, kind := Kind.mat },
                          { cs := Cells.ints IntKind.i64 ro, elem := 3, kind := Kind.row },
                          { cs := Cells.ints IntKind.i64 (vis l x ro (Int.toNat a)), elem := 3,
                            kind := Kind.row },
                          { cs := Cells.ints IntKind.i64 (trk l x ro (Int.toNat steps)), elem := 3,
                            kind := Kind.row }]))

def VC_impl_VisitsOfWalk (x : Int) (steps : Int) (n : Nat) (m : Nat) (l : List (List Int)) (ro : List Int) (K : V → List Blk → Prop) : Prop :=
  At (List.length l = n ∧ List.length ro = m ∧ smallM l ∧ m ≤ (2000000 : Nat)) ∧
  ((!routeB l ro) = true →
      K (V.tup [V.raw (Value.slice none (0 : Nat) (0 : Nat)), V.lit false])
        [{ cs := Cells.mat IntKind.i64 (3 : Nat) l, elem := 23, kind := Kind.mat },
          { cs := Cells.ints IntKind.i64 ro, elem := 3, kind := Kind.row },
          { cs := Cells.vals [V.row (0 : Nat) n, V.row (1 : Nat) m], elem := 29, kind := Kind.box }]) ∧
    ((!routeB l ro) = false →
      At (List.length l = n ∧ List.length ro = m ∧ smallM l ∧ m ≤ (2000000 : Nat)) ∧
        ((!inB x (0 : Int) ((↑n : Int) - (1 : Int))) = true →
            K (V.tup [V.raw (Value.slice none (0 : Nat) (0 : Nat)), V.lit false])
              [{ cs := Cells.mat IntKind.i64 (3 : Nat) l, elem := 23, kind := Kind.mat },
                { cs := Cells.ints IntKind.i64 ro, elem := 3, kind := Kind.row },
                { cs := Cells.vals [V.row (0 : Nat) n, V.row (1 : Nat) m], elem := 29, kind := Kind.box }]) ∧
          ((!inB x (0 : Int) ((↑n : Int) - (1 : Int))) = false →
            True ∧
              At (List.length ro = m) ∧
                At True ∧
                  ((!inB steps (0 : Int) (3000 : Int)) = true →
                      K (V.tup [V.raw (Value.slice none (0 : Nat) (0 : Nat)), V.lit false])
                        [{ cs := Cells.mat IntKind.i64 (3 : Nat) l, elem := 23, kind := Kind.mat },
                          { cs := Cells.ints IntKind.i64 ro, elem := 3, kind := Kind.row },
                          { cs := Cells.vals [V.row (0 : Nat) n, V.row (1 : Nat) m], elem := 29,
                            kind := Kind.box },
                          {
                            cs :=
                              Cells.mixi [V.row (0 : Nat) n, V.int IntKind.i64 x] (10 : Nat)
                                (cpI (10 : Nat)
                                  [(0 : Int), (0 : Int), (0 : Int), (0 : Int), (0 : Int), (0 : Int), (0 : Int),
                                    (0 : Int), (0 : Int), (0 : Int)]
                                  (10 : Nat) ro)
                                [],
                            elem := 58, kind := Kind.box }]) ∧
                    ((!inB steps (0 : Int) (3000 : Int)) = false →
                      At ((0 : Int) ≤ (↑n : Int) ∧ (↑n : Int) ≤ (↑n : Int) ∧ (↑n : Int) ≤ (1000000000 : Int)) ∧
                        (True ∧
                            (((2 : Nat) = (2 : Nat) ∧ (0 : Nat) = (0 : Nat)) ∧
                                ((3 : Nat) = (3 : Nat) ∧ n = List.length l) ∧
                                  (True ∧ steps = steps) ∧ (True ∧ (0 : Int) = (0 : Int)) ∧ True) ∧
                              ((True ∧ True ∧ l = l) ∧
                                  (True ∧ IntKind.i64 = IntKind.i64 ∧ ro = ro) ∧
                                    (True ∧
                                        (((0 : Nat) = (0 : Nat) ∧ n = List.length l) ∧
                                            (True ∧ x = wA l x (q0 ro) (Int.toNat (0 : Int))) ∧ True) ∧
                                          True ∧
                                            cpI (10 : Nat)
                                                  [(0 : Int), (0 : Int), (0 : Int), (0 : Int), (0 : Int), (0 : Int),
                                                    (0 : Int), (0 : Int), (0 : Int), (0 : Int)]
                                                  (10 : Nat) ro =
                                                wR l x (q0 ro) (Int.toNat (0 : Int)) ∧
                                              True) ∧
                                      (True ∧
                                          IntKind.i64 = IntKind.i64 ∧
                                            List.replicate (Int.toNat (↑n : Int)) (0 : Int) =
                                              vis l x (q0 ro) (Int.toNat (0 : Int))) ∧
                                        True) ∧
                                True) ∧
                          At ((0 : Int) ≤ (0 : Int) ∧ (0 : Int) ≤ steps) ∧
                            ∀ (a : Int),
                              (0 : Int) ≤ a ∧ a ≤ steps →
                                (decide (a < steps) = true →
                                    At
                                        (List.length l = List.length l ∧
                                          List.length (wR l x (q0 ro) (Int.toNat a)) = (10 : Nat) ∧
                                            okW l (wR l x (q0 ro) (Int.toNat a)) (wA l x (q0 ro) (Int.toNat a))) ∧
                                      At
                                          ((0 : Int) ≤
                                              atNext l (wA l x (q0 ro) (Int.toNat a)) (wR l x (q0 ro) (Int.toNat a)) ∧
                                            atNext l (wA l x (q0 ro) (Int.toNat a)) (wR l x (q0 ro) (Int.toNat a)) <
                                              (↑(List.length l) : Int)) ∧
                                        At
                                            (Int.toNat
                                                (atNext l (wA l x (q0 ro) (Int.toNat a))
                                                  (wR l x (q0 ro) (Int.toNat a))) <
                                              List.length (vis l x (q0 ro) (Int.toNat a))) ∧
                                          At
                                              ((0 : Int) ≤
                                                  atNext l (wA l x (q0 ro) (Int.toNat a))
                                                    (wR l x (q0 ro) (Int.toNat a)) ∧
                                                atNext l (wA l x (q0 ro) (Int.toNat a)) (wR l x (q0 ro) (Int.toNat a)) <
                                                  (↑(List.length l) : Int)) ∧
                                            At
                                                (Int.toNat
                                                    (atNext l (wA l x (q0 ro) (Int.toNat a))
                                                      (wR l x (q0 ro) (Int.toNat a))) <
                                                  List.length (vis l x (q0 ro) (Int.toNat a))) ∧
                                              (True ∧
                                                  (((2 : Nat) = (2 : Nat) ∧ (0 : Nat) = (0 : Nat)) ∧
                                                      ((3 : Nat) = (3 : Nat) ∧ List.length l = List.length l) ∧
                                                        (True ∧ steps = steps) ∧
                                                          (True ∧
                                                              IntKind.wrap IntKind.i64 (a + (1 : Int)) =
                                                                IntKind.wrap IntKind.i64 (a + (1 : Int))) ∧
                                                            True) ∧
                                                    ((True ∧ True ∧ l = l) ∧
                                                        (True ∧ IntKind.i64 = IntKind.i64 ∧ ro = ro) ∧
                                                          (True ∧
                                                              (((0 : Nat) = (0 : Nat) ∧ List.length l = List.length l) ∧
                                                                  (True ∧
                                                                      atNext l (wA l x (q0 ro) (Int.toNat a))
                                                                          (wR l x (q0 ro) (Int.toNat a)) =
                                                                        wA l x (q0 ro)
                                                                          (Int.toNat
                                                                            (IntKind.wrap IntKind.i64
                                                                              (a + (1 : Int))))) ∧
                                                                    True) ∧
                                                                True ∧
                                                                  roNext l (wA l x (q0 ro) (Int.toNat a))
                                                                        (wR l x (q0 ro) (Int.toNat a)) =
                                                                      wR l x (q0 ro)
                                                                        (Int.toNat
                                                                          (IntKind.wrap IntKind.i64 (a + (1 : Int)))) ∧
                                                                    True) ∧
                                                            (True ∧
                                                                IntKind.i64 = IntKind.i64 ∧
                                                                  List.set (vis l x (q0 ro) (Int.toNat a))
                                                                      (Int.toNat
                                                                        (atNext l (wA l x (q0 ro) (Int.toNat a))
                                                                          (wR l x (q0 ro) (Int.toNat a))))
                                                                      (IntKind.wrap IntKind.i64
                                                                        (List.getD (vis l x (q0 ro) (Int.toNat a))
                                                                            (Int.toNat
                                                                              (atNext l (wA l x (q0 ro) (Int.toNat a))
                                                                                (wR l x (q0 ro) (Int.toNat a))))
                                                                            (0 : Int) +
                                                                          (1 : Int))) =
                                                                    vis l x (q0 ro)
                                                                      (Int.toNat
                                                                        (IntKind.wrap IntKind.i64 (a + (1 : Int))))) ∧
                                                              True) ∧
                                                      True) ∧
                                                At
                                                  (((0 : Int) ≤ IntKind.wrap IntKind.i64 (a + (1 : Int)) ∧
                                                      IntKind.wrap IntKind.i64 (a + (1 : Int)) ≤ steps) ∧
                                                    Int.toNat (steps - IntKind.wrap IntKind.i64 (a + (1 : Int))) <
                                                      Int.toNat (steps - a))) ∧
                                  (decide (a < steps) = false →
                                    K (V.tup [V.row (3 : Nat) (List.length l), V.lit true])
                                      [{ cs := Cells.mat IntKind.i64 (3 : Nat) l, elem := 23,
                                          kind := Kind.mat },
                                        { cs := Cells.ints IntKind.i64 ro, elem := 3, kind := Kind.row },
                                        {
                                          cs :=
                                            Cells.mixi
                                              [V.row (0 : Nat) (List.length l),
                                                V.int IntKind.i64 (wA l x (q0 ro) (Int.toNat a))]
                                              (10 : Nat) (wR l x (q0 ro) (Int.toNat a)) [],
                                          elem := 58, kind := Kind.box },
                                        { cs := Cells.ints IntKind.i64 (vis l x (q0 ro) (Int.toNat a)),
                                          elem := 3, kind := Kind.row }]))))

end Go.Vi
