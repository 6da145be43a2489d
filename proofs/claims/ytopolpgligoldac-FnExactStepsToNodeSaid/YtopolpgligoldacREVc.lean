/- The conditions, reckoned out by program: texts alone. -/
import Derived.Test.YtopolpgligoldacREDefs
namespace Go.Vi
set_option linter.unusedVariables false
def VC_spec_l1Has (v : Int) (n : Nat) (a : List Int) (e : TypeId) (k : Kind) (K : V → List Blk → Prop) : Prop :=
  (((True ∧ v = v) ∧
      ((0 : Nat) = (0 : Nat) ∧ n = n) ∧ (True ∧ (↑n : Int) = (↑n : Int)) ∧ (True ∧ (0 : Int) = (0 : Int)) ∧ True) ∧
    ((Bool.rec False True (Nat.beq e e && decide (k = k)) ∧ IntKind.i64 = IntKind.i64 ∧ a = a) ∧ True) ∧ True) ∧
  At (hasInv a v (0 : Int)) ∧
    ∀ (a_1 : Int),
      hasInv a v a_1 →
        (decide (a_1 < (↑n : Int)) = true →
            At ((0 : Int) ≤ a_1 ∧ a_1 < (↑n : Int)) ∧
              At (Int.toNat a_1 < List.length a) ∧
                ((List.getD a (Int.toNat a_1) (0 : Int) == v) = true →
                    K (V.lit true) [{ cs := Cells.ints IntKind.i64 a, elem := e, kind := k }]) ∧
                  ((List.getD a (Int.toNat a_1) (0 : Int) == v) = false →
                    (((True ∧ v = v) ∧
                          ((0 : Nat) = (0 : Nat) ∧ n = n) ∧
                            (True ∧ (↑n : Int) = (↑n : Int)) ∧
                              (True ∧
                                  IntKind.wrap IntKind.i64 (a_1 + (1 : Int)) =
                                    IntKind.wrap IntKind.i64 (a_1 + (1 : Int))) ∧
                                True) ∧
                        ((Bool.rec False True (Nat.beq e e && decide (k = k)) ∧ IntKind.i64 = IntKind.i64 ∧ a = a) ∧
                            True) ∧
                          True) ∧
                      At
                        (hasInv a v (IntKind.wrap IntKind.i64 (a_1 + (1 : Int))) ∧
                          Int.toNat ((↑(List.length a) : Int) - IntKind.wrap IntKind.i64 (a_1 + (1 : Int))) <
                            Int.toNat ((↑(List.length a) : Int) - a_1)))) ∧
          (decide (a_1 < (↑n : Int)) = false →
            K (V.lit false) [{ cs := Cells.ints IntKind.i64 a, elem := e, kind := k }])

def VC_slices_Index_int_int (v : Int) (n : Nat) (a : List Int) (e : TypeId) (k : Kind) (K : V → List Blk → Prop) : Prop :=
  ((((0 : Nat) = (0 : Nat) ∧ n = n) ∧
      (True ∧ v = v) ∧ (True ∧ (↑n : Int) = (↑n : Int)) ∧ (True ∧ (0 : Int) = (0 : Int)) ∧ True) ∧
    ((Bool.rec False True (Nat.beq e e && decide (k = k)) ∧ IntKind.i64 = IntKind.i64 ∧ a = a) ∧ True) ∧ True) ∧
  At (hasInv a v (0 : Int)) ∧
    ∀ (a_1 : Int),
      hasInv a v a_1 →
        (decide (a_1 < (↑n : Int)) = true →
            At ((0 : Int) ≤ a_1 ∧ a_1 < (↑n : Int)) ∧
              At (Int.toNat a_1 < List.length a) ∧
                ((v == List.getD a (Int.toNat a_1) (0 : Int)) = true →
                    K (V.int IntKind.i64 a_1) [{ cs := Cells.ints IntKind.i64 a, elem := e, kind := k }]) ∧
                  ((v == List.getD a (Int.toNat a_1) (0 : Int)) = false →
                    ((((0 : Nat) = (0 : Nat) ∧ n = n) ∧
                          (True ∧ v = v) ∧
                            (True ∧ (↑n : Int) = (↑n : Int)) ∧
                              (True ∧
                                  IntKind.wrap IntKind.i64 (a_1 + (1 : Int)) =
                                    IntKind.wrap IntKind.i64 (a_1 + (1 : Int))) ∧
                                True) ∧
                        ((Bool.rec False True (Nat.beq e e && decide (k = k)) ∧ IntKind.i64 = IntKind.i64 ∧ a = a) ∧
                            True) ∧
                          True) ∧
                      At
                        (hasInv a v (IntKind.wrap IntKind.i64 (a_1 + (1 : Int))) ∧
                          Int.toNat ((↑(List.length a) : Int) - IntKind.wrap IntKind.i64 (a_1 + (1 : Int))) <
                            Int.toNat ((↑(List.length a) : Int) - a_1)))) ∧
          (decide (a_1 < (↑n : Int)) = false →
            K (V.int IntKind.i64 (-1 : Int)) [{ cs := Cells.ints IntKind.i64 a, elem := e, kind := k }])

def VC_slices_Contains_int_int (v : Int) (n : Nat) (a : List Int) (K : V → List Blk → Prop) : Prop :=
  At (List.length a = n ∧ n ≤ (2000000 : Nat)) ∧
  K (V.bool (decide (idxI a v ≥ (0 : Int)))) [{ cs := Cells.ints IntKind.i64 a, elem := 3, kind := Kind.row }]

def VC_spec_TurnRotor (x : Int) (n : Nat) (m : Nat) (l : List (List Int)) (ro : List Int) (K : V → List Blk → Prop) : Prop :=
  At (List.length l = n ∧ List.length ro = m ∧ smallM l ∧ m ≤ (2000000 : Nat)) ∧
  ((!rtOk l ro n x) = true →
      K
        (V.tup
          [V.agg [V.raw (Value.slice none (0 : Nat) (0 : Nat)), V.raw (Value.slice none (0 : Nat) (0 : Nat))],
            V.lit false])
        [{ cs := Cells.mat IntKind.i64 (3 : Nat) l, elem := 23, kind := Kind.mat },
          { cs := Cells.ints IntKind.i64 ro, elem := 3, kind := Kind.row },
          { cs := Cells.vals [V.row (0 : Nat) n, V.row (1 : Nat) m], elem := 29, kind := Kind.box },
          {
            cs :=
              Cells.vals [V.raw (Value.slice none (0 : Nat) (0 : Nat)), V.raw (Value.slice none (0 : Nat) (0 : Nat))],
            elem := 29, kind := Kind.box }]) ∧
    ((!rtOk l ro n x) = false →
      At
          (List.length l = n ∧
            List.length ro = m ∧
              smallM l ∧ m ≤ (2000000 : Nat) ∧ (0 : Nat) < m ∧ ∀ (r : List Int), r ∈ l → (0 : Nat) < List.length r) ∧
        At (List.length l = n ∧ List.length ro = m ∧ okW l ro x) ∧
          K (V.tup [V.agg [V.row (4 : Nat) n, V.row (5 : Nat) m], V.lit true])
            [{ cs := Cells.mat IntKind.i64 (3 : Nat) l, elem := 23, kind := Kind.mat },
              { cs := Cells.ints IntKind.i64 ro, elem := 3, kind := Kind.row },
              { cs := Cells.vals [V.row (0 : Nat) n, V.row (1 : Nat) m], elem := 29, kind := Kind.box },
              { cs := Cells.vals [V.row (4 : Nat) n, V.row (5 : Nat) m], elem := 29, kind := Kind.box },
              { cs := Cells.mat IntKind.i64 (3 : Nat) l, elem := 23, kind := Kind.mat },
              { cs := Cells.ints IntKind.i64 (roNext l x ro), elem := 3, kind := Kind.row },
              { cs := Cells.vals [V.row (4 : Nat) n, V.row (5 : Nat) m], elem := 29, kind := Kind.box }])

def VC_impl_TurnRotor (x : Int) (n : Nat) (m : Nat) (l : List (List Int)) (ro : List Int) (K : V → List Blk → Prop) : Prop :=
  At (List.length l = n ∧ List.length ro = m ∧ smallM l ∧ m ≤ (2000000 : Nat)) ∧
  K
    (V.tup
      [V.agg [V.row (4 : Nat) (numW l ro n x (1 : Int) n), V.row (5 : Nat) (numW l ro n x (1 : Int) n)],
        V.bool (wkOk l ro n x (1 : Int))])
    [{ cs := Cells.mat IntKind.i64 (3 : Nat) l, elem := 23, kind := Kind.mat },
      { cs := Cells.ints IntKind.i64 ro, elem := 3, kind := Kind.row },
      { cs := Cells.vals [V.row (0 : Nat) n, V.row (1 : Nat) m], elem := 29, kind := Kind.box },
      { cs := Cells.vals [V.row (4 : Nat) (numW l ro n x (1 : Int) n), V.row (5 : Nat) (numW l ro n x (1 : Int) n)],
        elem := 29, kind := Kind.box },
      { cs := Cells.mat IntKind.i64 (3 : Nat) (walkL l ro n x (1 : Int)), elem := 23, kind := Kind.mat },
      { cs := Cells.ints IntKind.i64 (walkR l ro n x (1 : Int)), elem := 3, kind := Kind.row },
      { cs := Cells.vals [V.row (4 : Nat) (numW l ro n x (1 : Int) n), V.row (5 : Nat) (numW l ro n x (1 : Int) n)],
        elem := 29, kind := Kind.box }]

def VC_spec_ResetRoute (n : Nat) (m : Nat) (l : List (List Int)) (ro : List Int) (K : V → List Blk → Prop) : Prop :=
  At (List.length l = n ∧ List.length ro = m ∧ smallM l ∧ m ≤ (2000000 : Nat)) ∧
  ((!routeB l ro) = true →
      K
        (V.tup
          [V.agg [V.raw (Value.slice none (0 : Nat) (0 : Nat)), V.raw (Value.slice none (0 : Nat) (0 : Nat))],
            V.lit false])
        [{ cs := Cells.mat IntKind.i64 (3 : Nat) l, elem := 23, kind := Kind.mat },
          { cs := Cells.ints IntKind.i64 ro, elem := 3, kind := Kind.row },
          { cs := Cells.vals [V.row (0 : Nat) n, V.row (1 : Nat) m], elem := 29, kind := Kind.box },
          {
            cs :=
              Cells.vals [V.raw (Value.slice none (0 : Nat) (0 : Nat)), V.raw (Value.slice none (0 : Nat) (0 : Nat))],
            elem := 29, kind := Kind.box }]) ∧
    ((!routeB l ro) = false →
      At
          (List.length l = n ∧
            List.length ro = m ∧
              smallM l ∧ m ≤ (2000000 : Nat) ∧ (0 : Nat) < m ∧ ∀ (r : List Int), r ∈ l → (0 : Nat) < List.length r) ∧
        At ((0 : Int) ≤ (↑m : Int) ∧ (↑m : Int) ≤ (↑m : Int) ∧ (↑m : Int) ≤ (1000000000 : Int)) ∧
          K (V.tup [V.agg [V.row (4 : Nat) n, V.row (7 : Nat) m], V.lit true])
            [{ cs := Cells.mat IntKind.i64 (3 : Nat) l, elem := 23, kind := Kind.mat },
              { cs := Cells.ints IntKind.i64 ro, elem := 3, kind := Kind.row },
              { cs := Cells.vals [V.row (0 : Nat) n, V.row (1 : Nat) m], elem := 29, kind := Kind.box },
              { cs := Cells.vals [V.row (4 : Nat) n, V.row (7 : Nat) m], elem := 29, kind := Kind.box },
              { cs := Cells.mat IntKind.i64 (3 : Nat) l, elem := 23, kind := Kind.mat },
              { cs := Cells.ints IntKind.i64 ro, elem := 3, kind := Kind.row },
              { cs := Cells.vals [V.row (4 : Nat) n, V.row (7 : Nat) m], elem := 29, kind := Kind.box },
              { cs := Cells.ints IntKind.i64 (List.replicate (Int.toNat (↑m : Int)) (0 : Int)), elem := 3,
                kind := Kind.row }])

def VC_impl_ResetRoute (n : Nat) (m : Nat) (l : List (List Int)) (ro : List Int) (K : V → List Blk → Prop) : Prop :=
  At (List.length l = n ∧ List.length ro = m ∧ smallM l ∧ m ≤ (2000000 : Nat)) ∧
  ((!routeB l ro) = true →
      K
        (V.tup
          [V.agg [V.raw (Value.slice none (0 : Nat) (0 : Nat)), V.raw (Value.slice none (0 : Nat) (0 : Nat))],
            V.lit false])
        [{ cs := Cells.mat IntKind.i64 (3 : Nat) l, elem := 23, kind := Kind.mat },
          { cs := Cells.ints IntKind.i64 ro, elem := 3, kind := Kind.row },
          { cs := Cells.vals [V.row (0 : Nat) n, V.row (1 : Nat) m], elem := 29, kind := Kind.box },
          {
            cs :=
              Cells.vals [V.raw (Value.slice none (0 : Nat) (0 : Nat)), V.raw (Value.slice none (0 : Nat) (0 : Nat))],
            elem := 29, kind := Kind.box }]) ∧
    ((!routeB l ro) = false →
      At (List.length l = n ∧ List.length ro = m ∧ smallM l ∧ m ≤ (2000000 : Nat)) ∧
        ((!inB (0 : Int) (0 : Int) ((↑n : Int) - (1 : Int))) = true →
            K
              (V.tup
                [V.agg [V.raw (Value.slice none (0 : Nat) (0 : Nat)), V.raw (Value.slice none (0 : Nat) (0 : Nat))],
                  V.lit false])
              [{ cs := Cells.mat IntKind.i64 (3 : Nat) l, elem := 23, kind := Kind.mat },
                { cs := Cells.ints IntKind.i64 ro, elem := 3, kind := Kind.row },
                { cs := Cells.vals [V.row (0 : Nat) n, V.row (1 : Nat) m], elem := 29, kind := Kind.box },
                {
                  cs :=
                    Cells.vals
                      [V.raw (Value.slice none (0 : Nat) (0 : Nat)), V.raw (Value.slice none (0 : Nat) (0 : Nat))],
                  elem := 29, kind := Kind.box }]) ∧
          ((!inB (0 : Int) (0 : Int) ((↑n : Int) - (1 : Int))) = false →
            True ∧
              At (List.length ro = m) ∧
                At
                    (List.length l = n ∧
                      List.length
                            [(0 : Int), (0 : Int), (0 : Int), (0 : Int), (0 : Int), (0 : Int), (0 : Int), (0 : Int),
                              (0 : Int), (0 : Int)] =
                          (10 : Nat) ∧
                        okW l
                          [(0 : Int), (0 : Int), (0 : Int), (0 : Int), (0 : Int), (0 : Int), (0 : Int), (0 : Int),
                            (0 : Int), (0 : Int)]
                          (0 : Int)) ∧
                  K (V.tup [V.agg [V.row (5 : Nat) n, V.row (6 : Nat) n], V.lit true])
                    [{ cs := Cells.mat IntKind.i64 (3 : Nat) l, elem := 23, kind := Kind.mat },
                      { cs := Cells.ints IntKind.i64 ro, elem := 3, kind := Kind.row },
                      { cs := Cells.vals [V.row (0 : Nat) n, V.row (1 : Nat) m], elem := 29, kind := Kind.box },
                      { cs := Cells.vals [V.row (5 : Nat) n, V.row (6 : Nat) n], elem := 29, kind := Kind.box },
                      {
                        cs :=
                          Cells.mixi [V.row (0 : Nat) n, V.int IntKind.i64 (0 : Int)] (10 : Nat)
                            [(0 : Int), (0 : Int), (0 : Int), (0 : Int), (0 : Int), (0 : Int), (0 : Int), (0 : Int),
                              (0 : Int), (0 : Int)]
                            [],
                        elem := 58, kind := Kind.box },
                      { cs := Cells.mat IntKind.i64 (3 : Nat) l, elem := 23, kind := Kind.mat },
                      {
                        cs :=
                          Cells.ints IntKind.i64
                            (List.take n
                              [(0 : Int), (0 : Int), (0 : Int), (0 : Int), (0 : Int), (0 : Int), (0 : Int), (0 : Int),
                                (0 : Int), (0 : Int)]),
                        elem := 3, kind := Kind.row }]))

def VC_spec_roTo (x : Int) (n : Nat) (m : Nat) (k : Nat) (l : List (List Int)) (ro : List Int) (e : List Int) (K : V → List Blk → Prop) : Prop :=
  (True ∧
    ((True ∧ x = wA l x ro (Int.toNat ((1 : Int) - (1 : Int)))) ∧
        ((2 : Nat) = (2 : Nat) ∧ k = List.length e) ∧
          ((3 : Nat) = (3 : Nat) ∧ (0 : Nat) = (0 : Nat)) ∧ (True ∧ (1 : Int) = (1 : Int)) ∧ True) ∧
      ((True ∧ True ∧ l = l) ∧
          (True ∧ IntKind.i64 = IntKind.i64 ∧ ro = wR l x ro (Int.toNat ((1 : Int) - (1 : Int)))) ∧
            (True ∧ IntKind.i64 = IntKind.i64 ∧ e = e) ∧
              (True ∧
                  ((0 : Nat) = (0 : Nat) ∧ n = List.length l) ∧ ((1 : Nat) = (1 : Nat) ∧ m = List.length ro) ∧ True) ∧
                True) ∧
        True) ∧
  At (toInv l x ro e (1 : Int)) ∧
    ∀ (a : Int),
      toInv l x ro e a →
        (decide (a ≤ (3000 : Int)) = true →
            At
                (List.length l = List.length l ∧
                  List.length (wR l x ro (Int.toNat (a - (1 : Int)))) = List.length ro ∧
                    okW l (wR l x ro (Int.toNat (a - (1 : Int)))) (wA l x ro (Int.toNat (a - (1 : Int))))) ∧
              At (List.length e = List.length e ∧ List.length e ≤ (2000000 : Nat)) ∧
                (hasI e (atNext l (wA l x ro (Int.toNat (a - (1 : Int)))) (wR l x ro (Int.toNat (a - (1 : Int))))) =
                      true →
                    K
                      (V.tup
                        [V.int IntKind.i64 a,
                          V.int IntKind.i64
                            (atNext l (wA l x ro (Int.toNat (a - (1 : Int)))) (wR l x ro (Int.toNat (a - (1 : Int)))))])
                      [{ cs := Cells.mat IntKind.i64 (3 : Nat) l, elem := 23, kind := Kind.mat },
                        {
                          cs :=
                            Cells.ints IntKind.i64
                              (roNext l (wA l x ro (Int.toNat (a - (1 : Int))))
                                (wR l x ro (Int.toNat (a - (1 : Int))))),
                          elem := 3, kind := Kind.row },
                        { cs := Cells.ints IntKind.i64 e, elem := 3, kind := Kind.row },
                        { cs := Cells.vals [V.row (0 : Nat) (List.length l), V.row (1 : Nat) (List.length ro)],
                          elem := 29, kind := Kind.box }]) ∧
                  (hasI e (atNext l (wA l x ro (Int.toNat (a - (1 : Int)))) (wR l x ro (Int.toNat (a - (1 : Int))))) =
                      false →
                    (True ∧
                        ((True ∧
                              atNext l (wA l x ro (Int.toNat (a - (1 : Int)))) (wR l x ro (Int.toNat (a - (1 : Int)))) =
                                wA l x ro (Int.toNat (IntKind.wrap IntKind.i64 (a + (1 : Int)) - (1 : Int)))) ∧
                            ((2 : Nat) = (2 : Nat) ∧ List.length e = List.length e) ∧
                              ((3 : Nat) = (3 : Nat) ∧ (0 : Nat) = (0 : Nat)) ∧
                                (True ∧
                                    IntKind.wrap IntKind.i64 (a + (1 : Int)) =
                                      IntKind.wrap IntKind.i64 (a + (1 : Int))) ∧
                                  True) ∧
                          ((True ∧ True ∧ l = l) ∧
                              (True ∧
                                  IntKind.i64 = IntKind.i64 ∧
                                    roNext l (wA l x ro (Int.toNat (a - (1 : Int))))
                                        (wR l x ro (Int.toNat (a - (1 : Int)))) =
                                      wR l x ro (Int.toNat (IntKind.wrap IntKind.i64 (a + (1 : Int)) - (1 : Int)))) ∧
                                (True ∧ IntKind.i64 = IntKind.i64 ∧ e = e) ∧
                                  (True ∧
                                      ((0 : Nat) = (0 : Nat) ∧ List.length l = List.length l) ∧
                                        ((1 : Nat) = (1 : Nat) ∧ List.length ro = List.length ro) ∧ True) ∧
                                    True) ∧
                            True) ∧
                      At
                        (toInv l x ro e (IntKind.wrap IntKind.i64 (a + (1 : Int))) ∧
                          Int.toNat ((3001 : Int) - IntKind.wrap IntKind.i64 (a + (1 : Int))) <
                            Int.toNat ((3001 : Int) - a)))) ∧
          (decide (a ≤ (3000 : Int)) = false →
            K (V.tup [V.int IntKind.i64 (0 : Int), V.int IntKind.i64 (0 : Int)])
              [{ cs := Cells.mat IntKind.i64 (3 : Nat) l, elem := 23, kind := Kind.mat },
                { cs := Cells.ints IntKind.i64 (wR l x ro (Int.toNat (a - (1 : Int)))), elem := 3,
                  kind := Kind.row },
                { cs := Cells.ints IntKind.i64 e, elem := 3, kind := Kind.row },
                { cs := Cells.vals [V.row (0 : Nat) (List.length l), V.row (1 : Nat) (List.length ro)],
                  elem := 29, kind := Kind.box }])

def VC_impl_walk_goTo (n : Nat) (k : Nat) (x : Int) (q : List Int) (e : List Int) (l : List (List Int)) (K : V → List Blk → Prop) : Prop :=
  (True ∧
    (((0 : Nat) = (0 : Nat) ∧ (0 : Nat) = (0 : Nat)) ∧
        ((1 : Nat) = (1 : Nat) ∧ k = List.length e) ∧ (True ∧ (1 : Int) = (1 : Int)) ∧ True) ∧
      ((True ∧
            (((2 : Nat) = (2 : Nat) ∧ n = List.length l) ∧
                (True ∧ x = wA l x q (Int.toNat ((1 : Int) - (1 : Int)))) ∧ True) ∧
              True ∧ q = wR l x q (Int.toNat ((1 : Int) - (1 : Int))) ∧ True) ∧
          (True ∧ IntKind.i64 = IntKind.i64 ∧ e = e) ∧ (True ∧ True ∧ l = l) ∧ True) ∧
        True) ∧
  At (toInv l x q e (1 : Int)) ∧
    ∀ (a : Int),
      toInv l x q e a →
        (decide (a ≤ (3000 : Int)) = true →
            At
                (List.length l = List.length l ∧
                  List.length (wR l x q (Int.toNat (a - (1 : Int)))) = (10 : Nat) ∧
                    okW l (wR l x q (Int.toNat (a - (1 : Int)))) (wA l x q (Int.toNat (a - (1 : Int))))) ∧
              At (List.length e = List.length e ∧ List.length e ≤ (2000000 : Nat)) ∧
                (hasI e (atNext l (wA l x q (Int.toNat (a - (1 : Int)))) (wR l x q (Int.toNat (a - (1 : Int))))) =
                      true →
                    K (V.tup [V.int IntKind.i64 a, V.lit true])
                      [{
                          cs :=
                            Cells.mixi
                              [V.row (2 : Nat) (List.length l),
                                V.int IntKind.i64
                                  (atNext l (wA l x q (Int.toNat (a - (1 : Int))))
                                    (wR l x q (Int.toNat (a - (1 : Int)))))]
                              (10 : Nat)
                              (roNext l (wA l x q (Int.toNat (a - (1 : Int)))) (wR l x q (Int.toNat (a - (1 : Int)))))
                              [],
                          elem := 58, kind := Kind.box },
                        { cs := Cells.ints IntKind.i64 e, elem := 3, kind := Kind.row },
                        { cs := Cells.mat IntKind.i64 (3 : Nat) l, elem := 23, kind := Kind.mat }]) ∧
                  (hasI e (atNext l (wA l x q (Int.toNat (a - (1 : Int)))) (wR l x q (Int.toNat (a - (1 : Int))))) =
                      false →
                    (True ∧
                        (((0 : Nat) = (0 : Nat) ∧ (0 : Nat) = (0 : Nat)) ∧
                            ((1 : Nat) = (1 : Nat) ∧ List.length e = List.length e) ∧
                              (True ∧
                                  IntKind.wrap IntKind.i64 (a + (1 : Int)) = IntKind.wrap IntKind.i64 (a + (1 : Int))) ∧
                                True) ∧
                          ((True ∧
                                (((2 : Nat) = (2 : Nat) ∧ List.length l = List.length l) ∧
                                    (True ∧
                                        atNext l (wA l x q (Int.toNat (a - (1 : Int))))
                                            (wR l x q (Int.toNat (a - (1 : Int)))) =
                                          wA l x q (Int.toNat (IntKind.wrap IntKind.i64 (a + (1 : Int)) - (1 : Int)))) ∧
                                      True) ∧
                                  True ∧
                                    roNext l (wA l x q (Int.toNat (a - (1 : Int))))
                                          (wR l x q (Int.toNat (a - (1 : Int)))) =
                                        wR l x q (Int.toNat (IntKind.wrap IntKind.i64 (a + (1 : Int)) - (1 : Int))) ∧
                                      True) ∧
                              (True ∧ IntKind.i64 = IntKind.i64 ∧ e = e) ∧ (True ∧ True ∧ l = l) ∧ True) ∧
                            True) ∧
                      At
                        (toInv l x q e (IntKind.wrap IntKind.i64 (a + (1 : Int))) ∧
                          Int.toNat ((3001 : Int) - IntKind.wrap IntKind.i64 (a + (1 : Int))) <
                            Int.toNat ((3001 : Int) - a)))) ∧
          (decide (a ≤ (3000 : Int)) = false →
            K (V.tup [V.int IntKind.i64 (0 : Int), V.lit false])
              [{
                  cs :=
                    Cells.mixi
                      [V.row (2 : Nat) (List.length l), V.int IntKind.i64 (wA l x q (Int.toNat (a - (1 : Int))))]
                      (10 : Nat) (wR l x q (Int.toNat (a - (1 : Int)))) [],
                  elem := 58, kind := Kind.box },
                { cs := Cells.ints IntKind.i64 e, elem := 3, kind := Kind.row },
                { cs := Cells.mat IntKind.i64 (3 : Nat) l, elem := 23, kind := Kind.mat }])

def VC_spec_StepsToNode (x : Int) (goal : Int) (n : Nat) (m : Nat) (l : List (List Int)) (ro : List Int) (K : V → List Blk → Prop) : Prop :=
  At (List.length l = n ∧ List.length ro = m ∧ smallM l ∧ m ≤ (2000000 : Nat)) ∧
  ((!rtOk l ro n x) = true →
      K (V.tup [V.int IntKind.i64 (0 : Int), V.lit false])
        [{ cs := Cells.mat IntKind.i64 (3 : Nat) l, elem := 23, kind := Kind.mat },
          { cs := Cells.ints IntKind.i64 ro, elem := 3, kind := Kind.row },
          { cs := Cells.vals [V.row (0 : Nat) n, V.row (1 : Nat) m], elem := 29, kind := Kind.box }]) ∧
    ((!rtOk l ro n x) = false →
      At (List.length l = n ∧ List.length ro = m ∧ smallM l ∧ m ≤ (2000000 : Nat)) ∧
        ((!rtOk l ro n goal) = true →
            K (V.tup [V.int IntKind.i64 (0 : Int), V.lit false])
              [{ cs := Cells.mat IntKind.i64 (3 : Nat) l, elem := 23, kind := Kind.mat },
                { cs := Cells.ints IntKind.i64 ro, elem := 3, kind := Kind.row },
                { cs := Cells.vals [V.row (0 : Nat) n, V.row (1 : Nat) m], elem := 29, kind := Kind.box }]) ∧
          ((!rtOk l ro n goal) = false →
            At
                (List.length l = n ∧
                  List.length ro = m ∧
                    smallM l ∧
                      m ≤ (2000000 : Nat) ∧ (0 : Nat) < m ∧ ∀ (r : List Int), r ∈ l → (0 : Nat) < List.length r) ∧
              At
                  (List.length l = n ∧
                    List.length ro = m ∧ List.length [goal] = (1 : Nat) ∧ (1 : Nat) ≤ (2000000 : Nat) ∧ okW l ro x) ∧
                K
                  (V.tup
                    [V.int IntKind.i64 (↑(toN l x ro [goal]) : Int),
                      V.bool (decide ((↑(toN l x ro [goal]) : Int) > (0 : Int)))])
                  [{ cs := Cells.mat IntKind.i64 (3 : Nat) l, elem := 23, kind := Kind.mat },
                    { cs := Cells.ints IntKind.i64 ro, elem := 3, kind := Kind.row },
                    { cs := Cells.vals [V.row (0 : Nat) n, V.row (1 : Nat) m], elem := 29, kind := Kind.box },
                    { cs := Cells.mat IntKind.i64 (3 : Nat) l, elem := 23, kind := Kind.mat },
                    { cs := Cells.dead, elem := 3, kind := Kind.row },
                    { cs := Cells.ints IntKind.i64 [goal], elem := 3, kind := Kind.row }]))

def VC_impl_StepsToNode (x : Int) (goal : Int) (n : Nat) (m : Nat) (l : List (List Int)) (ro : List Int) (K : V → List Blk → Prop) : Prop :=
  At (List.length l = n ∧ List.length ro = m ∧ smallM l ∧ m ≤ (2000000 : Nat)) ∧
  ((!routeB l ro) = true →
      K (V.tup [V.int IntKind.i64 (0 : Int), V.lit false])
        [{ cs := Cells.mat IntKind.i64 (3 : Nat) l, elem := 23, kind := Kind.mat },
          { cs := Cells.ints IntKind.i64 ro, elem := 3, kind := Kind.row },
          { cs := Cells.vals [V.row (0 : Nat) n, V.row (1 : Nat) m], elem := 29, kind := Kind.box }]) ∧
    ((!routeB l ro) = false →
      At (List.length l = n ∧ List.length ro = m ∧ smallM l ∧ m ≤ (2000000 : Nat)) ∧
        ((!inB x (0 : Int) ((↑n : Int) - (1 : Int))) = true →
            K (V.tup [V.int IntKind.i64 (0 : Int), V.lit false])
              [{ cs := Cells.mat IntKind.i64 (3 : Nat) l, elem := 23, kind := Kind.mat },
                { cs := Cells.ints IntKind.i64 ro, elem := 3, kind := Kind.row },
                { cs := Cells.vals [V.row (0 : Nat) n, V.row (1 : Nat) m], elem := 29, kind := Kind.box }]) ∧
          ((!inB x (0 : Int) ((↑n : Int) - (1 : Int))) = false →
            True ∧
              At (List.length ro = m) ∧
                At (List.length l = n ∧ List.length ro = m ∧ smallM l ∧ m ≤ (2000000 : Nat)) ∧
                  ((!inB goal (0 : Int) ((↑n : Int) - (1 : Int))) = true →
                      K (V.tup [V.int IntKind.i64 (0 : Int), V.lit false])
                        [{ cs := Cells.mat IntKind.i64 (3 : Nat) l, elem := 23, kind := Kind.mat },
                          { cs := Cells.ints IntKind.i64 ro, elem := 3, kind := Kind.row },
                          { cs := Cells.vals [V.row (0 : Nat) n, V.row (1 : Nat) m], elem := 29,
                            kind := Kind.box },
                          {
                            cs :=
                              Cells.mixi [V.row (0 : Nat) n, V.int IntKind.i64 x] (10 : Nat)
                                (cpI (10 : Nat)
                                  [(0 : Int), (0 : Int), (0 : Int), (0 : Int), (0 : Int), (0 : Int), (0 : Int),
                                    (0 : Int), (0 : Int), (0 : Int)]
                                  (10 : Nat) ro)
                                [],
                            elem := 58, kind := Kind.box }]) ∧
                    ((!inB goal (0 : Int) ((↑n : Int) - (1 : Int))) = false →
                      At
                          (List.length l = n ∧
                            List.length
                                  (cpI (10 : Nat)
                                    [(0 : Int), (0 : Int), (0 : Int), (0 : Int), (0 : Int), (0 : Int), (0 : Int),
                                      (0 : Int), (0 : Int), (0 : Int)]
                                    (10 : Nat) ro) =
                                (10 : Nat) ∧
                              List.length [goal] = (1 : Nat) ∧
                                (1 : Nat) ≤ (2000000 : Nat) ∧
                                  okW l
                                    (cpI (10 : Nat)
                                      [(0 : Int), (0 : Int), (0 : Int), (0 : Int), (0 : Int), (0 : Int), (0 : Int),
                                        (0 : Int), (0 : Int), (0 : Int)]
                                      (10 : Nat) ro)
                                    x) ∧
                        K
                          (V.tup
                            [V.int IntKind.i64
                                (↑(toN l x
                                      (cpI (10 : Nat)
                                        [(0 : Int), (0 : Int), (0 : Int), (0 : Int), (0 : Int), (0 : Int), (0 : Int),
                                          (0 : Int), (0 : Int), (0 : Int)]
                                        (10 : Nat) ro)
                                      [goal]) :
                                  Int),
                              V.bool
                                (decide
                                  ((0 : Nat) <
                                    toN l x
                                      (cpI (10 : Nat)
                                        [(0 : Int), (0 : Int), (0 : Int), (0 : Int), (0 : Int), (0 : Int), (0 : Int),
                                          (0 : Int), (0 : Int), (0 : Int)]
                                        (10 : Nat) ro)
                                      [goal]))])
                          [{ cs := Cells.mat IntKind.i64 (3 : Nat) l, elem := 23, kind := Kind.mat },
                            { cs := Cells.ints IntKind.i64 ro, elem := 3, kind := Kind.row },
                            { cs := Cells.vals [V.row (0 : Nat) n, V.row (1 : Nat) m], elem := 29,
                              kind := Kind.box },
                            { cs := Cells.dead, elem := 58, kind := Kind.box },
                            { cs := Cells.ints IntKind.i64 [goal], elem := 3, kind := Kind.row }])))

def VC_spec_LinesUsed (x : Int) (steps : Int) (n : Nat) (m : Nat) (l : List (List Int)) (ro : List Int) (K : V → List Blk → Prop) : Prop :=
  At (List.length l = n ∧ List.length ro = m ∧ smallM l ∧ m ≤ (2000000 : Nat)) ∧
  ((!wkOk l ro n x steps) = true →
      K (V.tup [V.raw (Value.slice none (0 : Nat) (0 : Nat)), V.lit false])
        [{ cs := Cells.mat IntKind.i64 (3 : Nat) l, elem := 23, kind := Kind.mat },
          { cs := Cells.ints IntKind.i64 ro, elem := 3, kind := Kind.row },
          { cs := Cells.vals [V.row (0 : Nat) n, V.row (1 : Nat) m], elem := 29, kind := Kind.box }]) ∧
    ((!wkOk l ro n x steps) = false →
      At
          (List.length l = n ∧
            List.length ro = m ∧
              smallM l ∧ m ≤ (2000000 : Nat) ∧ (0 : Nat) < m ∧ ∀ (r : List Int), r ∈ l → (0 : Nat) < List.length r) ∧
        (True ∧
            ((True ∧ x = x) ∧
                (True ∧ steps = steps) ∧
                  ((2 : Nat) = (2 : Nat) ∧ (0 : Nat) = (0 : Nat)) ∧
                    ((5 : Nat) = (5 : Nat) ∧ (0 : Nat) = (0 : Nat)) ∧
                      ((3 : Nat) = (3 : Nat) ∧ n = List.length l) ∧
                        (True ∧ (↑n : Int) = (↑(List.length l) : Int)) ∧ (True ∧ (0 : Int) = (0 : Int)) ∧ True) ∧
              ((True ∧ True ∧ l = l) ∧
                  (True ∧ IntKind.i64 = IntKind.i64 ∧ ro = ro) ∧
                    (True ∧
                        ((3 : Nat) = (3 : Nat) ∧ n = List.length l) ∧
                          ((4 : Nat) = (4 : Nat) ∧ m = List.length ro) ∧ True) ∧
                      (True ∧ True ∧ l = l) ∧
                        (True ∧ IntKind.i64 = IntKind.i64 ∧ ro = ro) ∧
                          (True ∧ True ∧ [] = zer (List.take (Int.toNat (0 : Int)) l)) ∧ True) ∧
                True) ∧
          At (ixInv (List.length l) (0 : Int)) ∧
            ∀ (a : Int),
              ixInv (List.length l) a →
                (decide (a < (↑(List.length l) : Int)) = true →
                    At ((0 : Int) ≤ a ∧ a < (↑(List.length l) : Int)) ∧
                      At (Int.toNat a < List.length l) ∧
                        At
                            ((0 : Int) ≤ (↑(List.length (List.getD l (Int.toNat a) [])) : Int) ∧
                              (↑(List.length (List.getD l (Int.toNat a) [])) : Int) ≤
                                  (↑(List.length (List.getD l (Int.toNat a) [])) : Int) ∧
                                (↑(List.length (List.getD l (Int.toNat a) [])) : Int) ≤ (1000000000 : Int)) ∧
                          At
                              (List.length
                                    (List.replicate (Int.toNat (↑(List.length (List.getD l (Int.toNat a) [])) : Int))
                                      (0 : Int)) =
                                  Int.toNat (↑(List.length (List.getD l (Int.toNat a) [])) : Int) ∧
                                List.length (zer (List.take (Int.toNat a) l)) = Int.toNat a ∧
                                  Int.toNat a + (1 : Nat) ≤ (1000000000 : Nat)) ∧
                            (True ∧
                                ((True ∧ x = x) ∧
                                    (True ∧ steps = steps) ∧
                                      ((2 : Nat) = (2 : Nat) ∧ (0 : Nat) = (0 : Nat)) ∧
                                        ((5 : Nat) = (5 : Nat) ∧
                                            Int.toNat a + (1 : Nat) =
                                              Int.toNat (IntKind.wrap IntKind.i64 (a + (1 : Int)))) ∧
                                          ((3 : Nat) = (3 : Nat) ∧ List.length l = List.length l) ∧
                                            (True ∧ (↑(List.length l) : Int) = (↑(List.length l) : Int)) ∧
                                              (True ∧
                                                  IntKind.wrap IntKind.i64 (a + (1 : Int)) =
                                                    IntKind.wrap IntKind.i64 (a + (1 : Int))) ∧
                                                True) ∧
                                  ((True ∧ True ∧ l = l) ∧
                                      (True ∧ IntKind.i64 = IntKind.i64 ∧ ro = ro) ∧
                                        (True ∧
                                            ((3 : Nat) = (3 : Nat) ∧ List.length l = List.length l) ∧
                                              ((4 : Nat) = (4 : Nat) ∧ List.length ro = List.length ro) ∧ True) ∧
                                          (True ∧ True ∧ l = l) ∧
                                            (True ∧ IntKind.i64 = IntKind.i64 ∧ ro = ro) ∧
                                              (True ∧
                                                  True ∧
                                                    zer (List.take (Int.toNat a) l) ++
                                                        [List.replicate
                                                            (Int.toNat
                                                              (↑(List.length (List.getD l (Int.toNat a) [])) : Int))
                                                            (0 : Int)] =
                                                      zer
                                                        (List.take
                                                          (Int.toNat (IntKind.wrap IntKind.i64 (a + (1 : Int)))) l)) ∧
                                                True) ∧
                                    True) ∧
                              At
                                (ixInv (List.length l) (IntKind.wrap IntKind.i64 (a + (1 : Int))) ∧
                                  Int.toNat ((↑(List.length l) : Int) - IntKind.wrap IntKind.i64 (a + (1 : Int))) <
                                    Int.toNat ((↑(List.length l) : Int) - a))) ∧
                  (decide (a < (↑(List.length l) : Int)) = false →
                    (True ∧
                        ((True ∧ x = wA l x ro (Int.toNat (steps - steps))) ∧
                            (True ∧ steps = steps) ∧
                              ((2 : Nat) = (2 : Nat) ∧ (0 : Nat) = (0 : Nat)) ∧
                                ((5 : Nat) = (5 : Nat) ∧ Int.toNat a = List.length l) ∧ True) ∧
                          ((True ∧ True ∧ l = l) ∧
                              (True ∧ IntKind.i64 = IntKind.i64 ∧ ro = ro) ∧
                                (True ∧
                                    ((3 : Nat) = (3 : Nat) ∧ List.length l = List.length l) ∧
                                      ((4 : Nat) = (4 : Nat) ∧ List.length ro = List.length ro) ∧ True) ∧
                                  (True ∧ True ∧ l = l) ∧
                                    (True ∧ IntKind.i64 = IntKind.i64 ∧ ro = wR l x ro (Int.toNat (steps - steps))) ∧
                                      (True ∧
                                          True ∧
                                            zer (List.take (Int.toNat a) l) = usd l x ro (Int.toNat (steps - steps))) ∧
                                        True) ∧
                            True) ∧
                      At ((0 : Int) ≤ steps ∧ steps ≤ steps) ∧
                        ∀ (a : Int),
                          (0 : Int) ≤ a ∧ a ≤ steps →
                            (decide (a > (0 : Int)) = true →
                                True ∧
                                  At
                                      ((0 : Int) ≤ wA l x ro (Int.toNat (steps - a)) ∧
                                        wA l x ro (Int.toNat (steps - a)) < (↑(List.length l) : Int)) ∧
                                    At
                                        (Int.toNat (wA l x ro (Int.toNat (steps - a))) <
                                          List.length (usd l x ro (Int.toNat (steps - a)))) ∧
                                      At
                                          ((0 : Int) ≤ wA l x ro (Int.toNat (steps - a)) ∧
                                            wA l x ro (Int.toNat (steps - a)) < (↑(List.length ro) : Int)) ∧
                                        At
                                            (Int.toNat (wA l x ro (Int.toNat (steps - a))) <
                                              List.length (wR l x ro (Int.toNat (steps - a)))) ∧
                                          At
                                              ((0 : Int) ≤
                                                  List.getD (wR l x ro (Int.toNat (steps - a)))
                                                    (Int.toNat (wA l x ro (Int.toNat (steps - a)))) (0 : Int) ∧
                                                List.getD (wR l x ro (Int.toNat (steps - a)))
                                                    (Int.toNat (wA l x ro (Int.toNat (steps - a)))) (0 : Int) <
                                                  (↑(List.length
                                                        (List.getD (usd l x ro (Int.toNat (steps - a)))
                                                          (Int.toNat (wA l x ro (Int.toNat (steps - a)))) [])) :
                                                    Int)) ∧
                                            At
                                                (Int.toNat (wA l x ro (Int.toNat (steps - a))) <
                                                    List.length (usd l x ro (Int.toNat (steps - a))) ∧
                                                  Int.toNat
                                                      (List.getD (wR l x ro (Int.toNat (steps - a)))
                                                        (Int.toNat (wA l x ro (Int.toNat (steps - a)))) (0 : Int)) <
                                                    List.length
                                                      (List.getD (usd l x ro (Int.toNat (steps - a)))
                                                        (Int.toNat (wA l x ro (Int.toNat (steps - a)))) [])) ∧
                                              At
                                                  ((0 : Int) ≤
                                                      List.getD (wR l x ro (Int.toNat (steps - a)))
                                                        (Int.toNat (wA l x ro (Int.toNat (steps - a)))) (0 : Int) ∧
                                                    List.getD (wR l x ro (Int.toNat (steps - a)))
                                                        (Int.toNat (wA l x ro (Int.toNat (steps - a)))) (0 : Int) <
                                                      (↑(List.length
                                                            (List.getD (usd l x ro (Int.toNat (steps - a)))
                                                              (Int.toNat (wA l x ro (Int.toNat (steps - a)))) [])) :
                                                        Int)) ∧
                                                At
                                                    (Int.toNat (wA l x ro (Int.toNat (steps - a))) <
                                                        List.length (usd l x ro (Int.toNat (steps - a))) ∧
                                                      Int.toNat
                                                          (List.getD (wR l x ro (Int.toNat (steps - a)))
                                                            (Int.toNat (wA l x ro (Int.toNat (steps - a)))) (0 : Int)) <
                                                        List.length
                                                          (List.getD (usd l x ro (Int.toNat (steps - a)))
                                                            (Int.toNat (wA l x ro (Int.toNat (steps - a)))) [])) ∧
                                                  At
                                                      (List.length l = List.length l ∧
                                                        List.length (wR l x ro (Int.toNat (steps - a))) =
                                                            List.length ro ∧
                                                          okW l (wR l x ro (Int.toNat (steps - a)))
                                                            (wA l x ro (Int.toNat (steps - a)))) ∧
                                                    (True ∧
                                                        ((True ∧
                                                              atNext l (wA l x ro (Int.toNat (steps - a)))
                                                                  (wR l x ro (Int.toNat (steps - a))) =
                                                                wA l x ro
                                                                  (Int.toNat
                                                                    (steps -
                                                                      IntKind.wrap IntKind.i64 (a - (1 : Int))))) ∧
                                                            (True ∧
                                                                IntKind.wrap IntKind.i64 (a - (1 : Int)) =
                                                                  IntKind.wrap IntKind.i64 (a - (1 : Int))) ∧
                                                              ((2 : Nat) = (2 : Nat) ∧ (0 : Nat) = (0 : Nat)) ∧
                                                                ((5 : Nat) = (5 : Nat) ∧
                                                                    List.length l = List.length l) ∧
                                                                  True) ∧
                                                          ((True ∧ True ∧ l = l) ∧
                                                              (True ∧ IntKind.i64 = IntKind.i64 ∧ ro = ro) ∧
                                                                (True ∧
                                                                    ((3 : Nat) = (3 : Nat) ∧
                                                                        List.length l = List.length l) ∧
                                                                      ((4 : Nat) = (4 : Nat) ∧
                                                                          List.length ro = List.length ro) ∧
                                                                        True) ∧
                                                                  (True ∧ True ∧ l = l) ∧
                                                                    (True ∧
                                                                        IntKind.i64 = IntKind.i64 ∧
                                                                          roNext l (wA l x ro (Int.toNat (steps - a)))
                                                                              (wR l x ro (Int.toNat (steps - a))) =
                                                                            wR l x ro
                                                                              (Int.toNat
                                                                                (steps -
                                                                                  IntKind.wrap IntKind.i64
                                                                                    (a - (1 : Int))))) ∧
                                                                      (True ∧
                                                                          True ∧
                                                                            List.set
                                                                                (usd l x ro (Int.toNat (steps - a)))
                                                                                (Int.toNat
                                                                                  (wA l x ro (Int.toNat (steps - a))))
                                                                                (List.set
                                                                                  (List.getD
                                                                                    (usd l x ro (Int.toNat (steps - a)))
                                                                                    (Int.toNat
                                                                                      (wA l x ro
                                                                                        (Int.toNat (steps - a))))
                                                                                    [])
                                                                                  (Int.toNat
                                                                                    (List.getD
                                                                                      (wR l x ro
                                                                                        (Int.toNat (steps - a)))
                                                                                      (Int.toNat
                                                                                        (wA l x ro
                                                                                          (Int.toNat (steps - a))))
                                                                                      (0 : Int)))
                                                                                  (IntKind.wrap IntKind.i64
                                                                                    (List.getD
                                                                                        (List.getD
                                                                                          (usd l x ro
                                                                                            (Int.toNat (steps - a)))
                                                                                          (Int.toNat
                                                                                            (wA l x ro
                                                                                              (Int.toNat (steps - a))))
                                                                                          [])
                                                                                        (Int.toNat
                                                                                          (List.getD
                                                                                            (wR l x ro
                                                                                              (Int.toNat (steps - a)))
                                                                                            (Int.toNat
                                                                                              (wA l x ro
                                                                                                (Int.toNat
                                                                                                  (steps - a))))
                                                                                            (0 : Int)))
                                                                                        (0 : Int) +
                                                                                      (1 : Int)))) =
                                                                              usd l x ro
                                                                                (Int.toNat
                                                                                  (steps -
                                                                                    IntKind.wrap IntKind.i64
                                                                                      (a - (1 : Int))))) ∧
                                                                        True) ∧
                                                            True) ∧
                                                      At
                                                        (((0 : Int) ≤ IntKind.wrap IntKind.i64 (a - (1 : Int)) ∧
                                                            IntKind.wrap IntKind.i64 (a - (1 : Int)) ≤ steps) ∧
                                                          Int.toNat (IntKind.wrap IntKind.i64 (a - (1 : Int))) <
                                                            Int.toNat a)) ∧
                              (decide (a > (0 : Int)) = false →
                                K (V.tup [V.row (5 : Nat) (List.length l), V.lit true])
                                  [{ cs := Cells.mat IntKind.i64 (3 : Nat) l, elem := 23, kind := Kind.mat },
                                    { cs := Cells.ints IntKind.i64 ro, elem := 3, kind := Kind.row },
                                    {
                                      cs :=
                                        Cells.vals [V.row (3 : Nat) (List.length l), V.row (4 : Nat) (List.length ro)],
                                      elem := 29, kind := Kind.box },
                                    { cs := Cells.mat IntKind.i64 (3 : Nat) l, elem := 23, kind := Kind.mat },
                                    { cs := Cells.ints IntKind.i64 (wR l x ro (Int.toNat (steps - a))),
                                      elem := 3, kind := Kind.row },
                                    { cs := Cells.mat IntKind.i64 (3 : Nat) (usd l x ro (Int.toNat (steps - a))),
                                      elem := 23, kind := Kind.mat }])))

def VC_impl_LinesUsed (x : Int) (steps : Int) (n : Nat) (m : Nat) (l : List (List Int)) (ro : List Int) (K : V → List Blk → Prop) : Prop := At (List.length l = n ∧ List.length ro = 
  m ∧ smallM l ∧ m ≤ (2000000 : Nat)) ∧ ((!routeB l ro) = true → K (V.tup [V.raw (Value.slice none (0 : Nat) (0 : Nat)), V.lit false]) [{ cs := Cells.mat IntKind.i64 (3 : Nat) l, elem := 23, kind := Kind.mat }, 
  { cs := Cells.ints IntKind.i64 ro, elem := 3, kind := Kind.row }, { cs := Cells.vals [V.row (0 : Nat) n, V.row (1 : Nat) m], elem := 29, kind := Kind.box }]) ∧ ((!routeB 
  l ro) = false → At (List.length l = n ∧ List.length ro = m ∧ smallM l ∧ m ≤ (2000000 : Nat)) ∧ ((!inB x (0 : Int) ((↑n : Int) - (1 : Int))) = true → K (V.tup [V.raw (Value.slice none 
  (0 : Nat) (0 : Nat)), V.lit false]) [{ cs := Cells.mat IntKind.i64 (3 : Nat) l, elem := 23, kind := Kind.mat }, { cs := Cells.ints IntKind.i64 ro, elem := 3, kind := Kind.row }, 
  { cs := Cells.vals [V.row (0 : Nat) n, V.row (1 : Nat) m], elem := 29, kind := Kind.box }]) ∧ ((!inB x (0 : Int) ((↑n : Int) - (1 : Int))) = false → True ∧ At (List.length ro 
  = m) ∧ At True ∧ ((!inB steps (0 : Int) (3000 : Int)) = true → K (V.tup [V.raw (Value.slice none (0 : Nat) (0 : Nat)), V.lit false]) [{ cs := Cells.mat IntKind.i64 (3 : Nat) l, elem := 23, kind := Kind.mat }, 
  { cs := Cells.ints IntKind.i64 ro, elem := 3, kind := Kind.row }, { cs := Cells.vals [V.row (0 : Nat) n, V.row (1 : Nat) m], elem := 29, kind := Kind.box }, { cs := Cells.mixi [V.row (0 : Nat) n, V.int IntKind.i64 x] (10 : Nat) (cpI (10 : Nat) [(0 : Int), (0 : Int), (0 : Int), (0 : Int), (0 : Int), (0 : Int), (0 : Int), (0 : Int), (0 : Int), (0 : Int)] (10 : Nat) ro) [], elem := 58, kind := Kind.box }]) 
  ∧ ((!inB steps (0 : Int) (3000 : Int)) = false → At ((0 : Int) ≤ (0 : Int) ∧ (0 : Int) ≤ (↑n : Int) ∧ (↑n : Int) ≤ (1000000000 : Int)) ∧ (True ∧ ((True ∧ x = x) ∧ (True ∧ steps = steps) 
  ∧ ((2 : Nat) = (2 : Nat) ∧ (0 : Nat) = (0 : Nat)) ∧ ((3 : Nat) = (3 : Nat) ∧ (0 : Nat) = (0 : Nat)) ∧ ((0 : Nat) = (0 : Nat) ∧ n = List.length l) ∧ (True ∧ (↑n : Int) = (↑(List.length 
  l) : Int)) ∧ (True ∧ (0 : Int) = (0 : Int)) ∧ True) ∧ ((True ∧ True ∧ l = l) ∧ (True ∧ IntKind.i64 = IntKind.i64 ∧ ro = ro) ∧ (True ∧ (((0 : Nat) = (0 : Nat) ∧ n = List.length l) ∧ 
  (True ∧ x = x) ∧ True) ∧ True ∧ cpI (10 : Nat) [(0 : Int), (0 : Int), (0 : Int), (0 : Int), (0 : Int), (0 : Int), (0 : Int), (0 : Int), (0 : Int), (0 : Int)] (10 : Nat) ro = q0 ro ∧ 
  True) ∧ (True ∧ True ∧ List.replicate (Int.toNat (0 : Int)) [] = zer (List.take (Int.toNat (0 : Int)) l)) ∧ True) ∧ True) ∧ At (ixInv (List.length l) (0 : Int)) ∧ ∀ (a : Int), ixInv 
  (List.length l) a → (decide (a < (↑(List.length l) : Int)) = true → At ((0 : Int) ≤ a ∧ a < (↑(List.length l) : Int)) ∧ At (Int.toNat a < List.length l) ∧ At ((0 : Int) ≤ (↑(List.length 
  (List.getD l (Int.toNat a) [])) : Int) ∧ (↑(List.length (List.getD l (Int.toNat a) [])) : Int) ≤ (↑(List.length (List.getD l (Int.toNat a) [])) : Int) ∧ (↑(List.length (List.getD l 
  (Int.toNat a) [])) : Int) ≤ (1000000000 : Int)) ∧ At (List.length (List.replicate (Int.toNat (↑(List.length (List.getD l (Int.toNat a) [])) : Int)) (0 : Int)) = Int.toNat (↑(List.length 
  (List.getD l (Int.toNat a) [])) : Int) ∧ List.length (zer (List.take (Int.toNat a) l)) = Int.toNat a ∧ Int.toNat a + (1 : Nat) ≤ (1000000000 : Nat)) ∧ (True ∧ ((True ∧ x = x) ∧ (True 
  ∧ steps = steps) ∧ ((2 : Nat) = (2 : Nat) ∧ (0 : Nat) = (0 : Nat)) ∧ ((3 : Nat) = (3 : Nat) ∧ Int.toNat a + (1 : Nat) = Int.toNat (IntKind.wrap IntKind.i64 (a + (1 : Int)))) ∧ ((0 : 
  Nat) = (0 : Nat) ∧ List.length l = List.length l) ∧ (True ∧ (↑(List.length l) : Int) = (↑(List.length l) : Int)) ∧ (True ∧ IntKind.wrap IntKind.i64 (a + (1 : Int)) = IntKind.wrap IntKind.i64 
  (a + (1 : Int))) ∧ True) ∧ ((True ∧ True ∧ l = l) ∧ (True ∧ IntKind.i64 = IntKind.i64 ∧ ro = ro) ∧ (True ∧ (((0 : Nat) = (0 : Nat) ∧ List.length l = List.length l) ∧ (True ∧ x = x) 
  ∧ True) ∧ True ∧ q0 ro = q0 ro ∧ True) ∧ (True ∧ True ∧ zer (List.take (Int.toNat a) l) ++ [List.replicate (Int.toNat (↑(List.length (List.getD l (Int.toNat a) [])) : Int)) (0 : Int)] 
  = zer (List.take (Int.toNat (IntKind.wrap IntKind.i64 (a + (1 : Int)))) l)) ∧ True) ∧ True) ∧ At (ixInv (List.length l) (IntKind.wrap IntKind.i64 (a + (1 : Int))) ∧ Int.toNat ((↑(List.length 
  l) : Int) - IntKind.wrap IntKind.i64 (a + (1 : Int))) < Int.toNat ((↑(List.length l) : Int) - a))) ∧ (decide (a < (↑(List.length l) : Int)) = false → (True ∧ ((True ∧ x = x) ∧ ((2 : 
  Nat) = (2 : Nat) ∧ (0 : Nat) = (0 : Nat)) ∧ ((3 : Nat) = (3 : Nat) ∧ Int.toNat a = List.length l) ∧ (True ∧ steps = steps) ∧ (True ∧ (0 : Int) = (0 : Int)) ∧ True) ∧ ((True ∧ True ∧ 
  l = l) ∧ (True ∧ IntKind.i64 = IntKind.i64 ∧ ro = ro) ∧ (True ∧ (((0 : Nat) = (0 : Nat) ∧ List.length l = List.length l) ∧ (True ∧ x = wA l x (q0 ro) (Int.toNat (0 : Int))) ∧ True) 
  ∧ True ∧ q0 ro = wR l x (q0 ro) (Int.toNat (0 : Int)) ∧ True) ∧ (True ∧ True ∧ zer (List.take (Int.toNat a) l) = usd l x (q0 ro) (Int.toNat (0 : Int))) ∧ True) ∧ True) ∧ At ((0 : Int) 
  ≤ (0 : Int) ∧ (0 : Int) ≤ steps) ∧ ∀ (a : Int), (0 : Int) ≤ a ∧ a ≤ steps → (decide (a < steps) = true → (At ((0 : Int) ≤ wA l x (q0 ro) (Int.toNat a) ∧ wA l x (q0 ro) (Int.toNat a) 
  < (↑(List.length l) : Int)) ∧ (At (Int.toNat (wA l x (q0 ro) (Int.toNat a)) < List.length (usd l x (q0 ro) (Int.toNat a))) ∧ (At (List.length l = List.length l ∧ List.length (wR l x 
  (q0 ro) (Int.toNat a)) = (10 : Nat) ∧ okW l (wR l x (q0 ro) (Int.toNat a)) (wA l x (q0 ro) (Int.toNat a))) ∧ At ((0 : Int) ≤ List.getD (wR l x (q0 ro) (Int.toNat a)) (Int.toNat (wA 
  l x (q0 ro) (Int.toNat a))) (0 : Int) ∧ List.getD (wR l x (q0 ro) (Int.toNat a)) (Int.toNat (wA l x (q0 ro) (Int.toNat a))) (0 : Int) < (↑(List.length (List.getD (usd l x (q0 ro) (Int.toNat 
  a)) (Int.toNat (wA l x (q0 ro) (Int.toNat a))) [])) : Int)) ∧ At (Int.toNat (wA l x (q0 ro) (Int.toNat a)) < List.length (usd l x (q0 ro) (Int.toNat a)) ∧ Int.toNat (List.getD (wR l 
  x (q0 ro) (Int.toNat a)) (Int.toNat (wA l x (q0 ro) (Int.toNat a))) (0 : Int)) < List.length (List.getD (usd l x (q0 ro) (Int.toNat a)) (Int.toNat (wA l x (q0 ro) (Int.toNat a))) [])) 
  ∧ At ((0 : Int) ≤ List.getD (wR l x (q0 ro) (Int.toNat a)) (Int.toNat (wA l x (q0 ro) (Int.toNat a))) (0 : Int) ∧ List.getD (wR l x (q0 ro) (Int.toNat a)) (Int.toNat (wA l x (q0 ro) 
  (Int.toNat a))) (0 : Int) < (↑(List.length (List.getD (usd l x (q0 ro) (Int.toNat a)) (Int.toNat (wA l x (q0 ro) (Int.toNat a))) [])) : Int)) ∧ (At (Int.toNat (wA l x (q0 ro) (Int.toNat 
  a)) < List.length (usd l x (q0 ro) (Int.toNat a)) ∧ Int.toNat (List.getD (wR l x (q0 ro) (Int.toNat a)) (Int.toNat (wA l x (q0 ro) (Int.toNat a))) (0 : Int)) < List.length (List.getD 
  (usd l x (q0 ro) (Int.toNat a)) (Int.toNat (wA l x (q0 ro) (Int.toNat a))) [])) ∧ True ∧ ((True ∧ x = x) ∧ ((2 : Nat) = (2 : Nat) ∧ (0 : Nat) = (0 : Nat)) ∧ ((3 : Nat) = (3 : Nat) ∧ 
  List.length l = List.length l) ∧ (True ∧ steps = steps) ∧ (True ∧ a = a) ∧ True) ∧ ((True ∧ True ∧ l = l) ∧ (True ∧ IntKind.i64 = IntKind.i64 ∧ ro = ro) ∧ (True ∧ (((0 : Nat) = (0 : 
  Nat) ∧ List.length l = List.length l) ∧ (True ∧ atNext l (wA l x (q0 ro) (Int.toNat a)) (wR l x (q0 ro) (Int.toNat a)) = wA l x (q0 ro) (Int.toNat a + (1 : Nat))) ∧ True) ∧ True ∧ roNext 
  l (wA l x (q0 ro) (Int.toNat a)) (wR l x (q0 ro) (Int.toNat a)) = wR l x (q0 ro) (Int.toNat a + (1 : Nat)) ∧ True) ∧ (True ∧ True ∧ List.set (usd l x (q0 ro) (Int.toNat a)) (Int.toNat 
  (wA l x (q0 ro) (Int.toNat a))) (List.set (List.getD (usd l x (q0 ro) (Int.toNat a)) (Int.toNat (wA l x (q0 ro) (Int.toNat a))) []) (Int.toNat (List.getD (wR l x (q0 ro) (Int.toNat 
  a)) (Int.toNat (wA l x (q0 ro) (Int.toNat a))) (0 : Int))) (IntKind.wrap IntKind.i64 (List.getD (List.getD (usd l x (q0 ro) (Int.toNat a)) (Int.toNat (wA l x (q0 ro) (Int.toNat a))) 
  []) (Int.toNat (List.getD (wR l x (q0 ro) (Int.toNat a)) (Int.toNat (wA l x (q0 ro) (Int.toNat a))) (0 : Int))) (0 : Int) + (1 : Int)))) = usd l x (q0 ro) (Int.toNat a + (1 : Nat))) 
  ∧ True) ∧ True) ∧ True) ∧ True) ∧ (At (List.length l = List.length l ∧ List.length (wR l x (q0 ro) (Int.toNat a)) = (10 : Nat) ∧ okW l (wR l x (q0 ro) (Int.toNat a)) (wA l x (q0 ro) 
  (Int.toNat a))) ∧ (At (Int.toNat (wA l x (q0 ro) (Int.toNat a)) < List.length (usd l x (q0 ro) (Int.toNat a))) ∧ At ((0 : Int) ≤ List.getD (wR l x (q0 ro) (Int.toNat a)) (Int.toNat 
  (wA l x (q0 ro) (Int.toNat a))) (0 : Int) ∧ List.getD (wR l x (q0 ro) (Int.toNat a)) (Int.toNat (wA l x (q0 ro) (Int.toNat a))) (0 : Int) < (↑(List.length (List.getD (usd l x (q0 ro) 
  (Int.toNat a)) (Int.toNat (wA l x (q0 ro) (Int.toNat a))) [])) : Int)) ∧ At (Int.toNat (wA l x (q0 ro) (Int.toNat a)) < List.length (usd l x (q0 ro) (Int.toNat a)) ∧ Int.toNat (List.getD 
  (wR l x (q0 ro) (Int.toNat a)) (Int.toNat (wA l x (q0 ro) (Int.toNat a))) (0 : Int)) < List.length (List.getD (usd l x (q0 ro) (Int.toNat a)) (Int.toNat (wA l x (q0 ro) (Int.toNat a))) 
  [])) ∧ At ((0 : Int) ≤ List.getD (wR l x (q0 ro) (Int.toNat a)) (Int.toNat (wA l x (q0 ro) (Int.toNat a))) (0 : Int) ∧ List.getD (wR l x (q0 ro) (Int.toNat a)) (Int.toNat (wA l x (q0 
  ro) (Int.toNat a))) (0 : Int) < (↑(List.length (List.getD (usd l x (q0 ro) (Int.toNat a)) (Int.toNat (wA l x (q0 ro) (Int.toNat a))) [])) : Int)) ∧ (At (Int.toNat (wA l x (q0 ro) (Int.toNat 
  a)) < List.length (usd l x (q0 ro) (Int.toNat a)) ∧ Int.toNat (List.getD (wR l x (q0 ro) (Int.toNat a)) (Int.toNat (wA l x (q0 ro) (Int.toNat a))) (0 : Int)) < List.length (List.getD 
  (usd l x (q0 ro) (Int.toNat a)) (Int.toNat (wA l x (q0 ro) (Int.toNat a))) [])) ∧ True ∧ ((True ∧ x = x) ∧ ((2 : Nat) = (2 : Nat) ∧ (0 : Nat) = (0 : Nat)) ∧ ((3 : Nat) = (3 : Nat) ∧ 
  List.length l = List.length l) ∧ (True ∧ steps = steps) ∧ (True ∧ a = a) ∧ True) ∧ ((True ∧ True ∧ l = l) ∧ (True ∧ IntKind.i64 = IntKind.i64 ∧ ro = ro) ∧ (True ∧ (((0 : Nat) = (0 : 
  Nat) ∧ List.length l = List.length l) ∧ (True ∧ atNext l (wA l x (q0 ro) (Int.toNat a)) (wR l x (q0 ro) (Int.toNat a)) = wA l x (q0 ro) (Int.toNat a + (1 : Nat))) ∧ True) ∧ True ∧ roNext 
  l (wA l x (q0 ro) (Int.toNat a)) (wR l x (q0 ro) (Int.toNat a)) = wR l x (q0 ro) (Int.toNat a + (1 : Nat)) ∧ True) ∧ (True ∧ True ∧ List.set (usd l x (q0 ro) (Int.toNat a)) (Int.toNat 
  (wA l x (q0 ro) (Int.toNat a))) (List.set (List.getD (usd l x (q0 ro) (Int.toNat a)) (Int.toNat (wA l x (q0 ro) (Int.toNat a))) []) (Int.toNat (List.getD (wR l x (q0 ro) (Int.toNat 
  a)) (Int.toNat (wA l x (q0 ro) (Int.toNat a))) (0 : Int))) (IntKind.wrap IntKind.i64 (List.getD (List.getD (usd l x (q0 ro) (Int.toNat a)) (Int.toNat (wA l x (q0 ro) (Int.toNat a))) 
  []) (Int.toNat (List.getD (wR l x (q0 ro) (Int.toNat a)) (Int.toNat (wA l x (q0 ro) (Int.toNat a))) (0 : Int))) (0 : Int) + (1 : Int)))) = usd l x (q0 ro) (Int.toNat a + (1 : Nat))) 
  ∧ True) ∧ True) ∧ True) ∧ True) ∧ True) ∧ (True ∧ ((True ∧ x = x) ∧ ((2 : Nat) = (2 : Nat) ∧ (0 : Nat) = (0 : Nat)) ∧ ((3 : Nat) = (3 : Nat) ∧ List.length l = List.length l) ∧ (True 
  ∧ steps = steps) ∧ (True ∧ IntKind.wrap IntKind.i64 (a + (1 : Int)) = IntKind.wrap IntKind.i64 (a + (1 : Int))) ∧ True) ∧ ((True ∧ True ∧ l = l) ∧ (True ∧ IntKind.i64 = IntKind.i64 
  ∧ ro = ro) ∧ (True ∧ (((0 : Nat) = (0 : Nat) ∧ List.length l = List.length l) ∧ (True ∧ wA l x (q0 ro) (Int.toNat a + (1 : Nat)) = wA l x (q0 ro) (Int.toNat (IntKind.wrap IntKind.i64 
  (a + (1 : Int))))) ∧ True) ∧ True ∧ wR l x (q0 ro) (Int.toNat a + (1 : Nat)) = wR l x (q0 ro) (Int.toNat (IntKind.wrap IntKind.i64 (a + (1 : Int)))) ∧ True) ∧ (True ∧ True ∧ usd l x 
  (q0 ro) (Int.toNat a + (1 : Nat)) = usd l x (q0 ro) (Int.toNat (IntKind.wrap IntKind.i64 (a + (1 : Int))))) ∧ True) ∧ True) ∧ At (((0 : Int) ≤ IntKind.wrap IntKind.i64 (a + (1 : Int)) 
  ∧ IntKind.wrap IntKind.i64 (a + (1 : Int)) ≤ steps) ∧ Int.toNat (steps - IntKind.wrap IntKind.i64 (a + (1 : Int))) < Int.toNat (steps - a))) ∧ (decide (a < steps) = false → K (V.tup 
  [V.row (3 : Nat) (List.length l), V.lit true]) [{ cs := Cells.mat IntKind.i64 (3 : Nat) l, elem := 23, kind := Kind.mat }, { cs := Cells.ints IntKind.i64 ro, elem := 3, kind := Kind.row }, 
  { cs := Cells.mixi [V.row (0 : Nat) (List.length l), V.int IntKind.i64 (wA l x (q0 ro) (Int.toNat a))] (10 : Nat) (wR l x (q0 ro) (Int.toNat a)) [], elem := 58, kind := Kind.box }, 
  { cs := Cells.mat IntKind.i64 (3 : Nat) (usd l x (q0 ro) (Int.toNat a)), elem := 23, kind := Kind.mat }])))))

end Go.Vi
