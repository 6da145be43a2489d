/- The conditions, reckoned out by program: texts alone. -/
import Derived.Test.YtopolpgligoldacRBDefs
namespace Go.Vi
set_option linter.unusedVariables false
def VC_laws_markIntS (k : Int) (n : Nat) (a : List Int) (K : V → List Blk → Prop) : Prop :=
  ((((0 : Nat) = (0 : Nat) ∧ n = n) ∧ (True ∧ k = k + (0 : Int)) ∧ (True ∧ (0 : Int) = (0 : Int)) ∧ True) ∧
    ((True ∧ IntKind.i64 = IntKind.i64 ∧ a = mrkRow a k (Int.toNat (0 : Int))) ∧ True) ∧ True) ∧
  At (ixInv (List.length a) (0 : Int)) ∧
    ∀ (a_1 : Int),
      ixInv (List.length a) a_1 →
        (decide (a_1 < (↑n : Int)) = true →
            At ((0 : Int) ≤ a_1 ∧ a_1 < (↑n : Int)) ∧
              At (Int.toNat a_1 < List.length (mrkRow a k (Int.toNat a_1))) ∧
                ((((0 : Nat) = (0 : Nat) ∧ n = n) ∧
                      (True ∧
                          IntKind.wrap IntKind.i64 (k + a_1 + (1 : Int)) =
                            k + IntKind.wrap IntKind.i64 (a_1 + (1 : Int))) ∧
                        (True ∧
                            IntKind.wrap IntKind.i64 (a_1 + (1 : Int)) = IntKind.wrap IntKind.i64 (a_1 + (1 : Int))) ∧
                          True) ∧
                    ((True ∧
                          IntKind.i64 = IntKind.i64 ∧
                            List.set (mrkRow a k (Int.toNat a_1)) (Int.toNat a_1) (k + a_1) =
                              mrkRow a k (Int.toNat (IntKind.wrap IntKind.i64 (a_1 + (1 : Int))))) ∧
                        True) ∧
                      True) ∧
                  At
                    (ixInv (List.length a) (IntKind.wrap IntKind.i64 (a_1 + (1 : Int))) ∧
                      Int.toNat ((↑(List.length a) : Int) - IntKind.wrap IntKind.i64 (a_1 + (1 : Int))) <
                        Int.toNat ((↑(List.length a) : Int) - a_1))) ∧
          (decide (a_1 < (↑n : Int)) = false →
            K (V.int IntKind.i64 (k + a_1))
              [{ cs := Cells.ints IntKind.i64 (mrkRow a k (Int.toNat a_1)), elem := 3, kind := Kind.row }])

def VC_laws_markIntSS (k : Int) (n : Nat) (l : List (List Int)) (K : V → List Blk → Prop) : Prop :=
  ((((0 : Nat) = (0 : Nat) ∧ n = n) ∧
      (True ∧ k = k + (↑(totL (List.take (Int.toNat (0 : Int)) l)) : Int)) ∧ (True ∧ (0 : Int) = (0 : Int)) ∧ True) ∧
    ((True ∧ True ∧ l = mrkMat l k (Int.toNat (0 : Int))) ∧ True) ∧ True) ∧
  At (ixInv (List.length l) (0 : Int)) ∧
    ∀ (a : Int),
      ixInv (List.length l) a →
        (decide (a < (↑n : Int)) = true →
            At ((0 : Int) ≤ a ∧ a < (↑n : Int)) ∧
              At (Int.toNat a < List.length (mrkMat l k (Int.toNat a))) ∧
                At
                    (List.length (List.getD (mrkMat l k (Int.toNat a)) (Int.toNat a) []) =
                        List.length (List.getD (mrkMat l k (Int.toNat a)) (Int.toNat a) []) ∧
                      List.length (List.getD (mrkMat l k (Int.toNat a)) (Int.toNat a) []) ≤ (2000000 : Nat) ∧
                        (0 : Int) ≤ k + (↑(totL (List.take (Int.toNat a) l)) : Int) ∧
                          k + (↑(totL (List.take (Int.toNat a) l)) : Int) ≤ (1000000000000000 : Int)) ∧
                  At
                      (List.length
                          (ramp (k + (↑(totL (List.take (Int.toNat a) l)) : Int))
                            (List.length (List.getD (mrkMat l k (Int.toNat a)) (Int.toNat a) []))) =
                        List.length (List.getD (mrkMat l k (Int.toNat a)) (Int.toNat a) [])) ∧
                    ((((0 : Nat) = (0 : Nat) ∧ n = n) ∧
                          (True ∧
                              k + (↑(totL (List.take (Int.toNat a) l)) : Int) +
                                  (↑(List.length (List.getD (mrkMat l k (Int.toNat a)) (Int.toNat a) [])) : Int) =
                                k +
                                  (↑(totL (List.take (Int.toNat (IntKind.wrap IntKind.i64 (a + (1 : Int)))) l)) :
                                    Int)) ∧
                            (True ∧
                                IntKind.wrap IntKind.i64 (a + (1 : Int)) = IntKind.wrap IntKind.i64 (a + (1 : Int))) ∧
                              True) ∧
                        ((True ∧
                              True ∧
                                List.set (mrkMat l k (Int.toNat a)) (Int.toNat a)
                                    (ramp (k + (↑(totL (List.take (Int.toNat a) l)) : Int))
                                      (List.length (List.getD (mrkMat l k (Int.toNat a)) (Int.toNat a) []))) =
                                  mrkMat l k (Int.toNat (IntKind.wrap IntKind.i64 (a + (1 : Int))))) ∧
                            True) ∧
                          True) ∧
                      At
                        (ixInv (List.length l) (IntKind.wrap IntKind.i64 (a + (1 : Int))) ∧
                          Int.toNat ((↑(List.length l) : Int) - IntKind.wrap IntKind.i64 (a + (1 : Int))) <
                            Int.toNat ((↑(List.length l) : Int) - a))) ∧
          (decide (a < (↑n : Int)) = false →
            K (V.int IntKind.i64 (k + (↑(totL (List.take (Int.toNat a) l)) : Int)))
              [{ cs := Cells.mat IntKind.i64 (3 : Nat) (mrkMat l k (Int.toNat a)), elem := 23,
                  kind := Kind.mat }])

def VC_laws_markRoute (k : Int) (n : Nat) (m : Nat) (l : List (List Int)) (ro : List Int) (K : V → List Blk → Prop) : Prop :=
  At (List.length l = n ∧ smallM l ∧ (0 : Int) ≤ k ∧ k ≤ (1000000 : Int)) ∧
  At
      (List.length ro = m ∧
        m ≤ (2000000 : Nat) ∧ (0 : Int) ≤ k + (↑(totL l) : Int) ∧ k + (↑(totL l) : Int) ≤ (1000000000000000 : Int)) ∧
    K (V.int IntKind.i64 (k + (↑(totL l) : Int) + (↑m : Int)))
      [{ cs := Cells.mat IntKind.i64 (3 : Nat) (rampM k l), elem := 23, kind := Kind.mat },
        { cs := Cells.ints IntKind.i64 (ramp (k + (↑(totL l) : Int)) m), elem := 3, kind := Kind.row },
        { cs := Cells.vals [V.row (0 : Nat) n, V.row (1 : Nat) m], elem := 29, kind := Kind.box }]

def VC_laws_heldIntS (q : Int) (n : Nat) (a : List Int) (e : TypeId) (k : Kind) (K : V → List Blk → Prop) : Prop :=
  ((((0 : Nat) = (0 : Nat) ∧ n = n) ∧ (True ∧ q = q + (0 : Int)) ∧ (True ∧ (0 : Int) = (0 : Int)) ∧ True) ∧
    ((Bool.rec False True (Nat.beq e e && decide (k = k)) ∧ IntKind.i64 = IntKind.i64 ∧ a = a) ∧ True) ∧ True) ∧
  At (hldInv a q (0 : Int)) ∧
    ∀ (a_1 : Int),
      hldInv a q a_1 →
        (decide (a_1 < (↑n : Int)) = true →
            At ((0 : Int) ≤ a_1 ∧ a_1 < (↑n : Int)) ∧
              At (Int.toNat a_1 < List.length a) ∧
                ((List.getD a (Int.toNat a_1) (0 : Int) != q + a_1) = true →
                    K (V.int IntKind.i64 (-1 : Int)) [{ cs := Cells.ints IntKind.i64 a, elem := e, kind := k }]) ∧
                  ((List.getD a (Int.toNat a_1) (0 : Int) != q + a_1) = false →
                    ((((0 : Nat) = (0 : Nat) ∧ n = n) ∧
                          (True ∧
                              IntKind.wrap IntKind.i64 (q + a_1 + (1 : Int)) =
                                q + IntKind.wrap IntKind.i64 (a_1 + (1 : Int))) ∧
                            (True ∧
                                IntKind.wrap IntKind.i64 (a_1 + (1 : Int)) =
                                  IntKind.wrap IntKind.i64 (a_1 + (1 : Int))) ∧
                              True) ∧
                        ((Bool.rec False True (Nat.beq e e && decide (k = k)) ∧ IntKind.i64 = IntKind.i64 ∧ a = a) ∧
                            True) ∧
                          True) ∧
                      At
                        (hldInv a q (IntKind.wrap IntKind.i64 (a_1 + (1 : Int))) ∧
                          Int.toNat ((↑(List.length a) : Int) - IntKind.wrap IntKind.i64 (a_1 + (1 : Int))) <
                            Int.toNat ((↑(List.length a) : Int) - a_1)))) ∧
          (decide (a_1 < (↑n : Int)) = false →
            K (V.int IntKind.i64 (q + a_1)) [{ cs := Cells.ints IntKind.i64 a, elem := e, kind := k }])

def VC_laws_heldIntSS (q : Int) (n : Nat) (l : List (List Int)) (K : V → List Blk → Prop) : Prop :=
  ((((0 : Nat) = (0 : Nat) ∧ n = n) ∧
      (True ∧ q = q + (↑(totL (List.take (Int.toNat (0 : Int)) l)) : Int)) ∧ (True ∧ (0 : Int) = (0 : Int)) ∧ True) ∧
    ((True ∧ True ∧ l = l) ∧ True) ∧ True) ∧
  At (hlmInv l q (0 : Int)) ∧
    ∀ (a : Int),
      hlmInv l q a →
        (decide (a < (↑n : Int)) = true →
            At ((0 : Int) ≤ a ∧ a < (↑n : Int)) ∧
              At (Int.toNat a < List.length l) ∧
                At
                    (List.length (List.getD l (Int.toNat a) []) = List.length (List.getD l (Int.toNat a) []) ∧
                      List.length (List.getD l (Int.toNat a) []) ≤ (2000000 : Nat) ∧
                        (0 : Int) ≤ q + (↑(totL (List.take (Int.toNat a) l)) : Int) ∧
                          q + (↑(totL (List.take (Int.toNat a) l)) : Int) ≤ (1000000000000000 : Int)) ∧
                  (decide
                          ((bif
                                List.getD l (Int.toNat a) [] ==
                                  ramp (q + (↑(totL (List.take (Int.toNat a) l)) : Int))
                                    (List.length (List.getD l (Int.toNat a) [])) then
                              q + (↑(totL (List.take (Int.toNat a) l)) : Int) +
                                (↑(List.length (List.getD l (Int.toNat a) [])) : Int)
                            else (-1 : Int)) <
                            (0 : Int)) =
                        true →
                      K (V.int IntKind.i64 (-1 : Int))
                        [{ cs := Cells.mat IntKind.i64 (3 : Nat) l, elem := 23, kind := Kind.mat },
                          { cs := Cells.dead, elem := 3, kind := Kind.arg (1 : Nat) }]) ∧
                    (decide
                          ((bif
                                List.getD l (Int.toNat a) [] ==
                                  ramp (q + (↑(totL (List.take (Int.toNat a) l)) : Int))
                                    (List.length (List.getD l (Int.toNat a) [])) then
                              q + (↑(totL (List.take (Int.toNat a) l)) : Int) +
                                (↑(List.length (List.getD l (Int.toNat a) [])) : Int)
                            else (-1 : Int)) <
                            (0 : Int)) =
                        false →
                      ((((0 : Nat) = (0 : Nat) ∧ n = n) ∧
                            (True ∧
                                (bif
                                      List.getD l (Int.toNat a) [] ==
                                        ramp (q + (↑(totL (List.take (Int.toNat a) l)) : Int))
                                          (List.length (List.getD l (Int.toNat a) [])) then
                                    q + (↑(totL (List.take (Int.toNat a) l)) : Int) +
                                      (↑(List.length (List.getD l (Int.toNat a) [])) : Int)
                                  else (-1 : Int)) =
                                  q +
                                    (↑(totL (List.take (Int.toNat (IntKind.wrap IntKind.i64 (a + (1 : Int)))) l)) :
                                      Int)) ∧
                              (True ∧
                                  IntKind.wrap IntKind.i64 (a + (1 : Int)) = IntKind.wrap IntKind.i64 (a + (1 : Int))) ∧
                                True) ∧
                          ((True ∧ True ∧ l = l) ∧ True) ∧ True) ∧
                        At
                          (hlmInv l q (IntKind.wrap IntKind.i64 (a + (1 : Int))) ∧
                            Int.toNat ((↑(List.length l) : Int) - IntKind.wrap IntKind.i64 (a + (1 : Int))) <
                              Int.toNat ((↑(List.length l) : Int) - a)))) ∧
          (decide (a < (↑n : Int)) = false →
            K (V.int IntKind.i64 (q + (↑(totL (List.take (Int.toNat a) l)) : Int)))
              [{ cs := Cells.mat IntKind.i64 (3 : Nat) l, elem := 23, kind := Kind.mat }])

def VC_laws_heldRoute (q : Int) (n : Nat) (m : Nat) (l : List (List Int)) (ro : List Int) (K : V → List Blk → Prop) : Prop :=
  At (List.length l = n ∧ smallM l ∧ (0 : Int) ≤ q ∧ q ≤ (1000000 : Int)) ∧
  (decide ((bif l == rampM q l then q + (↑(totL l) : Int) else (-1 : Int)) < (0 : Int)) = true →
      K (V.int IntKind.i64 (-1 : Int))
        [{ cs := Cells.mat IntKind.i64 (3 : Nat) l, elem := 23, kind := Kind.mat },
          { cs := Cells.ints IntKind.i64 ro, elem := 3, kind := Kind.row },
          { cs := Cells.vals [V.row (0 : Nat) n, V.row (1 : Nat) m], elem := 29, kind := Kind.box }]) ∧
    (decide ((bif l == rampM q l then q + (↑(totL l) : Int) else (-1 : Int)) < (0 : Int)) = false →
      At
          (List.length ro = m ∧
            m ≤ (2000000 : Nat) ∧
              ((0 : Int) ≤ bif l == rampM q l then q + (↑(totL l) : Int) else (-1 : Int)) ∧
                (bif l == rampM q l then q + (↑(totL l) : Int) else (-1 : Int)) ≤ (1000000000000000 : Int)) ∧
        (decide
                ((bif ro == ramp (bif l == rampM q l then q + (↑(totL l) : Int) else (-1 : Int)) m then
                    (bif l == rampM q l then q + (↑(totL l) : Int) else (-1 : Int)) + (↑m : Int)
                  else (-1 : Int)) <
                  (0 : Int)) =
              true →
            K (V.int IntKind.i64 (-1 : Int))
              [{ cs := Cells.mat IntKind.i64 (3 : Nat) l, elem := 23, kind := Kind.mat },
                { cs := Cells.ints IntKind.i64 ro, elem := 3, kind := Kind.row },
                { cs := Cells.vals [V.row (0 : Nat) n, V.row (1 : Nat) m], elem := 29, kind := Kind.box }]) ∧
          (decide
                ((bif ro == ramp (bif l == rampM q l then q + (↑(totL l) : Int) else (-1 : Int)) m then
                    (bif l == rampM q l then q + (↑(totL l) : Int) else (-1 : Int)) + (↑m : Int)
                  else (-1 : Int)) <
                  (0 : Int)) =
              false →
            K
              (V.int IntKind.i64
                (bif ro == ramp (bif l == rampM q l then q + (↑(totL l) : Int) else (-1 : Int)) m then
                  (bif l == rampM q l then q + (↑(totL l) : Int) else (-1 : Int)) + (↑m : Int)
                else (-1 : Int)))
              [{ cs := Cells.mat IntKind.i64 (3 : Nat) l, elem := 23, kind := Kind.mat },
                { cs := Cells.ints IntKind.i64 ro, elem := 3, kind := Kind.row },
                { cs := Cells.vals [V.row (0 : Nat) n, V.row (1 : Nat) m], elem := 29, kind := Kind.box }]))

def VC_spec_RingRoute (nodes : Int) (K : V → List Blk → Prop) : Prop :=
  At True ∧
  ((!inB nodes (1 : Int) (10 : Int)) = true →
      K
        (V.tup
          [V.agg [V.raw (Value.slice none (0 : Nat) (0 : Nat)), V.raw (Value.slice none (0 : Nat) (0 : Nat))],
            V.lit false])
        [{
            cs :=
              Cells.vals [V.raw (Value.slice none (0 : Nat) (0 : Nat)), V.raw (Value.slice none (0 : Nat) (0 : Nat))],
            elem := 29, kind := Kind.box }]) ∧
    ((!inB nodes (1 : Int) (10 : Int)) = false →
      At ((0 : Int) ≤ nodes ∧ nodes ≤ nodes ∧ nodes ≤ (1000000000 : Int)) ∧
        (True ∧
            ((True ∧ nodes = nodes) ∧
                ((0 : Nat) = (0 : Nat) ∧ (0 : Nat) = (0 : Nat)) ∧
                  ((1 : Nat) = (1 : Nat) ∧ (0 : Nat) = (0 : Nat)) ∧ (True ∧ (0 : Int) = (0 : Int)) ∧ True) ∧
              ((True ∧
                    Value.slice none (0 : Nat) (0 : Nat) = Value.slice none (0 : Nat) (0 : Nat) ∧
                      Value.slice none (0 : Nat) (0 : Nat) = Value.slice none (0 : Nat) (0 : Nat) ∧ True) ∧
                  (True ∧
                      ((2 : Nat) = (2 : Nat) ∧ (0 : Nat) = (0 : Nat)) ∧
                        ((3 : Nat) = (3 : Nat) ∧ Int.toNat nodes = Int.toNat nodes) ∧ True) ∧
                    (True ∧ True ∧ [] = ringM nodes (Int.toNat (0 : Int))) ∧
                      (True ∧
                          IntKind.i64 = IntKind.i64 ∧
                            List.replicate (Int.toNat nodes) (0 : Int) = List.replicate (Int.toNat nodes) (0 : Int)) ∧
                        True) ∧
                True) ∧
          At (ixInv (Int.toNat nodes) (0 : Int)) ∧
            ∀ (a : Int),
              ixInv (Int.toNat nodes) a →
                (decide (a < nodes) = true →
                    At (nodes ≠ (0 : Int)) ∧
                      At (nodes ≠ (0 : Int)) ∧
                        ((((At
                                    (List.length
                                          [Int.tmod (IntKind.wrap IntKind.i64 (a + (1 : Int))) nodes,
                                            Int.tmod
                                              (IntKind.wrap IntKind.i64
                                                (IntKind.wrap IntKind.i64 (a + nodes) - (1 : Int)))
                                              nodes] =
                                        (2 : Nat) ∧
                                      List.length (ringM nodes (Int.toNat a)) = Int.toNat a ∧
                                        Int.toNat a + (1 : Nat) ≤ (1000000000 : Nat)) ∧
                                  ((True ∧
                                        ((True ∧ nodes = nodes) ∧
                                            ((0 : Nat) = (0 : Nat) ∧ (0 : Nat) = (0 : Nat)) ∧
                                              ((1 : Nat) = (1 : Nat) ∧ (0 : Nat) = (0 : Nat)) ∧
                                                (True ∧
                                                    IntKind.wrap IntKind.i64 (a + (1 : Int)) =
                                                      IntKind.wrap IntKind.i64 (a + (1 : Int))) ∧
                                                  True) ∧
                                          ((True ∧
                                                Value.slice none (0 : Nat) (0 : Nat) =
                                                    Value.slice none (0 : Nat) (0 : Nat) ∧
                                                  Value.slice none (0 : Nat) (0 : Nat) =
                                                      Value.slice none (0 : Nat) (0 : Nat) ∧
                                                    True) ∧
                                              (True ∧
                                                  ((2 : Nat) = (2 : Nat) ∧
                                                      Int.toNat a + (1 : Nat) =
                                                        Int.toNat (IntKind.wrap IntKind.i64 (a + (1 : Int)))) ∧
                                                    ((3 : Nat) = (3 : Nat) ∧ Int.toNat nodes = Int.toNat nodes) ∧
                                                      True) ∧
                                                (True ∧
                                                    True ∧
                                                      ringM nodes (Int.toNat a) ++
                                                          [[Int.tmod (IntKind.wrap IntKind.i64 (a + (1 : Int))) nodes,
                                                              Int.tmod
                                                                (IntKind.wrap IntKind.i64
                                                                  (IntKind.wrap IntKind.i64 (a + nodes) - (1 : Int)))
                                                                nodes]] =
                                                        ringM nodes
                                                          (Int.toNat (IntKind.wrap IntKind.i64 (a + (1 : Int))))) ∧
                                                  (True ∧
                                                      IntKind.i64 = IntKind.i64 ∧
                                                        List.replicate (Int.toNat nodes) (0 : Int) =
                                                          List.replicate (Int.toNat nodes) (0 : Int)) ∧
                                                    True) ∧
                                            True) ∧
                                      At
                                        (ixInv (Int.toNat nodes) (IntKind.wrap IntKind.i64 (a + (1 : Int))) ∧
                                          Int.toNat
                                              ((↑(Int.toNat nodes) : Int) - IntKind.wrap IntKind.i64 (a + (1 : Int))) <
                                            Int.toNat ((↑(Int.toNat nodes) : Int) - a))) ∧
                                    True) ∧
                                True) ∧
                              True) ∧
                            True) ∧
                          ((((At
                                      (List.length
                                            [Int.tmod (IntKind.wrap IntKind.i64 (a + (1 : Int))) nodes,
                                              Int.tmod
                                                (IntKind.wrap IntKind.i64
                                                  (IntKind.wrap IntKind.i64 (a + nodes) - (1 : Int)))
                                                nodes] =
                                          (2 : Nat) ∧
                                        List.length (ringM nodes (Int.toNat a)) = Int.toNat a ∧
                                          Int.toNat a + (1 : Nat) ≤ (1000000000 : Nat)) ∧
                                    ((True ∧
                                          ((True ∧ nodes = nodes) ∧
                                              ((0 : Nat) = (0 : Nat) ∧ (0 : Nat) = (0 : Nat)) ∧
                                                ((1 : Nat) = (1 : Nat) ∧ (0 : Nat) = (0 : Nat)) ∧
                                                  (True ∧
                                                      IntKind.wrap IntKind.i64 (a + (1 : Int)) =
                                                        IntKind.wrap IntKind.i64 (a + (1 : Int))) ∧
                                                    True) ∧
                                            ((True ∧
                                                  Value.slice none (0 : Nat) (0 : Nat) =
                                                      Value.slice none (0 : Nat) (0 : Nat) ∧
                                                    Value.slice none (0 : Nat) (0 : Nat) =
                                                        Value.slice none (0 : Nat) (0 : Nat) ∧
                                                      True) ∧
                                                (True ∧
                                                    ((2 : Nat) = (2 : Nat) ∧
                                                        Int.toNat a + (1 : Nat) =
                                                          Int.toNat (IntKind.wrap IntKind.i64 (a + (1 : Int)))) ∧
                                                      ((3 : Nat) = (3 : Nat) ∧ Int.toNat nodes = Int.toNat nodes) ∧
                                                        True) ∧
                                                  (True ∧
                                                      True ∧
                                                        ringM nodes (Int.toNat a) ++
                                                            [[Int.tmod (IntKind.wrap IntKind.i64 (a + (1 : Int))) nodes,
                                                                Int.tmod
                                                                  (IntKind.wrap IntKind.i64
                                                                    (IntKind.wrap IntKind.i64 (a + nodes) - (1 : Int)))
                                                                  nodes]] =
                                                          ringM nodes
                                                            (Int.toNat (IntKind.wrap IntKind.i64 (a + (1 : Int))))) ∧
                                                    (True ∧
                                                        IntKind.i64 = IntKind.i64 ∧
                                                          List.replicate (Int.toNat nodes) (0 : Int) =
                                                            List.replicate (Int.toNat nodes) (0 : Int)) ∧
                                                      True) ∧
                                              True) ∧
                                        At
                                          (ixInv (Int.toNat nodes) (IntKind.wrap IntKind.i64 (a + (1 : Int))) ∧
                                            Int.toNat
                                                ((↑(Int.toNat nodes) : Int) -
                                                  IntKind.wrap IntKind.i64 (a + (1 : Int))) <
                                              Int.toNat ((↑(Int.toNat nodes) : Int) - a))) ∧
                                      True) ∧
                                  True) ∧
                                True) ∧
                              ((At
                                      (List.length
                                            [Int.tmod (IntKind.wrap IntKind.i64 (a + (1 : Int))) nodes,
                                              Int.tmod
                                                (IntKind.wrap IntKind.i64
                                                  (IntKind.wrap IntKind.i64 (a + nodes) - (1 : Int)))
                                                nodes] =
                                          (2 : Nat) ∧
                                        List.length (ringM nodes (Int.toNat a)) = Int.toNat a ∧
                                          Int.toNat a + (1 : Nat) ≤ (1000000000 : Nat)) ∧
                                    ((True ∧
                                          ((True ∧ nodes = nodes) ∧
                                              ((0 : Nat) = (0 : Nat) ∧ (0 : Nat) = (0 : Nat)) ∧
                                                ((1 : Nat) = (1 : Nat) ∧ (0 : Nat) = (0 : Nat)) ∧
                                                  (True ∧
                                                      IntKind.wrap IntKind.i64 (a + (1 : Int)) =
                                                        IntKind.wrap IntKind.i64 (a + (1 : Int))) ∧
                                                    True) ∧
                                            ((True ∧
                                                  Value.slice none (0 : Nat) (0 : Nat) =
                                                      Value.slice none (0 : Nat) (0 : Nat) ∧
                                                    Value.slice none (0 : Nat) (0 : Nat) =
                                                        Value.slice none (0 : Nat) (0 : Nat) ∧
                                                      True) ∧
                                                (True ∧
                                                    ((2 : Nat) = (2 : Nat) ∧
                                                        Int.toNat a + (1 : Nat) =
                                                          Int.toNat (IntKind.wrap IntKind.i64 (a + (1 : Int)))) ∧
                                                      ((3 : Nat) = (3 : Nat) ∧ Int.toNat nodes = Int.toNat nodes) ∧
                                                        True) ∧
                                                  (True ∧
                                                      True ∧
                                                        ringM nodes (Int.toNat a) ++
                                                            [[Int.tmod (IntKind.wrap IntKind.i64 (a + (1 : Int))) nodes,
                                                                Int.tmod
                                                                  (IntKind.wrap IntKind.i64
                                                                    (IntKind.wrap IntKind.i64 (a + nodes) - (1 : Int)))
                                                                  nodes]] =
                                                          ringM nodes
                                                            (Int.toNat (IntKind.wrap IntKind.i64 (a + (1 : Int))))) ∧
                                                    (True ∧
                                                        IntKind.i64 = IntKind.i64 ∧
                                                          List.replicate (Int.toNat nodes) (0 : Int) =
                                                            List.replicate (Int.toNat nodes) (0 : Int)) ∧
                                                      True) ∧
                                              True) ∧
                                        At
                                          (ixInv (Int.toNat nodes) (IntKind.wrap IntKind.i64 (a + (1 : Int))) ∧
                                            Int.toNat
                                                ((↑(Int.toNat nodes) : Int) -
                                                  IntKind.wrap IntKind.i64 (a + (1 : Int))) <
                                              Int.toNat ((↑(Int.toNat nodes) : Int) - a))) ∧
                                      True) ∧
                                  True) ∧
                                True) ∧
                            True) ∧
                  (decide (a < nodes) = false →
                    K (V.tup [V.agg [V.row (2 : Nat) (Int.toNat a), V.row (3 : Nat) (Int.toNat nodes)], V.lit true])
                      [{ cs := Cells.vals [V.row (2 : Nat) (Int.toNat a), V.row (3 : Nat) (Int.toNat nodes)],
                          elem := 29, kind := Kind.box },
                        { cs := Cells.vals [V.row (2 : Nat) (Int.toNat a), V.row (3 : Nat) (Int.toNat nodes)],
                          elem := 29, kind := Kind.box },
                        { cs := Cells.mat IntKind.i64 (3 : Nat) (ringM nodes (Int.toNat a)), elem := 23,
                          kind := Kind.mat },
                        { cs := Cells.ints IntKind.i64 (List.replicate (Int.toNat nodes) (0 : Int)), elem := 3,
                          kind := Kind.row }]))

def VC_impl_RingRoute (nodes : Int) (K : V → List Blk → Prop) : Prop :=
  At True ∧
  ((!inB nodes (1 : Int) (10 : Int)) = true →
      K
        (V.tup
          [V.agg [V.raw (Value.slice none (0 : Nat) (0 : Nat)), V.raw (Value.slice none (0 : Nat) (0 : Nat))],
            V.lit false])
        [{
            cs :=
              Cells.vals [V.raw (Value.slice none (0 : Nat) (0 : Nat)), V.raw (Value.slice none (0 : Nat) (0 : Nat))],
            elem := 29, kind := Kind.box }]) ∧
    ((!inB nodes (1 : Int) (10 : Int)) = false →
      ((At ((0 : Int) ≤ nodes ∧ nodes ≤ nodes ∧ nodes ≤ (1000000000 : Int)) ∧
            (At ((0 : Int) ≤ nodes ∧ nodes ≤ nodes ∧ nodes ≤ (1000000000 : Int)) ∧
                ((True ∧
                      ((True ∧ nodes = nodes) ∧
                          ((0 : Nat) = (0 : Nat) ∧ (0 : Nat) = (0 : Nat)) ∧
                            ((1 : Nat) = (1 : Nat) ∧ (0 : Nat) = (0 : Nat)) ∧ True) ∧
                        ((True ∧
                              Value.slice none (0 : Nat) (0 : Nat) = Value.slice none (0 : Nat) (0 : Nat) ∧
                                Value.slice none (0 : Nat) (0 : Nat) = Value.slice none (0 : Nat) (0 : Nat) ∧ True) ∧
                            (True ∧
                                ((2 : Nat) = (2 : Nat) ∧ Int.toNat nodes = Int.toNat nodes) ∧
                                  ((3 : Nat) = (3 : Nat) ∧ Int.toNat nodes = Int.toNat nodes) ∧ True) ∧
                              (True ∧
                                  True ∧ List.replicate (Int.toNat nodes) [] = List.replicate (Int.toNat nodes) nilI) ∧
                                (True ∧
                                    IntKind.i64 = IntKind.i64 ∧
                                      List.replicate (Int.toNat nodes) (0 : Int) =
                                        List.replicate (Int.toNat nodes) (0 : Int)) ∧
                                  True) ∧
                          True) ∧
                    True) ∧
                  True) ∧
              ((At ((0 : Int) ≤ nodes ∧ nodes ≤ nodes ∧ nodes ≤ (1000000000 : Int)) ∧
                    (True ∧
                        ((True ∧ nodes = nodes) ∧
                            ((0 : Nat) = (0 : Nat) ∧ (0 : Nat) = (0 : Nat)) ∧
                              ((1 : Nat) = (1 : Nat) ∧ (0 : Nat) = (0 : Nat)) ∧ True) ∧
                          ((True ∧
                                Value.slice none (0 : Nat) (0 : Nat) = Value.slice none (0 : Nat) (0 : Nat) ∧
                                  Value.slice none (0 : Nat) (0 : Nat) = Value.slice none (0 : Nat) (0 : Nat) ∧ True) ∧
                              (True ∧
                                  ((2 : Nat) = (2 : Nat) ∧ Int.toNat nodes = Int.toNat nodes) ∧
                                    ((3 : Nat) = (3 : Nat) ∧ Int.toNat nodes = Int.toNat nodes) ∧ True) ∧
                                (True ∧
                                    True ∧
                                      List.replicate (Int.toNat nodes) [] = List.replicate (Int.toNat nodes) nilI) ∧
                                  (True ∧
                                      IntKind.i64 = IntKind.i64 ∧
                                        List.replicate (Int.toNat nodes) (0 : Int) =
                                          List.replicate (Int.toNat nodes) (0 : Int)) ∧
                                    True) ∧
                            True) ∧
                      True) ∧
                  True) ∧
                True) ∧
          (At ((0 : Int) ≤ nodes ∧ nodes ≤ nodes ∧ nodes ≤ (1000000000 : Int)) ∧
              (At ((0 : Int) ≤ nodes ∧ nodes ≤ nodes ∧ nodes ≤ (1000000000 : Int)) ∧
                  ((True ∧
                        ((True ∧ nodes = nodes) ∧
                            ((0 : Nat) = (0 : Nat) ∧ (0 : Nat) = (0 : Nat)) ∧
                              ((1 : Nat) = (1 : Nat) ∧ (0 : Nat) = (0 : Nat)) ∧ True) ∧
                          ((True ∧
                                Value.slice none (0 : Nat) (0 : Nat) = Value.slice none (0 : Nat) (0 : Nat) ∧
                                  Value.slice none (0 : Nat) (0 : Nat) = Value.slice none (0 : Nat) (0 : Nat) ∧ True) ∧
                              (True ∧
                                  ((2 : Nat) = (2 : Nat) ∧ Int.toNat nodes = Int.toNat nodes) ∧
                                    ((3 : Nat) = (3 : Nat) ∧ Int.toNat nodes = Int.toNat nodes) ∧ True) ∧
                                (True ∧
                                    True ∧
                                      List.replicate (Int.toNat nodes) [] = List.replicate (Int.toNat nodes) nilI) ∧
                                  (True ∧
                                      IntKind.i64 = IntKind.i64 ∧
                                        List.replicate (Int.toNat nodes) (0 : Int) =
                                          List.replicate (Int.toNat nodes) (0 : Int)) ∧
                                    True) ∧
                            True) ∧
                      True) ∧
                    True) ∧
                ((At ((0 : Int) ≤ nodes ∧ nodes ≤ nodes ∧ nodes ≤ (1000000000 : Int)) ∧
                      (True ∧
                          ((True ∧ nodes = nodes) ∧
                              ((0 : Nat) = (0 : Nat) ∧ (0 : Nat) = (0 : Nat)) ∧
                                ((1 : Nat) = (1 : Nat) ∧ (0 : Nat) = (0 : Nat)) ∧ True) ∧
                            ((True ∧
                                  Value.slice none (0 : Nat) (0 : Nat) = Value.slice none (0 : Nat) (0 : Nat) ∧
                                    Value.slice none (0 : Nat) (0 : Nat) = Value.slice none (0 : Nat) (0 : Nat) ∧
                                      True) ∧
                                (True ∧
                                    ((2 : Nat) = (2 : Nat) ∧ Int.toNat nodes = Int.toNat nodes) ∧
                                      ((3 : Nat) = (3 : Nat) ∧ Int.toNat nodes = Int.toNat nodes) ∧ True) ∧
                                  (True ∧
                                      True ∧
                                        List.replicate (Int.toNat nodes) [] = List.replicate (Int.toNat nodes) nilI) ∧
                                    (True ∧
                                        IntKind.i64 = IntKind.i64 ∧
                                          List.replicate (Int.toNat nodes) (0 : Int) =
                                            List.replicate (Int.toNat nodes) (0 : Int)) ∧
                                      True) ∧
                              True) ∧
                        True) ∧
                    True) ∧
                  True) ∧
            ((At ((0 : Int) ≤ nodes ∧ nodes ≤ nodes ∧ nodes ≤ (1000000000 : Int)) ∧
                  (At ((0 : Int) ≤ nodes ∧ nodes ≤ nodes ∧ nodes ≤ (1000000000 : Int)) ∧
                      (True ∧
                          ((True ∧ nodes = nodes) ∧
                              ((0 : Nat) = (0 : Nat) ∧ (0 : Nat) = (0 : Nat)) ∧
                                ((1 : Nat) = (1 : Nat) ∧ (0 : Nat) = (0 : Nat)) ∧ True) ∧
                            ((True ∧
                                  Value.slice none (0 : Nat) (0 : Nat) = Value.slice none (0 : Nat) (0 : Nat) ∧
                                    Value.slice none (0 : Nat) (0 : Nat) = Value.slice none (0 : Nat) (0 : Nat) ∧
                                      True) ∧
                                (True ∧
                                    ((2 : Nat) = (2 : Nat) ∧ Int.toNat nodes = Int.toNat nodes) ∧
                                      ((3 : Nat) = (3 : Nat) ∧ Int.toNat nodes = Int.toNat nodes) ∧ True) ∧
                                  (True ∧
                                      True ∧
                                        List.replicate (Int.toNat nodes) [] = List.replicate (Int.toNat nodes) nilI) ∧
                                    (True ∧
                                        IntKind.i64 = IntKind.i64 ∧
                                          List.replicate (Int.toNat nodes) (0 : Int) =
                                            List.replicate (Int.toNat nodes) (0 : Int)) ∧
                                      True) ∧
                              True) ∧
                        True) ∧
                    True) ∧
                (At ((0 : Int) ≤ nodes ∧ nodes ≤ nodes ∧ nodes ≤ (1000000000 : Int)) ∧
                    (At ((0 : Int) ≤ nodes ∧ nodes ≤ nodes ∧ nodes ≤ (1000000000 : Int)) ∧
                        (True ∧
                            ((True ∧ nodes = nodes) ∧
                                ((0 : Nat) = (0 : Nat) ∧ (0 : Nat) = (0 : Nat)) ∧
                                  ((1 : Nat) = (1 : Nat) ∧ (0 : Nat) = (0 : Nat)) ∧ True) ∧
                              ((True ∧
                                    Value.slice none (0 : Nat) (0 : Nat) = Value.slice none (0 : Nat) (0 : Nat) ∧
                                      Value.slice none (0 : Nat) (0 : Nat) = Value.slice none (0 : Nat) (0 : Nat) ∧
                                        True) ∧
                                  (True ∧
                                      ((2 : Nat) = (2 : Nat) ∧ Int.toNat nodes = Int.toNat nodes) ∧
                                        ((3 : Nat) = (3 : Nat) ∧ Int.toNat nodes = Int.toNat nodes) ∧ True) ∧
                                    (True ∧
                                        True ∧
                                          List.replicate (Int.toNat nodes) [] = List.replicate (Int.toNat nodes) nilI) ∧
                                      (True ∧
                                          IntKind.i64 = IntKind.i64 ∧
                                            List.replicate (Int.toNat nodes) (0 : Int) =
                                              List.replicate (Int.toNat nodes) (0 : Int)) ∧
                                        True) ∧
                                True) ∧
                          True) ∧
                      True) ∧
                  True) ∧
              True) ∧
        (True ∧
            ((True ∧ nodes = nodes) ∧
                ((0 : Nat) = (0 : Nat) ∧ (0 : Nat) = (0 : Nat)) ∧
                  ((1 : Nat) = (1 : Nat) ∧ (0 : Nat) = (0 : Nat)) ∧
                    (True ∧ nodes = nodes) ∧ (True ∧ (0 : Int) = (0 : Int)) ∧ True) ∧
              ((True ∧
                    Value.slice none (0 : Nat) (0 : Nat) = Value.slice none (0 : Nat) (0 : Nat) ∧
                      Value.slice none (0 : Nat) (0 : Nat) = Value.slice none (0 : Nat) (0 : Nat) ∧ True) ∧
                  (True ∧
                      ((2 : Nat) = (2 : Nat) ∧ Int.toNat nodes = Int.toNat nodes) ∧
                        ((3 : Nat) = (3 : Nat) ∧ Int.toNat nodes = Int.toNat nodes) ∧ True) ∧
                    (True ∧
                        True ∧
                          List.replicate (Int.toNat nodes) nilI =
                            ringM nodes (Int.toNat (0 : Int)) ++
                              List.replicate (Int.toNat nodes - Int.toNat (0 : Int)) nilI) ∧
                      (True ∧
                          IntKind.i64 = IntKind.i64 ∧
                            List.replicate (Int.toNat nodes) (0 : Int) = List.replicate (Int.toNat nodes) (0 : Int)) ∧
                        True) ∧
                True) ∧
          At (ixInv (Int.toNat nodes) (0 : Int)) ∧
            ∀ (a : Int),
              ixInv (Int.toNat nodes) a →
                (decide (a < nodes) = true →
                    At (nodes ≠ (0 : Int)) ∧
                      At (nodes ≠ (0 : Int)) ∧
                        ((At ((0 : Int) ≤ a ∧ a < (↑(Int.toNat nodes) : Int)) ∧
                              (At
                                    (Int.toNat a <
                                        List.length
                                          (ringM nodes (Int.toNat a) ++
                                            List.replicate (Int.toNat nodes - Int.toNat a) nilI) ∧
                                      List.length
                                          [Int.tmod (IntKind.wrap IntKind.i64 (a + (1 : Int))) nodes,
                                            Int.tmod
                                              (IntKind.wrap IntKind.i64
                                                (IntKind.wrap IntKind.i64 (a + nodes) - (1 : Int)))
                                              nodes] =
                                        (2 : Nat)) ∧
                                  (True ∧
                                      ((True ∧ nodes = nodes) ∧
                                          ((0 : Nat) = (0 : Nat) ∧ (0 : Nat) = (0 : Nat)) ∧
                                            ((1 : Nat) = (1 : Nat) ∧ (0 : Nat) = (0 : Nat)) ∧
                                              (True ∧ nodes = nodes) ∧
                                                (True ∧
                                                    IntKind.wrap IntKind.i64 (a + (1 : Int)) =
                                                      IntKind.wrap IntKind.i64 (a + (1 : Int))) ∧
                                                  True) ∧
                                        ((True ∧
                                              Value.slice none (0 : Nat) (0 : Nat) =
                                                  Value.slice none (0 : Nat) (0 : Nat) ∧
                                                Value.slice none (0 : Nat) (0 : Nat) =
                                                    Value.slice none (0 : Nat) (0 : Nat) ∧
                                                  True) ∧
                                            (True ∧
                                                ((2 : Nat) = (2 : Nat) ∧ Int.toNat nodes = Int.toNat nodes) ∧
                                                  ((3 : Nat) = (3 : Nat) ∧ Int.toNat nodes = Int.toNat nodes) ∧ True) ∧
                                              (True ∧
                                                  True ∧
                                                    List.set
                                                        (ringM nodes (Int.toNat a) ++
                                                          List.replicate (Int.toNat nodes - Int.toNat a) nilI)
                                                        (Int.toNat a)
                                                        [Int.tmod (IntKind.wrap IntKind.i64 (a + (1 : Int))) nodes,
                                                          Int.tmod
                                                            (IntKind.wrap IntKind.i64
                                                              (IntKind.wrap IntKind.i64 (a + nodes) - (1 : Int)))
                                                            nodes] =
                                                      ringM nodes
                                                          (Int.toNat (IntKind.wrap IntKind.i64 (a + (1 : Int)))) ++
                                                        List.replicate
                                                          (Int.toNat nodes -
                                                            Int.toNat (IntKind.wrap IntKind.i64 (a + (1 : Int))))
                                                          nilI) ∧
                                                (True ∧
                                                    IntKind.i64 = IntKind.i64 ∧
                                                      List.replicate (Int.toNat nodes) (0 : Int) =
                                                        List.replicate (Int.toNat nodes) (0 : Int)) ∧
                                                  True) ∧
                                          True) ∧
                                    At
                                      (ixInv (Int.toNat nodes) (IntKind.wrap IntKind.i64 (a + (1 : Int))) ∧
                                        Int.toNat
                                            ((↑(Int.toNat nodes) : Int) - IntKind.wrap IntKind.i64 (a + (1 : Int))) <
                                          Int.toNat ((↑(Int.toNat nodes) : Int) - a))) ∧
                                True) ∧
                            True) ∧
                          (At ((0 : Int) ≤ a ∧ a < (↑(Int.toNat nodes) : Int)) ∧
                              (At
                                    (Int.toNat a <
                                        List.length
                                          (ringM nodes (Int.toNat a) ++
                                            List.replicate (Int.toNat nodes - Int.toNat a) nilI) ∧
                                      List.length
                                          [Int.tmod (IntKind.wrap IntKind.i64 (a + (1 : Int))) nodes,
                                            Int.tmod
                                              (IntKind.wrap IntKind.i64
                                                (IntKind.wrap IntKind.i64 (a + nodes) - (1 : Int)))
                                              nodes] =
                                        (2 : Nat)) ∧
                                  (True ∧
                                      ((True ∧ nodes = nodes) ∧
                                          ((0 : Nat) = (0 : Nat) ∧ (0 : Nat) = (0 : Nat)) ∧
                                            ((1 : Nat) = (1 : Nat) ∧ (0 : Nat) = (0 : Nat)) ∧
                                              (True ∧ nodes = nodes) ∧
                                                (True ∧
                                                    IntKind.wrap IntKind.i64 (a + (1 : Int)) =
                                                      IntKind.wrap IntKind.i64 (a + (1 : Int))) ∧
                                                  True) ∧
                                        ((True ∧
                                              Value.slice none (0 : Nat) (0 : Nat) =
                                                  Value.slice none (0 : Nat) (0 : Nat) ∧
                                                Value.slice none (0 : Nat) (0 : Nat) =
                                                    Value.slice none (0 : Nat) (0 : Nat) ∧
                                                  True) ∧
                                            (True ∧
                                                ((2 : Nat) = (2 : Nat) ∧ Int.toNat nodes = Int.toNat nodes) ∧
                                                  ((3 : Nat) = (3 : Nat) ∧ Int.toNat nodes = Int.toNat nodes) ∧ True) ∧
                                              (True ∧
                                                  True ∧
                                                    List.set
                                                        (ringM nodes (Int.toNat a) ++
                                                          List.replicate (Int.toNat nodes - Int.toNat a) nilI)
                                                        (Int.toNat a)
                                                        [Int.tmod (IntKind.wrap IntKind.i64 (a + (1 : Int))) nodes,
                                                          Int.tmod
                                                            (IntKind.wrap IntKind.i64
                                                              (IntKind.wrap IntKind.i64 (a + nodes) - (1 : Int)))
                                                            nodes] =
                                                      ringM nodes
                                                          (Int.toNat (IntKind.wrap IntKind.i64 (a + (1 : Int)))) ++
                                                        List.replicate
                                                          (Int.toNat nodes -
                                                            Int.toNat (IntKind.wrap IntKind.i64 (a + (1 : Int))))
                                                          nilI) ∧
                                                (True ∧
                                                    IntKind.i64 = IntKind.i64 ∧
                                                      List.replicate (Int.toNat nodes) (0 : Int) =
                                                        List.replicate (Int.toNat nodes) (0 : Int)) ∧
                                                  True) ∧
                                          True) ∧
                                    At
                                      (ixInv (Int.toNat nodes) (IntKind.wrap IntKind.i64 (a + (1 : Int))) ∧
                                        Int.toNat
                                            ((↑(Int.toNat nodes) : Int) - IntKind.wrap IntKind.i64 (a + (1 : Int))) <
                                          Int.toNat ((↑(Int.toNat nodes) : Int) - a))) ∧
                                True) ∧
                            True) ∧
                  (decide (a < nodes) = false →
                    K (V.tup [V.agg [V.row (2 : Nat) (Int.toNat nodes), V.row (3 : Nat) (Int.toNat nodes)], V.lit true])
                      [{ cs := Cells.vals [V.row (2 : Nat) (Int.toNat nodes), V.row (3 : Nat) (Int.toNat nodes)],
                          elem := 29, kind := Kind.box },
                        { cs := Cells.vals [V.row (2 : Nat) (Int.toNat nodes), V.row (3 : Nat) (Int.toNat nodes)],
                          elem := 29, kind := Kind.box },
                        {
                          cs :=
                            Cells.mat IntKind.i64 (3 : Nat)
                              (ringM nodes (Int.toNat a) ++ List.replicate (Int.toNat nodes - Int.toNat a) nilI),
                          elem := 23, kind := Kind.mat },
                        { cs := Cells.ints IntKind.i64 (List.replicate (Int.toNat nodes) (0 : Int)), elem := 3,
                          kind := Kind.row }]))

end Go.Vi
