/- The conditions, reckoned out by program: texts alone. -/
import Derived.Test.YtllocclgllappaaTVDefs
namespace Go.Vi
set_option linter.unusedVariables false
def VC_spec_tuFew (s : List UInt8) (k : Int) (K : V → Prop) : Prop :=
  At ((↑(List.length s) : Int) ≤ (9223372036854775807 : Int)) ∧
  (askB s k = true →
      At ((2 : Int) ≠ (0 : Int)) ∧
        K
          (V.bool
            (decide
              (IntKind.wrap IntKind.i64 (IntKind.wrap IntKind.i64 (Int.tdiv (↑(List.length s) : Int) (2 : Int)) * k) ≤
                (400 : Int))))) ∧
    (askB s k = false → K (V.lit false))

def VC_impl_turtle_point (x : Int) (y : Int) (w : Int) (K : V → List Blk → Prop) : Prop :=
  At ((0 : Int) ≤ (0 : Int) ∧ (0 : Int) < (↑(3 : Nat) : Int)) ∧
  At ((0 : Int) ≤ (1 : Int) ∧ (1 : Int) < (↑(3 : Nat) : Int)) ∧
    K (V.agg [V.int IntKind.i64 x, V.int IntKind.i64 y])
      [{ cs := Cells.vals [V.int IntKind.i64 x, V.int IntKind.i64 y, V.int IntKind.i64 w], elem := 51,
          kind := Kind.box },
        { cs := Cells.vals [V.int IntKind.i64 x, V.int IntKind.i64 y], elem := 65, kind := Kind.box }]

def VC_spec_tuCorners (s : List UInt8) (k : Int) (K : V → List Blk → Prop) : Prop :=
  At (List.length [(0 : Int), (0 : Int)] = (2 : Nat)) ∧
  (True ∧
      (s = s ∧
          (True ∧ k = k) ∧
            ((0 : Nat) = (0 : Nat) ∧ (1 : Nat) = (1 : Nat) + List.length s / (2 : Nat) * Int.toNat (k - k)) ∧
              ((1 : Nat) = (1 : Nat) ∧ (0 : Nat) = (0 : Nat)) ∧ True) ∧
        ((True ∧
              True ∧
                [[(0 : Int), (0 : Int)]] = [(0 : Int), (0 : Int)] :: trM (repC (Int.toNat (k - k)) (ptS s)) zeroT) ∧
            (True ∧
                (True ∧ (0 : Int) = Tt.x (aftR s (Int.toNat (k - k)))) ∧
                  (True ∧ (0 : Int) = Tt.y (aftR s (Int.toNat (k - k)))) ∧
                    (True ∧ (0 : Int) = Tt.w (aftR s (Int.toNat (k - k)))) ∧ True) ∧
              True) ∧
          True) ∧
    At ((0 : Int) ≤ k ∧ k ≤ k) ∧
      ∀ (a : Int),
        (0 : Int) ≤ a ∧ a ≤ k →
          (decide (a > (0 : Int)) = true →
              (True ∧
                  (s = s ∧
                      (True ∧ a = a) ∧
                        ((0 : Nat) = (0 : Nat) ∧
                            (1 : Nat) + List.length s / (2 : Nat) * Int.toNat (k - a) =
                              (1 : Nat) + List.length s / (2 : Nat) * Int.toNat (k - a) +
                                Int.toNat (0 : Int) / (2 : Nat)) ∧
                          ((1 : Nat) = (1 : Nat) ∧ (0 : Nat) = (0 : Nat)) ∧ (True ∧ (0 : Int) = (0 : Int)) ∧ True) ∧
                    ((True ∧
                          True ∧
                            [(0 : Int), (0 : Int)] :: trM (repC (Int.toNat (k - a)) (ptS s)) zeroT =
                              [(0 : Int), (0 : Int)] :: trM (repC (Int.toNat (k - a)) (ptS s)) zeroT ++
                                trM (ptS (List.take (Int.toNat (0 : Int)) s)) (aftR s (Int.toNat (k - a)))) ∧
                        (True ∧
                            (True ∧
                                Tt.x (aftR s (Int.toNat (k - a))) =
                                  Tt.x (goC (ptS (List.take (Int.toNat (0 : Int)) s)) (aftR s (Int.toNat (k - a))))) ∧
                              (True ∧
                                  Tt.y (aftR s (Int.toNat (k - a))) =
                                    Tt.y (goC (ptS (List.take (Int.toNat (0 : Int)) s)) (aftR s (Int.toNat (k - a))))) ∧
                                (True ∧
                                    Tt.w (aftR s (Int.toNat (k - a))) =
                                      Tt.w
                                        (goC (ptS (List.take (Int.toNat (0 : Int)) s)) (aftR s (Int.toNat (k - a))))) ∧
                                  True) ∧
                          True) ∧
                      True) ∧
                At (evInv s (0 : Int)) ∧
                  ∀ (a_3 : Int),
                    evInv s a_3 →
                      (decide (a_3 < (↑(List.length s) : Int)) = true →
                          At
                              (okT (9000 : Int) (goC (ptS (List.take (Int.toNat a_3) s)) (aftR s (Int.toNat (k - a)))) ∧
                                (0 : Int) ≤ a_3 ∧
                                  a_3 < (↑(List.length s) : Int) ∧
                                    digU (List.getD s (Int.toNat a_3) (0 : UInt8)) = true) ∧
                            At
                                (okT (9000 : Int)
                                    (goT ((↑(UInt8.toNat (List.getD s (Int.toNat a_3) (0 : UInt8))) : Int) - (48 : Int))
                                      (goC (ptS (List.take (Int.toNat a_3) s)) (aftR s (Int.toNat (k - a))))) ∧
                                  (0 : Int) ≤ a_3 ∧
                                    a_3 + (1 : Int) < (↑(List.length s) : Int) ∧ List.length s ≤ (100 : Nat)) ∧
                              At
                                  (List.length
                                        [Tt.x
                                            (tnT
                                              (↑(UInt8.toNat (List.getD s (Int.toNat a_3 + (1 : Nat)) (0 : UInt8))) :
                                                Int)
                                              (goT
                                                ((↑(UInt8.toNat (List.getD s (Int.toNat a_3) (0 : UInt8))) : Int) -
                                                  (48 : Int))
                                                (goC (ptS (List.take (Int.toNat a_3) s))
                                                  (aftR s (Int.toNat (k - a)))))),
                                          Tt.y
                                            (tnT
                                              (↑(UInt8.toNat (List.getD s (Int.toNat a_3 + (1 : Nat)) (0 : UInt8))) :
                                                Int)
                                              (goT
                                                ((↑(UInt8.toNat (List.getD s (Int.toNat a_3) (0 : UInt8))) : Int) -
                                                  (48 : Int))
                                                (goC (ptS (List.take (Int.toNat a_3) s))
                                                  (aftR s (Int.toNat (k - a))))))] =
                                      (2 : Nat) ∧
                                    List.length
                                          ([(0 : Int), (0 : Int)] :: trM (repC (Int.toNat (k - a)) (ptS s)) zeroT ++
                                            trM (ptS (List.take (Int.toNat a_3) s)) (aftR s (Int.toNat (k - a)))) =
                                        (1 : Nat) + List.length s / (2 : Nat) * Int.toNat (k - a) +
                                          Int.toNat a_3 / (2 : Nat) ∧
                                      (1 : Nat) + List.length s / (2 : Nat) * Int.toNat (k - a) +
                                            Int.toNat a_3 / (2 : Nat) +
                                          (1 : Nat) ≤
                                        (1000000000 : Nat)) ∧
                                (True ∧
                                    (s = s ∧
                                        (True ∧ a = a) ∧
                                          ((0 : Nat) = (0 : Nat) ∧
                                              (1 : Nat) + List.length s / (2 : Nat) * Int.toNat (k - a) +
                                                    Int.toNat a_3 / (2 : Nat) +
                                                  (1 : Nat) =
                                                (1 : Nat) + List.length s / (2 : Nat) * Int.toNat (k - a) +
                                                  Int.toNat (IntKind.wrap IntKind.i64 (a_3 + (2 : Int))) / (2 : Nat)) ∧
                                            ((1 : Nat) = (1 : Nat) ∧ (0 : Nat) = (0 : Nat)) ∧
                                              (True ∧
                                                  IntKind.wrap IntKind.i64 (a_3 + (2 : Int)) =
                                                    IntKind.wrap IntKind.i64 (a_3 + (2 : Int))) ∧
                                                True) ∧
                                      ((True ∧
                                            True ∧
                                              [(0 : Int), (0 : Int)] :: trM (repC (Int.toNat (k - a)) (ptS s)) zeroT ++
                                                    trM (ptS (List.take (Int.toNat a_3) s))
                                                      (aftR s (Int.toNat (k - a))) ++
                                                  [[Tt.x
                                                        (tnT
                                                          (↑(UInt8.toNat
                                                                (List.getD s (Int.toNat a_3 + (1 : Nat)) (0 : UInt8))) :
                                                            Int)
                                                          (goT
                                                            ((↑(UInt8.toNat (List.getD s (Int.toNat a_3) (0 : UInt8))) :
                                                                Int) -
                                                              (48 : Int))
                                                            (goC (ptS (List.take (Int.toNat a_3) s))
                                                              (aftR s (Int.toNat (k - a)))))),
                                                      Tt.y
                                                        (tnT
                                                          (↑(UInt8.toNat
                                                                (List.getD s (Int.toNat a_3 + (1 : Nat)) (0 : UInt8))) :
                                                            Int)
                                                          (goT
                                                            ((↑(UInt8.toNat (List.getD s (Int.toNat a_3) (0 : UInt8))) :
                                                                Int) -
                                                              (48 : Int))
                                                            (goC (ptS (List.take (Int.toNat a_3) s))
                                                              (aftR s (Int.toNat (k - a))))))]] =
                                                [(0 : Int), (0 : Int)] ::
                                                    trM (repC (Int.toNat (k - a)) (ptS s)) zeroT ++
                                                  trM
                                                    (ptS
                                                      (List.take
                                                        (Int.toNat (IntKind.wrap IntKind.i64 (a_3 + (2 : Int)))) s))
                                                    (aftR s (Int.toNat (k - a)))) ∧
                                          (True ∧
                                              (True ∧
                                                  Tt.x
                                                      (tnT
                                                        (↑(UInt8.toNat
                                                              (List.getD s (Int.toNat a_3 + (1 : Nat)) (0 : UInt8))) :
                                                          Int)
                                                        (goT
                                                          ((↑(UInt8.toNat (List.getD s (Int.toNat a_3) (0 : UInt8))) :
                                                              Int) -
                                                            (48 : Int))
                                                          (goC (ptS (List.take (Int.toNat a_3) s))
                                                            (aftR s (Int.toNat (k - a)))))) =
                                                    Tt.x
                                                      (goC
                                                        (ptS
                                                          (List.take
                                                            (Int.toNat (IntKind.wrap IntKind.i64 (a_3 + (2 : Int)))) s))
                                                        (aftR s (Int.toNat (k - a))))) ∧
                                                (True ∧
                                                    Tt.y
                                                        (tnT
                                                          (↑(UInt8.toNat
                                                                (List.getD s (Int.toNat a_3 + (1 : Nat)) (0 : UInt8))) :
                                                            Int)
                                                          (goT
                                                            ((↑(UInt8.toNat (List.getD s (Int.toNat a_3) (0 : UInt8))) :
                                                                Int) -
                                                              (48 : Int))
                                                            (goC (ptS (List.take (Int.toNat a_3) s))
                                                              (aftR s (Int.toNat (k - a)))))) =
                                                      Tt.y
                                                        (goC
                                                          (ptS
                                                            (List.take
                                                              (Int.toNat (IntKind.wrap IntKind.i64 (a_3 + (2 : Int))))
                                                              s))
                                                          (aftR s (Int.toNat (k - a))))) ∧
                                                  (True ∧
                                                      Tt.w
                                                          (tnT
                                                            (↑(UInt8.toNat
                                                                  (List.getD s (Int.toNat a_3 + (1 : Nat))
                                                                    (0 : UInt8))) :
                                                              Int)
                                                            (goT
                                                              ((↑(UInt8.toNat
                                                                      (List.getD s (Int.toNat a_3) (0 : UInt8))) :
                                                                  Int) -
                                                                (48 : Int))
                                                              (goC (ptS (List.take (Int.toNat a_3) s))
                                                                (aftR s (Int.toNat (k - a)))))) =
                                                        Tt.w
                                                          (goC
                                                            (ptS
                                                              (List.take
                                                                (Int.toNat (IntKind.wrap IntKind.i64 (a_3 + (2 : Int))))
                                                                s))
                                                            (aftR s (Int.toNat (k - a))))) ∧
                                                    True) ∧
                                            True) ∧
                                        True) ∧
                                  At
                                    (evInv s (IntKind.wrap IntKind.i64 (a_3 + (2 : Int))) ∧
                                      Int.toNat
                                          ((↑(List.length s) : Int) - IntKind.wrap IntKind.i64 (a_3 + (2 : Int))) <
                                        Int.toNat ((↑(List.length s) : Int) - a_3))) ∧
                        (decide (a_3 < (↑(List.length s) : Int)) = false →
                          (True ∧
                              (s = s ∧
                                  (True ∧
                                      IntKind.wrap IntKind.i64 (a - (1 : Int)) =
                                        IntKind.wrap IntKind.i64 (a - (1 : Int))) ∧
                                    ((0 : Nat) = (0 : Nat) ∧
                                        (1 : Nat) + List.length s / (2 : Nat) * Int.toNat (k - a) +
                                            Int.toNat a_3 / (2 : Nat) =
                                          (1 : Nat) +
                                            List.length s / (2 : Nat) *
                                              Int.toNat (k - IntKind.wrap IntKind.i64 (a - (1 : Int)))) ∧
                                      ((1 : Nat) = (1 : Nat) ∧ (0 : Nat) = (0 : Nat)) ∧ True) ∧
                                ((True ∧
                                      True ∧
                                        [(0 : Int), (0 : Int)] :: trM (repC (Int.toNat (k - a)) (ptS s)) zeroT ++
                                            trM (ptS (List.take (Int.toNat a_3) s)) (aftR s (Int.toNat (k - a))) =
                                          [(0 : Int), (0 : Int)] ::
                                            trM
                                              (repC (Int.toNat (k - IntKind.wrap IntKind.i64 (a - (1 : Int)))) (ptS s))
                                              zeroT) ∧
                                    (True ∧
                                        (True ∧
                                            Tt.x
                                                (goC (ptS (List.take (Int.toNat a_3) s)) (aftR s (Int.toNat (k - a)))) =
                                              Tt.x
                                                (aftR s (Int.toNat (k - IntKind.wrap IntKind.i64 (a - (1 : Int)))))) ∧
                                          (True ∧
                                              Tt.y
                                                  (goC (ptS (List.take (Int.toNat a_3) s))
                                                    (aftR s (Int.toNat (k - a)))) =
                                                Tt.y
                                                  (aftR s (Int.toNat (k - IntKind.wrap IntKind.i64 (a - (1 : Int)))))) ∧
                                            (True ∧
                                                Tt.w
                                                    (goC (ptS (List.take (Int.toNat a_3) s))
                                                      (aftR s (Int.toNat (k - a)))) =
                                                  Tt.w
                                                    (aftR s
                                                      (Int.toNat (k - IntKind.wrap IntKind.i64 (a - (1 : Int)))))) ∧
                                              True) ∧
                                      True) ∧
                                  True) ∧
                            At
                              (((0 : Int) ≤ IntKind.wrap IntKind.i64 (a - (1 : Int)) ∧
                                  IntKind.wrap IntKind.i64 (a - (1 : Int)) ≤ k) ∧
                                Int.toNat (IntKind.wrap IntKind.i64 (a - (1 : Int))) < Int.toNat a))) ∧
            (decide (a > (0 : Int)) = false →
              K (V.row (0 : Nat) ((1 : Nat) + List.length s / (2 : Nat) * Int.toNat (k - a)))
                [{
                    cs :=
                      Cells.mat IntKind.i64 (3 : Nat)
                        ([(0 : Int), (0 : Int)] :: trM (repC (Int.toNat (k - a)) (ptS s)) zeroT),
                    elem := 34, kind := Kind.mat },
                  {
                    cs :=
                      Cells.vals
                        [V.int IntKind.i64 (Tt.x (aftR s (Int.toNat (k - a)))),
                          V.int IntKind.i64 (Tt.y (aftR s (Int.toNat (k - a)))),
                          V.int IntKind.i64 (Tt.w (aftR s (Int.toNat (k - a))))],
                    elem := 45, kind := Kind.box }])

def VC_spec_CornersAfter (s : List UInt8) (k : Int) (K : V → List Blk → Prop) : Prop :=
  At ((↑(List.length s) : Int) ≤ (9223372036854775807 : Int)) ∧
  ((!fewB s k) = true → K (V.tup [V.raw (Value.slice none (0 : Nat) (0 : Nat)), V.lit false]) []) ∧
    ((!fewB s k) = false →
      At (fewB s k = true) ∧
        K (V.tup [V.row (0 : Nat) (repN s k + (1 : Nat)), V.lit true])
          [{ cs := Cells.mat IntKind.i64 (3 : Nat) (cnM (repS s k) (repN s k + (1 : Nat))), elem := 34,
              kind := Kind.mat }])

def VC_impl_cornersOf (s : List UInt8) (k : Int) (K : V → List Blk → Prop) : Prop :=
  At ((↑(List.length s) : Int) ≤ (9223372036854775807 : Int)) ∧
  ((!askB s k) = true →
      K (V.tup [V.raw (Value.slice none (0 : Nat) (0 : Nat)), V.lit false])
        [{ cs := Cells.recs [Sh.int IntKind.i64, Sh.int IntKind.u8] (repS s k), elem := 57,
            kind := Kind.rows (2 : Nat) }]) ∧
    ((!askB s k) = false →
      (decide ((↑(repN s k) : Int) > (400 : Int)) = true →
          K (V.tup [V.raw (Value.slice none (0 : Nat) (0 : Nat)), V.lit false])
            [{ cs := Cells.recs [Sh.int IntKind.i64, Sh.int IntKind.u8] (repS s k), elem := 57,
                kind := Kind.rows (2 : Nat) }]) ∧
        (decide ((↑(repN s k) : Int) > (400 : Int)) = false →
          At
              ((0 : Int) ≤ (0 : Int) ∧
                (0 : Int) ≤ IntKind.wrap IntKind.i64 ((↑(repN s k) : Int) + (1 : Int)) ∧
                  IntKind.wrap IntKind.i64 ((↑(repN s k) : Int) + (1 : Int)) ≤ (1000000000 : Int)) ∧
            At
                (List.length (repS s k) = repN s k * (2 : Nat) ∧
                  repN s k ≤ (900 : Nat) ∧
                    okC (repS s k) ∧
                      (1 : Int) ≤ (1 : Int) ∧ (1 : Int) ≤ (9 : Int) ∧ repN s k % Int.toNat (1 : Int) = (0 : Nat)) ∧
              (True ∧
                  (((0 : Nat) = (0 : Nat) ∧ (0 : Nat) = (0 : Nat)) ∧
                      ((1 : Nat) = (1 : Nat) ∧
                          repN s k / Int.toNat (1 : Int) + (1 : Nat) = repN s k / Int.toNat (1 : Int) + (1 : Nat)) ∧
                        (True ∧
                            (↑(repN s k / Int.toNat (1 : Int) + (1 : Nat)) : Int) =
                              (↑(repN s k / Int.toNat (1 : Int) + (1 : Nat)) : Int)) ∧
                          (True ∧ (0 : Int) = (0 : Int)) ∧ True) ∧
                    ((True ∧
                          IntKind.i64 = IntKind.i64 ∧
                            List.replicate (Int.toNat (0 : Int) * (2 : Nat)) (0 : Int) =
                              cnF (repS s k) (Int.toNat (0 : Int))) ∧
                        (True ∧
                            IntKind.i64 = IntKind.i64 ∧
                              hlC (repS s k) (Int.toNat (1 : Int)) (repN s k / Int.toNat (1 : Int) + (1 : Nat)) =
                                hlC (repS s k) (1 : Nat) (repN s k / Int.toNat (1 : Int) + (1 : Nat))) ∧
                          True) ∧
                      True) ∧
                At (ixN (repN s k / Int.toNat (1 : Int) + (1 : Nat)) (0 : Int)) ∧
                  ∀ (a : Int),
                    ixN (repN s k / Int.toNat (1 : Int) + (1 : Nat)) a →
                      (decide (a < (↑(repN s k / Int.toNat (1 : Int) + (1 : Nat)) : Int)) = true →
                          At ((0 : Int) ≤ a ∧ a < (↑(repN s k / Int.toNat (1 : Int) + (1 : Nat)) : Int)) ∧
                            At
                                (Int.toNat a * (3 : Nat) + (3 : Nat) ≤
                                  List.length (hlC (repS s k) (1 : Nat) (repN s k / Int.toNat (1 : Int) + (1 : Nat)))) ∧
                              At True ∧
                                At
                                    ((List.length (cnF (repS s k) (Int.toNat a)) = Int.toNat a * (2 : Nat) ∧
                                        (1 : Nat) * (2 : Nat) ≤
                                          List.length
                                            [List.getD
                                                (hlC (repS s k) (1 : Nat) (repN s k / Int.toNat (1 : Int) + (1 : Nat)))
                                                (Int.toNat a * (3 : Nat)) (0 : Int),
                                              List.getD
                                                (hlC (repS s k) (1 : Nat) (repN s k / Int.toNat (1 : Int) + (1 : Nat)))
                                                (Int.toNat a * (3 : Nat) + (1 : Nat)) (0 : Int)]) ∧
                                      (0 : Nat) < (1 : Nat) ∧ Int.toNat a + (1 : Nat) ≤ (1000000000 : Nat)) ∧
                                  (True ∧
                                      (((0 : Nat) = (0 : Nat) ∧
                                            Int.toNat a + (1 : Nat) =
                                              Int.toNat (IntKind.wrap IntKind.i64 (a + (1 : Int)))) ∧
                                          ((1 : Nat) = (1 : Nat) ∧
                                              repN s k / Int.toNat (1 : Int) + (1 : Nat) =
                                                repN s k / Int.toNat (1 : Int) + (1 : Nat)) ∧
                                            (True ∧
                                                (↑(repN s k / Int.toNat (1 : Int) + (1 : Nat)) : Int) =
                                                  (↑(repN s k / Int.toNat (1 : Int) + (1 : Nat)) : Int)) ∧
                                              (True ∧
                                                  IntKind.wrap IntKind.i64 (a + (1 : Int)) =
                                                    IntKind.wrap IntKind.i64 (a + (1 : Int))) ∧
                                                True) ∧
                                        ((True ∧
                                              IntKind.i64 = IntKind.i64 ∧
                                                cnF (repS s k) (Int.toNat a) ++
                                                    List.take ((1 : Nat) * (2 : Nat))
                                                      [List.getD
                                                          (hlC (repS s k) (1 : Nat)
                                                            (repN s k / Int.toNat (1 : Int) + (1 : Nat)))
                                                          (Int.toNat a * (3 : Nat)) (0 : Int),
                                                        List.getD
                                                          (hlC (repS s k) (1 : Nat)
                                                            (repN s k / Int.toNat (1 : Int) + (1 : Nat)))
                                                          (Int.toNat a * (3 : Nat) + (1 : Nat)) (0 : Int)] =
                                                  cnF (repS s k)
                                                    (Int.toNat (IntKind.wrap IntKind.i64 (a + (1 : Int))))) ∧
                                            (True ∧
                                                IntKind.i64 = IntKind.i64 ∧
                                                  hlC (repS s k) (1 : Nat)
                                                      (repN s k / Int.toNat (1 : Int) + (1 : Nat)) =
                                                    hlC (repS s k) (1 : Nat)
                                                      (repN s k / Int.toNat (1 : Int) + (1 : Nat))) ∧
                                              True) ∧
                                          True) ∧
                                    At
                                      (ixN (repN s k / Int.toNat (1 : Int) + (1 : Nat))
                                          (IntKind.wrap IntKind.i64 (a + (1 : Int))) ∧
                                        Int.toNat
                                            ((↑(repN s k / Int.toNat (1 : Int) + (1 : Nat)) : Int) -
                                              IntKind.wrap IntKind.i64 (a + (1 : Int))) <
                                          Int.toNat ((↑(repN s k / Int.toNat (1 : Int) + (1 : Nat)) : Int) - a))) ∧
                        (decide (a < (↑(repN s k / Int.toNat (1 : Int) + (1 : Nat)) : Int)) = false →
                          K (V.tup [V.row (0 : Nat) (Int.toNat a), V.lit true])
                            [{ cs := Cells.ints IntKind.i64 (cnF (repS s k) (Int.toNat a)), elem := 65,
                                kind := Kind.rows (2 : Nat) },
                              {
                                cs :=
                                  Cells.ints IntKind.i64
                                    (hlC (repS s k) (1 : Nat) (repN s k / Int.toNat (1 : Int) + (1 : Nat))),
                                elem := 51, kind := Kind.rows (3 : Nat) }])))

def VC_impl_CornersAfter (s : List UInt8) (k : Int) (K : V → List Blk → Prop) : Prop :=
  At ((↑(List.length s) : Int) ≤ (9223372036854775807 : Int)) ∧
  ((!fewB s k) = true →
      K (V.tup [V.raw (Value.slice none (0 : Nat) (0 : Nat)), V.lit false])
        [{ cs := Cells.ints IntKind.i64 (cfR s k), elem := 65, kind := Kind.rows (2 : Nat) }]) ∧
    ((!fewB s k) = false →
      At ((0 : Int) ≤ (0 : Int) ∧ (0 : Int) ≤ (↑(cnN s k) : Int) ∧ (↑(cnN s k) : Int) ≤ (1000000000 : Int)) ∧
        (True ∧
            (((0 : Nat) = (0 : Nat) ∧ (0 : Nat) = (0 : Nat)) ∧
                ((1 : Nat) = (1 : Nat) ∧ cnN s k = cnN s k) ∧
                  (True ∧ (↑(cnN s k) : Int) = (↑(cnN s k) : Int)) ∧ (True ∧ (0 : Int) = (0 : Int)) ∧ True) ∧
              ((True ∧ True ∧ List.replicate (Int.toNat (0 : Int)) [] = unF (cfR s k) (Int.toNat (0 : Int))) ∧
                  (True ∧ IntKind.i64 = IntKind.i64 ∧ cfR s k = cfR s k) ∧ True) ∧
                True) ∧
          At (ixN (cnN s k) (0 : Int)) ∧
            ∀ (a : Int),
              ixN (cnN s k) a →
                (decide (a < (↑(cnN s k) : Int)) = true →
                    At ((0 : Int) ≤ a ∧ a < (↑(cnN s k) : Int)) ∧
                      At (Int.toNat a * (2 : Nat) + (2 : Nat) ≤ List.length (cfR s k)) ∧
                        At
                            (List.length
                                  [List.getD (cfR s k) (Int.toNat a * (2 : Nat)) (0 : Int),
                                    List.getD (cfR s k) (Int.toNat a * (2 : Nat) + (1 : Nat)) (0 : Int)] =
                                (2 : Nat) ∧
                              List.length (unF (cfR s k) (Int.toNat a)) = Int.toNat a ∧
                                Int.toNat a + (1 : Nat) ≤ (1000000000 : Nat)) ∧
                          (True ∧
                              (((0 : Nat) = (0 : Nat) ∧
                                    Int.toNat a + (1 : Nat) = Int.toNat (IntKind.wrap IntKind.i64 (a + (1 : Int)))) ∧
                                  ((1 : Nat) = (1 : Nat) ∧ cnN s k = cnN s k) ∧
                                    (True ∧ (↑(cnN s k) : Int) = (↑(cnN s k) : Int)) ∧
                                      (True ∧
                                          IntKind.wrap IntKind.i64 (a + (1 : Int)) =
                                            IntKind.wrap IntKind.i64 (a + (1 : Int))) ∧
                                        True) ∧
                                ((True ∧
                                      True ∧
                                        unF (cfR s k) (Int.toNat a) ++
                                            [[List.getD (cfR s k) (Int.toNat a * (2 : Nat)) (0 : Int),
                                                List.getD (cfR s k) (Int.toNat a * (2 : Nat) + (1 : Nat)) (0 : Int)]] =
                                          unF (cfR s k) (Int.toNat (IntKind.wrap IntKind.i64 (a + (1 : Int))))) ∧
                                    (True ∧ IntKind.i64 = IntKind.i64 ∧ cfR s k = cfR s k) ∧ True) ∧
                                  True) ∧
                            At
                              (ixN (cnN s k) (IntKind.wrap IntKind.i64 (a + (1 : Int))) ∧
                                Int.toNat ((↑(cnN s k) : Int) - IntKind.wrap IntKind.i64 (a + (1 : Int))) <
                                  Int.toNat ((↑(cnN s k) : Int) - a))) ∧
                  (decide (a < (↑(cnN s k) : Int)) = false →
                    K (V.tup [V.row (0 : Nat) (Int.toNat a), V.lit true])
                      [{ cs := Cells.mat IntKind.i64 (3 : Nat) (unF (cfR s k) (Int.toNat a)), elem := 34,
                          kind := Kind.mat },
                        { cs := Cells.ints IntKind.i64 (cfR s k), elem := 65, kind := Kind.rows (2 : Nat) }]))

def VC_spec_l1Least (a : Int) (b : Int) (K : V → Prop) : Prop :=
  (decide (a < b) = true → K (V.int IntKind.i64 a)) ∧ (decide (a < b) = false → K (V.int IntKind.i64 b))

def VC_spec_l1Most (a : Int) (b : Int) (K : V → Prop) : Prop :=
  (decide (a > b) = true → K (V.int IntKind.i64 a)) ∧ (decide (a > b) = false → K (V.int IntKind.i64 b))

def VC_spec_tuBox (n : Nat) (l : List (List Int)) (K : V → List Blk → Prop) : Prop :=
  True ∧
  At ((0 : Int) ≤ (0 : Int) ∧ (0 : Int) < (↑n : Int)) ∧
    At (Int.toNat (0 : Int) < List.length l) ∧
      At ((0 : Int) ≤ (0 : Int) ∧ (0 : Int) < (↑(List.length (List.getD l (Int.toNat (0 : Int)) [])) : Int)) ∧
        At
            (Int.toNat (0 : Int) < List.length l ∧
              Int.toNat (0 : Int) < List.length (List.getD l (Int.toNat (0 : Int)) [])) ∧
          At ((0 : Int) ≤ (0 : Int) ∧ (0 : Int) < (↑n : Int)) ∧
            At (Int.toNat (0 : Int) < List.length l) ∧
              At ((0 : Int) ≤ (0 : Int) ∧ (0 : Int) < (↑(List.length (List.getD l (Int.toNat (0 : Int)) [])) : Int)) ∧
                At
                    (Int.toNat (0 : Int) < List.length l ∧
                      Int.toNat (0 : Int) < List.length (List.getD l (Int.toNat (0 : Int)) [])) ∧
                  At ((0 : Int) ≤ (0 : Int) ∧ (0 : Int) < (↑n : Int)) ∧
                    At (Int.toNat (0 : Int) < List.length l) ∧
                      At
                          ((0 : Int) ≤ (1 : Int) ∧
                            (1 : Int) < (↑(List.length (List.getD l (Int.toNat (0 : Int)) [])) : Int)) ∧
                        At
                            (Int.toNat (0 : Int) < List.length l ∧
                              Int.toNat (1 : Int) < List.length (List.getD l (Int.toNat (0 : Int)) [])) ∧
                          At ((0 : Int) ≤ (0 : Int) ∧ (0 : Int) < (↑n : Int)) ∧
                            At (Int.toNat (0 : Int) < List.length l) ∧
                              At
                                  ((0 : Int) ≤ (1 : Int) ∧
                                    (1 : Int) < (↑(List.length (List.getD l (Int.toNat (0 : Int)) [])) : Int)) ∧
                                At
                                    (Int.toNat (0 : Int) < List.length l ∧
                                      Int.toNat (1 : Int) < List.length (List.getD l (Int.toNat (0 : Int)) [])) ∧
                                  (True ∧
                                      (((1 : Nat) = (1 : Nat) ∧ (4 : Nat) = (4 : Nat)) ∧
                                          ((0 : Nat) = (0 : Nat) ∧ n = n) ∧
                                            (True ∧ (↑n : Int) = (↑n : Int)) ∧ (True ∧ (0 : Int) = (0 : Int)) ∧ True) ∧
                                        ((True ∧ True ∧ l = l) ∧
                                            (True ∧
                                                IntKind.i64 = IntKind.i64 ∧
                                                  [List.getD (List.getD l (Int.toNat (0 : Int)) [])
                                                        (Int.toNat (0 : Int)) (0 : Int),
                                                      List.getD (List.getD l (Int.toNat (0 : Int)) [])
                                                        (Int.toNat (0 : Int)) (0 : Int),
                                                      List.getD (List.getD l (Int.toNat (0 : Int)) [])
                                                        (Int.toNat (1 : Int)) (0 : Int),
                                                      List.getD (List.getD l (Int.toNat (0 : Int)) [])
                                                        (Int.toNat (1 : Int)) (0 : Int)] =
                                                    bx4 (bxM l (Int.toNat (0 : Int)))) ∧
                                              True) ∧
                                          True) ∧
                                    At (ixN n (0 : Int)) ∧
                                      ∀ (a : Int),
                                        ixN n a →
                                          (decide (a < (↑n : Int)) = true →
                                              At ((0 : Int) ≤ a ∧ a < (↑n : Int)) ∧
                                                At (Int.toNat a < List.length l) ∧
                                                  True ∧
                                                    At ((0 : Int) ≤ (0 : Int) ∧ (0 : Int) < (↑(4 : Nat) : Int)) ∧
                                                      At
                                                          (Int.toNat (0 : Int) <
                                                            List.length (bx4 (bxM l (Int.toNat a)))) ∧
                                                        At
                                                            ((0 : Int) ≤ (0 : Int) ∧
                                                              (0 : Int) <
                                                                (↑(List.length (List.getD l (Int.toNat a) [])) : Int)) ∧
                                                          At
                                                              (Int.toNat a < List.length l ∧
                                                                Int.toNat (0 : Int) <
                                                                  List.length (List.getD l (Int.toNat a) [])) ∧
                                                            At True ∧
                                                              At
                                                                  ((0 : Int) ≤ (1 : Int) ∧
                                                                    (1 : Int) < (↑(4 : Nat) : Int)) ∧
                                                                At
                                                                    (Int.toNat (1 : Int) <
                                                                      List.length (bx4 (bxM l (Int.toNat a)))) ∧
                                                                  At
                                                                      ((0 : Int) ≤ (0 : Int) ∧
                                                                        (0 : Int) <
                                                                          (↑(List.length
                                                                                (List.getD l (Int.toNat a) [])) :
                                                                            Int)) ∧
                                                                    At
                                                                        (Int.toNat a < List.length l ∧
                                                                          Int.toNat (0 : Int) <
                                                                            List.length
                                                                              (List.getD l (Int.toNat a) [])) ∧
                                                                      At True ∧
                                                                        At
                                                                            ((0 : Int) ≤ (2 : Int) ∧
                                                                              (2 : Int) < (↑(4 : Nat) : Int)) ∧
                                                                          At
                                                                              (Int.toNat (2 : Int) <
                                                                                List.length
                                                                                  (bx4 (bxM l (Int.toNat a)))) ∧
                                                                            At
                                                                                ((0 : Int) ≤ (1 : Int) ∧
                                                                                  (1 : Int) <
                                                                                    (↑(List.length
                                                                                          (List.getD l (Int.toNat a)
                                                                                            [])) :
                                                                                      Int)) ∧
                                                                              At
                                                                                  (Int.toNat a < List.length l ∧
                                                                                    Int.toNat (1 : Int) <
                                                                                      List.length
                                                                                        (List.getD l (Int.toNat a)
                                                                                          [])) ∧
                                                                                At True ∧
                                                                                  At
                                                                                      ((0 : Int) ≤ (3 : Int) ∧
                                                                                        (3 : Int) <
                                                                                          (↑(4 : Nat) : Int)) ∧
                                                                                    At
                                                                                        (Int.toNat (3 : Int) <
                                                                                          List.length
                                                                                            (bx4
                                                                                              (bxM l (Int.toNat a)))) ∧
                                                                                      At
                                                                                          ((0 : Int) ≤ (1 : Int) ∧
                                                                                            (1 : Int) <
                                                                                              (↑(List.length
                                                                                                    (List.getD l
                                                                                                      (Int.toNat a)
                                                                                                      [])) :
                                                                                                Int)) ∧
                                                                                        At
                                                                                            (Int.toNat a <
                                                                                                List.length l ∧
                                                                                              Int.toNat (1 : Int) <
                                                                                                List.length
                                                                                                  (List.getD l
                                                                                                    (Int.toNat a) [])) ∧
                                                                                          At True ∧
                                                                                            (True ∧
                                                                                                (((1 : Nat) =
                                                                                                        (1 : Nat) ∧
                                                                                                      (4 : Nat) =
                                                                                                        (4 : Nat)) ∧
                                                                                                    ((0 : Nat) =
                                                                                                          (0 : Nat) ∧
                                                                                                        n = n) ∧
                                                                                                      (True ∧
                                                                                                          (↑n : Int) =
                                                                                                            (↑n :
                                                                                                              Int)) ∧
                                                                                                        (True ∧
                                                                                                            IntKind.wrap
                                                                                                                IntKind.i64
                                                                                                                (a +
                                                                                                                  (1 :
                                                                                                                    Int)) =
                                                                                                              IntKind.wrap
                                                                                                                IntKind.i64
                                                                                                                (a +
                                                                                                                  (1 :
                                                                                                                    Int))) ∧
                                                                                                          True) ∧
                                                                                                  ((True ∧
                                                                                                        True ∧ l = l) ∧
                                                                                                      (True ∧
                                                                                                          IntKind.i64 =
                                                                                                              IntKind.i64 ∧
                                                                                                            [leI
                                                                                                                  (List.getD
                                                                                                                    (bx4
                                                                                                                      (bxM
                                                                                                                        l
                                                                                                                        (Int.toNat
                                                                                                                          a)))
                                                                                                                    (Int.toNat
                                                                                                                      (0 :
                                                                                                                        Int))
                                                                                                                    (0 :
                                                                                                                      Int))
                                                                                                                  (List.getD
                                                                                                                    (List.getD
                                                                                                                      l
                                                                                                                      (Int.toNat
                                                                                                                        a)
                                                                                                                      [])
                                                                                                                    (Int.toNat
                                                                                                                      (0 :
                                                                                                                        Int))
                                                                                                                    (0 :
                                                                                                                      Int)),
                                                                                                                moI
                                                                                                                  (List.getD
                                                                                                                    (bx4
                                                                                                                      (bxM
                                                                                                                        l
                                                                                                                        (Int.toNat
                                                                                                                          a)))
                                                                                                                    (Int.toNat
                                                                                                                      (1 :
                                                                                                                        Int))
                                                                                                                    (0 :
                                                                                                                      Int))
                                                                                                                  (List.getD
                                                                                                                    (List.getD
                                                                                                                      l
                                                                                                                      (Int.toNat
                                                                                                                        a)
                                                                                                                      [])
                                                                                                                    (Int.toNat
                                                                                                                      (0 :
                                                                                                                        Int))
                                                                                                                    (0 :
                                                                                                                      Int)),
                                                                                                                leI
                                                                                                                  (List.getD
                                                                                                                    (bx4
                                                                                                                      (bxM
                                                                                                                        l
                                                                                                                        (Int.toNat
                                                                                                                          a)))
                                                                                                                    (Int.toNat
                                                                                                                      (2 :
                                                                                                                        Int))
                                                                                                                    (0 :
                                                                                                                      Int))
                                                                                                                  (List.getD
                                                                                                                    (List.getD
                                                                                                                      l
                                                                                                                      (Int.toNat
                                                                                                                        a)
                                                                                                                      [])
                                                                                                                    (Int.toNat
                                                                                                                      (1 :
                                                                                                                        Int))
                                                                                                                    (0 :
                                                                                                                      Int)),
                                                                                                                moI
                                                                                                                  (List.getD
                                                                                                                    (bx4
                                                                                                                      (bxM
                                                                                                                        l
                                                                                                                        (Int.toNat
                                                                                                                          a)))
                                                                                                                    (Int.toNat
                                                                                                                      (3 :
                                                                                                                        Int))
                                                                                                                    (0 :
                                                                                                                      Int))
                                                                                                                  (List.getD
                                                                                                                    (List.getD
                                                                                                                      l
                                                                                                                      (Int.toNat
                                                                                                                        a)
                                                                                                                      [])
                                                                                                                    (Int.toNat
                                                                                                                      (1 :
                                                                                                                        Int))
                                                                                                                    (0 :
                                                                                                                      Int))] =
                                                                                                              bx4
                                                                                                                (bxM l
                                                                                                                  (Int.toNat
                                                                                                                    (IntKind.wrap
                                                                                                                      IntKind.i64
                                                                                                                      (a +
                                                                                                                        (1 :
                                                                                                                          Int)))))) ∧
                                                                                                        True) ∧
                                                                                                    True) ∧
                                                                                              At
                                                                                                (ixN n
                                                                                                    (IntKind.wrap
                                                                                                      IntKind.i64
                                                                                                      (a + (1 : Int))) ∧
                                                                                                  Int.toNat
                                                                                                      ((↑n : Int) -
                                                                                                        IntKind.wrap
                                                                                                          IntKind.i64
                                                                                                          (a +
                                                                                                            (1 :
                                                                                                              Int))) <
                                                                                                    Int.toNat
                                                                                                      ((↑n : Int) -
                                                                                                        a))) ∧
                                            (decide (a < (↑n : Int)) = false →
                                              K (V.row (1 : Nat) (4 : Nat))
                                                [{ cs := Cells.mat IntKind.i64 (3 : Nat) l, elem := 34,
                                                    kind := Kind.mat },
                                                  { cs := Cells.ints IntKind.i64 (bx4 (bxM l (Int.toNat a))),
                                                    elem := 3, kind := Kind.row }])

def VC_impl_boxOf (n : Nat) (f : List Int) (K : V → List Blk → Prop) : Prop := At ((0 : Int) ≤ (0 : Int) ∧ (0 : Int) < (↑n : Int)) ∧ At (Int.toNat (0 : Int) * (2 : Nat) + (2 : Nat) 
  ≤ List.length f) ∧ (True ∧ (((1 : Nat) = (1 : Nat) ∧ (4 : Nat) = (4 : Nat)) ∧ ((0 : Nat) = (0 : Nat) ∧ n = n) ∧ (True ∧ (↑n : Int) = (↑n : Int)) ∧ (True ∧ (0 : Int) = (0 : Int)) ∧ True) 
  ∧ ((True ∧ IntKind.i64 = IntKind.i64 ∧ f = f) ∧ (True ∧ IntKind.i64 = IntKind.i64 ∧ [List.getD f (Int.toNat (0 : Int) * (2 : Nat)) (0 : Int), List.getD f (Int.toNat (0 : Int) * (2 : 
  Nat)) (0 : Int), List.getD f (Int.toNat (0 : Int) * (2 : Nat) + (1 : Nat)) (0 : Int), List.getD f (Int.toNat (0 : Int) * (2 : Nat) + (1 : Nat)) (0 : Int)] = bx4 (bxF f (Int.toNat (0 
  : Int)))) ∧ True) ∧ True) ∧ At (ixN n (0 : Int)) ∧ ∀ (a : Int), ixN n a → (decide (a < (↑n : Int)) = true → At ((0 : Int) ≤ a ∧ a < (↑n : Int)) ∧ At (Int.toNat a * (2 : Nat) + (2 : 
  Nat) ≤ List.length f) ∧ (At ((0 : Int) ≤ (0 : Int) ∧ (0 : Int) < (↑(4 : Nat) : Int)) ∧ At (Int.toNat (0 : Int) < List.length (bx4 (bxF f (Int.toNat a)))) ∧ At ((0 : Int) ≤ (1 : Int) 
  ∧ (1 : Int) < (↑(4 : Nat) : Int)) ∧ At (Int.toNat (1 : Int) < List.length (bx4 (bxF f (Int.toNat a)))) ∧ At ((0 : Int) ≤ (0 : Int) ∧ (0 : Int) < (↑(4 : Nat) : Int)) ∧ ((At (Int.toNat 
  (0 : Int) < List.length (bx4 (bxF f (Int.toNat a)))) ∧ At ((0 : Int) ≤ (1 : Int) ∧ (1 : Int) < (↑(4 : Nat) : Int)) ∧ (At (Int.toNat (1 : Int) < List.length (List.set (bx4 (bxF f (Int.toNat 
  a))) (Int.toNat (0 : Int)) (if List.getD f (Int.toNat a * (2 : Nat)) (0 : Int) < List.getD (bx4 (bxF f (Int.toNat a))) (Int.toNat (0 : Int)) (0 : Int) then List.getD f (Int.toNat a 
  * (2 : Nat)) (0 : Int) else List.getD (bx4 (bxF f (Int.toNat a))) (Int.toNat (0 : Int)) (0 : Int)))) ∧ True ∧ (((1 : Nat) = (1 : Nat) ∧ (4 : Nat) = (4 : Nat)) ∧ ((2 : Nat) = (2 : Nat) 
  ∧ (0 : Nat) = (0 : Nat)) ∧ ((0 : Nat) = (0 : Nat) ∧ n = n) ∧ (True ∧ (↑n : Int) = (↑n : Int)) ∧ (True ∧ a = a) ∧ True) ∧ ((True ∧ IntKind.i64 = IntKind.i64 ∧ f = f) ∧ (True ∧ IntKind.i64 
  = IntKind.i64 ∧ List.set (List.set (bx4 (bxF f (Int.toNat a))) (Int.toNat (0 : Int)) (if List.getD f (Int.toNat a * (2 : Nat)) (0 : Int) < List.getD (bx4 (bxF f (Int.toNat a))) (Int.toNat 
  (0 : Int)) (0 : Int) then List.getD f (Int.toNat a * (2 : Nat)) (0 : Int) else List.getD (bx4 (bxF f (Int.toNat a))) (Int.toNat (0 : Int)) (0 : Int))) (Int.toNat (1 : Int)) (if List.getD 
  (bx4 (bxF f (Int.toNat a))) (Int.toNat (1 : Int)) (0 : Int) < List.getD f (Int.toNat a * (2 : Nat)) (0 : Int) then List.getD f (Int.toNat a * (2 : Nat)) (0 : Int) else List.getD (bx4 
  (bxF f (Int.toNat a))) (Int.toNat (1 : Int)) (0 : Int)) = [leI (List.getD (bx4 (bxF f (Int.toNat a))) (0 : Nat) (0 : Int)) (List.getD f (Int.toNat a * (2 : Nat)) (0 : Int)), moI (List.getD 
  (bx4 (bxF f (Int.toNat a))) (1 : Nat) (0 : Int)) (List.getD f (Int.toNat a * (2 : Nat)) (0 : Int)), List.getD (bx4 (bxF f (Int.toNat a))) (2 : Nat) (0 : Int), List.getD (bx4 (bxF f 
  (Int.toNat a))) (3 : Nat) (0 : Int)]) ∧ (True ∧ (True ∧ List.getD f (Int.toNat a * (2 : Nat)) (0 : Int) = List.getD f (Int.toNat a * (2 : Nat)) (0 : Int)) ∧ (True ∧ List.getD f (Int.toNat 
  a * (2 : Nat) + (1 : Nat)) (0 : Int) = List.getD f (Int.toNat a * (2 : Nat) + (1 : Nat)) (0 : Int)) ∧ True) ∧ True) ∧ True) ∧ True) ∧ True) ∧ (At (Int.toNat (0 : Int) < List.length 
  (bx4 (bxF f (Int.toNat a)))) ∧ At ((0 : Int) ≤ (1 : Int) ∧ (1 : Int) < (↑(4 : Nat) : Int)) ∧ (At (Int.toNat (1 : Int) < List.length (List.set (bx4 (bxF f (Int.toNat a))) (Int.toNat 
  (0 : Int)) (if List.getD f (Int.toNat a * (2 : Nat)) (0 : Int) < List.getD (bx4 (bxF f (Int.toNat a))) (Int.toNat (0 : Int)) (0 : Int) then List.getD f (Int.toNat a * (2 : Nat)) (0 
  : Int) else List.getD (bx4 (bxF f (Int.toNat a))) (Int.toNat (0 : Int)) (0 : Int)))) ∧ True ∧ (((1 : Nat) = (1 : Nat) ∧ (4 : Nat) = (4 : Nat)) ∧ ((2 : Nat) = (2 : Nat) ∧ (0 : Nat) = 
  (0 : Nat)) ∧ ((0 : Nat) = (0 : Nat) ∧ n = n) ∧ (True ∧ (↑n : Int) = (↑n : Int)) ∧ (True ∧ a = a) ∧ True) ∧ ((True ∧ IntKind.i64 = IntKind.i64 ∧ f = f) ∧ (True ∧ IntKind.i64 = IntKind.i64 
  ∧ List.set (List.set (bx4 (bxF f (Int.toNat a))) (Int.toNat (0 : Int)) (if List.getD f (Int.toNat a * (2 : Nat)) (0 : Int) < List.getD (bx4 (bxF f (Int.toNat a))) (Int.toNat (0 : Int)) 
  (0 : Int) then List.getD f (Int.toNat a * (2 : Nat)) (0 : Int) else List.getD (bx4 (bxF f (Int.toNat a))) (Int.toNat (0 : Int)) (0 : Int))) (Int.toNat (1 : Int)) (if List.getD (bx4 
  (bxF f (Int.toNat a))) (Int.toNat (1 : Int)) (0 : Int) < List.getD f (Int.toNat a * (2 : Nat)) (0 : Int) then List.getD f (Int.toNat a * (2 : Nat)) (0 : Int) else List.getD (bx4 (bxF 
  f (Int.toNat a))) (Int.toNat (1 : Int)) (0 : Int)) = [leI (List.getD (bx4 (bxF f (Int.toNat a))) (0 : Nat) (0 : Int)) (List.getD f (Int.toNat a * (2 : Nat)) (0 : Int)), moI (List.getD 
  (bx4 (bxF f (Int.toNat a))) (1 : Nat) (0 : Int)) (List.getD f (Int.toNat a * (2 : Nat)) (0 : Int)), List.getD (bx4 (bxF f (Int.toNat a))) (2 : Nat) (0 : Int), List.getD (bx4 (bxF f 
  (Int.toNat a))) (3 : Nat) (0 : Int)]) ∧ (True ∧ (True ∧ List.getD f (Int.toNat a * (2 : Nat)) (0 : Int) = List.getD f (Int.toNat a * (2 : Nat)) (0 : Int)) ∧ (True ∧ List.getD f (Int.toNat 
  a * (2 : Nat) + (1 : Nat)) (0 : Int) = List.getD f (Int.toNat a * (2 : Nat) + (1 : Nat)) (0 : Int)) ∧ True) ∧ True) ∧ True) ∧ True) ∧ True) ∧ (At ((0 : Int) ≤ (2 : Int) ∧ (2 : Int) 
  < (↑(4 : Nat) : Int)) ∧ At (Int.toNat (2 : Int) < List.length [leI (List.getD (bx4 (bxF f (Int.toNat a))) (0 : Nat) (0 : Int)) (List.getD f (Int.toNat a * (2 : Nat)) (0 : Int)), moI 
  (List.getD (bx4 (bxF f (Int.toNat a))) (1 : Nat) (0 : Int)) (List.getD f (Int.toNat a * (2 : Nat)) (0 : Int)), List.getD (bx4 (bxF f (Int.toNat a))) (2 : Nat) (0 : Int), List.getD (bx4 
  (bxF f (Int.toNat a))) (3 : Nat) (0 : Int)]) ∧ At ((0 : Int) ≤ (3 : Int) ∧ (3 : Int) < (↑(4 : Nat) : Int)) ∧ At (Int.toNat (3 : Int) < List.length [leI (List.getD (bx4 (bxF f (Int.toNat 
  a))) (0 : Nat) (0 : Int)) (List.getD f (Int.toNat a * (2 : Nat)) (0 : Int)), moI (List.getD (bx4 (bxF f (Int.toNat a))) (1 : Nat) (0 : Int)) (List.getD f (Int.toNat a * (2 : Nat)) (0 
  : Int)), List.getD (bx4 (bxF f (Int.toNat a))) (2 : Nat) (0 : Int), List.getD (bx4 (bxF f (Int.toNat a))) (3 : Nat) (0 : Int)]) ∧ At ((0 : Int) ≤ (2 : Int) ∧ (2 : Int) < (↑(4 : Nat) 
  : Int)) ∧ ((At (Int.toNat (2 : Int) < List.length [leI (List.getD (bx4 (bxF f (Int.toNat a))) (0 : Nat) (0 : Int)) (List.getD f (Int.toNat a * (2 : Nat)) (0 : Int)), moI (List.getD 
  (bx4 (bxF f (Int.toNat a))) (1 : Nat) (0 : Int)) (List.getD f (Int.toNat a * (2 : Nat)) (0 : Int)), List.getD (bx4 (bxF f (Int.toNat a))) (2 : Nat) (0 : Int), List.getD (bx4 (bxF f 
  (Int.toNat a))) (3 : Nat) (0 : Int)]) ∧ At ((0 : Int) ≤ (3 : Int) ∧ (3 : Int) < (↑(4 : Nat) : Int)) ∧ (At (Int.toNat (3 : Int) < List.length (List.set [leI (List.getD (bx4 (bxF f (Int.toNat 
  a))) (0 : Nat) (0 : Int)) (List.getD f (Int.toNat a * (2 : Nat)) (0 : Int)), moI (List.getD (bx4 (bxF f (Int.toNat a))) (1 : Nat) (0 : Int)) (List.getD f (Int.toNat a * (2 : Nat)) (0 
  : Int)), List.getD (bx4 (bxF f (Int.toNat a))) (2 : Nat) (0 : Int), List.getD (bx4 (bxF f (Int.toNat a))) (3 : Nat) (0 : Int)] (Int.toNat (2 : Int)) (if List.getD f (Int.toNat a * (2 
  : Nat) + (1 : Nat)) (0 : Int) < List.getD [leI (List.getD (bx4 (bxF f (Int.toNat a))) (0 : Nat) (0 : Int)) (List.getD f (Int.toNat a * (2 : Nat)) (0 : Int)), moI (List.getD (bx4 (bxF 
  f (Int.toNat a))) (1 : Nat) (0 : Int)) (List.getD f (Int.toNat a * (2 : Nat)) (0 : Int)), List.getD (bx4 (bxF f (Int.toNat a))) (2 : Nat) (0 : Int), List.getD (bx4 (bxF f (Int.toNat 
  a))) (3 : Nat) (0 : Int)] (Int.toNat (2 : Int)) (0 : Int) then List.getD f (Int.toNat a * (2 : Nat) + (1 : Nat)) (0 : Int) else List.getD [leI (List.getD (bx4 (bxF f (Int.toNat a))) 
  (0 : Nat) (0 : Int)) (List.getD f (Int.toNat a * (2 : Nat)) (0 : Int)), moI (List.getD (bx4 (bxF f (Int.toNat a))) (1 : Nat) (0 : Int)) (List.getD f (Int.toNat a * (2 : Nat)) (0 : Int)), 
  List.getD (bx4 (bxF f (Int.toNat a))) (2 : Nat) (0 : Int), List.getD (bx4 (bxF f (Int.toNat a))) (3 : Nat) (0 : Int)] (Int.toNat (2 : Int)) (0 : Int)))) ∧ True ∧ (((1 : Nat) = (1 : 
  Nat) ∧ (4 : Nat) = (4 : Nat)) ∧ ((0 : Nat) = (0 : Nat) ∧ n = n) ∧ (True ∧ (↑n : Int) = (↑n : Int)) ∧ (True ∧ a = a) ∧ True) ∧ ((True ∧ IntKind.i64 = IntKind.i64 ∧ f = f) ∧ (True ∧ IntKind.i64 
  = IntKind.i64 ∧ List.set (List.set [leI (List.getD (bx4 (bxF f (Int.toNat a))) (0 : Nat) (0 : Int)) (List.getD f (Int.toNat a * (2 : Nat)) (0 : Int)), moI (List.getD (bx4 (bxF f (Int.toNat 
  a))) (1 : Nat) (0 : Int)) (List.getD f (Int.toNat a * (2 : Nat)) (0 : Int)), List.getD (bx4 (bxF f (Int.toNat a))) (2 : Nat) (0 : Int), List.getD (bx4 (bxF f (Int.toNat a))) (3 : Nat) 
  (0 : Int)] (Int.toNat (2 : Int)) (if List.getD f (Int.toNat a * (2 : Nat) + (1 : Nat)) (0 : Int) < List.getD [leI (List.getD (bx4 (bxF f (Int.toNat a))) (0 : Nat) (0 : Int)) (List.getD 
  f (Int.toNat a * (2 : Nat)) (0 : Int)), moI (List.getD (bx4 (bxF f (Int.toNat a))) (1 : Nat) (0 : Int)) (List.getD f (Int.toNat a * (2 : Nat)) (0 : Int)), List.getD (bx4 (bxF f (Int.toNat 
  a))) (2 : Nat) (0 : Int), List.getD (bx4 (bxF f (Int.toNat a))) (3 : Nat) (0 : Int)] (Int.toNat (2 : Int)) (0 : Int) then List.getD f (Int.toNat a * (2 : Nat) + (1 : Nat)) (0 : Int) 
  else List.getD [leI (List.getD (bx4 (bxF f (Int.toNat a))) (0 : Nat) (0 : Int)) (List.getD f (Int.toNat a * (2 : Nat)) (0 : Int)), moI (List.getD (bx4 (bxF f (Int.toNat a))) (1 : Nat) 
  (0 : Int)) (List.getD f (Int.toNat a * (2 : Nat)) (0 : Int)), List.getD (bx4 (bxF f (Int.toNat a))) (2 : Nat) (0 : Int), List.getD (bx4 (bxF f (Int.toNat a))) (3 : Nat) (0 : Int)] (Int.toNat 
  (2 : Int)) (0 : Int))) (Int.toNat (3 : Int)) (if List.getD [leI (List.getD (bx4 (bxF f (Int.toNat a))) (0 : Nat) (0 : Int)) (List.getD f (Int.toNat a * (2 : Nat)) (0 : Int)), moI (List.getD 
  (bx4 (bxF f (Int.toNat a))) (1 : Nat) (0 : Int)) (List.getD f (Int.toNat a * (2 : Nat)) (0 : Int)), List.getD (bx4 (bxF f (Int.toNat a))) (2 : Nat) (0 : Int), List.getD (bx4 (bxF f 
  (Int.toNat a))) (3 : Nat) (0 : Int)] (Int.toNat (3 : Int)) (0 : Int) < List.getD f (Int.toNat a * (2 : Nat) + (1 : Nat)) (0 : Int) then List.getD f (Int.toNat a * (2 : Nat) + (1 : Nat)) 
  (0 : Int) else List.getD [leI (List.getD (bx4 (bxF f (Int.toNat a))) (0 : Nat) (0 : Int)) (List.getD f (Int.toNat a * (2 : Nat)) (0 : Int)), moI (List.getD (bx4 (bxF f (Int.toNat a))) 
  (1 : Nat) (0 : Int)) (List.getD f (Int.toNat a * (2 : Nat)) (0 : Int)), List.getD (bx4 (bxF f (Int.toNat a))) (2 : Nat) (0 : Int), List.getD (bx4 (bxF f (Int.toNat a))) (3 : Nat) (0 
  : Int)] (Int.toNat (3 : Int)) (0 : Int)) = [List.getD [leI (List.getD (bx4 (bxF f (Int.toNat a))) (0 : Nat) (0 : Int)) (List.getD f (Int.toNat a * (2 : Nat)) (0 : Int)), moI (List.getD 
  (bx4 (bxF f (Int.toNat a))) (1 : Nat) (0 : Int)) (List.getD f (Int.toNat a * (2 : Nat)) (0 : Int)), List.getD (bx4 (bxF f (Int.toNat a))) (2 : Nat) (0 : Int), List.getD (bx4 (bxF f 
  (Int.toNat a))) (3 : Nat) (0 : Int)] (0 : Nat) (0 : Int), List.getD [leI (List.getD (bx4 (bxF f (Int.toNat a))) (0 : Nat) (0 : Int)) (List.getD f (Int.toNat a * (2 : Nat)) (0 : Int)), 
  moI (List.getD (bx4 (bxF f (Int.toNat a))) (1 : Nat) (0 : Int)) (List.getD f (Int.toNat a * (2 : Nat)) (0 : Int)), List.getD (bx4 (bxF f (Int.toNat a))) (2 : Nat) (0 : Int), List.getD 
  (bx4 (bxF f (Int.toNat a))) (3 : Nat) (0 : Int)] (1 : Nat) (0 : Int), leI (List.getD [leI (List.getD (bx4 (bxF f (Int.toNat a))) (0 : Nat) (0 : Int)) (List.getD f (Int.toNat a * (2 
  : Nat)) (0 : Int)), moI (List.getD (bx4 (bxF f (Int.toNat a))) (1 : Nat) (0 : Int)) (List.getD f (Int.toNat a * (2 : Nat)) (0 : Int)), List.getD (bx4 (bxF f (Int.toNat a))) (2 : Nat) 
  (0 : Int), List.getD (bx4 (bxF f (Int.toNat a))) (3 : Nat) (0 : Int)] (2 : Nat) (0 : Int)) (List.getD f (Int.toNat a * (2 : Nat) + (1 : Nat)) (0 : Int)), moI (List.getD [leI (List.getD 
  (bx4 (bxF f (Int.toNat a))) (0 : Nat) (0 : Int)) (List.getD f (Int.toNat a * (2 : Nat)) (0 : Int)), moI (List.getD (bx4 (bxF f (Int.toNat a))) (1 : Nat) (0 : Int)) (List.getD f (Int.toNat 
  a * (2 : Nat)) (0 : Int)), List.getD (bx4 (bxF f (Int.toNat a))) (2 : Nat) (0 : Int), List.getD (bx4 (bxF f (Int.toNat a))) (3 : Nat) (0 : Int)] (3 : Nat) (0 : Int)) (List.getD f (Int.toNat 
  a * (2 : Nat) + (1 : Nat)) (0 : Int))]) ∧ True) ∧ True) ∧ True) ∧ True) ∧ (At (Int.toNat (2 : Int) < List.length [leI (List.getD (bx4 (bxF f (Int.toNat a))) (0 : Nat) (0 : Int)) (List.getD 
  f (Int.toNat a * (2 : Nat)) (0 : Int)), moI (List.getD (bx4 (bxF f (Int.toNat a))) (1 : Nat) (0 : Int)) (List.getD f (Int.toNat a * (2 : Nat)) (0 : Int)), List.getD (bx4 (bxF f (Int.toNat 
  a))) (2 : Nat) (0 : Int), List.getD (bx4 (bxF f (Int.toNat a))) (3 : Nat) (0 : Int)]) ∧ At ((0 : Int) ≤ (3 : Int) ∧ (3 : Int) < (↑(4 : Nat) : Int)) ∧ (At (Int.toNat (3 : Int) < List.length 
  (List.set [leI (List.getD (bx4 (bxF f (Int.toNat a))) (0 : Nat) (0 : Int)) (List.getD f (Int.toNat a * (2 : Nat)) (0 : Int)), moI (List.getD (bx4 (bxF f (Int.toNat a))) (1 : Nat) (0 
  : Int)) (List.getD f (Int.toNat a * (2 : Nat)) (0 : Int)), List.getD (bx4 (bxF f (Int.toNat a))) (2 : Nat) (0 : Int), List.getD (bx4 (bxF f (Int.toNat a))) (3 : Nat) (0 : Int)] (Int.toNat 
  (2 : Int)) (if List.getD f (Int.toNat a * (2 : Nat) + (1 : Nat)) (0 : Int) < List.getD [leI (List.getD (bx4 (bxF f (Int.toNat a))) (0 : Nat) (0 : Int)) (List.getD f (Int.toNat a * (2 
  : Nat)) (0 : Int)), moI (List.getD (bx4 (bxF f (Int.toNat a))) (1 : Nat) (0 : Int)) (List.getD f (Int.toNat a * (2 : Nat)) (0 : Int)), List.getD (bx4 (bxF f (Int.toNat a))) (2 : Nat) 
  (0 : Int), List.getD (bx4 (bxF f (Int.toNat a))) (3 : Nat) (0 : Int)] (Int.toNat (2 : Int)) (0 : Int) then List.getD f (Int.toNat a * (2 : Nat) + (1 : Nat)) (0 : Int) else List.getD 
  [leI (List.getD (bx4 (bxF f (Int.toNat a))) (0 : Nat) (0 : Int)) (List.getD f (Int.toNat a * (2 : Nat)) (0 : Int)), moI (List.getD (bx4 (bxF f (Int.toNat a))) (1 : Nat) (0 : Int)) (List.getD 
  f (Int.toNat a * (2 : Nat)) (0 : Int)), List.getD (bx4 (bxF f (Int.toNat a))) (2 : Nat) (0 : Int), List.getD (bx4 (bxF f (Int.toNat a))) (3 : Nat) (0 : Int)] (Int.toNat (2 : Int)) (0 
  : Int)))) ∧ True ∧ (((1 : Nat) = (1 : Nat) ∧ (4 : Nat) = (4 : Nat)) ∧ ((0 : Nat) = (0 : Nat) ∧ n = n) ∧ (True ∧ (↑n : Int) = (↑n : Int)) ∧ (True ∧ a = a) ∧ True) ∧ ((True ∧ IntKind.i64 
  = IntKind.i64 ∧ f = f) ∧ (True ∧ IntKind.i64 = IntKind.i64 ∧ List.set (List.set [leI (List.getD (bx4 (bxF f (Int.toNat a))) (0 : Nat) (0 : Int)) (List.getD f (Int.toNat a * (2 : Nat)) 
  (0 : Int)), moI (List.getD (bx4 (bxF f (Int.toNat a))) (1 : Nat) (0 : Int)) (List.getD f (Int.toNat a * (2 : Nat)) (0 : Int)), List.getD (bx4 (bxF f (Int.toNat a))) (2 : Nat) (0 : Int), 
  List.getD (bx4 (bxF f (Int.toNat a))) (3 : Nat) (0 : Int)] (Int.toNat (2 : Int)) (if List.getD f (Int.toNat a * (2 : Nat) + (1 : Nat)) (0 : Int) < List.getD [leI (List.getD (bx4 (bxF 
  f (Int.toNat a))) (0 : Nat) (0 : Int)) (List.getD f (Int.toNat a * (2 : Nat)) (0 : Int)), moI (List.getD (bx4 (bxF f (Int.toNat a))) (1 : Nat) (0 : Int)) (List.getD f (Int.toNat a * 
  (2 : Nat)) (0 : Int)), List.getD (bx4 (bxF f (Int.toNat a))) (2 : Nat) (0 : Int), List.getD (bx4 (bxF f (Int.toNat a))) (3 : Nat) (0 : Int)] (Int.toNat (2 : Int)) (0 : Int) then List.getD 
  f (Int.toNat a * (2 : Nat) + (1 : Nat)) (0 : Int) else List.getD [leI (List.getD (bx4 (bxF f (Int.toNat a))) (0 : Nat) (0 : Int)) (List.getD f (Int.toNat a * (2 : Nat)) (0 : Int)), 
  moI (List.getD (bx4 (bxF f (Int.toNat a))) (1 : Nat) (0 : Int)) (List.getD f (Int.toNat a * (2 : Nat)) (0 : Int)), List.getD (bx4 (bxF f (Int.toNat a))) (2 : Nat) (0 : Int), List.getD 
  (bx4 (bxF f (Int.toNat a))) (3 : Nat) (0 : Int)] (Int.toNat (2 : Int)) (0 : Int))) (Int.toNat (3 : Int)) (if List.getD [leI (List.getD (bx4 (bxF f (Int.toNat a))) (0 : Nat) (0 : Int)) 
  (List.getD f (Int.toNat a * (2 : Nat)) (0 : Int)), moI (List.getD (bx4 (bxF f (Int.toNat a))) (1 : Nat) (0 : Int)) (List.getD f (Int.toNat a * (2 : Nat)) (0 : Int)), List.getD (bx4 
  (bxF f (Int.toNat a))) (2 : Nat) (0 : Int), List.getD (bx4 (bxF f (Int.toNat a))) (3 : Nat) (0 : Int)] (Int.toNat (3 : Int)) (0 : Int) < List.getD f (Int.toNat a * (2 : Nat) + (1 : 
  Nat)) (0 : Int) then List.getD f (Int.toNat a * (2 : Nat) + (1 : Nat)) (0 : Int) else List.getD [leI (List.getD (bx4 (bxF f (Int.toNat a))) (0 : Nat) (0 : Int)) (List.getD f (Int.toNat 
  a * (2 : Nat)) (0 : Int)), moI (List.getD (bx4 (bxF f (Int.toNat a))) (1 : Nat) (0 : Int)) (List.getD f (Int.toNat a * (2 : Nat)) (0 : Int)), List.getD (bx4 (bxF f (Int.toNat a))) (2 
  : Nat) (0 : Int), List.getD (bx4 (bxF f (Int.toNat a))) (3 : Nat) (0 : Int)] (Int.toNat (3 : Int)) (0 : Int)) = [List.getD [leI (List.getD (bx4 (bxF f (Int.toNat a))) (0 : Nat) (0 : 
  Int)) (List.getD f (Int.toNat a * (2 : Nat)) (0 : Int)), moI (List.getD (bx4 (bxF f (Int.toNat a))) (1 : Nat) (0 : Int)) (List.getD f (Int.toNat a * (2 : Nat)) (0 : Int)), List.getD 
  (bx4 (bxF f (Int.toNat a))) (2 : Nat) (0 : Int), List.getD (bx4 (bxF f (Int.toNat a))) (3 : Nat) (0 : Int)] (0 : Nat) (0 : Int), List.getD [leI (List.getD (bx4 (bxF f (Int.toNat a))) 
  (0 : Nat) (0 : Int)) (List.getD f (Int.toNat a * (2 : Nat)) (0 : Int)), moI (List.getD (bx4 (bxF f (Int.toNat a))) (1 : Nat) (0 : Int)) (List.getD f (Int.toNat a * (2 : Nat)) (0 : Int)), 
  List.getD (bx4 (bxF f (Int.toNat a))) (2 : Nat) (0 : Int), List.getD (bx4 (bxF f (Int.toNat a))) (3 : Nat) (0 : Int)] (1 : Nat) (0 : Int), leI (List.getD [leI (List.getD (bx4 (bxF f 
  (Int.toNat a))) (0 : Nat) (0 : Int)) (List.getD f (Int.toNat a * (2 : Nat)) (0 : Int)), moI (List.getD (bx4 (bxF f (Int.toNat a))) (1 : Nat) (0 : Int)) (List.getD f (Int.toNat a * (2 
  : Nat)) (0 : Int)), List.getD (bx4 (bxF f (Int.toNat a))) (2 : Nat) (0 : Int), List.getD (bx4 (bxF f (Int.toNat a))) (3 : Nat) (0 : Int)] (2 : Nat) (0 : Int)) (List.getD f (Int.toNat 
  a * (2 : Nat) + (1 : Nat)) (0 : Int)), moI (List.getD [leI (List.getD (bx4 (bxF f (Int.toNat a))) (0 : Nat) (0 : Int)) (List.getD f (Int.toNat a * (2 : Nat)) (0 : Int)), moI (List.getD 
  (bx4 (bxF f (Int.toNat a))) (1 : Nat) (0 : Int)) (List.getD f (Int.toNat a * (2 : Nat)) (0 : Int)), List.getD (bx4 (bxF f (Int.toNat a))) (2 : Nat) (0 : Int), List.getD (bx4 (bxF f 
  (Int.toNat a))) (3 : Nat) (0 : Int)] (3 : Nat) (0 : Int)) (List.getD f (Int.toNat a * (2 : Nat) + (1 : Nat)) (0 : Int))]) ∧ True) ∧ True) ∧ True) ∧ True) ∧ (True ∧ (((1 : Nat) = (1 
  : Nat) ∧ (4 : Nat) = (4 : Nat)) ∧ ((0 : Nat) = (0 : Nat) ∧ n = n) ∧ (True ∧ (↑n : Int) = (↑n : Int)) ∧ (True ∧ IntKind.wrap IntKind.i64 (a + (1 : Int)) = IntKind.wrap IntKind.i64 (a 
  + (1 : Int))) ∧ True) ∧ ((True ∧ IntKind.i64 = IntKind.i64 ∧ f = f) ∧ (True ∧ IntKind.i64 = IntKind.i64 ∧ [List.getD [leI (List.getD (bx4 (bxF f (Int.toNat a))) (0 : Nat) (0 : Int)) 
  (List.getD f (Int.toNat a * (2 : Nat)) (0 : Int)), moI (List.getD (bx4 (bxF f (Int.toNat a))) (1 : Nat) (0 : Int)) (List.getD f (Int.toNat a * (2 : Nat)) (0 : Int)), List.getD (bx4 
  (bxF f (Int.toNat a))) (2 : Nat) (0 : Int), List.getD (bx4 (bxF f (Int.toNat a))) (3 : Nat) (0 : Int)] (0 : Nat) (0 : Int), List.getD [leI (List.getD (bx4 (bxF f (Int.toNat a))) (0 
  : Nat) (0 : Int)) (List.getD f (Int.toNat a * (2 : Nat)) (0 : Int)), moI (List.getD (bx4 (bxF f (Int.toNat a))) (1 : Nat) (0 : Int)) (List.getD f (Int.toNat a * (2 : Nat)) (0 : Int)), 
  List.getD (bx4 (bxF f (Int.toNat a))) (2 : Nat) (0 : Int), List.getD (bx4 (bxF f (Int.toNat a))) (3 : Nat) (0 : Int)] (1 : Nat) (0 : Int), leI (List.getD [leI (List.getD (bx4 (bxF f 
  (Int.toNat a))) (0 : Nat) (0 : Int)) (List.getD f (Int.toNat a * (2 : Nat)) (0 : Int)), moI (List.getD (bx4 (bxF f (Int.toNat a))) (1 : Nat) (0 : Int)) (List.getD f (Int.toNat a * (2 
  : Nat)) (0 : Int)), List.getD (bx4 (bxF f (Int.toNat a))) (2 : Nat) (0 : Int), List.getD (bx4 (bxF f (Int.toNat a))) (3 : Nat) (0 : Int)] (2 : Nat) (0 : Int)) (List.getD f (Int.toNat 
  a * (2 : Nat) + (1 : Nat)) (0 : Int)), moI (List.getD [leI (List.getD (bx4 (bxF f (Int.toNat a))) (0 : Nat) (0 : Int)) (List.getD f (Int.toNat a * (2 : Nat)) (0 : Int)), moI (List.getD 
  (bx4 (bxF f (Int.toNat a))) (1 : Nat) (0 : Int)) (List.getD f (Int.toNat a * (2 : Nat)) (0 : Int)), List.getD (bx4 (bxF f (Int.toNat a))) (2 : Nat) (0 : Int), List.getD (bx4 (bxF f 
  (Int.toNat a))) (3 : Nat) (0 : Int)] (3 : Nat) (0 : Int)) (List.getD f (Int.toNat a * (2 : Nat) + (1 : Nat)) (0 : Int))] = bx4 (bxF f (Int.toNat (IntKind.wrap IntKind.i64 (a + (1 : 
  Int)))))) ∧ True) ∧ True) ∧ At (ixN n (IntKind.wrap IntKind.i64 (a + (1 : Int))) ∧ Int.toNat ((↑n : Int) - IntKind.wrap IntKind.i64 (a + (1 : Int))) < Int.toNat ((↑n : Int) - a))) ∧ 
  (decide (a < (↑n : Int)) = false → K (V.row (1 : Nat) (4 : Nat)) [{ cs := Cells.ints IntKind.i64 f, elem := 65, kind := Kind.rows (2 : Nat) }, { cs := Cells.ints IntKind.i64 (bx4 (bxF f (Int.toNat a))), elem := 3, kind := Kind.row }])

def VC_spec_BoxAfter (s : List UInt8) (k : Int) (K : V → List Blk → Prop) : Prop :=
  At ((↑(List.length s) : Int) ≤ (9223372036854775807 : Int)) ∧
  ((!fewB s k) = true → K (V.tup [V.raw (Value.slice none (0 : Nat) (0 : Nat)), V.lit false]) []) ∧
    ((!fewB s k) = false →
      At (fewB s k = true) ∧
        At
            (List.length (cnM (repS s k) (repN s k + (1 : Nat))) = repN s k + (1 : Nat) ∧
              (1 : Nat) ≤ repN s k + (1 : Nat) ∧
                repN s k + (1 : Nat) ≤ (1000 : Nat) ∧ twoM (cnM (repS s k) (repN s k + (1 : Nat)))) ∧
          K (V.tup [V.row (1 : Nat) (4 : Nat), V.lit true])
            [{ cs := Cells.mat IntKind.i64 (3 : Nat) (cnM (repS s k) (repN s k + (1 : Nat))), elem := 34,
                kind := Kind.mat },
              { cs := Cells.ints IntKind.i64 (bx4 (bxM (cnM (repS s k) (repN s k + (1 : Nat))) (repN s k + (1 : Nat)))),
                elem := 3, kind := Kind.row }])

def VC_impl_BoxAfter (s : List UInt8) (k : Int) (K : V → List Blk → Prop) : Prop :=
  At ((↑(List.length s) : Int) ≤ (9223372036854775807 : Int)) ∧
  ((!fewB s k) = true →
      K (V.tup [V.raw (Value.slice none (0 : Nat) (0 : Nat)), V.lit false])
        [{ cs := Cells.ints IntKind.i64 (cfR s k), elem := 65, kind := Kind.rows (2 : Nat) }]) ∧
    ((!fewB s k) = false →
      At (List.length (cfR s k) = cnN s k * (2 : Nat) ∧ (1 : Nat) ≤ cnN s k ∧ cnN s k ≤ (1000 : Nat)) ∧
        K (V.tup [V.row (1 : Nat) (4 : Nat), V.lit true])
          [{ cs := Cells.ints IntKind.i64 (cfR s k), elem := 65, kind := Kind.rows (2 : Nat) },
            { cs := Cells.ints IntKind.i64 (bx4 (bxF (cfR s k) (cnN s k))), elem := 3, kind := Kind.row }])

def VC_spec_TwiceArea (s : List UInt8) (K : V → Prop) : Prop :=
  At ((↑(List.length s) : Int) ≤ (9223372036854775807 : Int)) ∧
  ((!progB s) = true → K (V.tup [V.int IntKind.i64 (0 : Int), V.lit false])) ∧
    ((!progB s) = false →
      At (progB s = true) ∧
        ((clS s == (0 : Int)) = true → K (V.tup [V.int IntKind.i64 (0 : Int), V.lit false])) ∧
          ((clS s == (0 : Int)) = false →
            At (progB s = true) ∧
              At (fewB s (clS s) = true) ∧
                ((s = s ∧
                      ((0 : Nat) = (0 : Nat) ∧ repN s (clS s) + (1 : Nat) = repN s (clS s) + (1 : Nat)) ∧
                        (True ∧ (0 : Int) = arC (repS s (clS s)) (Int.toNat (1 : Int) - (1 : Nat))) ∧
                          (True ∧ (1 : Int) = (1 : Int)) ∧ True) ∧
                    ((True ∧
                          True ∧
                            cnM (repS s (clS s)) (repN s (clS s) + (1 : Nat)) =
                              cnM (repS s (clS s)) (repN s (clS s) + (1 : Nat))) ∧
                        True) ∧
                      True) ∧
                  At ((1 : Int) ≤ (1 : Int) ∧ (1 : Int) ≤ (↑(repN s (clS s) + (1 : Nat)) : Int)) ∧
                    ∀ (a : Int),
                      (1 : Int) ≤ a ∧ a ≤ (↑(repN s (clS s) + (1 : Nat)) : Int) →
                        (decide (a < (↑(repN s (clS s) + (1 : Nat)) : Int)) = true →
                            True ∧
                              At
                                  ((0 : Int) ≤ IntKind.wrap IntKind.i64 (a - (1 : Int)) ∧
                                    IntKind.wrap IntKind.i64 (a - (1 : Int)) < (↑(repN s (clS s) + (1 : Nat)) : Int)) ∧
                                At
                                    (Int.toNat (IntKind.wrap IntKind.i64 (a - (1 : Int))) <
                                      List.length (cnM (repS s (clS s)) (repN s (clS s) + (1 : Nat)))) ∧
                                  At ((0 : Int) ≤ a ∧ a < (↑(repN s (clS s) + (1 : Nat)) : Int)) ∧
                                    At (Int.toNat a < List.length (cnM (repS s (clS s)) (repN s (clS s) + (1 : Nat)))) ∧
                                      True ∧
                                        At
                                            ((0 : Int) ≤ (0 : Int) ∧
                                              (0 : Int) <
                                                (↑(List.length
                                                      (List.getD (cnM (repS s (clS s)) (repN s (clS s) + (1 : Nat)))
                                                        (Int.toNat (IntKind.wrap IntKind.i64 (a - (1 : Int)))) [])) :
                                                  Int)) ∧
                                          At
                                              (Int.toNat (IntKind.wrap IntKind.i64 (a - (1 : Int))) <
                                                  List.length (cnM (repS s (clS s)) (repN s (clS s) + (1 : Nat))) ∧
                                                Int.toNat (0 : Int) <
                                                  List.length
                                                    (List.getD (cnM (repS s (clS s)) (repN s (clS s) + (1 : Nat)))
                                                      (Int.toNat (IntKind.wrap IntKind.i64 (a - (1 : Int)))) [])) ∧
                                            At
                                                ((0 : Int) ≤ (1 : Int) ∧
                                                  (1 : Int) <
                                                    (↑(List.length
                                                          (List.getD (cnM (repS s (clS s)) (repN s (clS s) + (1 : Nat)))
                                                            (Int.toNat a) [])) :
                                                      Int)) ∧
                                              At
                                                  (Int.toNat a <
                                                      List.length (cnM (repS s (clS s)) (repN s (clS s) + (1 : Nat))) ∧
                                                    Int.toNat (1 : Int) <
                                                      List.length
                                                        (List.getD (cnM (repS s (clS s)) (repN s (clS s) + (1 : Nat)))
                                                          (Int.toNat a) [])) ∧
                                                At
                                                    ((0 : Int) ≤ (1 : Int) ∧
                                                      (1 : Int) <
                                                        (↑(List.length
                                                              (List.getD
                                                                (cnM (repS s (clS s)) (repN s (clS s) + (1 : Nat)))
                                                                (Int.toNat (IntKind.wrap IntKind.i64 (a - (1 : Int))))
                                                                [])) :
                                                          Int)) ∧
                                                  At
                                                      (Int.toNat (IntKind.wrap IntKind.i64 (a - (1 : Int))) <
                                                          List.length
                                                            (cnM (repS s (clS s)) (repN s (clS s) + (1 : Nat))) ∧
                                                        Int.toNat (1 : Int) <
                                                          List.length
                                                            (List.getD
                                                              (cnM (repS s (clS s)) (repN s (clS s) + (1 : Nat)))
                                                              (Int.toNat (IntKind.wrap IntKind.i64 (a - (1 : Int))))
                                                              [])) ∧
                                                    At
                                                        ((0 : Int) ≤ (0 : Int) ∧
                                                          (0 : Int) <
                                                            (↑(List.length
                                                                  (List.getD
                                                                    (cnM (repS s (clS s)) (repN s (clS s) + (1 : Nat)))
                                                                    (Int.toNat a) [])) :
                                                              Int)) ∧
                                                      At
                                                          (Int.toNat a <
                                                              List.length
                                                                (cnM (repS s (clS s)) (repN s (clS s) + (1 : Nat))) ∧
                                                            Int.toNat (0 : Int) <
                                                              List.length
                                                                (List.getD
                                                                  (cnM (repS s (clS s)) (repN s (clS s) + (1 : Nat)))
                                                                  (Int.toNat a) [])) ∧
                                                        ((s = s ∧
                                                              ((0 : Nat) = (0 : Nat) ∧
                                                                  repN s (clS s) + (1 : Nat) =
                                                                    repN s (clS s) + (1 : Nat)) ∧
                                                                (True ∧
                                                                    IntKind.wrap IntKind.i64
                                                                        (arC (repS s (clS s))
                                                                            (Int.toNat a - (1 : Nat)) +
                                                                          IntKind.wrap IntKind.i64
                                                                            (IntKind.wrap IntKind.i64
                                                                                (List.getD
                                                                                    (List.getD
                                                                                      (cnM (repS s (clS s))
                                                                                        (repN s (clS s) + (1 : Nat)))
                                                                                      (Int.toNat
                                                                                        (IntKind.wrap IntKind.i64
                                                                                          (a - (1 : Int))))
                                                                                      [])
                                                                                    (Int.toNat (0 : Int)) (0 : Int) *
                                                                                  List.getD
                                                                                    (List.getD
                                                                                      (cnM (repS s (clS s))
                                                                                        (repN s (clS s) + (1 : Nat)))
                                                                                      (Int.toNat a) [])
                                                                                    (Int.toNat (1 : Int)) (0 : Int)) -
                                                                              IntKind.wrap IntKind.i64
                                                                                (List.getD
                                                                                    (List.getD
                                                                                      (cnM (repS s (clS s))
                                                                                        (repN s (clS s) + (1 : Nat)))
                                                                                      (Int.toNat
                                                                                        (IntKind.wrap IntKind.i64
                                                                                          (a - (1 : Int))))
                                                                                      [])
                                                                                    (Int.toNat (1 : Int)) (0 : Int) *
                                                                                  List.getD
                                                                                    (List.getD
                                                                                      (cnM (repS s (clS s))
                                                                                        (repN s (clS s) + (1 : Nat)))
                                                                                      (Int.toNat a) [])
                                                                                    (Int.toNat (0 : Int)) (0 : Int)))) =
                                                                      arC (repS s (clS s))
                                                                        (Int.toNat
                                                                            (IntKind.wrap IntKind.i64 (a + (1 : Int))) -
                                                                          (1 : Nat))) ∧
                                                                  (True ∧
                                                                      IntKind.wrap IntKind.i64 (a + (1 : Int)) =
                                                                        IntKind.wrap IntKind.i64 (a + (1 : Int))) ∧
                                                                    True) ∧
                                                            ((True ∧
                                                                  True ∧
                                                                    cnM (repS s (clS s)) (repN s (clS s) + (1 : Nat)) =
                                                                      cnM (repS s (clS s))
                                                                        (repN s (clS s) + (1 : Nat))) ∧
                                                                True) ∧
                                                              True) ∧
                                                          At
                                                            (((1 : Int) ≤ IntKind.wrap IntKind.i64 (a + (1 : Int)) ∧
                                                                IntKind.wrap IntKind.i64 (a + (1 : Int)) ≤
                                                                  (↑(repN s (clS s) + (1 : Nat)) : Int)) ∧
                                                              Int.toNat
                                                                  ((↑(repN s (clS s) + (1 : Nat)) : Int) -
                                                                    IntKind.wrap IntKind.i64 (a + (1 : Int))) <
                                                                Int.toNat
                                                                  ((↑(repN s (clS s) + (1 : Nat)) : Int) - a))) ∧
                          (decide (a < (↑(repN s (clS s) + (1 : Nat)) : Int)) = false →
                            K
                              (V.tup
                                [V.int IntKind.i64 (arC (repS s (clS s)) (Int.toNat a - (1 : Nat))), V.lit true]))))

def VC_impl_TwiceArea (s : List UInt8) (K : V → Prop) : Prop :=
  At ((↑(List.length s) : Int) ≤ (9223372036854775807 : Int)) ∧
  ((!clB s) = true → K (V.tup [V.int IntKind.i64 (0 : Int), V.lit false])) ∧
    ((!clB s) = false →
      At ((↑(List.length s) : Int) ≤ (9223372036854775807 : Int)) ∧
        ((!fewB s (clF s)) = true → K (V.tup [V.int IntKind.i64 (0 : Int), V.lit false])) ∧
          ((!fewB s (clF s)) = false →
            At
                ((0 : Int) ≤ (1 : Int) ∧
                  (1 : Int) ≤ (↑(cnN s (clF s)) : Int) ∧
                    cnN s (clF s) * (2 : Nat) ≤ Cells.len (Cells.ints IntKind.i64 (cfR s (clF s)))) ∧
              ((((0 : Nat) = (0 : Nat) ∧ cnN s (clF s) = cnN s (clF s)) ∧
                    (True ∧ (0 : Int) = arC (repS s (clS s)) (Int.toNat (0 : Int))) ∧
                      ((0 : Nat) = (0 : Nat) ∧
                          (1 : Nat) = (1 : Nat) ∧
                            (2 : Nat) = (2 : Nat) ∧
                              cnN s (clF s) - Int.toNat (1 : Int) = cnN s (clF s) - Int.toNat (1 : Int) ∧ (none : Option Nat) = none) ∧
                        (True ∧
                            (↑(cnN s (clF s) - Int.toNat (1 : Int)) : Int) =
                              (↑(cnN s (clF s) - Int.toNat (1 : Int)) : Int)) ∧
                          (True ∧ (0 : Int) = (0 : Int)) ∧ True) ∧
                  ((True ∧ IntKind.i64 = IntKind.i64 ∧ cfR s (clF s) = cfR s (clF s)) ∧ True) ∧ True) ∧
                At (ixN (cnN s (clF s) - Int.toNat (1 : Int)) (0 : Int)) ∧
                  ∀ (a : Int),
                    ixN (cnN s (clF s) - Int.toNat (1 : Int)) a →
                      (decide (a < (↑(cnN s (clF s) - Int.toNat (1 : Int)) : Int)) = true →
                          At ((0 : Int) ≤ a ∧ a < (↑(cnN s (clF s) - Int.toNat (1 : Int)) : Int)) ∧
                            At
                                ((Int.toNat (1 : Int) + Int.toNat a) * (2 : Nat) + (2 : Nat) ≤
                                  List.length (cfR s (clF s))) ∧
                              At ((0 : Int) ≤ a ∧ a < (↑(cnN s (clF s)) : Int)) ∧
                                At (Int.toNat a * (2 : Nat) + (2 : Nat) ≤ List.length (cfR s (clF s))) ∧
                                  ((((0 : Nat) = (0 : Nat) ∧ cnN s (clF s) = cnN s (clF s)) ∧
                                        (True ∧
                                            IntKind.wrap IntKind.i64
                                                (arC (repS s (clS s)) (Int.toNat a) +
                                                  IntKind.wrap IntKind.i64
                                                    (IntKind.wrap IntKind.i64
                                                        (List.getD (cfR s (clF s)) (Int.toNat a * (2 : Nat)) (0 : Int) *
                                                          List.getD (cfR s (clF s))
                                                            ((Int.toNat (1 : Int) + Int.toNat a) * (2 : Nat) +
                                                              (1 : Nat))
                                                            (0 : Int)) -
                                                      IntKind.wrap IntKind.i64
                                                        (List.getD (cfR s (clF s))
                                                            ((Int.toNat (1 : Int) + Int.toNat a) * (2 : Nat))
                                                            (0 : Int) *
                                                          List.getD (cfR s (clF s))
                                                            (Int.toNat a * (2 : Nat) + (1 : Nat)) (0 : Int)))) =
                                              arC (repS s (clS s))
                                                (Int.toNat (IntKind.wrap IntKind.i64 (a + (1 : Int))))) ∧
                                          ((0 : Nat) = (0 : Nat) ∧
                                              (1 : Nat) = (1 : Nat) ∧
                                                (2 : Nat) = (2 : Nat) ∧
                                                  cnN s (clF s) - Int.toNat (1 : Int) =
                                                      cnN s (clF s) - Int.toNat (1 : Int) ∧
                                                    (none : Option Nat) = none) ∧
                                            (True ∧
                                                (↑(cnN s (clF s) - Int.toNat (1 : Int)) : Int) =
                                                  (↑(cnN s (clF s) - Int.toNat (1 : Int)) : Int)) ∧
                                              (True ∧
                                                  IntKind.wrap IntKind.i64 (a + (1 : Int)) =
                                                    IntKind.wrap IntKind.i64 (a + (1 : Int))) ∧
                                                True) ∧
                                      ((True ∧ IntKind.i64 = IntKind.i64 ∧ cfR s (clF s) = cfR s (clF s)) ∧ True) ∧
                                        True) ∧
                                    At
                                      (ixN (cnN s (clF s) - Int.toNat (1 : Int))
                                          (IntKind.wrap IntKind.i64 (a + (1 : Int))) ∧
                                        Int.toNat
                                            ((↑(cnN s (clF s) - Int.toNat (1 : Int)) : Int) -
                                              IntKind.wrap IntKind.i64 (a + (1 : Int))) <
                                          Int.toNat ((↑(cnN s (clF s) - Int.toNat (1 : Int)) : Int) - a))) ∧
                        (decide (a < (↑(cnN s (clF s) - Int.toNat (1 : Int)) : Int)) = false →
                          K (V.tup [V.int IntKind.i64 (arC (repS s (clS s)) (Int.toNat a)), V.lit true]))))

def VC_spec_WindingOf (s : List UInt8) (K : V → Prop) : Prop :=
  At ((↑(List.length s) : Int) ≤ (9223372036854775807 : Int)) ∧
  ((!progB s) = true → K (V.tup [V.int IntKind.i64 (0 : Int), V.lit false])) ∧
    ((!progB s) = false →
      At (progB s = true) ∧
        ((clS s == (0 : Int)) = true → K (V.tup [V.int IntKind.i64 (0 : Int), V.lit false])) ∧
          ((clS s == (0 : Int)) = false →
            ((s = s ∧ (True ∧ (1 : Int) = (1 : Int)) ∧ True) ∧ True ∧ True) ∧
              At (wuInv s (1 : Int)) ∧
                ∀ (a : Int),
                  wuInv s a →
                    (decide (a < (↑(List.length s) : Int)) = true →
                        At ((0 : Int) ≤ a ∧ a < (↑(List.length s) : Int)) ∧
                          (((↑(UInt8.toNat (List.getD s (Int.toNat a) (0 : UInt8))) : Int) == (85 : Int)) = true →
                              K (V.tup [V.int IntKind.i64 (0 : Int), V.lit false])) ∧
                            (((↑(UInt8.toNat (List.getD s (Int.toNat a) (0 : UInt8))) : Int) == (85 : Int)) = false →
                              ((s = s ∧
                                    (True ∧
                                        IntKind.wrap IntKind.i64 (a + (2 : Int)) =
                                          IntKind.wrap IntKind.i64 (a + (2 : Int))) ∧
                                      True) ∧
                                  True ∧ True) ∧
                                At
                                  (wuInv s (IntKind.wrap IntKind.i64 (a + (2 : Int))) ∧
                                    Int.toNat
                                        ((↑(List.length s) : Int) + (1 : Int) -
                                          IntKind.wrap IntKind.i64 (a + (2 : Int))) <
                                      Int.toNat ((↑(List.length s) : Int) + (1 : Int) - a)))) ∧
                      (decide (a < (↑(List.length s) : Int)) = false →
                        At (progB s = true) ∧
                          At (progB s = true) ∧
                            At ((4 : Int) ≠ (0 : Int)) ∧
                              K
                                (V.tup
                                  [V.int IntKind.i64
                                      (IntKind.wrap IntKind.i64
                                        (Int.tdiv (IntKind.wrap IntKind.i64 (quC (ptS s) * clS s)) (4 : Int))),
                                    V.lit true]))))

def VC_impl_WindingOf (s : List UInt8) (K : V → Prop) : Prop :=
  At ((↑(List.length s) : Int) ≤ (9223372036854775807 : Int)) ∧
  At ((↑(List.length s) : Int) ≤ (9223372036854775807 : Int)) ∧
    ((!progB s) = true → K (V.tup [V.int IntKind.i64 (0 : Int), V.lit false])) ∧
      ((!progB s) = false →
        ((!clB s) = true → K (V.tup [V.int IntKind.i64 (0 : Int), V.lit false])) ∧
          ((!clB s) = false →
            At (Array.toList #[(85 : UInt8)] = [(85 : UInt8)]) ∧
              (hasU s = true → K (V.tup [V.int IntKind.i64 (0 : Int), V.lit false])) ∧
                (hasU s = false →
                  At ((4 : Int) ≠ (0 : Int)) ∧
                    K
                      (V.tup
                        [V.int IntKind.i64
                            (IntKind.wrap IntKind.i64
                              (Int.tdiv
                                (IntKind.wrap IntKind.i64 ((bif progB s then quC (ptS s) else (0 : Int)) * clF s))
                                (4 : Int))),
                          V.lit true]))))

end Go.Vi
