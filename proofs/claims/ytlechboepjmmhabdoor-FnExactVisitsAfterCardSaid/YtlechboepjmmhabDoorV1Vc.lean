/- The conditions, reckoned out by program: texts alone. -/
import Derived.Test.YtlechboepjmmhabDoorV1Defs
namespace Go.Vi
set_option linter.unusedVariables false
def VC_spec_woSteps (wr : List UInt8) (ww : Int) (wh : Int) (wc : List UInt8) (wx : Int) (wy : Int) (wd : Int) (steps : Int) (K : V → Prop) : Prop :=
  At True ∧
  (goodB { r := wr, w := ww, h := wh, c := wc, x := wx, y := wy, d := wd } = true →
      At True ∧ K (V.bool (inB steps (0 : Int) (3000 : Int)))) ∧
    (goodB { r := wr, w := ww, h := wh, c := wc, x := wx, y := wy, d := wd } = false → K (V.lit false))

def VC_spec_loVisits (wr : List UInt8) (ww : Int) (wh : Int) (wc : List UInt8) (wx : Int) (wy : Int) (wd : Int) (steps : Int) (K : V → List Blk → Prop) : Prop :=
  At
    ((0 : Int) ≤ IntKind.wrap IntKind.i64 (ww * wh) ∧
      IntKind.wrap IntKind.i64 (ww * wh) ≤ IntKind.wrap IntKind.i64 (ww * wh) ∧
        IntKind.wrap IntKind.i64 (ww * wh) ≤ (1000000000 : Int)) ∧
  (((True ∧ steps = steps) ∧
        ((0 : Nat) = (0 : Nat) ∧ (0 : Nat) = (0 : Nat)) ∧
          ((1 : Nat) = (1 : Nat) ∧ Int.toNat (IntKind.wrap IntKind.i64 (ww * wh)) = List.length wc) ∧ True) ∧
      ((True ∧
            wr = Wd.r { r := wr, w := ww, h := wh, c := wc, x := wx, y := wy, d := wd } ∧
              (True ∧ ww = Wd.w { r := wr, w := ww, h := wh, c := wc, x := wx, y := wy, d := wd }) ∧
                (True ∧ wh = Wd.h { r := wr, w := ww, h := wh, c := wc, x := wx, y := wy, d := wd }) ∧
                  wc = Wd.c { r := wr, w := ww, h := wh, c := wc, x := wx, y := wy, d := wd } ∧
                    (True ∧ wx = Wd.x { r := wr, w := ww, h := wh, c := wc, x := wx, y := wy, d := wd }) ∧
                      (True ∧ wy = Wd.y { r := wr, w := ww, h := wh, c := wc, x := wx, y := wy, d := wd }) ∧
                        (True ∧ wd = Wd.d { r := wr, w := ww, h := wh, c := wc, x := wx, y := wy, d := wd }) ∧ True) ∧
          (True ∧
              IntKind.i64 = IntKind.i64 ∧
                List.replicate (Int.toNat (IntKind.wrap IntKind.i64 (ww * wh))) (0 : Int) =
                  List.replicate (Int.toNat (IntKind.wrap IntKind.i64 (ww * wh))) (0 : Int)) ∧
            True) ∧
        True) ∧
    At
        (visInv steps { r := wr, w := ww, h := wh, c := wc, x := wx, y := wy, d := wd }
          { s := steps, v := { r := wr, w := ww, h := wh, c := wc, x := wx, y := wy, d := wd },
            l := List.replicate (Int.toNat (IntKind.wrap IntKind.i64 (ww * wh))) (0 : Int) }) ∧
      ∀ (a : Vis),
        visInv steps { r := wr, w := ww, h := wh, c := wc, x := wx, y := wy, d := wd } a →
          (decide (Vis.s a > (0 : Int)) = true →
              At
                  ((0 : Int) ≤
                      IntKind.wrap IntKind.i64
                        (IntKind.wrap IntKind.i64 (Wd.y (Vis.v a) * Wd.w (Vis.v a)) + Wd.x (Vis.v a)) ∧
                    IntKind.wrap IntKind.i64
                        (IntKind.wrap IntKind.i64 (Wd.y (Vis.v a) * Wd.w (Vis.v a)) + Wd.x (Vis.v a)) <
                      (↑(List.length wc) : Int)) ∧
                At
                    (Int.toNat
                        (IntKind.wrap IntKind.i64
                          (IntKind.wrap IntKind.i64 (Wd.y (Vis.v a) * Wd.w (Vis.v a)) + Wd.x (Vis.v a))) <
                      List.length (Vis.l a)) ∧
                  At
                      ((0 : Int) ≤
                          IntKind.wrap IntKind.i64
                            (IntKind.wrap IntKind.i64 (Wd.y (Vis.v a) * Wd.w (Vis.v a)) + Wd.x (Vis.v a)) ∧
                        IntKind.wrap IntKind.i64
                            (IntKind.wrap IntKind.i64 (Wd.y (Vis.v a) * Wd.w (Vis.v a)) + Wd.x (Vis.v a)) <
                          (↑(List.length wc) : Int)) ∧
                    At
                        (Int.toNat
                            (IntKind.wrap IntKind.i64
                              (IntKind.wrap IntKind.i64 (Wd.y (Vis.v a) * Wd.w (Vis.v a)) + Wd.x (Vis.v a))) <
                          List.length (Vis.l a)) ∧
                      At (goodB (Vis.v a) = true) ∧
                        (((True ∧
                                IntKind.wrap IntKind.i64 (Vis.s a - (1 : Int)) =
                                  IntKind.wrap IntKind.i64 (Vis.s a - (1 : Int))) ∧
                              ((0 : Nat) = (0 : Nat) ∧ (0 : Nat) = (0 : Nat)) ∧
                                ((1 : Nat) = (1 : Nat) ∧ List.length wc = List.length wc) ∧ True) ∧
                            ((True ∧
                                  Wd.r (stepW (Vis.v a)) = Wd.r (stepW (Vis.v a)) ∧
                                    (True ∧ Wd.w (stepW (Vis.v a)) = Wd.w (stepW (Vis.v a))) ∧
                                      (True ∧ Wd.h (stepW (Vis.v a)) = Wd.h (stepW (Vis.v a))) ∧
                                        Wd.c (stepW (Vis.v a)) = Wd.c (stepW (Vis.v a)) ∧
                                          (True ∧ Wd.x (stepW (Vis.v a)) = Wd.x (stepW (Vis.v a))) ∧
                                            (True ∧ Wd.y (stepW (Vis.v a)) = Wd.y (stepW (Vis.v a))) ∧
                                              (True ∧ Wd.d (stepW (Vis.v a)) = Wd.d (stepW (Vis.v a))) ∧ True) ∧
                                (True ∧
                                    IntKind.i64 = IntKind.i64 ∧
                                      List.set (Vis.l a)
                                          (Int.toNat
                                            (IntKind.wrap IntKind.i64
                                              (IntKind.wrap IntKind.i64 (Wd.y (Vis.v a) * Wd.w (Vis.v a)) +
                                                Wd.x (Vis.v a))))
                                          (IntKind.wrap IntKind.i64
                                            (List.getD (Vis.l a)
                                                (Int.toNat
                                                  (IntKind.wrap IntKind.i64
                                                    (IntKind.wrap IntKind.i64 (Wd.y (Vis.v a) * Wd.w (Vis.v a)) +
                                                      Wd.x (Vis.v a))))
                                                (0 : Int) +
                                              (1 : Int))) =
                                        List.set (Vis.l a)
                                          (Int.toNat
                                            (IntKind.wrap IntKind.i64
                                              (IntKind.wrap IntKind.i64 (Wd.y (Vis.v a) * Wd.w (Vis.v a)) +
                                                Wd.x (Vis.v a))))
                                          (IntKind.wrap IntKind.i64
                                            (List.getD (Vis.l a)
                                                (Int.toNat
                                                  (IntKind.wrap IntKind.i64
                                                    (IntKind.wrap IntKind.i64 (Wd.y (Vis.v a) * Wd.w (Vis.v a)) +
                                                      Wd.x (Vis.v a))))
                                                (0 : Int) +
                                              (1 : Int)))) ∧
                                  True) ∧
                              True) ∧
                          At
                            (visInv steps { r := wr, w := ww, h := wh, c := wc, x := wx, y := wy, d := wd }
                                { s := IntKind.wrap IntKind.i64 (Vis.s a - (1 : Int)), v := stepW (Vis.v a),
                                  l :=
                                    List.set (Vis.l a)
                                      (Int.toNat
                                        (IntKind.wrap IntKind.i64
                                          (IntKind.wrap IntKind.i64 (Wd.y (Vis.v a) * Wd.w (Vis.v a)) +
                                            Wd.x (Vis.v a))))
                                      (IntKind.wrap IntKind.i64
                                        (List.getD (Vis.l a)
                                            (Int.toNat
                                              (IntKind.wrap IntKind.i64
                                                (IntKind.wrap IntKind.i64 (Wd.y (Vis.v a) * Wd.w (Vis.v a)) +
                                                  Wd.x (Vis.v a))))
                                            (0 : Int) +
                                          (1 : Int))) } ∧
                              Int.toNat (IntKind.wrap IntKind.i64 (Vis.s a - (1 : Int))) < Int.toNat (Vis.s a))) ∧
            (decide (Vis.s a > (0 : Int)) = false →
              K (V.row (1 : Nat) (List.length wc))
                [{
                    cs :=
                      Cells.vals
                        [V.str (Wd.r (Vis.v a)), V.int IntKind.i64 (Wd.w (Vis.v a)), V.int IntKind.i64 (Wd.h (Vis.v a)),
                          V.str (Wd.c (Vis.v a)), V.int IntKind.i64 (Wd.x (Vis.v a)),
                          V.int IntKind.i64 (Wd.y (Vis.v a)), V.int IntKind.i64 (Wd.d (Vis.v a))],
                    elem := (27 : Nat), kind := Kind.box },
                  { cs := Cells.ints IntKind.i64 (Vis.l a), elem := (3 : Nat), kind := Kind.row }])

def VC_impl_trackOf (wr : List UInt8) (ww : Int) (wh : Int) (wc : List UInt8) (wx : Int) (wy : Int) (wd : Int) (steps : Int) (K : V → List Blk → Prop) : Prop :=
  At ((0 : Int) ≤ (0 : Int) ∧ (0 : Int) ≤ steps ∧ steps ≤ (1000000000 : Int)) ∧
  (True ∧
      (((0 : Nat) = (0 : Nat) ∧ (0 : Nat) = (0 : Nat)) ∧
          ((1 : Nat) = (1 : Nat) ∧ (0 : Nat) = (0 : Nat)) ∧
            ((2 : Nat) = (2 : Nat) ∧ (0 : Nat) = (0 : Nat)) ∧
              (True ∧ steps = steps) ∧ (True ∧ (0 : Int) = (0 : Int)) ∧ True) ∧
        ((True ∧
              wr = wr ∧
                (True ∧ ww = ww) ∧
                  (True ∧ wh = wh) ∧ wc = wc ∧ (True ∧ wx = wx) ∧ (True ∧ wy = wy) ∧ (True ∧ wd = wd) ∧ True) ∧
            (True ∧
                IntKind.i64 = IntKind.i64 ∧
                  List.replicate (Int.toNat (0 : Int)) (0 : Int) = List.replicate (Int.toNat (0 : Int)) (0 : Int)) ∧
              (True ∧
                  wr = Wd.r { r := wr, w := ww, h := wh, c := wc, x := wx, y := wy, d := wd } ∧
                    (True ∧ ww = Wd.w { r := wr, w := ww, h := wh, c := wc, x := wx, y := wy, d := wd }) ∧
                      (True ∧ wh = Wd.h { r := wr, w := ww, h := wh, c := wc, x := wx, y := wy, d := wd }) ∧
                        wc = Wd.c { r := wr, w := ww, h := wh, c := wc, x := wx, y := wy, d := wd } ∧
                          (True ∧ wx = Wd.x { r := wr, w := ww, h := wh, c := wc, x := wx, y := wy, d := wd }) ∧
                            (True ∧ wy = Wd.y { r := wr, w := ww, h := wh, c := wc, x := wx, y := wy, d := wd }) ∧
                              (True ∧ wd = Wd.d { r := wr, w := ww, h := wh, c := wc, x := wx, y := wy, d := wd }) ∧
                                True) ∧
                True) ∧
          True) ∧
    At
        (trkInv steps { r := wr, w := ww, h := wh, c := wc, x := wx, y := wy, d := wd }
          { s := (0 : Int), v := { r := wr, w := ww, h := wh, c := wc, x := wx, y := wy, d := wd },
            l := List.replicate (Int.toNat (0 : Int)) (0 : Int) }) ∧
      ∀ (a : Vis),
        trkInv steps { r := wr, w := ww, h := wh, c := wc, x := wx, y := wy, d := wd } a →
          (decide (Vis.s a < steps) = true →
              At
                  ((List.length (Vis.l a) = List.length (Vis.l a) * (1 : Nat) ∧
                      (1 : Nat) * (1 : Nat) ≤
                        List.length
                          [IntKind.wrap IntKind.i64
                              (IntKind.wrap IntKind.i64 (Wd.y (Vis.v a) * Wd.w (Vis.v a)) + Wd.x (Vis.v a))]) ∧
                    (0 : Nat) < (1 : Nat) ∧ List.length (Vis.l a) + (1 : Nat) ≤ (1000000000 : Nat)) ∧
                At (goodB (Vis.v a) = true) ∧
                  (True ∧
                      (((0 : Nat) = (0 : Nat) ∧ (0 : Nat) = (0 : Nat)) ∧
                          ((1 : Nat) = (1 : Nat) ∧
                              List.length (Vis.l a) + (1 : Nat) =
                                List.length
                                  (Vis.l a ++
                                    List.take ((1 : Nat) * (1 : Nat))
                                      [IntKind.wrap IntKind.i64
                                          (IntKind.wrap IntKind.i64 (Wd.y (Vis.v a) * Wd.w (Vis.v a)) +
                                            Wd.x (Vis.v a))])) ∧
                            ((2 : Nat) = (2 : Nat) ∧ (0 : Nat) = (0 : Nat)) ∧
                              (True ∧ steps = steps) ∧
                                (True ∧
                                    IntKind.wrap IntKind.i64 (Vis.s a + (1 : Int)) =
                                      IntKind.wrap IntKind.i64 (Vis.s a + (1 : Int))) ∧
                                  True) ∧
                        ((True ∧
                              wr = wr ∧
                                (True ∧ ww = ww) ∧
                                  (True ∧ wh = wh) ∧
                                    wc = wc ∧ (True ∧ wx = wx) ∧ (True ∧ wy = wy) ∧ (True ∧ wd = wd) ∧ True) ∧
                            (True ∧
                                IntKind.i64 = IntKind.i64 ∧
                                  Vis.l a ++
                                      List.take ((1 : Nat) * (1 : Nat))
                                        [IntKind.wrap IntKind.i64
                                            (IntKind.wrap IntKind.i64 (Wd.y (Vis.v a) * Wd.w (Vis.v a)) +
                                              Wd.x (Vis.v a))] =
                                    Vis.l a ++
                                      List.take ((1 : Nat) * (1 : Nat))
                                        [IntKind.wrap IntKind.i64
                                            (IntKind.wrap IntKind.i64 (Wd.y (Vis.v a) * Wd.w (Vis.v a)) +
                                              Wd.x (Vis.v a))]) ∧
                              (True ∧
                                  Wd.r (stepW (Vis.v a)) = Wd.r (stepW (Vis.v a)) ∧
                                    (True ∧ Wd.w (stepW (Vis.v a)) = Wd.w (stepW (Vis.v a))) ∧
                                      (True ∧ Wd.h (stepW (Vis.v a)) = Wd.h (stepW (Vis.v a))) ∧
                                        Wd.c (stepW (Vis.v a)) = Wd.c (stepW (Vis.v a)) ∧
                                          (True ∧ Wd.x (stepW (Vis.v a)) = Wd.x (stepW (Vis.v a))) ∧
                                            (True ∧ Wd.y (stepW (Vis.v a)) = Wd.y (stepW (Vis.v a))) ∧
                                              (True ∧ Wd.d (stepW (Vis.v a)) = Wd.d (stepW (Vis.v a))) ∧ True) ∧
                                True) ∧
                          True) ∧
                    At
                      (trkInv steps { r := wr, w := ww, h := wh, c := wc, x := wx, y := wy, d := wd }
                          { s := IntKind.wrap IntKind.i64 (Vis.s a + (1 : Int)), v := stepW (Vis.v a),
                            l :=
                              Vis.l a ++
                                List.take ((1 : Nat) * (1 : Nat))
                                  [IntKind.wrap IntKind.i64
                                      (IntKind.wrap IntKind.i64 (Wd.y (Vis.v a) * Wd.w (Vis.v a)) + Wd.x (Vis.v a))] } ∧
                        Int.toNat (steps - IntKind.wrap IntKind.i64 (Vis.s a + (1 : Int))) <
                          Int.toNat (steps - Vis.s a))) ∧
            (decide (Vis.s a < steps) = false →
              K (V.row (1 : Nat) (List.length (Vis.l a)))
                [{
                    cs :=
                      Cells.vals
                        [V.str wr, V.int IntKind.i64 ww, V.int IntKind.i64 wh, V.str wc, V.int IntKind.i64 wx,
                          V.int IntKind.i64 wy, V.int IntKind.i64 wd],
                    elem := (27 : Nat), kind := Kind.box },
                  { cs := Cells.ints IntKind.i64 (Vis.l a), elem := (3 : Nat), kind := Kind.row },
                  {
                    cs :=
                      Cells.vals
                        [V.str (Wd.r (Vis.v a)), V.int IntKind.i64 (Wd.w (Vis.v a)), V.int IntKind.i64 (Wd.h (Vis.v a)),
                          V.str (Wd.c (Vis.v a)), V.int IntKind.i64 (Wd.x (Vis.v a)),
                          V.int IntKind.i64 (Wd.y (Vis.v a)), V.int IntKind.i64 (Wd.d (Vis.v a))],
                    elem := (60 : Nat), kind := Kind.box }])

def VC_impl_visitsOf (wr : List UInt8) (ww : Int) (wh : Int) (wc : List UInt8) (wx : Int) (wy : Int) (wd : Int) (steps : Int) (K : V → List Blk → Prop) : Prop :=
  At
    ((0 : Int) ≤ (↑(List.length wc) : Int) ∧
      (↑(List.length wc) : Int) ≤ (↑(List.length wc) : Int) ∧ (↑(List.length wc) : Int) ≤ (1000000000 : Int)) ∧
  At
      (goodB { r := wr, w := ww, h := wh, c := wc, x := wx, y := wy, d := wd } = true ∧
        (0 : Int) ≤ steps ∧ steps ≤ (4000 : Int)) ∧
    ((((0 : Nat) = (0 : Nat) ∧ (0 : Nat) = (0 : Nat)) ∧
          ((1 : Nat) = (1 : Nat) ∧ Int.toNat (↑(List.length wc) : Int) = List.length wc) ∧
            ((2 : Nat) = (2 : Nat) ∧
                List.length (trkF (Int.toNat steps) { r := wr, w := ww, h := wh, c := wc, x := wx, y := wy, d := wd }) =
                  List.length
                    (trkF (Int.toNat steps) { r := wr, w := ww, h := wh, c := wc, x := wx, y := wy, d := wd })) ∧
              (True ∧
                  (↑(List.length
                          (trkF (Int.toNat steps) { r := wr, w := ww, h := wh, c := wc, x := wx, y := wy, d := wd })) :
                      Int) =
                    (↑(List.length
                          (trkF (Int.toNat steps) { r := wr, w := ww, h := wh, c := wc, x := wx, y := wy, d := wd })) :
                      Int)) ∧
                (True ∧ (0 : Int) = (0 : Int)) ∧ True) ∧
        ((True ∧
              wr = wr ∧
                (True ∧ ww = ww) ∧
                  (True ∧ wh = wh) ∧ wc = wc ∧ (True ∧ wx = wx) ∧ (True ∧ wy = wy) ∧ (True ∧ wd = wd) ∧ True) ∧
            (True ∧
                IntKind.i64 = IntKind.i64 ∧
                  List.replicate (Int.toNat (↑(List.length wc) : Int)) (0 : Int) =
                    vsAt (trkF (Int.toNat steps) { r := wr, w := ww, h := wh, c := wc, x := wx, y := wy, d := wd })
                      (List.length wc) (Int.toNat (0 : Int))) ∧
              (True ∧
                  IntKind.i64 = IntKind.i64 ∧
                    trkF (Int.toNat steps) { r := wr, w := ww, h := wh, c := wc, x := wx, y := wy, d := wd } =
                      trkF (Int.toNat steps) { r := wr, w := ww, h := wh, c := wc, x := wx, y := wy, d := wd }) ∧
                True) ∧
          True) ∧
      At
          (vsInv (trkF (Int.toNat steps) { r := wr, w := ww, h := wh, c := wc, x := wx, y := wy, d := wd })
            (List.length wc) (0 : Int)) ∧
        ∀ (a : Int),
          vsInv (trkF (Int.toNat steps) { r := wr, w := ww, h := wh, c := wc, x := wx, y := wy, d := wd })
              (List.length wc) a →
            (decide
                    (a <
                      (↑(List.length
                            (trkF (Int.toNat steps)
                              { r := wr, w := ww, h := wh, c := wc, x := wx, y := wy, d := wd })) :
                        Int)) =
                  true →
                At
                    ((0 : Int) ≤ a ∧
                      a <
                        (↑(List.length
                              (trkF (Int.toNat steps)
                                { r := wr, w := ww, h := wh, c := wc, x := wx, y := wy, d := wd })) :
                          Int)) ∧
                  At
                      (Int.toNat a <
                        List.length
                          (trkF (Int.toNat steps) { r := wr, w := ww, h := wh, c := wc, x := wx, y := wy, d := wd })) ∧
                    At
                        ((0 : Int) ≤
                            List.getD
                              (trkF (Int.toNat steps) { r := wr, w := ww, h := wh, c := wc, x := wx, y := wy, d := wd })
                              (Int.toNat a) (0 : Int) ∧
                          List.getD
                              (trkF (Int.toNat steps) { r := wr, w := ww, h := wh, c := wc, x := wx, y := wy, d := wd })
                              (Int.toNat a) (0 : Int) <
                            (↑(List.length wc) : Int)) ∧
                      At
                          (Int.toNat
                              (List.getD
                                (trkF (Int.toNat steps)
                                  { r := wr, w := ww, h := wh, c := wc, x := wx, y := wy, d := wd })
                                (Int.toNat a) (0 : Int)) <
                            List.length
                              (vsAt
                                (trkF (Int.toNat steps)
                                  { r := wr, w := ww, h := wh, c := wc, x := wx, y := wy, d := wd })
                                (List.length wc) (Int.toNat a))) ∧
                        At
                            ((0 : Int) ≤
                                List.getD
                                  (trkF (Int.toNat steps)
                                    { r := wr, w := ww, h := wh, c := wc, x := wx, y := wy, d := wd })
                                  (Int.toNat a) (0 : Int) ∧
                              List.getD
                                  (trkF (Int.toNat steps)
                                    { r := wr, w := ww, h := wh, c := wc, x := wx, y := wy, d := wd })
                                  (Int.toNat a) (0 : Int) <
                                (↑(List.length wc) : Int)) ∧
                          At
                              (Int.toNat
                                  (List.getD
                                    (trkF (Int.toNat steps)
                                      { r := wr, w := ww, h := wh, c := wc, x := wx, y := wy, d := wd })
                                    (Int.toNat a) (0 : Int)) <
                                List.length
                                  (vsAt
                                    (trkF (Int.toNat steps)
                                      { r := wr, w := ww, h := wh, c := wc, x := wx, y := wy, d := wd })
                                    (List.length wc) (Int.toNat a))) ∧
                            ((((0 : Nat) = (0 : Nat) ∧ (0 : Nat) = (0 : Nat)) ∧
                                  ((1 : Nat) = (1 : Nat) ∧ List.length wc = List.length wc) ∧
                                    ((2 : Nat) = (2 : Nat) ∧
                                        List.length
                                            (trkF (Int.toNat steps)
                                              { r := wr, w := ww, h := wh, c := wc, x := wx, y := wy, d := wd }) =
                                          List.length
                                            (trkF (Int.toNat steps)
                                              { r := wr, w := ww, h := wh, c := wc, x := wx, y := wy, d := wd })) ∧
                                      (True ∧
                                          (↑(List.length
                                                  (trkF (Int.toNat steps)
                                                    { r := wr, w := ww, h := wh, c := wc, x := wx, y := wy,
                                                      d := wd })) :
                                              Int) =
                                            (↑(List.length
                                                  (trkF (Int.toNat steps)
                                                    { r := wr, w := ww, h := wh, c := wc, x := wx, y := wy,
                                                      d := wd })) :
                                              Int)) ∧
                                        (True ∧
                                            IntKind.wrap IntKind.i64 (a + (1 : Int)) =
                                              IntKind.wrap IntKind.i64 (a + (1 : Int))) ∧
                                          True) ∧
                                ((True ∧
                                      wr = wr ∧
                                        (True ∧ ww = ww) ∧
                                          (True ∧ wh = wh) ∧
                                            wc = wc ∧ (True ∧ wx = wx) ∧ (True ∧ wy = wy) ∧ (True ∧ wd = wd) ∧ True) ∧
                                    (True ∧
                                        IntKind.i64 = IntKind.i64 ∧
                                          List.set
                                              (vsAt
                                                (trkF (Int.toNat steps)
                                                  { r := wr, w := ww, h := wh, c := wc, x := wx, y := wy, d := wd })
                                                (List.length wc) (Int.toNat a))
                                              (Int.toNat
                                                (List.getD
                                                  (trkF (Int.toNat steps)
                                                    { r := wr, w := ww, h := wh, c := wc, x := wx, y := wy, d := wd })
                                                  (Int.toNat a) (0 : Int)))
                                              (IntKind.wrap IntKind.i64
                                                (List.getD
                                                    (vsAt
                                                      (trkF (Int.toNat steps)
                                                        { r := wr, w := ww, h := wh, c := wc, x := wx, y := wy,
                                                          d := wd })
                                                      (List.length wc) (Int.toNat a))
                                                    (Int.toNat
                                                      (List.getD
                                                        (trkF (Int.toNat steps)
                                                          { r := wr, w := ww, h := wh, c := wc, x := wx, y := wy,
                                                            d := wd })
                                                        (Int.toNat a) (0 : Int)))
                                                    (0 : Int) +
                                                  (1 : Int))) =
                                            vsAt
                                              (trkF (Int.toNat steps)
                                                { r := wr, w := ww, h := wh, c := wc, x := wx, y := wy, d := wd })
                                              (List.length wc) (Int.toNat (IntKind.wrap IntKind.i64 (a + (1 : Int))))) ∧
                                      (True ∧
                                          IntKind.i64 = IntKind.i64 ∧
                                            trkF (Int.toNat steps)
                                                { r := wr, w := ww, h := wh, c := wc, x := wx, y := wy, d := wd } =
                                              trkF (Int.toNat steps)
                                                { r := wr, w := ww, h := wh, c := wc, x := wx, y := wy, d := wd }) ∧
                                        True) ∧
                                  True) ∧
                              At
                                (vsInv
                                    (trkF (Int.toNat steps)
                                      { r := wr, w := ww, h := wh, c := wc, x := wx, y := wy, d := wd })
                                    (List.length wc) (IntKind.wrap IntKind.i64 (a + (1 : Int))) ∧
                                  Int.toNat
                                      ((↑(List.length
                                              (trkF (Int.toNat steps)
                                                { r := wr, w := ww, h := wh, c := wc, x := wx, y := wy, d := wd })) :
                                          Int) -
                                        IntKind.wrap IntKind.i64 (a + (1 : Int))) <
                                    Int.toNat
                                      ((↑(List.length
                                              (trkF (Int.toNat steps)
                                                { r := wr, w := ww, h := wh, c := wc, x := wx, y := wy, d := wd })) :
                                          Int) -
                                        a))) ∧
              (decide
                    (a <
                      (↑(List.length
                            (trkF (Int.toNat steps)
                              { r := wr, w := ww, h := wh, c := wc, x := wx, y := wy, d := wd })) :
                        Int)) =
                  false →
                K (V.row (1 : Nat) (List.length wc))
                  [{
                      cs :=
                        Cells.vals
                          [V.str wr, V.int IntKind.i64 ww, V.int IntKind.i64 wh, V.str wc, V.int IntKind.i64 wx,
                            V.int IntKind.i64 wy, V.int IntKind.i64 wd],
                      elem := (27 : Nat), kind := Kind.box },
                    {
                      cs :=
                        Cells.ints IntKind.i64
                          (vsAt
                            (trkF (Int.toNat steps) { r := wr, w := ww, h := wh, c := wc, x := wx, y := wy, d := wd })
                            (List.length wc) (Int.toNat a)),
                      elem := (3 : Nat), kind := Kind.row },
                    {
                      cs :=
                        Cells.ints IntKind.i64
                          (trkF (Int.toNat steps) { r := wr, w := ww, h := wh, c := wc, x := wx, y := wy, d := wd }),
                      elem := (3 : Nat), kind := Kind.row }])

def VC_slices_Index_int_int (v : Int) (n : Nat) (a : List Int) (K : V → List Blk → Prop) : Prop :=
  ((((0 : Nat) = (0 : Nat) ∧ n = n) ∧
      (True ∧ v = v) ∧ (True ∧ (↑n : Int) = (↑n : Int)) ∧ (True ∧ (0 : Int) = (0 : Int)) ∧ True) ∧
    ((True ∧ IntKind.i64 = IntKind.i64 ∧ a = a) ∧ True) ∧ True) ∧
  At (ovInv (fun (i : Int) ↦ idxF v (List.take (Int.toNat i) a) = (-1 : Int)) (List.length a) (0 : Int)) ∧
    ∀ (a_1 : Int),
      ovInv (fun (i : Int) ↦ idxF v (List.take (Int.toNat i) a) = (-1 : Int)) (List.length a) a_1 →
        (decide (a_1 < (↑n : Int)) = true →
            At ((0 : Int) ≤ a_1 ∧ a_1 < (↑n : Int)) ∧
              At (Int.toNat a_1 < List.length a) ∧
                ((v == List.getD a (Int.toNat a_1) (0 : Int)) = true →
                    K (V.int IntKind.i64 a_1)
                      [{ cs := Cells.ints IntKind.i64 a, elem := (3 : Nat), kind := Kind.row }]) ∧
                  ((v == List.getD a (Int.toNat a_1) (0 : Int)) = false →
                    ((((0 : Nat) = (0 : Nat) ∧ n = n) ∧
                          (True ∧ v = v) ∧
                            (True ∧ (↑n : Int) = (↑n : Int)) ∧
                              (True ∧
                                  IntKind.wrap IntKind.i64 (a_1 + (1 : Int)) =
                                    IntKind.wrap IntKind.i64 (a_1 + (1 : Int))) ∧
                                True) ∧
                        ((True ∧ IntKind.i64 = IntKind.i64 ∧ a = a) ∧ True) ∧ True) ∧
                      At
                        (ovInv (fun (i : Int) ↦ idxF v (List.take (Int.toNat i) a) = (-1 : Int)) (List.length a)
                            (IntKind.wrap IntKind.i64 (a_1 + (1 : Int))) ∧
                          Int.toNat ((↑(List.length a) : Int) - IntKind.wrap IntKind.i64 (a_1 + (1 : Int))) <
                            Int.toNat ((↑(List.length a) : Int) - a_1)))) ∧
          (decide (a_1 < (↑n : Int)) = false →
            K (V.int IntKind.i64 (-1 : Int)) [{ cs := Cells.ints IntKind.i64 a, elem := (3 : Nat), kind := Kind.row }])

def VC_slices_Max_int_int (n : Nat) (a : List Int) (K : V → List Blk → Prop) : Prop :=
  (decide ((↑n : Int) < (1 : Int)) = true → False) ∧
  (decide ((↑n : Int) < (1 : Int)) = false →
    At ((0 : Int) ≤ (0 : Int) ∧ (0 : Int) < (↑n : Int)) ∧
      At (Int.toNat (0 : Int) < List.length a) ∧
        ((((0 : Nat) = (0 : Nat) ∧ n = n) ∧
              (True ∧ List.getD a (Int.toNat (0 : Int)) (0 : Int) = maxL (List.take (Int.toNat (1 : Int)) a)) ∧
                (True ∧ (1 : Int) = (1 : Int)) ∧ True) ∧
            ((True ∧ IntKind.i64 = IntKind.i64 ∧ a = a) ∧ True) ∧ True) ∧
          At (ovInv (fun (i : Int) ↦ (1 : Int) ≤ i) (List.length a) (1 : Int)) ∧
            ∀ (a_2 : Int),
              ovInv (fun (i : Int) ↦ (1 : Int) ≤ i) (List.length a) a_2 →
                (decide (a_2 < (↑n : Int)) = true →
                    At ((0 : Int) ≤ a_2 ∧ a_2 < (↑n : Int)) ∧
                      At (Int.toNat a_2 < List.length a) ∧
                        ((((0 : Nat) = (0 : Nat) ∧ n = n) ∧
                              (True ∧
                                  (if maxL (List.take (Int.toNat a_2) a) < List.getD a (Int.toNat a_2) (0 : Int) then
                                      List.getD a (Int.toNat a_2) (0 : Int)
                                    else maxL (List.take (Int.toNat a_2) a)) =
                                    maxL (List.take (Int.toNat (IntKind.wrap IntKind.i64 (a_2 + (1 : Int)))) a)) ∧
                                (True ∧
                                    IntKind.wrap IntKind.i64 (a_2 + (1 : Int)) =
                                      IntKind.wrap IntKind.i64 (a_2 + (1 : Int))) ∧
                                  True) ∧
                            ((True ∧ IntKind.i64 = IntKind.i64 ∧ a = a) ∧ True) ∧ True) ∧
                          At
                            (ovInv (fun (i : Int) ↦ (1 : Int) ≤ i) (List.length a)
                                (IntKind.wrap IntKind.i64 (a_2 + (1 : Int))) ∧
                              Int.toNat ((↑(List.length a) : Int) - IntKind.wrap IntKind.i64 (a_2 + (1 : Int))) <
                                Int.toNat ((↑(List.length a) : Int) - a_2))) ∧
                  (decide (a_2 < (↑n : Int)) = false →
                    K (V.int IntKind.i64 (maxL (List.take (Int.toNat a_2) a)))
                      [{ cs := Cells.ints IntKind.i64 a, elem := (3 : Nat), kind := Kind.row }]))

def VC_spec_VisitsAfter (wr : List UInt8) (ww : Int) (wh : Int) (wc : List UInt8) (wx : Int) (wy : Int) (wd : Int) (steps : Int) (K : V → List Blk → Prop) : Prop :=
  At True ∧
  ((!(goodB { r := wr, w := ww, h := wh, c := wc, x := wx, y := wy, d := wd } && inB steps (0 : Int) (3000 : Int))) =
        true →
      K (V.tup [V.raw (Value.slice none (0 : Nat) (0 : Nat)), V.lit false])
        [{
            cs :=
              Cells.vals
                [V.str wr, V.int IntKind.i64 ww, V.int IntKind.i64 wh, V.str wc, V.int IntKind.i64 wx,
                  V.int IntKind.i64 wy, V.int IntKind.i64 wd],
            elem := (27 : Nat), kind := Kind.box }]) ∧
    ((!(goodB { r := wr, w := ww, h := wh, c := wc, x := wx, y := wy, d := wd } && inB steps (0 : Int) (3000 : Int))) =
        false →
      At
          (goodB { r := wr, w := ww, h := wh, c := wc, x := wx, y := wy, d := wd } = true ∧
            (0 : Int) ≤ steps ∧ steps ≤ (4000 : Int)) ∧
        K
          (V.tup
            [V.row (1 : Nat)
                (List.length
                  (visF (Int.toNat steps) { r := wr, w := ww, h := wh, c := wc, x := wx, y := wy, d := wd })),
              V.lit true])
          [{
              cs :=
                Cells.vals
                  [V.str wr, V.int IntKind.i64 ww, V.int IntKind.i64 wh, V.str wc, V.int IntKind.i64 wx,
                    V.int IntKind.i64 wy, V.int IntKind.i64 wd],
              elem := (27 : Nat), kind := Kind.box },
            {
              cs :=
                Cells.ints IntKind.i64
                  (visF (Int.toNat steps) { r := wr, w := ww, h := wh, c := wc, x := wx, y := wy, d := wd }),
              elem := (3 : Nat), kind := Kind.row }])

def VC_impl_VisitsAfter (wr : List UInt8) (ww : Int) (wh : Int) (wc : List UInt8) (wx : Int) (wy : Int) (wd : Int) (steps : Int) (K : V → List Blk → Prop) : Prop :=
  At True ∧
  ((!goodB { r := wr, w := ww, h := wh, c := wc, x := wx, y := wy, d := wd }) = true →
      K (V.tup [V.raw (Value.slice none (0 : Nat) (0 : Nat)), V.lit false])
        [{
            cs :=
              Cells.vals
                [V.str wr, V.int IntKind.i64 ww, V.int IntKind.i64 wh, V.str wc, V.int IntKind.i64 wx,
                  V.int IntKind.i64 wy, V.int IntKind.i64 wd],
            elem := (27 : Nat), kind := Kind.box }]) ∧
    ((!goodB { r := wr, w := ww, h := wh, c := wc, x := wx, y := wy, d := wd }) = false →
      At True ∧
        ((!inB steps (0 : Int) (3000 : Int)) = true →
            K (V.tup [V.raw (Value.slice none (0 : Nat) (0 : Nat)), V.lit false])
              [{
                  cs :=
                    Cells.vals
                      [V.str wr, V.int IntKind.i64 ww, V.int IntKind.i64 wh, V.str wc, V.int IntKind.i64 wx,
                        V.int IntKind.i64 wy, V.int IntKind.i64 wd],
                  elem := (27 : Nat), kind := Kind.box }]) ∧
          ((!inB steps (0 : Int) (3000 : Int)) = false →
            At
                (goodB { r := wr, w := ww, h := wh, c := wc, x := wx, y := wy, d := wd } = true ∧
                  (0 : Int) ≤ steps ∧ steps ≤ (4000 : Int)) ∧
              K
                (V.tup
                  [V.row (1 : Nat)
                      (List.length
                        (visF (Int.toNat steps) { r := wr, w := ww, h := wh, c := wc, x := wx, y := wy, d := wd })),
                    V.lit true])
                [{
                    cs :=
                      Cells.vals
                        [V.str wr, V.int IntKind.i64 ww, V.int IntKind.i64 wh, V.str wc, V.int IntKind.i64 wx,
                          V.int IntKind.i64 wy, V.int IntKind.i64 wd],
                    elem := (27 : Nat), kind := Kind.box },
                  {
                    cs :=
                      Cells.ints IntKind.i64
                        (visF (Int.toNat steps) { r := wr, w := ww, h := wh, c := wc, x := wx, y := wy, d := wd }),
                    elem := (3 : Nat), kind := Kind.row }]))

def VC_spec_TrackAfter (wr : List UInt8) (ww : Int) (wh : Int) (wc : List UInt8) (wx : Int) (wy : Int) (wd : Int) (steps : Int) (K : V → List Blk → Prop) : Prop :=
  At True ∧
  ((!(goodB { r := wr, w := ww, h := wh, c := wc, x := wx, y := wy, d := wd } && inB steps (0 : Int) (3000 : Int))) =
        true →
      K (V.tup [V.raw (Value.slice none (0 : Nat) (0 : Nat)), V.lit false])
        [{
            cs :=
              Cells.vals
                [V.str wr, V.int IntKind.i64 ww, V.int IntKind.i64 wh, V.str wc, V.int IntKind.i64 wx,
                  V.int IntKind.i64 wy, V.int IntKind.i64 wd],
            elem := (27 : Nat), kind := Kind.box }]) ∧
    ((!(goodB { r := wr, w := ww, h := wh, c := wc, x := wx, y := wy, d := wd } && inB steps (0 : Int) (3000 : Int))) =
        false →
      (decide (steps > (200 : Int)) = true →
          K (V.tup [V.raw (Value.slice none (0 : Nat) (0 : Nat)), V.lit false])
            [{
                cs :=
                  Cells.vals
                    [V.str wr, V.int IntKind.i64 ww, V.int IntKind.i64 wh, V.str wc, V.int IntKind.i64 wx,
                      V.int IntKind.i64 wy, V.int IntKind.i64 wd],
                elem := (27 : Nat), kind := Kind.box }]) ∧
        (decide (steps > (200 : Int)) = false →
          (True ∧
              ((True ∧ steps = steps) ∧
                  ((0 : Nat) = (0 : Nat) ∧ (0 : Nat) = (0 : Nat)) ∧
                    ((1 : Nat) = (1 : Nat) ∧ (0 : Nat) = (0 : Nat)) ∧ True) ∧
                ((True ∧
                      wr = Wd.r { r := wr, w := ww, h := wh, c := wc, x := wx, y := wy, d := wd } ∧
                        (True ∧ ww = Wd.w { r := wr, w := ww, h := wh, c := wc, x := wx, y := wy, d := wd }) ∧
                          (True ∧ wh = Wd.h { r := wr, w := ww, h := wh, c := wc, x := wx, y := wy, d := wd }) ∧
                            wc = Wd.c { r := wr, w := ww, h := wh, c := wc, x := wx, y := wy, d := wd } ∧
                              (True ∧ wx = Wd.x { r := wr, w := ww, h := wh, c := wc, x := wx, y := wy, d := wd }) ∧
                                (True ∧ wy = Wd.y { r := wr, w := ww, h := wh, c := wc, x := wx, y := wy, d := wd }) ∧
                                  (True ∧ wd = Wd.d { r := wr, w := ww, h := wh, c := wc, x := wx, y := wy, d := wd }) ∧
                                    True) ∧
                    (True ∧ IntKind.i64 = IntKind.i64 ∧ nilI = nilI) ∧ True) ∧
                  True) ∧
            At
                (trlInv steps { r := wr, w := ww, h := wh, c := wc, x := wx, y := wy, d := wd }
                  { s := steps, v := { r := wr, w := ww, h := wh, c := wc, x := wx, y := wy, d := wd }, l := [] }) ∧
              ∀ (a : Vis),
                trlInv steps { r := wr, w := ww, h := wh, c := wc, x := wx, y := wy, d := wd } a →
                  (decide (Vis.s a > (0 : Int)) = true →
                      At
                          ((List.length (Vis.l a) = List.length (Vis.l a) * (1 : Nat) ∧
                              (1 : Nat) * (1 : Nat) ≤
                                List.length
                                  [IntKind.wrap IntKind.i64
                                      (IntKind.wrap IntKind.i64 (Wd.y (Vis.v a) * Wd.w (Vis.v a)) + Wd.x (Vis.v a))]) ∧
                            (0 : Nat) < (1 : Nat) ∧ List.length (Vis.l a) + (1 : Nat) ≤ (1000000000 : Nat)) ∧
                        At (goodB (Vis.v a) = true) ∧
                          (True ∧
                              ((True ∧
                                    IntKind.wrap IntKind.i64 (Vis.s a - (1 : Int)) =
                                      IntKind.wrap IntKind.i64 (Vis.s a - (1 : Int))) ∧
                                  ((0 : Nat) = (0 : Nat) ∧ (0 : Nat) = (0 : Nat)) ∧
                                    ((1 : Nat) = (1 : Nat) ∧
                                        List.length (Vis.l a) + (1 : Nat) =
                                          List.length
                                            (Vis.l a ++
                                              List.take ((1 : Nat) * (1 : Nat))
                                                [IntKind.wrap IntKind.i64
                                                    (IntKind.wrap IntKind.i64 (Wd.y (Vis.v a) * Wd.w (Vis.v a)) +
                                                      Wd.x (Vis.v a))])) ∧
                                      True) ∧
                                ((True ∧
                                      Wd.r (stepW (Vis.v a)) = Wd.r (stepW (Vis.v a)) ∧
                                        (True ∧ Wd.w (stepW (Vis.v a)) = Wd.w (stepW (Vis.v a))) ∧
                                          (True ∧ Wd.h (stepW (Vis.v a)) = Wd.h (stepW (Vis.v a))) ∧
                                            Wd.c (stepW (Vis.v a)) = Wd.c (stepW (Vis.v a)) ∧
                                              (True ∧ Wd.x (stepW (Vis.v a)) = Wd.x (stepW (Vis.v a))) ∧
                                                (True ∧ Wd.y (stepW (Vis.v a)) = Wd.y (stepW (Vis.v a))) ∧
                                                  (True ∧ Wd.d (stepW (Vis.v a)) = Wd.d (stepW (Vis.v a))) ∧ True) ∧
                                    (True ∧
                                        IntKind.i64 = IntKind.i64 ∧
                                          Vis.l a ++
                                              List.take ((1 : Nat) * (1 : Nat))
                                                [IntKind.wrap IntKind.i64
                                                    (IntKind.wrap IntKind.i64 (Wd.y (Vis.v a) * Wd.w (Vis.v a)) +
                                                      Wd.x (Vis.v a))] =
                                            Vis.l a ++
                                              List.take ((1 : Nat) * (1 : Nat))
                                                [IntKind.wrap IntKind.i64
                                                    (IntKind.wrap IntKind.i64 (Wd.y (Vis.v a) * Wd.w (Vis.v a)) +
                                                      Wd.x (Vis.v a))]) ∧
                                      True) ∧
                                  True) ∧
                            At
                              (trlInv steps { r := wr, w := ww, h := wh, c := wc, x := wx, y := wy, d := wd }
                                  { s := IntKind.wrap IntKind.i64 (Vis.s a - (1 : Int)), v := stepW (Vis.v a),
                                    l :=
                                      Vis.l a ++
                                        List.take ((1 : Nat) * (1 : Nat))
                                          [IntKind.wrap IntKind.i64
                                              (IntKind.wrap IntKind.i64 (Wd.y (Vis.v a) * Wd.w (Vis.v a)) +
                                                Wd.x (Vis.v a))] } ∧
                                Int.toNat (IntKind.wrap IntKind.i64 (Vis.s a - (1 : Int))) < Int.toNat (Vis.s a))) ∧
                    (decide (Vis.s a > (0 : Int)) = false →
                      K (V.tup [V.row (1 : Nat) (List.length (Vis.l a)), V.lit true])
                        [{
                            cs :=
                              Cells.vals
                                [V.str (Wd.r (Vis.v a)), V.int IntKind.i64 (Wd.w (Vis.v a)),
                                  V.int IntKind.i64 (Wd.h (Vis.v a)), V.str (Wd.c (Vis.v a)),
                                  V.int IntKind.i64 (Wd.x (Vis.v a)), V.int IntKind.i64 (Wd.y (Vis.v a)),
                                  V.int IntKind.i64 (Wd.d (Vis.v a))],
                            elem := (27 : Nat), kind := Kind.box },
                          { cs := Cells.ints IntKind.i64 (Vis.l a), elem := (3 : Nat), kind := Kind.row }])))

def VC_impl_TrackAfter (wr : List UInt8) (ww : Int) (wh : Int) (wc : List UInt8) (wx : Int) (wy : Int) (wd : Int) (steps : Int) (K : V → List Blk → Prop) : Prop :=
  At True ∧
  ((!goodB { r := wr, w := ww, h := wh, c := wc, x := wx, y := wy, d := wd }) = true →
      K (V.tup [V.raw (Value.slice none (0 : Nat) (0 : Nat)), V.lit false])
        [{
            cs :=
              Cells.vals
                [V.str wr, V.int IntKind.i64 ww, V.int IntKind.i64 wh, V.str wc, V.int IntKind.i64 wx,
                  V.int IntKind.i64 wy, V.int IntKind.i64 wd],
            elem := (27 : Nat), kind := Kind.box }]) ∧
    ((!goodB { r := wr, w := ww, h := wh, c := wc, x := wx, y := wy, d := wd }) = false →
      At True ∧
        ((!inB steps (0 : Int) (200 : Int)) = true →
            K (V.tup [V.raw (Value.slice none (0 : Nat) (0 : Nat)), V.lit false])
              [{
                  cs :=
                    Cells.vals
                      [V.str wr, V.int IntKind.i64 ww, V.int IntKind.i64 wh, V.str wc, V.int IntKind.i64 wx,
                        V.int IntKind.i64 wy, V.int IntKind.i64 wd],
                  elem := (27 : Nat), kind := Kind.box }]) ∧
          ((!inB steps (0 : Int) (200 : Int)) = false →
            At
                (goodB { r := wr, w := ww, h := wh, c := wc, x := wx, y := wy, d := wd } = true ∧
                  (0 : Int) ≤ steps ∧ steps ≤ (4000 : Int)) ∧
              K
                (V.tup
                  [V.row (1 : Nat)
                      (List.length
                        (trkF (Int.toNat steps) { r := wr, w := ww, h := wh, c := wc, x := wx, y := wy, d := wd })),
                    V.lit true])
                [{
                    cs :=
                      Cells.vals
                        [V.str wr, V.int IntKind.i64 ww, V.int IntKind.i64 wh, V.str wc, V.int IntKind.i64 wx,
                          V.int IntKind.i64 wy, V.int IntKind.i64 wd],
                    elem := (27 : Nat), kind := Kind.box },
                  {
                    cs :=
                      Cells.ints IntKind.i64
                        (trkF (Int.toNat steps) { r := wr, w := ww, h := wh, c := wc, x := wx, y := wy, d := wd }),
                    elem := (3 : Nat), kind := Kind.row }]))

def VC_spec_CellsVisited (wr : List UInt8) (ww : Int) (wh : Int) (wc : List UInt8) (wx : Int) (wy : Int) (wd : Int) (steps : Int) (K : V → Prop) : Prop :=
  At True ∧
  ((!(goodB { r := wr, w := ww, h := wh, c := wc, x := wx, y := wy, d := wd } && inB steps (0 : Int) (3000 : Int))) =
        true →
      K (V.tup [V.int IntKind.i64 (0 : Int), V.lit false])) ∧
    ((!(goodB { r := wr, w := ww, h := wh, c := wc, x := wx, y := wy, d := wd } && inB steps (0 : Int) (3000 : Int))) =
        false →
      At
          (goodB { r := wr, w := ww, h := wh, c := wc, x := wx, y := wy, d := wd } = true ∧
            (0 : Int) ≤ steps ∧ steps ≤ (4000 : Int)) ∧
        (((True ∧
                (0 : Int) =
                  cntP
                    (List.take (Int.toNat (0 : Int))
                      (visF (Int.toNat steps) { r := wr, w := ww, h := wh, c := wc, x := wx, y := wy, d := wd }))) ∧
              ((1 : Nat) = (1 : Nat) ∧
                  List.length
                      (visF (Int.toNat steps) { r := wr, w := ww, h := wh, c := wc, x := wx, y := wy, d := wd }) =
                    List.length
                      (visF (Int.toNat steps) { r := wr, w := ww, h := wh, c := wc, x := wx, y := wy, d := wd })) ∧
                (True ∧
                    (↑(List.length
                            (visF (Int.toNat steps)
                              { r := wr, w := ww, h := wh, c := wc, x := wx, y := wy, d := wd })) :
                        Int) =
                      (↑(List.length
                            (visF (Int.toNat steps)
                              { r := wr, w := ww, h := wh, c := wc, x := wx, y := wy, d := wd })) :
                        Int)) ∧
                  (True ∧ (0 : Int) = (0 : Int)) ∧ True) ∧
            ((True ∧
                  wr = wr ∧
                    (True ∧ ww = ww) ∧
                      (True ∧ wh = wh) ∧ wc = wc ∧ (True ∧ wx = wx) ∧ (True ∧ wy = wy) ∧ (True ∧ wd = wd) ∧ True) ∧
                (True ∧
                    IntKind.i64 = IntKind.i64 ∧
                      visF (Int.toNat steps) { r := wr, w := ww, h := wh, c := wc, x := wx, y := wy, d := wd } =
                        visF (Int.toNat steps) { r := wr, w := ww, h := wh, c := wc, x := wx, y := wy, d := wd }) ∧
                  True) ∧
              True) ∧
          At
              (ovInv (fun (x : Int) ↦ True)
                (List.length (visF (Int.toNat steps) { r := wr, w := ww, h := wh, c := wc, x := wx, y := wy, d := wd }))
                (0 : Int)) ∧
            ∀ (a : Int),
              ovInv (fun (x : Int) ↦ True)
                  (List.length
                    (visF (Int.toNat steps) { r := wr, w := ww, h := wh, c := wc, x := wx, y := wy, d := wd }))
                  a →
                (decide
                        (a <
                          (↑(List.length
                                (visF (Int.toNat steps)
                                  { r := wr, w := ww, h := wh, c := wc, x := wx, y := wy, d := wd })) :
                            Int)) =
                      true →
                    At
                        ((0 : Int) ≤ a ∧
                          a <
                            (↑(List.length
                                  (visF (Int.toNat steps)
                                    { r := wr, w := ww, h := wh, c := wc, x := wx, y := wy, d := wd })) :
                              Int)) ∧
                      At
                          (Int.toNat a <
                            List.length
                              (visF (Int.toNat steps)
                                { r := wr, w := ww, h := wh, c := wc, x := wx, y := wy, d := wd })) ∧
                        (decide
                                (List.getD
                                    (visF (Int.toNat steps)
                                      { r := wr, w := ww, h := wh, c := wc, x := wx, y := wy, d := wd })
                                    (Int.toNat a) (0 : Int) >
                                  (0 : Int)) =
                              true →
                            (((True ∧
                                    IntKind.wrap IntKind.i64
                                        (cntP
                                            (List.take (Int.toNat a)
                                              (visF (Int.toNat steps)
                                                { r := wr, w := ww, h := wh, c := wc, x := wx, y := wy, d := wd })) +
                                          (1 : Int)) =
                                      cntP
                                        (List.take (Int.toNat (IntKind.wrap IntKind.i64 (a + (1 : Int))))
                                          (visF (Int.toNat steps)
                                            { r := wr, w := ww, h := wh, c := wc, x := wx, y := wy, d := wd }))) ∧
                                  ((1 : Nat) = (1 : Nat) ∧
                                      List.length
                                          (visF (Int.toNat steps)
                                            { r := wr, w := ww, h := wh, c := wc, x := wx, y := wy, d := wd }) =
                                        List.length
                                          (visF (Int.toNat steps)
                                            { r := wr, w := ww, h := wh, c := wc, x := wx, y := wy, d := wd })) ∧
                                    (True ∧
                                        (↑(List.length
                                                (visF (Int.toNat steps)
                                                  { r := wr, w := ww, h := wh, c := wc, x := wx, y := wy, d := wd })) :
                                            Int) =
                                          (↑(List.length
                                                (visF (Int.toNat steps)
                                                  { r := wr, w := ww, h := wh, c := wc, x := wx, y := wy, d := wd })) :
                                            Int)) ∧
                                      (True ∧
                                          IntKind.wrap IntKind.i64 (a + (1 : Int)) =
                                            IntKind.wrap IntKind.i64 (a + (1 : Int))) ∧
                                        True) ∧
                                ((True ∧
                                      wr = wr ∧
                                        (True ∧ ww = ww) ∧
                                          (True ∧ wh = wh) ∧
                                            wc = wc ∧ (True ∧ wx = wx) ∧ (True ∧ wy = wy) ∧ (True ∧ wd = wd) ∧ True) ∧
                                    (True ∧
                                        IntKind.i64 = IntKind.i64 ∧
                                          visF (Int.toNat steps)
                                              { r := wr, w := ww, h := wh, c := wc, x := wx, y := wy, d := wd } =
                                            visF (Int.toNat steps)
                                              { r := wr, w := ww, h := wh, c := wc, x := wx, y := wy, d := wd }) ∧
                                      True) ∧
                                  True) ∧
                              At
                                (ovInv (fun (x : Int) ↦ True)
                                    (List.length
                                      (visF (Int.toNat steps)
                                        { r := wr, w := ww, h := wh, c := wc, x := wx, y := wy, d := wd }))
                                    (IntKind.wrap IntKind.i64 (a + (1 : Int))) ∧
                                  Int.toNat
                                      ((↑(List.length
                                              (visF (Int.toNat steps)
                                                { r := wr, w := ww, h := wh, c := wc, x := wx, y := wy, d := wd })) :
                                          Int) -
                                        IntKind.wrap IntKind.i64 (a + (1 : Int))) <
                                    Int.toNat
                                      ((↑(List.length
                                              (visF (Int.toNat steps)
                                                { r := wr, w := ww, h := wh, c := wc, x := wx, y := wy, d := wd })) :
                                          Int) -
                                        a))) ∧
                          (decide
                                (List.getD
                                    (visF (Int.toNat steps)
                                      { r := wr, w := ww, h := wh, c := wc, x := wx, y := wy, d := wd })
                                    (Int.toNat a) (0 : Int) >
                                  (0 : Int)) =
                              false →
                            (((True ∧
                                    cntP
                                        (List.take (Int.toNat a)
                                          (visF (Int.toNat steps)
                                            { r := wr, w := ww, h := wh, c := wc, x := wx, y := wy, d := wd })) =
                                      cntP
                                        (List.take (Int.toNat (IntKind.wrap IntKind.i64 (a + (1 : Int))))
                                          (visF (Int.toNat steps)
                                            { r := wr, w := ww, h := wh, c := wc, x := wx, y := wy, d := wd }))) ∧
                                  ((1 : Nat) = (1 : Nat) ∧
                                      List.length
                                          (visF (Int.toNat steps)
                                            { r := wr, w := ww, h := wh, c := wc, x := wx, y := wy, d := wd }) =
                                        List.length
                                          (visF (Int.toNat steps)
                                            { r := wr, w := ww, h := wh, c := wc, x := wx, y := wy, d := wd })) ∧
                                    (True ∧
                                        (↑(List.length
                                                (visF (Int.toNat steps)
                                                  { r := wr, w := ww, h := wh, c := wc, x := wx, y := wy, d := wd })) :
                                            Int) =
                                          (↑(List.length
                                                (visF (Int.toNat steps)
                                                  { r := wr, w := ww, h := wh, c := wc, x := wx, y := wy, d := wd })) :
                                            Int)) ∧
                                      (True ∧
                                          IntKind.wrap IntKind.i64 (a + (1 : Int)) =
                                            IntKind.wrap IntKind.i64 (a + (1 : Int))) ∧
                                        True) ∧
                                ((True ∧
                                      wr = wr ∧
                                        (True ∧ ww = ww) ∧
                                          (True ∧ wh = wh) ∧
                                            wc = wc ∧ (True ∧ wx = wx) ∧ (True ∧ wy = wy) ∧ (True ∧ wd = wd) ∧ True) ∧
                                    (True ∧
                                        IntKind.i64 = IntKind.i64 ∧
                                          visF (Int.toNat steps)
                                              { r := wr, w := ww, h := wh, c := wc, x := wx, y := wy, d := wd } =
                                            visF (Int.toNat steps)
                                              { r := wr, w := ww, h := wh, c := wc, x := wx, y := wy, d := wd }) ∧
                                      True) ∧
                                  True) ∧
                              At
                                (ovInv (fun (x : Int) ↦ True)
                                    (List.length
                                      (visF (Int.toNat steps)
                                        { r := wr, w := ww, h := wh, c := wc, x := wx, y := wy, d := wd }))
                                    (IntKind.wrap IntKind.i64 (a + (1 : Int))) ∧
                                  Int.toNat
                                      ((↑(List.length
                                              (visF (Int.toNat steps)
                                                { r := wr, w := ww, h := wh, c := wc, x := wx, y := wy, d := wd })) :
                                          Int) -
                                        IntKind.wrap IntKind.i64 (a + (1 : Int))) <
                                    Int.toNat
                                      ((↑(List.length
                                              (visF (Int.toNat steps)
                                                { r := wr, w := ww, h := wh, c := wc, x := wx, y := wy, d := wd })) :
                                          Int) -
                                        a)))) ∧
                  (decide
                        (a <
                          (↑(List.length
                                (visF (Int.toNat steps)
                                  { r := wr, w := ww, h := wh, c := wc, x := wx, y := wy, d := wd })) :
                            Int)) =
                      false →
                    K
                      (V.tup
                        [V.int IntKind.i64
                            (cntP
                              (List.take (Int.toNat a)
                                (visF (Int.toNat steps)
                                  { r := wr, w := ww, h := wh, c := wc, x := wx, y := wy, d := wd }))),
                          V.lit true])))

def VC_impl_CellsVisited (wr : List UInt8) (ww : Int) (wh : Int) (wc : List UInt8) (wx : Int) (wy : Int) (wd : Int) (steps : Int) (K : V → Prop) : Prop :=
  At True ∧
  ((!(goodB { r := wr, w := ww, h := wh, c := wc, x := wx, y := wy, d := wd } && inB steps (0 : Int) (3000 : Int))) =
        true →
      K (V.tup [V.int IntKind.i64 (0 : Int), V.lit false])) ∧
    ((!(goodB { r := wr, w := ww, h := wh, c := wc, x := wx, y := wy, d := wd } && inB steps (0 : Int) (3000 : Int))) =
        false →
      (((True ∧
              (0 : Int) =
                cntP
                  (List.take (Int.toNat (0 : Int))
                    (visW
                      (goodB { r := wr, w := ww, h := wh, c := wc, x := wx, y := wy, d := wd } &&
                        inB steps (0 : Int) (3000 : Int))
                      steps { r := wr, w := ww, h := wh, c := wc, x := wx, y := wy, d := wd }))) ∧
            ((1 : Nat) = (1 : Nat) ∧
                List.length
                    (visW
                      (goodB { r := wr, w := ww, h := wh, c := wc, x := wx, y := wy, d := wd } &&
                        inB steps (0 : Int) (3000 : Int))
                      steps { r := wr, w := ww, h := wh, c := wc, x := wx, y := wy, d := wd }) =
                  List.length
                    (visW
                      (goodB { r := wr, w := ww, h := wh, c := wc, x := wx, y := wy, d := wd } &&
                        inB steps (0 : Int) (3000 : Int))
                      steps { r := wr, w := ww, h := wh, c := wc, x := wx, y := wy, d := wd })) ∧
              (True ∧
                  (↑(List.length
                          (visW
                            (goodB { r := wr, w := ww, h := wh, c := wc, x := wx, y := wy, d := wd } &&
                              inB steps (0 : Int) (3000 : Int))
                            steps { r := wr, w := ww, h := wh, c := wc, x := wx, y := wy, d := wd })) :
                      Int) =
                    (↑(List.length
                          (visW
                            (goodB { r := wr, w := ww, h := wh, c := wc, x := wx, y := wy, d := wd } &&
                              inB steps (0 : Int) (3000 : Int))
                            steps { r := wr, w := ww, h := wh, c := wc, x := wx, y := wy, d := wd })) :
                      Int)) ∧
                (True ∧ (0 : Int) = (0 : Int)) ∧ True) ∧
          ((True ∧
                wr = wr ∧
                  (True ∧ ww = ww) ∧
                    (True ∧ wh = wh) ∧ wc = wc ∧ (True ∧ wx = wx) ∧ (True ∧ wy = wy) ∧ (True ∧ wd = wd) ∧ True) ∧
              (True ∧
                  IntKind.i64 = IntKind.i64 ∧
                    visW
                        (goodB { r := wr, w := ww, h := wh, c := wc, x := wx, y := wy, d := wd } &&
                          inB steps (0 : Int) (3000 : Int))
                        steps { r := wr, w := ww, h := wh, c := wc, x := wx, y := wy, d := wd } =
                      visW
                        (goodB { r := wr, w := ww, h := wh, c := wc, x := wx, y := wy, d := wd } &&
                          inB steps (0 : Int) (3000 : Int))
                        steps { r := wr, w := ww, h := wh, c := wc, x := wx, y := wy, d := wd }) ∧
                True) ∧
            True) ∧
        At
            (ovInv (fun (x : Int) ↦ True)
              (List.length
                (visW
                  (goodB { r := wr, w := ww, h := wh, c := wc, x := wx, y := wy, d := wd } &&
                    inB steps (0 : Int) (3000 : Int))
                  steps { r := wr, w := ww, h := wh, c := wc, x := wx, y := wy, d := wd }))
              (0 : Int)) ∧
          ∀ (a : Int),
            ovInv (fun (x : Int) ↦ True)
                (List.length
                  (visW
                    (goodB { r := wr, w := ww, h := wh, c := wc, x := wx, y := wy, d := wd } &&
                      inB steps (0 : Int) (3000 : Int))
                    steps { r := wr, w := ww, h := wh, c := wc, x := wx, y := wy, d := wd }))
                a →
              (decide
                      (a <
                        (↑(List.length
                              (visW
                                (goodB { r := wr, w := ww, h := wh, c := wc, x := wx, y := wy, d := wd } &&
                                  inB steps (0 : Int) (3000 : Int))
                                steps { r := wr, w := ww, h := wh, c := wc, x := wx, y := wy, d := wd })) :
                          Int)) =
                    true →
                  At
                      ((0 : Int) ≤ a ∧
                        a <
                          (↑(List.length
                                (visW
                                  (goodB { r := wr, w := ww, h := wh, c := wc, x := wx, y := wy, d := wd } &&
                                    inB steps (0 : Int) (3000 : Int))
                                  steps { r := wr, w := ww, h := wh, c := wc, x := wx, y := wy, d := wd })) :
                            Int)) ∧
                    At
                        (Int.toNat a <
                          List.length
                            (visW
                              (goodB { r := wr, w := ww, h := wh, c := wc, x := wx, y := wy, d := wd } &&
                                inB steps (0 : Int) (3000 : Int))
                              steps { r := wr, w := ww, h := wh, c := wc, x := wx, y := wy, d := wd })) ∧
                      (decide
                              (List.getD
                                  (visW
                                    (goodB { r := wr, w := ww, h := wh, c := wc, x := wx, y := wy, d := wd } &&
                                      inB steps (0 : Int) (3000 : Int))
                                    steps { r := wr, w := ww, h := wh, c := wc, x := wx, y := wy, d := wd })
                                  (Int.toNat a) (0 : Int) >
                                (0 : Int)) =
                            true →
                          (((True ∧
                                  IntKind.wrap IntKind.i64
                                      (cntP
                                          (List.take (Int.toNat a)
                                            (visW
                                              (goodB
                                                  { r := wr, w := ww, h := wh, c := wc, x := wx, y := wy, d := wd } &&
                                                inB steps (0 : Int) (3000 : Int))
                                              steps
                                              { r := wr, w := ww, h := wh, c := wc, x := wx, y := wy, d := wd })) +
                                        (1 : Int)) =
                                    cntP
                                      (List.take (Int.toNat (IntKind.wrap IntKind.i64 (a + (1 : Int))))
                                        (visW
                                          (goodB { r := wr, w := ww, h := wh, c := wc, x := wx, y := wy, d := wd } &&
                                            inB steps (0 : Int) (3000 : Int))
                                          steps { r := wr, w := ww, h := wh, c := wc, x := wx, y := wy, d := wd }))) ∧
                                ((1 : Nat) = (1 : Nat) ∧
                                    List.length
                                        (visW
                                          (goodB { r := wr, w := ww, h := wh, c := wc, x := wx, y := wy, d := wd } &&
                                            inB steps (0 : Int) (3000 : Int))
                                          steps { r := wr, w := ww, h := wh, c := wc, x := wx, y := wy, d := wd }) =
                                      List.length
                                        (visW
                                          (goodB { r := wr, w := ww, h := wh, c := wc, x := wx, y := wy, d := wd } &&
                                            inB steps (0 : Int) (3000 : Int))
                                          steps { r := wr, w := ww, h := wh, c := wc, x := wx, y := wy, d := wd })) ∧
                                  (True ∧
                                      (↑(List.length
                                              (visW
                                                (goodB
                                                    { r := wr, w := ww, h := wh, c := wc, x := wx, y := wy, d := wd } &&
                                                  inB steps (0 : Int) (3000 : Int))
                                                steps
                                                { r := wr, w := ww, h := wh, c := wc, x := wx, y := wy, d := wd })) :
                                          Int) =
                                        (↑(List.length
                                              (visW
                                                (goodB
                                                    { r := wr, w := ww, h := wh, c := wc, x := wx, y := wy, d := wd } &&
                                                  inB steps (0 : Int) (3000 : Int))
                                                steps
                                                { r := wr, w := ww, h := wh, c := wc, x := wx, y := wy, d := wd })) :
                                          Int)) ∧
                                    (True ∧
                                        IntKind.wrap IntKind.i64 (a + (1 : Int)) =
                                          IntKind.wrap IntKind.i64 (a + (1 : Int))) ∧
                                      True) ∧
                              ((True ∧
                                    wr = wr ∧
                                      (True ∧ ww = ww) ∧
                                        (True ∧ wh = wh) ∧
                                          wc = wc ∧ (True ∧ wx = wx) ∧ (True ∧ wy = wy) ∧ (True ∧ wd = wd) ∧ True) ∧
                                  (True ∧
                                      IntKind.i64 = IntKind.i64 ∧
                                        visW
                                            (goodB { r := wr, w := ww, h := wh, c := wc, x := wx, y := wy, d := wd } &&
                                              inB steps (0 : Int) (3000 : Int))
                                            steps { r := wr, w := ww, h := wh, c := wc, x := wx, y := wy, d := wd } =
                                          visW
                                            (goodB { r := wr, w := ww, h := wh, c := wc, x := wx, y := wy, d := wd } &&
                                              inB steps (0 : Int) (3000 : Int))
                                            steps { r := wr, w := ww, h := wh, c := wc, x := wx, y := wy, d := wd }) ∧
                                    True) ∧
                                True) ∧
                            At
                              (ovInv (fun (x : Int) ↦ True)
                                  (List.length
                                    (visW
                                      (goodB { r := wr, w := ww, h := wh, c := wc, x := wx, y := wy, d := wd } &&
                                        inB steps (0 : Int) (3000 : Int))
                                      steps { r := wr, w := ww, h := wh, c := wc, x := wx, y := wy, d := wd }))
                                  (IntKind.wrap IntKind.i64 (a + (1 : Int))) ∧
                                Int.toNat
                                    ((↑(List.length
                                            (visW
                                              (goodB
                                                  { r := wr, w := ww, h := wh, c := wc, x := wx, y := wy, d := wd } &&
                                                inB steps (0 : Int) (3000 : Int))
                                              steps
                                              { r := wr, w := ww, h := wh, c := wc, x := wx, y := wy, d := wd })) :
                                        Int) -
                                      IntKind.wrap IntKind.i64 (a + (1 : Int))) <
                                  Int.toNat
                                    ((↑(List.length
                                            (visW
                                              (goodB
                                                  { r := wr, w := ww, h := wh, c := wc, x := wx, y := wy, d := wd } &&
                                                inB steps (0 : Int) (3000 : Int))
                                              steps
                                              { r := wr, w := ww, h := wh, c := wc, x := wx, y := wy, d := wd })) :
                                        Int) -
                                      a))) ∧
                        (decide
                              (List.getD
                                  (visW
                                    (goodB { r := wr, w := ww, h := wh, c := wc, x := wx, y := wy, d := wd } &&
                                      inB steps (0 : Int) (3000 : Int))
                                    steps { r := wr, w := ww, h := wh, c := wc, x := wx, y := wy, d := wd })
                                  (Int.toNat a) (0 : Int) >
                                (0 : Int)) =
                            false →
                          (((True ∧
                                  cntP
                                      (List.take (Int.toNat a)
                                        (visW
                                          (goodB { r := wr, w := ww, h := wh, c := wc, x := wx, y := wy, d := wd } &&
                                            inB steps (0 : Int) (3000 : Int))
                                          steps { r := wr, w := ww, h := wh, c := wc, x := wx, y := wy, d := wd })) =
                                    cntP
                                      (List.take (Int.toNat (IntKind.wrap IntKind.i64 (a + (1 : Int))))
                                        (visW
                                          (goodB { r := wr, w := ww, h := wh, c := wc, x := wx, y := wy, d := wd } &&
                                            inB steps (0 : Int) (3000 : Int))
                                          steps { r := wr, w := ww, h := wh, c := wc, x := wx, y := wy, d := wd }))) ∧
                                ((1 : Nat) = (1 : Nat) ∧
                                    List.length
                                        (visW
                                          (goodB { r := wr, w := ww, h := wh, c := wc, x := wx, y := wy, d := wd } &&
                                            inB steps (0 : Int) (3000 : Int))
                                          steps { r := wr, w := ww, h := wh, c := wc, x := wx, y := wy, d := wd }) =
                                      List.length
                                        (visW
                                          (goodB { r := wr, w := ww, h := wh, c := wc, x := wx, y := wy, d := wd } &&
                                            inB steps (0 : Int) (3000 : Int))
                                          steps { r := wr, w := ww, h := wh, c := wc, x := wx, y := wy, d := wd })) ∧
                                  (True ∧
                                      (↑(List.length
                                              (visW
                                                (goodB
                                                    { r := wr, w := ww, h := wh, c := wc, x := wx, y := wy, d := wd } &&
                                                  inB steps (0 : Int) (3000 : Int))
                                                steps
                                                { r := wr, w := ww, h := wh, c := wc, x := wx, y := wy, d := wd })) :
                                          Int) =
                                        (↑(List.length
                                              (visW
                                                (goodB
                                                    { r := wr, w := ww, h := wh, c := wc, x := wx, y := wy, d := wd } &&
                                                  inB steps (0 : Int) (3000 : Int))
                                                steps
                                                { r := wr, w := ww, h := wh, c := wc, x := wx, y := wy, d := wd })) :
                                          Int)) ∧
                                    (True ∧
                                        IntKind.wrap IntKind.i64 (a + (1 : Int)) =
                                          IntKind.wrap IntKind.i64 (a + (1 : Int))) ∧
                                      True) ∧
                              ((True ∧
                                    wr = wr ∧
                                      (True ∧ ww = ww) ∧
                                        (True ∧ wh = wh) ∧
                                          wc = wc ∧ (True ∧ wx = wx) ∧ (True ∧ wy = wy) ∧ (True ∧ wd = wd) ∧ True) ∧
                                  (True ∧
                                      IntKind.i64 = IntKind.i64 ∧
                                        visW
                                            (goodB { r := wr, w := ww, h := wh, c := wc, x := wx, y := wy, d := wd } &&
                                              inB steps (0 : Int) (3000 : Int))
                                            steps { r := wr, w := ww, h := wh, c := wc, x := wx, y := wy, d := wd } =
                                          visW
                                            (goodB { r := wr, w := ww, h := wh, c := wc, x := wx, y := wy, d := wd } &&
                                              inB steps (0 : Int) (3000 : Int))
                                            steps { r := wr, w := ww, h := wh, c := wc, x := wx, y := wy, d := wd }) ∧
                                    True) ∧
                                True) ∧
                            At
                              (ovInv (fun (x : Int) ↦ True)
                                  (List.length
                                    (visW
                                      (goodB { r := wr, w := ww, h := wh, c := wc, x := wx, y := wy, d := wd } &&
                                        inB steps (0 : Int) (3000 : Int))
                                      steps { r := wr, w := ww, h := wh, c := wc, x := wx, y := wy, d := wd }))
                                  (IntKind.wrap IntKind.i64 (a + (1 : Int))) ∧
                                Int.toNat
                                    ((↑(List.length
                                            (visW
                                              (goodB
                                                  { r := wr, w := ww, h := wh, c := wc, x := wx, y := wy, d := wd } &&
                                                inB steps (0 : Int) (3000 : Int))
                                              steps
                                              { r := wr, w := ww, h := wh, c := wc, x := wx, y := wy, d := wd })) :
                                        Int) -
                                      IntKind.wrap IntKind.i64 (a + (1 : Int))) <
                                  Int.toNat
                                    ((↑(List.length
                                            (visW
                                              (goodB
                                                  { r := wr, w := ww, h := wh, c := wc, x := wx, y := wy, d := wd } &&
                                                inB steps (0 : Int) (3000 : Int))
                                              steps
                                              { r := wr, w := ww, h := wh, c := wc, x := wx, y := wy, d := wd })) :
                                        Int) -
                                      a)))) ∧
                (decide
                      (a <
                        (↑(List.length
                              (visW
                                (goodB { r := wr, w := ww, h := wh, c := wc, x := wx, y := wy, d := wd } &&
                                  inB steps (0 : Int) (3000 : Int))
                                steps { r := wr, w := ww, h := wh, c := wc, x := wx, y := wy, d := wd })) :
                          Int)) =
                    false →
                  K
                    (V.tup
                      [V.int IntKind.i64
                          (cntP
                            (List.take (Int.toNat a)
                              (visW
                                (goodB { r := wr, w := ww, h := wh, c := wc, x := wx, y := wy, d := wd } &&
                                  inB steps (0 : Int) (3000 : Int))
                                steps { r := wr, w := ww, h := wh, c := wc, x := wx, y := wy, d := wd }))),
                        V.lit true])))

def VC_spec_MostVisited (wr : List UInt8) (ww : Int) (wh : Int) (wc : List UInt8) (wx : Int) (wy : Int) (wd : Int) (steps : Int) (K : V → Prop) : Prop :=
  At True ∧
  ((!(goodB { r := wr, w := ww, h := wh, c := wc, x := wx, y := wy, d := wd } && inB steps (0 : Int) (3000 : Int))) =
        true →
      K (V.tup [V.int IntKind.i64 (0 : Int), V.lit false])) ∧
    ((!(goodB { r := wr, w := ww, h := wh, c := wc, x := wx, y := wy, d := wd } && inB steps (0 : Int) (3000 : Int))) =
        false →
      (decide (steps < (1 : Int)) = true → K (V.tup [V.int IntKind.i64 (0 : Int), V.lit false])) ∧
        (decide (steps < (1 : Int)) = false →
          At
              (goodB { r := wr, w := ww, h := wh, c := wc, x := wx, y := wy, d := wd } = true ∧
                (0 : Int) ≤ steps ∧ steps ≤ (4000 : Int)) ∧
            (((True ∧ (0 : Int) = (0 : Int)) ∧
                  ((1 : Nat) = (1 : Nat) ∧
                      List.length
                          (visF (Int.toNat steps) { r := wr, w := ww, h := wh, c := wc, x := wx, y := wy, d := wd }) =
                        List.length
                          (visF (Int.toNat steps) { r := wr, w := ww, h := wh, c := wc, x := wx, y := wy, d := wd })) ∧
                    ((1 : Nat) = (1 : Nat) ∧
                        List.length
                            (visF (Int.toNat steps) { r := wr, w := ww, h := wh, c := wc, x := wx, y := wy, d := wd }) =
                          List.length
                            (visF (Int.toNat steps)
                              { r := wr, w := ww, h := wh, c := wc, x := wx, y := wy, d := wd })) ∧
                      (True ∧
                          (↑(List.length
                                  (visF (Int.toNat steps)
                                    { r := wr, w := ww, h := wh, c := wc, x := wx, y := wy, d := wd })) :
                              Int) =
                            (↑(List.length
                                  (visF (Int.toNat steps)
                                    { r := wr, w := ww, h := wh, c := wc, x := wx, y := wy, d := wd })) :
                              Int)) ∧
                        (True ∧ (0 : Int) = (0 : Int)) ∧ True) ∧
                ((True ∧
                      wr = wr ∧
                        (True ∧ ww = ww) ∧
                          (True ∧ wh = wh) ∧ wc = wc ∧ (True ∧ wx = wx) ∧ (True ∧ wy = wy) ∧ (True ∧ wd = wd) ∧ True) ∧
                    (True ∧
                        IntKind.i64 = IntKind.i64 ∧
                          visF (Int.toNat steps) { r := wr, w := ww, h := wh, c := wc, x := wx, y := wy, d := wd } =
                            visF (Int.toNat steps) { r := wr, w := ww, h := wh, c := wc, x := wx, y := wy, d := wd }) ∧
                      True) ∧
                  True) ∧
              At
                  (bstInv (visF (Int.toNat steps) { r := wr, w := ww, h := wh, c := wc, x := wx, y := wy, d := wd })
                    ((0 : Int), (0 : Int))) ∧
                ∀ (a : Int × Int),
                  bstInv (visF (Int.toNat steps) { r := wr, w := ww, h := wh, c := wc, x := wx, y := wy, d := wd }) a →
                    (decide
                            (Prod.fst a <
                              (↑(List.length
                                    (visF (Int.toNat steps)
                                      { r := wr, w := ww, h := wh, c := wc, x := wx, y := wy, d := wd })) :
                                Int)) =
                          true →
                        At
                            ((0 : Int) ≤ Prod.fst a ∧
                              Prod.fst a <
                                (↑(List.length
                                      (visF (Int.toNat steps)
                                        { r := wr, w := ww, h := wh, c := wc, x := wx, y := wy, d := wd })) :
                                  Int)) ∧
                          At
                              (Int.toNat (Prod.fst a) <
                                List.length
                                  (visF (Int.toNat steps)
                                    { r := wr, w := ww, h := wh, c := wc, x := wx, y := wy, d := wd })) ∧
                            At
                                ((0 : Int) ≤ Prod.snd a ∧
                                  Prod.snd a <
                                    (↑(List.length
                                          (visF (Int.toNat steps)
                                            { r := wr, w := ww, h := wh, c := wc, x := wx, y := wy, d := wd })) :
                                      Int)) ∧
                              At
                                  (Int.toNat (Prod.snd a) <
                                    List.length
                                      (visF (Int.toNat steps)
                                        { r := wr, w := ww, h := wh, c := wc, x := wx, y := wy, d := wd })) ∧
                                (decide
                                        (List.getD
                                            (visF (Int.toNat steps)
                                              { r := wr, w := ww, h := wh, c := wc, x := wx, y := wy, d := wd })
                                            (Int.toNat (Prod.fst a)) (0 : Int) >
                                          List.getD
                                            (visF (Int.toNat steps)
                                              { r := wr, w := ww, h := wh, c := wc, x := wx, y := wy, d := wd })
                                            (Int.toNat (Prod.snd a)) (0 : Int)) =
                                      true →
                                    (((True ∧ Prod.fst a = Prod.fst a) ∧
                                          ((1 : Nat) = (1 : Nat) ∧
                                              List.length
                                                  (visF (Int.toNat steps)
                                                    { r := wr, w := ww, h := wh, c := wc, x := wx, y := wy, d := wd }) =
                                                List.length
                                                  (visF (Int.toNat steps)
                                                    { r := wr, w := ww, h := wh, c := wc, x := wx, y := wy,
                                                      d := wd })) ∧
                                            ((1 : Nat) = (1 : Nat) ∧
                                                List.length
                                                    (visF (Int.toNat steps)
                                                      { r := wr, w := ww, h := wh, c := wc, x := wx, y := wy,
                                                        d := wd }) =
                                                  List.length
                                                    (visF (Int.toNat steps)
                                                      { r := wr, w := ww, h := wh, c := wc, x := wx, y := wy,
                                                        d := wd })) ∧
                                              (True ∧
                                                  (↑(List.length
                                                          (visF (Int.toNat steps)
                                                            { r := wr, w := ww, h := wh, c := wc, x := wx, y := wy,
                                                              d := wd })) :
                                                      Int) =
                                                    (↑(List.length
                                                          (visF (Int.toNat steps)
                                                            { r := wr, w := ww, h := wh, c := wc, x := wx, y := wy,
                                                              d := wd })) :
                                                      Int)) ∧
                                                (True ∧
                                                    IntKind.wrap IntKind.i64 (Prod.fst a + (1 : Int)) =
                                                      IntKind.wrap IntKind.i64 (Prod.fst a + (1 : Int))) ∧
                                                  True) ∧
                                        ((True ∧
                                              wr = wr ∧
                                                (True ∧ ww = ww) ∧
                                                  (True ∧ wh = wh) ∧
                                                    wc = wc ∧
                                                      (True ∧ wx = wx) ∧ (True ∧ wy = wy) ∧ (True ∧ wd = wd) ∧ True) ∧
                                            (True ∧
                                                IntKind.i64 = IntKind.i64 ∧
                                                  visF (Int.toNat steps)
                                                      { r := wr, w := ww, h := wh, c := wc, x := wx, y := wy,
                                                        d := wd } =
                                                    visF (Int.toNat steps)
                                                      { r := wr, w := ww, h := wh, c := wc, x := wx, y := wy,
                                                        d := wd }) ∧
                                              True) ∧
                                          True) ∧
                                      At
                                        (bstInv
                                            (visF (Int.toNat steps)
                                              { r := wr, w := ww, h := wh, c := wc, x := wx, y := wy, d := wd })
                                            (IntKind.wrap IntKind.i64 (Prod.fst a + (1 : Int)), Prod.fst a) ∧
                                          Int.toNat
                                              ((↑(List.length
                                                      (visF (Int.toNat steps)
                                                        { r := wr, w := ww, h := wh, c := wc, x := wx, y := wy,
                                                          d := wd })) :
                                                  Int) -
                                                IntKind.wrap IntKind.i64 (Prod.fst a + (1 : Int))) <
                                            Int.toNat
                                              ((↑(List.length
                                                      (visF (Int.toNat steps)
                                                        { r := wr, w := ww, h := wh, c := wc, x := wx, y := wy,
                                                          d := wd })) :
                                                  Int) -
                                                Prod.fst a))) ∧
                                  (decide
                                        (List.getD
                                            (visF (Int.toNat steps)
                                              { r := wr, w := ww, h := wh, c := wc, x := wx, y := wy, d := wd })
                                            (Int.toNat (Prod.fst a)) (0 : Int) >
                                          List.getD
                                            (visF (Int.toNat steps)
                                              { r := wr, w := ww, h := wh, c := wc, x := wx, y := wy, d := wd })
                                            (Int.toNat (Prod.snd a)) (0 : Int)) =
                                      false →
                                    (((True ∧ Prod.snd a = Prod.snd a) ∧
                                          ((1 : Nat) = (1 : Nat) ∧
                                              List.length
                                                  (visF (Int.toNat steps)
                                                    { r := wr, w := ww, h := wh, c := wc, x := wx, y := wy, d := wd }) =
                                                List.length
                                                  (visF (Int.toNat steps)
                                                    { r := wr, w := ww, h := wh, c := wc, x := wx, y := wy,
                                                      d := wd })) ∧
                                            ((1 : Nat) = (1 : Nat) ∧
                                                List.length
                                                    (visF (Int.toNat steps)
                                                      { r := wr, w := ww, h := wh, c := wc, x := wx, y := wy,
                                                        d := wd }) =
                                                  List.length
                                                    (visF (Int.toNat steps)
                                                      { r := wr, w := ww, h := wh, c := wc, x := wx, y := wy,
                                                        d := wd })) ∧
                                              (True ∧
                                                  (↑(List.length
                                                          (visF (Int.toNat steps)
                                                            { r := wr, w := ww, h := wh, c := wc, x := wx, y := wy,
                                                              d := wd })) :
                                                      Int) =
                                                    (↑(List.length
                                                          (visF (Int.toNat steps)
                                                            { r := wr, w := ww, h := wh, c := wc, x := wx, y := wy,
                                                              d := wd })) :
                                                      Int)) ∧
                                                (True ∧
                                                    IntKind.wrap IntKind.i64 (Prod.fst a + (1 : Int)) =
                                                      IntKind.wrap IntKind.i64 (Prod.fst a + (1 : Int))) ∧
                                                  True) ∧
                                        ((True ∧
                                              wr = wr ∧
                                                (True ∧ ww = ww) ∧
                                                  (True ∧ wh = wh) ∧
                                                    wc = wc ∧
                                                      (True ∧ wx = wx) ∧ (True ∧ wy = wy) ∧ (True ∧ wd = wd) ∧ True) ∧
                                            (True ∧
                                                IntKind.i64 = IntKind.i64 ∧
                                                  visF (Int.toNat steps)
                                                      { r := wr, w := ww, h := wh, c := wc, x := wx, y := wy,
                                                        d := wd } =
                                                    visF (Int.toNat steps)
                                                      { r := wr, w := ww, h := wh, c := wc, x := wx, y := wy,
                                                        d := wd }) ∧
                                              True) ∧
                                          True) ∧
                                      At
                                        (bstInv
                                            (visF (Int.toNat steps)
                                              { r := wr, w := ww, h := wh, c := wc, x := wx, y := wy, d := wd })
                                            (IntKind.wrap IntKind.i64 (Prod.fst a + (1 : Int)), Prod.snd a) ∧
                                          Int.toNat
                                              ((↑(List.length
                                                      (visF (Int.toNat steps)
                                                        { r := wr, w := ww, h := wh, c := wc, x := wx, y := wy,
                                                          d := wd })) :
                                                  Int) -
                                                IntKind.wrap IntKind.i64 (Prod.fst a + (1 : Int))) <
                                            Int.toNat
                                              ((↑(List.length
                                                      (visF (Int.toNat steps)
                                                        { r := wr, w := ww, h := wh, c := wc, x := wx, y := wy,
                                                          d := wd })) :
                                                  Int) -
                                                Prod.fst a)))) ∧
                      (decide
                            (Prod.fst a <
                              (↑(List.length
                                    (visF (Int.toNat steps)
                                      { r := wr, w := ww, h := wh, c := wc, x := wx, y := wy, d := wd })) :
                                Int)) =
                          false →
                        K (V.tup [V.int IntKind.i64 (Prod.snd a), V.lit true]))))

def VC_impl_MostVisited (wr : List UInt8) (ww : Int) (wh : Int) (wc : List UInt8) (wx : Int) (wy : Int) (wd : Int) (steps : Int) (K : V → Prop) : Prop :=
  At True ∧
  ((!(goodB { r := wr, w := ww, h := wh, c := wc, x := wx, y := wy, d := wd } && inB steps (0 : Int) (3000 : Int))) =
        true →
      K (V.tup [V.int IntKind.i64 (0 : Int), V.lit false])) ∧
    ((!(goodB { r := wr, w := ww, h := wh, c := wc, x := wx, y := wy, d := wd } && inB steps (0 : Int) (3000 : Int))) =
        false →
      (decide (steps < (1 : Int)) = true → K (V.tup [V.int IntKind.i64 (0 : Int), V.lit false])) ∧
        (decide (steps < (1 : Int)) = false →
          At
              (List.length
                    (visW
                      (goodB { r := wr, w := ww, h := wh, c := wc, x := wx, y := wy, d := wd } &&
                        inB steps (0 : Int) (3000 : Int))
                      steps { r := wr, w := ww, h := wh, c := wc, x := wx, y := wy, d := wd }) =
                  List.length
                    (visW
                      (goodB { r := wr, w := ww, h := wh, c := wc, x := wx, y := wy, d := wd } &&
                        inB steps (0 : Int) (3000 : Int))
                      steps { r := wr, w := ww, h := wh, c := wc, x := wx, y := wy, d := wd }) ∧
                List.length
                      (visW
                        (goodB { r := wr, w := ww, h := wh, c := wc, x := wx, y := wy, d := wd } &&
                          inB steps (0 : Int) (3000 : Int))
                        steps { r := wr, w := ww, h := wh, c := wc, x := wx, y := wy, d := wd }) ≤
                    (10000 : Nat) ∧
                  (1 : Nat) ≤
                    List.length
                      (visW
                        (goodB { r := wr, w := ww, h := wh, c := wc, x := wx, y := wy, d := wd } &&
                          inB steps (0 : Int) (3000 : Int))
                        steps { r := wr, w := ww, h := wh, c := wc, x := wx, y := wy, d := wd })) ∧
            At
                (List.length
                      (visW
                        (goodB { r := wr, w := ww, h := wh, c := wc, x := wx, y := wy, d := wd } &&
                          inB steps (0 : Int) (3000 : Int))
                        steps { r := wr, w := ww, h := wh, c := wc, x := wx, y := wy, d := wd }) =
                    List.length
                      (visW
                        (goodB { r := wr, w := ww, h := wh, c := wc, x := wx, y := wy, d := wd } &&
                          inB steps (0 : Int) (3000 : Int))
                        steps { r := wr, w := ww, h := wh, c := wc, x := wx, y := wy, d := wd }) ∧
                  List.length
                      (visW
                        (goodB { r := wr, w := ww, h := wh, c := wc, x := wx, y := wy, d := wd } &&
                          inB steps (0 : Int) (3000 : Int))
                        steps { r := wr, w := ww, h := wh, c := wc, x := wx, y := wy, d := wd }) ≤
                    (10000 : Nat)) ∧
              K
                (V.tup
                  [V.int IntKind.i64
                      (idxF
                        (maxL
                          (visW
                            (goodB { r := wr, w := ww, h := wh, c := wc, x := wx, y := wy, d := wd } &&
                              inB steps (0 : Int) (3000 : Int))
                            steps { r := wr, w := ww, h := wh, c := wc, x := wx, y := wy, d := wd }))
                        (visW
                          (goodB { r := wr, w := ww, h := wh, c := wc, x := wx, y := wy, d := wd } &&
                            inB steps (0 : Int) (3000 : Int))
                          steps { r := wr, w := ww, h := wh, c := wc, x := wx, y := wy, d := wd })),
                    V.lit true])))

def VC_spec_CoverSteps (wr : List UInt8) (ww : Int) (wh : Int) (wc : List UInt8) (wx : Int) (wy : Int) (wd : Int) (K : V → Prop) : Prop :=
  At True ∧
  ((!goodB { r := wr, w := ww, h := wh, c := wc, x := wx, y := wy, d := wd }) = true →
      K (V.tup [V.int IntKind.i64 (0 : Int), V.lit false])) ∧
    ((!goodB { r := wr, w := ww, h := wh, c := wc, x := wx, y := wy, d := wd }) = false →
      At
          ((0 : Int) ≤ IntKind.wrap IntKind.i64 (ww * wh) ∧
            IntKind.wrap IntKind.i64 (ww * wh) ≤ IntKind.wrap IntKind.i64 (ww * wh) ∧
              IntKind.wrap IntKind.i64 (ww * wh) ≤ (1000000000 : Int)) ∧
        ((((0 : Nat) = (0 : Nat) ∧ (0 : Nat) = (0 : Nat)) ∧
              ((1 : Nat) = (1 : Nat) ∧ Int.toNat (IntKind.wrap IntKind.i64 (ww * wh)) = List.length wc) ∧
                (True ∧
                    (↑(Int.toNat (IntKind.wrap IntKind.i64 (ww * wh))) : Int) =
                      (↑(Int.toNat (IntKind.wrap IntKind.i64 (ww * wh))) : Int)) ∧
                  (True ∧ (1 : Int) = (1 : Int)) ∧ True) ∧
            ((True ∧
                  wr = Wd.r { r := wr, w := ww, h := wh, c := wc, x := wx, y := wy, d := wd } ∧
                    (True ∧ ww = Wd.w { r := wr, w := ww, h := wh, c := wc, x := wx, y := wy, d := wd }) ∧
                      (True ∧ wh = Wd.h { r := wr, w := ww, h := wh, c := wc, x := wx, y := wy, d := wd }) ∧
                        wc = Wd.c { r := wr, w := ww, h := wh, c := wc, x := wx, y := wy, d := wd } ∧
                          (True ∧ wx = Wd.x { r := wr, w := ww, h := wh, c := wc, x := wx, y := wy, d := wd }) ∧
                            (True ∧ wy = Wd.y { r := wr, w := ww, h := wh, c := wc, x := wx, y := wy, d := wd }) ∧
                              (True ∧ wd = Wd.d { r := wr, w := ww, h := wh, c := wc, x := wx, y := wy, d := wd }) ∧
                                True) ∧
                (True ∧
                    List.replicate (Int.toNat (IntKind.wrap IntKind.i64 (ww * wh))) false =
                      List.replicate (Int.toNat (IntKind.wrap IntKind.i64 (ww * wh))) false) ∧
                  True) ∧
              True) ∧
          At
              (covInv { r := wr, w := ww, h := wh, c := wc, x := wx, y := wy, d := wd }
                { s := (1 : Int), v := { r := wr, w := ww, h := wh, c := wc, x := wx, y := wy, d := wd },
                  l := List.replicate (Int.toNat (IntKind.wrap IntKind.i64 (ww * wh))) false,
                  k := (↑(Int.toNat (IntKind.wrap IntKind.i64 (ww * wh))) : Int) }) ∧
            ∀ (a : Cov),
              covInv { r := wr, w := ww, h := wh, c := wc, x := wx, y := wy, d := wd } a →
                (decide (Cov.s a ≤ (4000 : Int)) = true →
                    At
                        ((0 : Int) ≤
                            IntKind.wrap IntKind.i64
                              (IntKind.wrap IntKind.i64 (Wd.y (Cov.v a) * Wd.w (Cov.v a)) + Wd.x (Cov.v a)) ∧
                          IntKind.wrap IntKind.i64
                              (IntKind.wrap IntKind.i64 (Wd.y (Cov.v a) * Wd.w (Cov.v a)) + Wd.x (Cov.v a)) <
                            (↑(List.length wc) : Int)) ∧
                      At
                          (Int.toNat
                              (IntKind.wrap IntKind.i64
                                (IntKind.wrap IntKind.i64 (Wd.y (Cov.v a) * Wd.w (Cov.v a)) + Wd.x (Cov.v a))) <
                            List.length (Cov.l a)) ∧
                        ((!List.getD (Cov.l a)
                                  (Int.toNat
                                    (IntKind.wrap IntKind.i64
                                      (IntKind.wrap IntKind.i64 (Wd.y (Cov.v a) * Wd.w (Cov.v a)) + Wd.x (Cov.v a))))
                                  false) =
                              true →
                            At
                                ((0 : Int) ≤
                                    IntKind.wrap IntKind.i64
                                      (IntKind.wrap IntKind.i64 (Wd.y (Cov.v a) * Wd.w (Cov.v a)) + Wd.x (Cov.v a)) ∧
                                  IntKind.wrap IntKind.i64
                                      (IntKind.wrap IntKind.i64 (Wd.y (Cov.v a) * Wd.w (Cov.v a)) + Wd.x (Cov.v a)) <
                                    (↑(List.length wc) : Int)) ∧
                              At
                                  (Int.toNat
                                      (IntKind.wrap IntKind.i64
                                        (IntKind.wrap IntKind.i64 (Wd.y (Cov.v a) * Wd.w (Cov.v a)) + Wd.x (Cov.v a))) <
                                    List.length (Cov.l a)) ∧
                                ((IntKind.wrap IntKind.i64 (Cov.k a - (1 : Int)) == (0 : Int)) = true →
                                    K (V.tup [V.int IntKind.i64 (Cov.s a), V.lit true])) ∧
                                  ((IntKind.wrap IntKind.i64 (Cov.k a - (1 : Int)) == (0 : Int)) = false →
                                    At (goodB (Cov.v a) = true) ∧
                                      ((((0 : Nat) = (0 : Nat) ∧ (0 : Nat) = (0 : Nat)) ∧
                                            ((1 : Nat) = (1 : Nat) ∧ List.length wc = List.length wc) ∧
                                              (True ∧
                                                  IntKind.wrap IntKind.i64 (Cov.k a - (1 : Int)) =
                                                    IntKind.wrap IntKind.i64 (Cov.k a - (1 : Int))) ∧
                                                (True ∧
                                                    IntKind.wrap IntKind.i64 (Cov.s a + (1 : Int)) =
                                                      IntKind.wrap IntKind.i64 (Cov.s a + (1 : Int))) ∧
                                                  True) ∧
                                          ((True ∧
                                                Wd.r (stepW (Cov.v a)) = Wd.r (stepW (Cov.v a)) ∧
                                                  (True ∧ Wd.w (stepW (Cov.v a)) = Wd.w (stepW (Cov.v a))) ∧
                                                    (True ∧ Wd.h (stepW (Cov.v a)) = Wd.h (stepW (Cov.v a))) ∧
                                                      Wd.c (stepW (Cov.v a)) = Wd.c (stepW (Cov.v a)) ∧
                                                        (True ∧ Wd.x (stepW (Cov.v a)) = Wd.x (stepW (Cov.v a))) ∧
                                                          (True ∧ Wd.y (stepW (Cov.v a)) = Wd.y (stepW (Cov.v a))) ∧
                                                            (True ∧ Wd.d (stepW (Cov.v a)) = Wd.d (stepW (Cov.v a))) ∧
                                                              True) ∧
                                              (True ∧
                                                  List.set (Cov.l a)
                                                      (Int.toNat
                                                        (IntKind.wrap IntKind.i64
                                                          (IntKind.wrap IntKind.i64 (Wd.y (Cov.v a) * Wd.w (Cov.v a)) +
                                                            Wd.x (Cov.v a))))
                                                      true =
                                                    List.set (Cov.l a)
                                                      (Int.toNat
                                                        (IntKind.wrap IntKind.i64
                                                          (IntKind.wrap IntKind.i64 (Wd.y (Cov.v a) * Wd.w (Cov.v a)) +
                                                            Wd.x (Cov.v a))))
                                                      true) ∧
                                                True) ∧
                                            True) ∧
                                        At
                                          (covInv { r := wr, w := ww, h := wh, c := wc, x := wx, y := wy, d := wd }
                                              { s := IntKind.wrap IntKind.i64 (Cov.s a + (1 : Int)),
                                                v := stepW (Cov.v a),
                                                l :=
                                                  List.set (Cov.l a)
                                                    (Int.toNat
                                                      (IntKind.wrap IntKind.i64
                                                        (IntKind.wrap IntKind.i64 (Wd.y (Cov.v a) * Wd.w (Cov.v a)) +
                                                          Wd.x (Cov.v a))))
                                                    true,
                                                k := IntKind.wrap IntKind.i64 (Cov.k a - (1 : Int)) } ∧
                                            Int.toNat ((4001 : Int) - IntKind.wrap IntKind.i64 (Cov.s a + (1 : Int))) <
                                              Int.toNat ((4001 : Int) - Cov.s a)))) ∧
                          ((!List.getD (Cov.l a)
                                  (Int.toNat
                                    (IntKind.wrap IntKind.i64
                                      (IntKind.wrap IntKind.i64 (Wd.y (Cov.v a) * Wd.w (Cov.v a)) + Wd.x (Cov.v a))))
                                  false) =
                              false →
                            ((Cov.k a == (0 : Int)) = true → K (V.tup [V.int IntKind.i64 (Cov.s a), V.lit true])) ∧
                              ((Cov.k a == (0 : Int)) = false →
                                At (goodB (Cov.v a) = true) ∧
                                  ((((0 : Nat) = (0 : Nat) ∧ (0 : Nat) = (0 : Nat)) ∧
                                        ((1 : Nat) = (1 : Nat) ∧ List.length wc = List.length wc) ∧
                                          (True ∧ Cov.k a = Cov.k a) ∧
                                            (True ∧
                                                IntKind.wrap IntKind.i64 (Cov.s a + (1 : Int)) =
                                                  IntKind.wrap IntKind.i64 (Cov.s a + (1 : Int))) ∧
                                              True) ∧
                                      ((True ∧
                                            Wd.r (stepW (Cov.v a)) = Wd.r (stepW (Cov.v a)) ∧
                                              (True ∧ Wd.w (stepW (Cov.v a)) = Wd.w (stepW (Cov.v a))) ∧
                                                (True ∧ Wd.h (stepW (Cov.v a)) = Wd.h (stepW (Cov.v a))) ∧
                                                  Wd.c (stepW (Cov.v a)) = Wd.c (stepW (Cov.v a)) ∧
                                                    (True ∧ Wd.x (stepW (Cov.v a)) = Wd.x (stepW (Cov.v a))) ∧
                                                      (True ∧ Wd.y (stepW (Cov.v a)) = Wd.y (stepW (Cov.v a))) ∧
                                                        (True ∧ Wd.d (stepW (Cov.v a)) = Wd.d (stepW (Cov.v a))) ∧
                                                          True) ∧
                                          (True ∧ Cov.l a = Cov.l a) ∧ True) ∧
                                        True) ∧
                                    At
                                      (covInv { r := wr, w := ww, h := wh, c := wc, x := wx, y := wy, d := wd }
                                          { s := IntKind.wrap IntKind.i64 (Cov.s a + (1 : Int)), v := stepW (Cov.v a),
                                            l := Cov.l a, k := Cov.k a } ∧
                                        Int.toNat ((4001 : Int) - IntKind.wrap IntKind.i64 (Cov.s a + (1 : Int))) <
                                          Int.toNat ((4001 : Int) - Cov.s a))))) ∧
                  (decide (Cov.s a ≤ (4000 : Int)) = false → K (V.tup [V.int IntKind.i64 (0 : Int), V.lit false])))

def VC_impl_CoverSteps (wr : List UInt8) (ww : Int) (wh : Int) (wc : List UInt8) (wx : Int) (wy : Int) (wd : Int) (K : V → Prop) : Prop :=
  At True ∧
  ((!goodB { r := wr, w := ww, h := wh, c := wc, x := wx, y := wy, d := wd }) = true →
      K (V.tup [V.int IntKind.i64 (0 : Int), V.lit false])) ∧
    ((!goodB { r := wr, w := ww, h := wh, c := wc, x := wx, y := wy, d := wd }) = false →
      At
          (goodB { r := wr, w := ww, h := wh, c := wc, x := wx, y := wy, d := wd } = true ∧
            (0 : Int) ≤ (4000 : Int) ∧ (4000 : Int) ≤ (4000 : Int)) ∧
        ((((0 : Nat) = (0 : Nat) ∧ (0 : Nat) = (0 : Nat)) ∧
              ((1 : Nat) = (1 : Nat) ∧ (4000 : Nat) = (4000 : Nat)) ∧
                (True ∧ (0 : Int) = (0 : Int)) ∧
                  (True ∧ (↑(List.length wc) : Int) = (↑(List.length wc) : Int)) ∧
                    (True ∧ (0 : Int) = (0 : Int)) ∧ True) ∧
            ((True ∧
                  wr = wr ∧
                    (True ∧ ww = ww) ∧
                      (True ∧ wh = wh) ∧ wc = wc ∧ (True ∧ wx = wx) ∧ (True ∧ wy = wy) ∧ (True ∧ wd = wd) ∧ True) ∧
                (True ∧
                    IntKind.i64 = IntKind.i64 ∧
                      trkF (Int.toNat (4000 : Int)) { r := wr, w := ww, h := wh, c := wc, x := wx, y := wy, d := wd } =
                        trkF (Int.toNat (4000 : Int))
                          { r := wr, w := ww, h := wh, c := wc, x := wx, y := wy, d := wd }) ∧
                  True) ∧
              True) ∧
          At
              (cvkInv (trkF (Int.toNat (4000 : Int)) { r := wr, w := ww, h := wh, c := wc, x := wx, y := wy, d := wd })
                (List.length wc) ((0 : Int), (0 : Int))) ∧
            ∀ (a : Int × Int),
              cvkInv (trkF (Int.toNat (4000 : Int)) { r := wr, w := ww, h := wh, c := wc, x := wx, y := wy, d := wd })
                  (List.length wc) a →
                (decide (Prod.fst a < (↑(List.length wc) : Int)) = true →
                    At
                        (List.length
                              (trkF (Int.toNat (4000 : Int))
                                { r := wr, w := ww, h := wh, c := wc, x := wx, y := wy, d := wd }) =
                            List.length
                              (trkF (Int.toNat (4000 : Int))
                                { r := wr, w := ww, h := wh, c := wc, x := wx, y := wy, d := wd }) ∧
                          List.length
                              (trkF (Int.toNat (4000 : Int))
                                { r := wr, w := ww, h := wh, c := wc, x := wx, y := wy, d := wd }) ≤
                            (10000 : Nat)) ∧
                      (decide
                              (idxF (Prod.fst a)
                                  (trkF (Int.toNat (4000 : Int))
                                    { r := wr, w := ww, h := wh, c := wc, x := wx, y := wy, d := wd }) <
                                (0 : Int)) =
                            true →
                          K (V.tup [V.int IntKind.i64 (0 : Int), V.lit false])) ∧
                        (decide
                              (idxF (Prod.fst a)
                                  (trkF (Int.toNat (4000 : Int))
                                    { r := wr, w := ww, h := wh, c := wc, x := wx, y := wy, d := wd }) <
                                (0 : Int)) =
                            false →
                          ((((0 : Nat) = (0 : Nat) ∧ (0 : Nat) = (0 : Nat)) ∧
                                ((1 : Nat) = (1 : Nat) ∧ (4000 : Nat) = (4000 : Nat)) ∧
                                  (True ∧
                                      (if
                                            Prod.snd a <
                                              IntKind.wrap IntKind.i64
                                                (idxF (Prod.fst a)
                                                    (trkF (Int.toNat (4000 : Int))
                                                      { r := wr, w := ww, h := wh, c := wc, x := wx, y := wy,
                                                        d := wd }) +
                                                  (1 : Int)) then
                                          IntKind.wrap IntKind.i64
                                            (idxF (Prod.fst a)
                                                (trkF (Int.toNat (4000 : Int))
                                                  { r := wr, w := ww, h := wh, c := wc, x := wx, y := wy, d := wd }) +
                                              (1 : Int))
                                        else Prod.snd a) =
                                        if
                                            Prod.snd a <
                                              IntKind.wrap IntKind.i64
                                                (idxF (Prod.fst a)
                                                    (trkF (Int.toNat (4000 : Int))
                                                      { r := wr, w := ww, h := wh, c := wc, x := wx, y := wy,
                                                        d := wd }) +
                                                  (1 : Int)) then
                                          IntKind.wrap IntKind.i64
                                            (idxF (Prod.fst a)
                                                (trkF (Int.toNat (4000 : Int))
                                                  { r := wr, w := ww, h := wh, c := wc, x := wx, y := wy, d := wd }) +
                                              (1 : Int))
                                        else Prod.snd a) ∧
                                    (True ∧ (↑(List.length wc) : Int) = (↑(List.length wc) : Int)) ∧
                                      (True ∧
                                          IntKind.wrap IntKind.i64 (Prod.fst a + (1 : Int)) =
                                            IntKind.wrap IntKind.i64 (Prod.fst a + (1 : Int))) ∧
                                        True) ∧
                              ((True ∧
                                    wr = wr ∧
                                      (True ∧ ww = ww) ∧
                                        (True ∧ wh = wh) ∧
                                          wc = wc ∧ (True ∧ wx = wx) ∧ (True ∧ wy = wy) ∧ (True ∧ wd = wd) ∧ True) ∧
                                  (True ∧
                                      IntKind.i64 = IntKind.i64 ∧
                                        trkF (Int.toNat (4000 : Int))
                                            { r := wr, w := ww, h := wh, c := wc, x := wx, y := wy, d := wd } =
                                          trkF (Int.toNat (4000 : Int))
                                            { r := wr, w := ww, h := wh, c := wc, x := wx, y := wy, d := wd }) ∧
                                    True) ∧
                                True) ∧
                            At
                              (cvkInv
                                  (trkF (Int.toNat (4000 : Int))
                                    { r := wr, w := ww, h := wh, c := wc, x := wx, y := wy, d := wd })
                                  (List.length wc)
                                  (IntKind.wrap IntKind.i64 (Prod.fst a + (1 : Int)),
                                    if
                                        Prod.snd a <
                                          IntKind.wrap IntKind.i64
                                            (idxF (Prod.fst a)
                                                (trkF (Int.toNat (4000 : Int))
                                                  { r := wr, w := ww, h := wh, c := wc, x := wx, y := wy, d := wd }) +
                                              (1 : Int)) then
                                      IntKind.wrap IntKind.i64
                                        (idxF (Prod.fst a)
                                            (trkF (Int.toNat (4000 : Int))
                                              { r := wr, w := ww, h := wh, c := wc, x := wx, y := wy, d := wd }) +
                                          (1 : Int))
                                    else Prod.snd a) ∧
                                Int.toNat
                                    ((↑(List.length wc) : Int) - IntKind.wrap IntKind.i64 (Prod.fst a + (1 : Int))) <
                                  Int.toNat ((↑(List.length wc) : Int) - Prod.fst a)))) ∧
                  (decide (Prod.fst a < (↑(List.length wc) : Int)) = false →
                    K (V.tup [V.int IntKind.i64 (Prod.snd a), V.lit true])))

def VC_spec_NeverVisited (wr : List UInt8) (ww : Int) (wh : Int) (wc : List UInt8) (wx : Int) (wy : Int) (wd : Int) (K : V → List Blk → Prop) : Prop := At True ∧ ((!goodB { r := wr, w := ww, h := wh, c := wc, x := wx, y := wy, d := wd }) 
  = true → K (V.tup [V.raw (Value.slice none (0 : Nat) (0 : Nat)), V.lit false]) [{ cs := Cells.vals [V.str wr, V.int IntKind.i64 ww, V.int IntKind.i64 wh, V.str wc, V.int IntKind.i64 wx, V.int IntKind.i64 wy, V.int IntKind.i64 wd], elem := (27 : Nat), kind := Kind.box }]) 
  ∧ ((!goodB { r := wr, w := ww, h := wh, c := wc, x := wx, y := wy, d := wd }) = false → At (goodB { r := wr, w := ww, h := wh, c := wc, x := wx, y := wy, d := wd } = true) ∧ ((optI 
  (untilW (goodB { r := wr, w := ww, h := wh, c := wc, x := wx, y := wy, d := wd }) (pPer { r := wr, w := ww, h := wh, c := wc, x := wx, y := wy, d := wd }) (1 : Int) { r := wr, w := ww, h := wh, c := wc, x := wx, y := wy, d := wd }) 
  == (0 : Int)) = true → K (V.tup [V.raw (Value.slice none (0 : Nat) (0 : Nat)), V.lit false]) [{ cs := Cells.vals [V.str wr, V.int IntKind.i64 ww, V.int IntKind.i64 wh, V.str wc, V.int IntKind.i64 wx, V.int IntKind.i64 wy, V.int IntKind.i64 wd], elem := (27 : Nat), kind := Kind.box }]) 
  ∧ ((optI (untilW (goodB { r := wr, w := ww, h := wh, c := wc, x := wx, y := wy, d := wd }) (pPer { r := wr, w := ww, h := wh, c := wc, x := wx, y := wy, d := wd }) (1 : Int) { r := wr, w := ww, h := wh, c := wc, x := wx, y := wy, d := wd }) 
  == (0 : Int)) = false → ((((At (goodB { r := wr, w := ww, h := wh, c := wc, x := wx, y := wy, d := wd } = true) ∧ (At (goodB { r := wr, w := ww, h := wh, c := wc, x := wx, y := wy, d := wd } 
  = true ∧ (0 : Int) ≤ optI (untilW (goodB { r := wr, w := ww, h := wh, c := wc, x := wx, y := wy, d := wd }) (pPer { r := wr, w := ww, h := wh, c := wc, x := wx, y := wy, d := wd }) 
  (1 : Int) { r := wr, w := ww, h := wh, c := wc, x := wx, y := wy, d := wd }) ∧ optI (untilW (goodB { r := wr, w := ww, h := wh, c := wc, x := wx, y := wy, d := wd }) (pPer { r := wr, w := ww, h := wh, c := wc, x := wx, y := wy, d := wd }) 
  (1 : Int) { r := wr, w := ww, h := wh, c := wc, x := wx, y := wy, d := wd }) ≤ (4000 : Int)) ∧ (True ∧ (((0 : Nat) = (0 : Nat) ∧ (0 : Nat) = (0 : Nat)) ∧ Value.slice none (0 : Nat) 
  (0 : Nat) = Value.slice none (0 : Nat) (0 : Nat) ∧ ((1 : Nat) = (1 : Nat) ∧ List.length (visF (Int.toNat (optI (untilW (goodB { r := wr, w := ww, h := wh, c := wc, x := wx, y := wy, d := wd }) 
  (pPer { r := wr, w := ww, h := wh, c := wc, x := wx, y := wy, d := wd }) (1 : Int) { r := wr, w := ww, h := wh, c := wc, x := wx, y := wy, d := wd }))) { r := wr, w := ww, h := wh, c := wc, x := wx, y := wy, d := wd }) 
  = List.length (visF (Int.toNat (optI (untilW (goodB { r := wr, w := ww, h := wh, c := wc, x := wx, y := wy, d := wd }) (pPer { r := wr, w := ww, h := wh, c := wc, x := wx, y := wy, d := wd }) 
  (1 : Int) { r := wr, w := ww, h := wh, c := wc, x := wx, y := wy, d := wd }))) { r := wr, w := ww, h := wh, c := wc, x := wx, y := wy, d := wd })) ∧ (True ∧ (↑(List.length (visF (Int.toNat 
  (optI (untilW (goodB { r := wr, w := ww, h := wh, c := wc, x := wx, y := wy, d := wd }) (pPer { r := wr, w := ww, h := wh, c := wc, x := wx, y := wy, d := wd }) (1 : Int) { r := wr, w := ww, h := wh, c := wc, x := wx, y := wy, d := wd }))) 
  { r := wr, w := ww, h := wh, c := wc, x := wx, y := wy, d := wd })) : Int) = (↑(List.length (visF (Int.toNat (optI (untilW (goodB { r := wr, w := ww, h := wh, c := wc, x := wx, y := wy, d := wd }) 
  (pPer { r := wr, w := ww, h := wh, c := wc, x := wx, y := wy, d := wd }) (1 : Int) { r := wr, w := ww, h := wh, c := wc, x := wx, y := wy, d := wd }))) { r := wr, w := ww, h := wh, c := wc, x := wx, y := wy, d := wd })) 
  : Int)) ∧ (True ∧ (0 : Int) = (0 : Int)) ∧ True) ∧ ((True ∧ wr = wr ∧ (True ∧ ww = ww) ∧ (True ∧ wh = wh) ∧ wc = wc ∧ (True ∧ wx = wx) ∧ (True ∧ wy = wy) ∧ (True ∧ wd = wd) ∧ True) 
  ∧ (True ∧ IntKind.i64 = IntKind.i64 ∧ visF (Int.toNat (optI (untilW (goodB { r := wr, w := ww, h := wh, c := wc, x := wx, y := wy, d := wd }) (pPer { r := wr, w := ww, h := wh, c := wc, x := wx, y := wy, d := wd }) 
  (1 : Int) { r := wr, w := ww, h := wh, c := wc, x := wx, y := wy, d := wd }))) { r := wr, w := ww, h := wh, c := wc, x := wx, y := wy, d := wd } = visF (Int.toNat (optI (untilW (goodB 
  { r := wr, w := ww, h := wh, c := wc, x := wx, y := wy, d := wd }) (pPer { r := wr, w := ww, h := wh, c := wc, x := wx, y := wy, d := wd }) (1 : Int) { r := wr, w := ww, h := wh, c := wc, x := wx, y := wy, d := wd }))) 
  { r := wr, w := ww, h := wh, c := wc, x := wx, y := wy, d := wd }) ∧ True) ∧ True) ∧ True) ∧ True) ∧ True) ∧ True) ∧ (((At (goodB { r := wr, w := ww, h := wh, c := wc, x := wx, y := wy, d := wd } 
  = true) ∧ (At (goodB { r := wr, w := ww, h := wh, c := wc, x := wx, y := wy, d := wd } = true ∧ (0 : Int) ≤ optI (untilW (goodB { r := wr, w := ww, h := wh, c := wc, x := wx, y := wy, d := wd }) 
  (pPer { r := wr, w := ww, h := wh, c := wc, x := wx, y := wy, d := wd }) (1 : Int) { r := wr, w := ww, h := wh, c := wc, x := wx, y := wy, d := wd }) ∧ optI (untilW (goodB { r := wr, w := ww, h := wh, c := wc, x := wx, y := wy, d := wd }) 
  (pPer { r := wr, w := ww, h := wh, c := wc, x := wx, y := wy, d := wd }) (1 : Int) { r := wr, w := ww, h := wh, c := wc, x := wx, y := wy, d := wd }) ≤ (4000 : Int)) ∧ (True ∧ (((0 
  : Nat) = (0 : Nat) ∧ (0 : Nat) = (0 : Nat)) ∧ Value.slice none (0 : Nat) (0 : Nat) = Value.slice none (0 : Nat) (0 : Nat) ∧ ((1 : Nat) = (1 : Nat) ∧ List.length (visF (Int.toNat (optI 
  (untilW (goodB { r := wr, w := ww, h := wh, c := wc, x := wx, y := wy, d := wd }) (pPer { r := wr, w := ww, h := wh, c := wc, x := wx, y := wy, d := wd }) (1 : Int) { r := wr, w := ww, h := wh, c := wc, x := wx, y := wy, d := wd }))) 
  { r := wr, w := ww, h := wh, c := wc, x := wx, y := wy, d := wd }) = List.length (visF (Int.toNat (optI (untilW (goodB { r := wr, w := ww, h := wh, c := wc, x := wx, y := wy, d := wd }) 
  (pPer { r := wr, w := ww, h := wh, c := wc, x := wx, y := wy, d := wd }) (1 : Int) { r := wr, w := ww, h := wh, c := wc, x := wx, y := wy, d := wd }))) { r := wr, w := ww, h := wh, c := wc, x := wx, y := wy, d := wd })) 
  ∧ (True ∧ (↑(List.length (visF (Int.toNat (optI (untilW (goodB { r := wr, w := ww, h := wh, c := wc, x := wx, y := wy, d := wd }) (pPer { r := wr, w := ww, h := wh, c := wc, x := wx, y := wy, d := wd }) 
  (1 : Int) { r := wr, w := ww, h := wh, c := wc, x := wx, y := wy, d := wd }))) { r := wr, w := ww, h := wh, c := wc, x := wx, y := wy, d := wd })) : Int) = (↑(List.length (visF (Int.toNat 
  (optI (untilW (goodB { r := wr, w := ww, h := wh, c := wc, x := wx, y := wy, d := wd }) (pPer { r := wr, w := ww, h := wh, c := wc, x := wx, y := wy, d := wd }) (1 : Int) { r := wr, w := ww, h := wh, c := wc, x := wx, y := wy, d := wd }))) 
  { r := wr, w := ww, h := wh, c := wc, x := wx, y := wy, d := wd })) : Int)) ∧ (True ∧ (0 : Int) = (0 : Int)) ∧ True) ∧ ((True ∧ wr = wr ∧ (True ∧ ww = ww) ∧ (True ∧ wh = wh) ∧ wc = 
  wc ∧ (True ∧ wx = wx) ∧ (True ∧ wy = wy) ∧ (True ∧ wd = wd) ∧ True) ∧ (True ∧ IntKind.i64 = IntKind.i64 ∧ visF (Int.toNat (optI (untilW (goodB { r := wr, w := ww, h := wh, c := wc, x := wx, y := wy, d := wd }) 
  (pPer { r := wr, w := ww, h := wh, c := wc, x := wx, y := wy, d := wd }) (1 : Int) { r := wr, w := ww, h := wh, c := wc, x := wx, y := wy, d := wd }))) { r := wr, w := ww, h := wh, c := wc, x := wx, y := wy, d := wd } 
  = visF (Int.toNat (optI (untilW (goodB { r := wr, w := ww, h := wh, c := wc, x := wx, y := wy, d := wd }) (pPer { r := wr, w := ww, h := wh, c := wc, x := wx, y := wy, d := wd }) (1 
  : Int) { r := wr, w := ww, h := wh, c := wc, x := wx, y := wy, d := wd }))) { r := wr, w := ww, h := wh, c := wc, x := wx, y := wy, d := wd }) ∧ True) ∧ True) ∧ True) ∧ True) ∧ True) 
  ∧ (At (goodB { r := wr, w := ww, h := wh, c := wc, x := wx, y := wy, d := wd } = true) ∧ ((At (goodB { r := wr, w := ww, h := wh, c := wc, x := wx, y := wy, d := wd } = true ∧ (0 : 
  Int) ≤ optI (untilW (goodB { r := wr, w := ww, h := wh, c := wc, x := wx, y := wy, d := wd }) (pPer { r := wr, w := ww, h := wh, c := wc, x := wx, y := wy, d := wd }) (1 : Int) { r := wr, w := ww, h := wh, c := wc, x := wx, y := wy, d := wd }) 
  ∧ optI (untilW (goodB { r := wr, w := ww, h := wh, c := wc, x := wx, y := wy, d := wd }) (pPer { r := wr, w := ww, h := wh, c := wc, x := wx, y := wy, d := wd }) (1 : Int) { r := wr, w := ww, h := wh, c := wc, x := wx, y := wy, d := wd }) 
  ≤ (4000 : Int)) ∧ (True ∧ (((0 : Nat) = (0 : Nat) ∧ (0 : Nat) = (0 : Nat)) ∧ Value.slice none (0 : Nat) (0 : Nat) = Value.slice none (0 : Nat) (0 : Nat) ∧ ((1 : Nat) = (1 : Nat) ∧ List.length 
  (visF (Int.toNat (optI (untilW (goodB { r := wr, w := ww, h := wh, c := wc, x := wx, y := wy, d := wd }) (pPer { r := wr, w := ww, h := wh, c := wc, x := wx, y := wy, d := wd }) (1 
  : Int) { r := wr, w := ww, h := wh, c := wc, x := wx, y := wy, d := wd }))) { r := wr, w := ww, h := wh, c := wc, x := wx, y := wy, d := wd }) = List.length (visF (Int.toNat (optI (untilW 
  (goodB { r := wr, w := ww, h := wh, c := wc, x := wx, y := wy, d := wd }) (pPer { r := wr, w := ww, h := wh, c := wc, x := wx, y := wy, d := wd }) (1 : Int) { r := wr, w := ww, h := wh, c := wc, x := wx, y := wy, d := wd }))) 
  { r := wr, w := ww, h := wh, c := wc, x := wx, y := wy, d := wd })) ∧ (True ∧ (↑(List.length (visF (Int.toNat (optI (untilW (goodB { r := wr, w := ww, h := wh, c := wc, x := wx, y := wy, d := wd }) 
  (pPer { r := wr, w := ww, h := wh, c := wc, x := wx, y := wy, d := wd }) (1 : Int) { r := wr, w := ww, h := wh, c := wc, x := wx, y := wy, d := wd }))) { r := wr, w := ww, h := wh, c := wc, x := wx, y := wy, d := wd })) 
  : Int) = (↑(List.length (visF (Int.toNat (optI (untilW (goodB { r := wr, w := ww, h := wh, c := wc, x := wx, y := wy, d := wd }) (pPer { r := wr, w := ww, h := wh, c := wc, x := wx, y := wy, d := wd }) 
  (1 : Int) { r := wr, w := ww, h := wh, c := wc, x := wx, y := wy, d := wd }))) { r := wr, w := ww, h := wh, c := wc, x := wx, y := wy, d := wd })) : Int)) ∧ (True ∧ (0 : Int) = (0 : 
  Int)) ∧ True) ∧ ((True ∧ wr = wr ∧ (True ∧ ww = ww) ∧ (True ∧ wh = wh) ∧ wc = wc ∧ (True ∧ wx = wx) ∧ (True ∧ wy = wy) ∧ (True ∧ wd = wd) ∧ True) ∧ (True ∧ IntKind.i64 = IntKind.i64 
  ∧ visF (Int.toNat (optI (untilW (goodB { r := wr, w := ww, h := wh, c := wc, x := wx, y := wy, d := wd }) (pPer { r := wr, w := ww, h := wh, c := wc, x := wx, y := wy, d := wd }) (1 
  : Int) { r := wr, w := ww, h := wh, c := wc, x := wx, y := wy, d := wd }))) { r := wr, w := ww, h := wh, c := wc, x := wx, y := wy, d := wd } = visF (Int.toNat (optI (untilW (goodB 
  { r := wr, w := ww, h := wh, c := wc, x := wx, y := wy, d := wd }) (pPer { r := wr, w := ww, h := wh, c := wc, x := wx, y := wy, d := wd }) (1 : Int) { r := wr, w := ww, h := wh, c := wc, x := wx, y := wy, d := wd }))) 
  { r := wr, w := ww, h := wh, c := wc, x := wx, y := wy, d := wd }) ∧ True) ∧ True) ∧ True) ∧ True) ∧ True) ∧ True) ∧ True) ∧ (True ∧ (((0 : Nat) = (0 : Nat) ∧ (0 : Nat) = (0 : Nat)) 
  ∧ ((2 : Nat) = (2 : Nat) ∧ (0 : Nat) = (0 : Nat)) ∧ ((1 : Nat) = (1 : Nat) ∧ List.length (visF (Int.toNat (optI (untilW (goodB { r := wr, w := ww, h := wh, c := wc, x := wx, y := wy, d := wd }) 
  (pPer { r := wr, w := ww, h := wh, c := wc, x := wx, y := wy, d := wd }) (1 : Int) { r := wr, w := ww, h := wh, c := wc, x := wx, y := wy, d := wd }))) { r := wr, w := ww, h := wh, c := wc, x := wx, y := wy, d := wd }) 
  = List.length (visF (Int.toNat (optI (untilW (goodB { r := wr, w := ww, h := wh, c := wc, x := wx, y := wy, d := wd }) (pPer { r := wr, w := ww, h := wh, c := wc, x := wx, y := wy, d := wd }) 
  (1 : Int) { r := wr, w := ww, h := wh, c := wc, x := wx, y := wy, d := wd }))) { r := wr, w := ww, h := wh, c := wc, x := wx, y := wy, d := wd })) ∧ (True ∧ (↑(List.length (visF (Int.toNat 
  (optI (untilW (goodB { r := wr, w := ww, h := wh, c := wc, x := wx, y := wy, d := wd }) (pPer { r := wr, w := ww, h := wh, c := wc, x := wx, y := wy, d := wd }) (1 : Int) { r := wr, w := ww, h := wh, c := wc, x := wx, y := wy, d := wd }))) 
  { r := wr, w := ww, h := wh, c := wc, x := wx, y := wy, d := wd })) : Int) = (↑(List.length (visF (Int.toNat (optI (untilW (goodB { r := wr, w := ww, h := wh, c := wc, x := wx, y := wy, d := wd }) 
  (pPer { r := wr, w := ww, h := wh, c := wc, x := wx, y := wy, d := wd }) (1 : Int) { r := wr, w := ww, h := wh, c := wc, x := wx, y := wy, d := wd }))) { r := wr, w := ww, h := wh, c := wc, x := wx, y := wy, d := wd })) 
  : Int)) ∧ (True ∧ (0 : Int) = (0 : Int)) ∧ True) ∧ ((True ∧ wr = wr ∧ (True ∧ ww = ww) ∧ (True ∧ wh = wh) ∧ wc = wc ∧ (True ∧ wx = wx) ∧ (True ∧ wy = wy) ∧ (True ∧ wd = wd) ∧ True) 
  ∧ (True ∧ IntKind.i64 = IntKind.i64 ∧ visF (Int.toNat (optI (untilW (goodB { r := wr, w := ww, h := wh, c := wc, x := wx, y := wy, d := wd }) (pPer { r := wr, w := ww, h := wh, c := wc, x := wx, y := wy, d := wd }) 
  (1 : Int) { r := wr, w := ww, h := wh, c := wc, x := wx, y := wy, d := wd }))) { r := wr, w := ww, h := wh, c := wc, x := wx, y := wy, d := wd } = visF (Int.toNat (optI (untilW (goodB 
  { r := wr, w := ww, h := wh, c := wc, x := wx, y := wy, d := wd }) (pPer { r := wr, w := ww, h := wh, c := wc, x := wx, y := wy, d := wd }) (1 : Int) { r := wr, w := ww, h := wh, c := wc, x := wx, y := wy, d := wd }))) 
  { r := wr, w := ww, h := wh, c := wc, x := wx, y := wy, d := wd }) ∧ (True ∧ IntKind.i64 = IntKind.i64 ∧ nilI = zerF (visF (Int.toNat (optI (untilW (goodB { r := wr, w := ww, h := wh, c := wc, x := wx, y := wy, d := wd }) 
  (pPer { r := wr, w := ww, h := wh, c := wc, x := wx, y := wy, d := wd }) (1 : Int) { r := wr, w := ww, h := wh, c := wc, x := wx, y := wy, d := wd }))) { r := wr, w := ww, h := wh, c := wc, x := wx, y := wy, d := wd }) 
  (Int.toNat (0 : Int))) ∧ True) ∧ True) ∧ At (ovInv (fun (x : Int) ↦ True) (List.length (visF (Int.toNat (optI (untilW (goodB { r := wr, w := ww, h := wh, c := wc, x := wx, y := wy, d := wd }) 
  (pPer { r := wr, w := ww, h := wh, c := wc, x := wx, y := wy, d := wd }) (1 : Int) { r := wr, w := ww, h := wh, c := wc, x := wx, y := wy, d := wd }))) { r := wr, w := ww, h := wh, c := wc, x := wx, y := wy, d := wd })) 
  (0 : Int)) ∧ ∀ (a : Int), ovInv (fun (x : Int) ↦ True) (List.length (visF (Int.toNat (optI (untilW (goodB { r := wr, w := ww, h := wh, c := wc, x := wx, y := wy, d := wd }) (pPer { r := wr, w := ww, h := wh, c := wc, x := wx, y := wy, d := wd }) 
  (1 : Int) { r := wr, w := ww, h := wh, c := wc, x := wx, y := wy, d := wd }))) { r := wr, w := ww, h := wh, c := wc, x := wx, y := wy, d := wd })) a → (decide (a < (↑(List.length (visF 
  (Int.toNat (optI (untilW (goodB { r := wr, w := ww, h := wh, c := wc, x := wx, y := wy, d := wd }) (pPer { r := wr, w := ww, h := wh, c := wc, x := wx, y := wy, d := wd }) (1 : Int) 
  { r := wr, w := ww, h := wh, c := wc, x := wx, y := wy, d := wd }))) { r := wr, w := ww, h := wh, c := wc, x := wx, y := wy, d := wd })) : Int)) = true → At ((0 : Int) ≤ a ∧ a < (↑(List.length 
  (visF (Int.toNat (optI (untilW (goodB { r := wr, w := ww, h := wh, c := wc, x := wx, y := wy, d := wd }) (pPer { r := wr, w := ww, h := wh, c := wc, x := wx, y := wy, d := wd }) (1 
  : Int) { r := wr, w := ww, h := wh, c := wc, x := wx, y := wy, d := wd }))) { r := wr, w := ww, h := wh, c := wc, x := wx, y := wy, d := wd })) : Int)) ∧ At (Int.toNat a < List.length 
  (visF (Int.toNat (optI (untilW (goodB { r := wr, w := ww, h := wh, c := wc, x := wx, y := wy, d := wd }) (pPer { r := wr, w := ww, h := wh, c := wc, x := wx, y := wy, d := wd }) (1 
  : Int) { r := wr, w := ww, h := wh, c := wc, x := wx, y := wy, d := wd }))) { r := wr, w := ww, h := wh, c := wc, x := wx, y := wy, d := wd })) ∧ ((List.getD (visF (Int.toNat (optI 
  (untilW (goodB { r := wr, w := ww, h := wh, c := wc, x := wx, y := wy, d := wd }) (pPer { r := wr, w := ww, h := wh, c := wc, x := wx, y := wy, d := wd }) (1 : Int) { r := wr, w := ww, h := wh, c := wc, x := wx, y := wy, d := wd }))) 
  { r := wr, w := ww, h := wh, c := wc, x := wx, y := wy, d := wd }) (Int.toNat a) (0 : Int) == (0 : Int)) = true → At ((List.length (zerF (visF (Int.toNat (optI (untilW (goodB { r := wr, w := ww, h := wh, c := wc, x := wx, y := wy, d := wd }) 
  (pPer { r := wr, w := ww, h := wh, c := wc, x := wx, y := wy, d := wd }) (1 : Int) { r := wr, w := ww, h := wh, c := wc, x := wx, y := wy, d := wd }))) { r := wr, w := ww, h := wh, c := wc, x := wx, y := wy, d := wd }) 
  (Int.toNat a)) = List.length (zerF (visF (Int.toNat (optI (untilW (goodB { r := wr, w := ww, h := wh, c := wc, x := wx, y := wy, d := wd }) (pPer { r := wr, w := ww, h := wh, c := wc, x := wx, y := wy, d := wd }) 
  (1 : Int) { r := wr, w := ww, h := wh, c := wc, x := wx, y := wy, d := wd }))) { r := wr, w := ww, h := wh, c := wc, x := wx, y := wy, d := wd }) (Int.toNat a)) * (1 : Nat) ∧ (1 : Nat) 
  * (1 : Nat) ≤ List.length [a]) ∧ (0 : Nat) < (1 : Nat) ∧ List.length (zerF (visF (Int.toNat (optI (untilW (goodB { r := wr, w := ww, h := wh, c := wc, x := wx, y := wy, d := wd }) (pPer 
  { r := wr, w := ww, h := wh, c := wc, x := wx, y := wy, d := wd }) (1 : Int) { r := wr, w := ww, h := wh, c := wc, x := wx, y := wy, d := wd }))) { r := wr, w := ww, h := wh, c := wc, x := wx, y := wy, d := wd }) 
  (Int.toNat a)) + (1 : Nat) ≤ (1000000000 : Nat)) ∧ (True ∧ (((0 : Nat) = (0 : Nat) ∧ (0 : Nat) = (0 : Nat)) ∧ ((2 : Nat) = (2 : Nat) ∧ List.length (zerF (visF (Int.toNat (optI (untilW 
  (goodB { r := wr, w := ww, h := wh, c := wc, x := wx, y := wy, d := wd }) (pPer { r := wr, w := ww, h := wh, c := wc, x := wx, y := wy, d := wd }) (1 : Int) { r := wr, w := ww, h := wh, c := wc, x := wx, y := wy, d := wd }))) 
  { r := wr, w := ww, h := wh, c := wc, x := wx, y := wy, d := wd }) (Int.toNat a)) + (1 : Nat) = List.length (zerF (visF (Int.toNat (optI (untilW (goodB { r := wr, w := ww, h := wh, c := wc, x := wx, y := wy, d := wd }) 
  (pPer { r := wr, w := ww, h := wh, c := wc, x := wx, y := wy, d := wd }) (1 : Int) { r := wr, w := ww, h := wh, c := wc, x := wx, y := wy, d := wd }))) { r := wr, w := ww, h := wh, c := wc, x := wx, y := wy, d := wd }) 
  (Int.toNat (IntKind.wrap IntKind.i64 (a + (1 : Int)))))) ∧ ((1 : Nat) = (1 : Nat) ∧ List.length (visF (Int.toNat (optI (untilW (goodB { r := wr, w := ww, h := wh, c := wc, x := wx, y := wy, d := wd }) 
  (pPer { r := wr, w := ww, h := wh, c := wc, x := wx, y := wy, d := wd }) (1 : Int) { r := wr, w := ww, h := wh, c := wc, x := wx, y := wy, d := wd }))) { r := wr, w := ww, h := wh, c := wc, x := wx, y := wy, d := wd }) 
  = List.length (visF (Int.toNat (optI (untilW (goodB { r := wr, w := ww, h := wh, c := wc, x := wx, y := wy, d := wd }) (pPer { r := wr, w := ww, h := wh, c := wc, x := wx, y := wy, d := wd }) 
  (1 : Int) { r := wr, w := ww, h := wh, c := wc, x := wx, y := wy, d := wd }))) { r := wr, w := ww, h := wh, c := wc, x := wx, y := wy, d := wd })) ∧ (True ∧ (↑(List.length (visF (Int.toNat 
  (optI (untilW (goodB { r := wr, w := ww, h := wh, c := wc, x := wx, y := wy, d := wd }) (pPer { r := wr, w := ww, h := wh, c := wc, x := wx, y := wy, d := wd }) (1 : Int) { r := wr, w := ww, h := wh, c := wc, x := wx, y := wy, d := wd }))) 
  { r := wr, w := ww, h := wh, c := wc, x := wx, y := wy, d := wd })) : Int) = (↑(List.length (visF (Int.toNat (optI (untilW (goodB { r := wr, w := ww, h := wh, c := wc, x := wx, y := wy, d := wd }) 
  (pPer { r := wr, w := ww, h := wh, c := wc, x := wx, y := wy, d := wd }) (1 : Int) { r := wr, w := ww, h := wh, c := wc, x := wx, y := wy, d := wd }))) { r := wr, w := ww, h := wh, c := wc, x := wx, y := wy, d := wd })) 
  : Int)) ∧ (True ∧ IntKind.wrap IntKind.i64 (a + (1 : Int)) = IntKind.wrap IntKind.i64 (a + (1 : Int))) ∧ True) ∧ ((True ∧ wr = wr ∧ (True ∧ ww = ww) ∧ (True ∧ wh = wh) ∧ wc = wc ∧ (True 
  ∧ wx = wx) ∧ (True ∧ wy = wy) ∧ (True ∧ wd = wd) ∧ True) ∧ (True ∧ IntKind.i64 = IntKind.i64 ∧ visF (Int.toNat (optI (untilW (goodB { r := wr, w := ww, h := wh, c := wc, x := wx, y := wy, d := wd }) 
  (pPer { r := wr, w := ww, h := wh, c := wc, x := wx, y := wy, d := wd }) (1 : Int) { r := wr, w := ww, h := wh, c := wc, x := wx, y := wy, d := wd }))) { r := wr, w := ww, h := wh, c := wc, x := wx, y := wy, d := wd } 
  = visF (Int.toNat (optI (untilW (goodB { r := wr, w := ww, h := wh, c := wc, x := wx, y := wy, d := wd }) (pPer { r := wr, w := ww, h := wh, c := wc, x := wx, y := wy, d := wd }) (1 
  : Int) { r := wr, w := ww, h := wh, c := wc, x := wx, y := wy, d := wd }))) { r := wr, w := ww, h := wh, c := wc, x := wx, y := wy, d := wd }) ∧ (True ∧ IntKind.i64 = IntKind.i64 ∧ 
  zerF (visF (Int.toNat (optI (untilW (goodB { r := wr, w := ww, h := wh, c := wc, x := wx, y := wy, d := wd }) (pPer { r := wr, w := ww, h := wh, c := wc, x := wx, y := wy, d := wd }) 
  (1 : Int) { r := wr, w := ww, h := wh, c := wc, x := wx, y := wy, d := wd }))) { r := wr, w := ww, h := wh, c := wc, x := wx, y := wy, d := wd }) (Int.toNat a) ++ List.take ((1 : Nat) 
  * (1 : Nat)) [a] = zerF (visF (Int.toNat (optI (untilW (goodB { r := wr, w := ww, h := wh, c := wc, x := wx, y := wy, d := wd }) (pPer { r := wr, w := ww, h := wh, c := wc, x := wx, y := wy, d := wd }) 
  (1 : Int) { r := wr, w := ww, h := wh, c := wc, x := wx, y := wy, d := wd }))) { r := wr, w := ww, h := wh, c := wc, x := wx, y := wy, d := wd }) (Int.toNat (IntKind.wrap IntKind.i64 
  (a + (1 : Int))))) ∧ True) ∧ True) ∧ At (ovInv (fun (x : Int) ↦ True) (List.length (visF (Int.toNat (optI (untilW (goodB { r := wr, w := ww, h := wh, c := wc, x := wx, y := wy, d := wd }) 
  (pPer { r := wr, w := ww, h := wh, c := wc, x := wx, y := wy, d := wd }) (1 : Int) { r := wr, w := ww, h := wh, c := wc, x := wx, y := wy, d := wd }))) { r := wr, w := ww, h := wh, c := wc, x := wx, y := wy, d := wd })) 
  (IntKind.wrap IntKind.i64 (a + (1 : Int))) ∧ Int.toNat ((↑(List.length (visF (Int.toNat (optI (untilW (goodB { r := wr, w := ww, h := wh, c := wc, x := wx, y := wy, d := wd }) (pPer 
  { r := wr, w := ww, h := wh, c := wc, x := wx, y := wy, d := wd }) (1 : Int) { r := wr, w := ww, h := wh, c := wc, x := wx, y := wy, d := wd }))) { r := wr, w := ww, h := wh, c := wc, x := wx, y := wy, d := wd })) 
  : Int) - IntKind.wrap IntKind.i64 (a + (1 : Int))) < Int.toNat ((↑(List.length (visF (Int.toNat (optI (untilW (goodB { r := wr, w := ww, h := wh, c := wc, x := wx, y := wy, d := wd }) 
  (pPer { r := wr, w := ww, h := wh, c := wc, x := wx, y := wy, d := wd }) (1 : Int) { r := wr, w := ww, h := wh, c := wc, x := wx, y := wy, d := wd }))) { r := wr, w := ww, h := wh, c := wc, x := wx, y := wy, d := wd })) 
  : Int) - a))) ∧ ((List.getD (visF (Int.toNat (optI (untilW (goodB { r := wr, w := ww, h := wh, c := wc, x := wx, y := wy, d := wd }) (pPer { r := wr, w := ww, h := wh, c := wc, x := wx, y := wy, d := wd }) 
  (1 : Int) { r := wr, w := ww, h := wh, c := wc, x := wx, y := wy, d := wd }))) { r := wr, w := ww, h := wh, c := wc, x := wx, y := wy, d := wd }) (Int.toNat a) (0 : Int) == (0 : Int)) 
  = false → (True ∧ (((0 : Nat) = (0 : Nat) ∧ (0 : Nat) = (0 : Nat)) ∧ ((2 : Nat) = (2 : Nat) ∧ List.length (zerF (visF (Int.toNat (optI (untilW (goodB { r := wr, w := ww, h := wh, c := wc, x := wx, y := wy, d := wd }) 
  (pPer { r := wr, w := ww, h := wh, c := wc, x := wx, y := wy, d := wd }) (1 : Int) { r := wr, w := ww, h := wh, c := wc, x := wx, y := wy, d := wd }))) { r := wr, w := ww, h := wh, c := wc, x := wx, y := wy, d := wd }) 
  (Int.toNat a)) = List.length (zerF (visF (Int.toNat (optI (untilW (goodB { r := wr, w := ww, h := wh, c := wc, x := wx, y := wy, d := wd }) (pPer { r := wr, w := ww, h := wh, c := wc, x := wx, y := wy, d := wd }) 
  (1 : Int) { r := wr, w := ww, h := wh, c := wc, x := wx, y := wy, d := wd }))) { r := wr, w := ww, h := wh, c := wc, x := wx, y := wy, d := wd }) (Int.toNat (IntKind.wrap IntKind.i64 
  (a + (1 : Int)))))) ∧ ((1 : Nat) = (1 : Nat) ∧ List.length (visF (Int.toNat (optI (untilW (goodB { r := wr, w := ww, h := wh, c := wc, x := wx, y := wy, d := wd }) (pPer { r := wr, w := ww, h := wh, c := wc, x := wx, y := wy, d := wd }) 
  (1 : Int) { r := wr, w := ww, h := wh, c := wc, x := wx, y := wy, d := wd }))) { r := wr, w := ww, h := wh, c := wc, x := wx, y := wy, d := wd }) = List.length (visF (Int.toNat (optI 
  (untilW (goodB { r := wr, w := ww, h := wh, c := wc, x := wx, y := wy, d := wd }) (pPer { r := wr, w := ww, h := wh, c := wc, x := wx, y := wy, d := wd }) (1 : Int) { r := wr, w := ww, h := wh, c := wc, x := wx, y := wy, d := wd }))) 
  { r := wr, w := ww, h := wh, c := wc, x := wx, y := wy, d := wd })) ∧ (True ∧ (↑(List.length (visF (Int.toNat (optI (untilW (goodB { r := wr, w := ww, h := wh, c := wc, x := wx, y := wy, d := wd }) 
  (pPer { r := wr, w := ww, h := wh, c := wc, x := wx, y := wy, d := wd }) (1 : Int) { r := wr, w := ww, h := wh, c := wc, x := wx, y := wy, d := wd }))) { r := wr, w := ww, h := wh, c := wc, x := wx, y := wy, d := wd })) 
  : Int) = (↑(List.length (visF (Int.toNat (optI (untilW (goodB { r := wr, w := ww, h := wh, c := wc, x := wx, y := wy, d := wd }) (pPer { r := wr, w := ww, h := wh, c := wc, x := wx, y := wy, d := wd }) 
  (1 : Int) { r := wr, w := ww, h := wh, c := wc, x := wx, y := wy, d := wd }))) { r := wr, w := ww, h := wh, c := wc, x := wx, y := wy, d := wd })) : Int)) ∧ (True ∧ IntKind.wrap IntKind.i64 
  (a + (1 : Int)) = IntKind.wrap IntKind.i64 (a + (1 : Int))) ∧ True) ∧ ((True ∧ wr = wr ∧ (True ∧ ww = ww) ∧ (True ∧ wh = wh) ∧ wc = wc ∧ (True ∧ wx = wx) ∧ (True ∧ wy = wy) ∧ (True 
  ∧ wd = wd) ∧ True) ∧ (True ∧ IntKind.i64 = IntKind.i64 ∧ visF (Int.toNat (optI (untilW (goodB { r := wr, w := ww, h := wh, c := wc, x := wx, y := wy, d := wd }) (pPer { r := wr, w := ww, h := wh, c := wc, x := wx, y := wy, d := wd }) 
  (1 : Int) { r := wr, w := ww, h := wh, c := wc, x := wx, y := wy, d := wd }))) { r := wr, w := ww, h := wh, c := wc, x := wx, y := wy, d := wd } = visF (Int.toNat (optI (untilW (goodB 
  { r := wr, w := ww, h := wh, c := wc, x := wx, y := wy, d := wd }) (pPer { r := wr, w := ww, h := wh, c := wc, x := wx, y := wy, d := wd }) (1 : Int) { r := wr, w := ww, h := wh, c := wc, x := wx, y := wy, d := wd }))) 
  { r := wr, w := ww, h := wh, c := wc, x := wx, y := wy, d := wd }) ∧ (True ∧ IntKind.i64 = IntKind.i64 ∧ zerF (visF (Int.toNat (optI (untilW (goodB { r := wr, w := ww, h := wh, c := wc, x := wx, y := wy, d := wd }) 
  (pPer { r := wr, w := ww, h := wh, c := wc, x := wx, y := wy, d := wd }) (1 : Int) { r := wr, w := ww, h := wh, c := wc, x := wx, y := wy, d := wd }))) { r := wr, w := ww, h := wh, c := wc, x := wx, y := wy, d := wd }) 
  (Int.toNat a) = zerF (visF (Int.toNat (optI (untilW (goodB { r := wr, w := ww, h := wh, c := wc, x := wx, y := wy, d := wd }) (pPer { r := wr, w := ww, h := wh, c := wc, x := wx, y := wy, d := wd }) 
  (1 : Int) { r := wr, w := ww, h := wh, c := wc, x := wx, y := wy, d := wd }))) { r := wr, w := ww, h := wh, c := wc, x := wx, y := wy, d := wd }) (Int.toNat (IntKind.wrap IntKind.i64 
  (a + (1 : Int))))) ∧ True) ∧ True) ∧ At (ovInv (fun (x : Int) ↦ True) (List.length (visF (Int.toNat (optI (untilW (goodB { r := wr, w := ww, h := wh, c := wc, x := wx, y := wy, d := wd }) 
  (pPer { r := wr, w := ww, h := wh, c := wc, x := wx, y := wy, d := wd }) (1 : Int) { r := wr, w := ww, h := wh, c := wc, x := wx, y := wy, d := wd }))) { r := wr, w := ww, h := wh, c := wc, x := wx, y := wy, d := wd })) 
  (IntKind.wrap IntKind.i64 (a + (1 : Int))) ∧ Int.toNat ((↑(List.length (visF (Int.toNat (optI (untilW (goodB { r := wr, w := ww, h := wh, c := wc, x := wx, y := wy, d := wd }) (pPer 
  { r := wr, w := ww, h := wh, c := wc, x := wx, y := wy, d := wd }) (1 : Int) { r := wr, w := ww, h := wh, c := wc, x := wx, y := wy, d := wd }))) { r := wr, w := ww, h := wh, c := wc, x := wx, y := wy, d := wd })) 
  : Int) - IntKind.wrap IntKind.i64 (a + (1 : Int))) < Int.toNat ((↑(List.length (visF (Int.toNat (optI (untilW (goodB { r := wr, w := ww, h := wh, c := wc, x := wx, y := wy, d := wd }) 
  (pPer { r := wr, w := ww, h := wh, c := wc, x := wx, y := wy, d := wd }) (1 : Int) { r := wr, w := ww, h := wh, c := wc, x := wx, y := wy, d := wd }))) { r := wr, w := ww, h := wh, c := wc, x := wx, y := wy, d := wd })) 
  : Int) - a)))) ∧ (decide (a < (↑(List.length (visF (Int.toNat (optI (untilW (goodB { r := wr, w := ww, h := wh, c := wc, x := wx, y := wy, d := wd }) (pPer { r := wr, w := ww, h := wh, c := wc, x := wx, y := wy, d := wd }) 
  (1 : Int) { r := wr, w := ww, h := wh, c := wc, x := wx, y := wy, d := wd }))) { r := wr, w := ww, h := wh, c := wc, x := wx, y := wy, d := wd })) : Int)) = false → K (V.tup [V.row 
  (2 : Nat) (List.length (zerF (visF (Int.toNat (optI (untilW (goodB { r := wr, w := ww, h := wh, c := wc, x := wx, y := wy, d := wd }) (pPer { r := wr, w := ww, h := wh, c := wc, x := wx, y := wy, d := wd }) 
  (1 : Int) { r := wr, w := ww, h := wh, c := wc, x := wx, y := wy, d := wd }))) { r := wr, w := ww, h := wh, c := wc, x := wx, y := wy, d := wd }) (Int.toNat a))), V.lit true]) [{ cs := Cells.vals [V.str wr, V.int IntKind.i64 ww, V.int IntKind.i64 wh, V.str wc, V.int IntKind.i64 wx, V.int IntKind.i64 wy, V.int IntKind.i64 wd], elem := (27 : Nat), kind := Kind.box }, 
  { cs := Cells.ints IntKind.i64 (visF (Int.toNat (optI (untilW (goodB { r := wr, w := ww, h := wh, c := wc, x := wx, y := wy, d := wd }) (pPer { r := wr, w := ww, h := wh, c := wc, x := wx, y := wy, d := wd }) (1 : Int) { r := wr, w := ww, h := wh, c := wc, x := wx, y := wy, d := wd }))) { r := wr, w := ww, h := wh, c := wc, x := wx, y := wy, d := wd }), elem := (3 : Nat), kind := Kind.row }, 
  { cs := Cells.ints IntKind.i64 (zerF (visF (Int.toNat (optI (untilW (goodB { r := wr, w := ww, h := wh, c := wc, x := wx, y := wy, d := wd }) (pPer { r := wr, w := ww, h := wh, c := wc, x := wx, y := wy, d := wd }) (1 : Int) { r := wr, w := ww, h := wh, c := wc, x := wx, y := wy, d := wd }))) { r := wr, w := ww, h := wh, c := wc, x := wx, y := wy, d := wd }) (Int.toNat a)), elem := (3 : Nat), kind := Kind.row }])))

def VC_impl_NeverVisited (wr : List UInt8) (ww : Int) (wh : Int) (wc : List UInt8) (wx : Int) (wy : Int) (wd : Int) (K : V → List Blk → Prop) : Prop := At True ∧ ((!Option.isSome (untilW 
  (goodB { r := wr, w := ww, h := wh, c := wc, x := wx, y := wy, d := wd }) (pPer { r := wr, w := ww, h := wh, c := wc, x := wx, y := wy, d := wd }) (1 : Int) { r := wr, w := ww, h := wh, c := wc, x := wx, y := wy, d := wd })) 
  = true → K (V.tup [V.raw (Value.slice none (0 : Nat) (0 : Nat)), V.lit false]) [{ cs := Cells.vals [V.str wr, V.int IntKind.i64 ww, V.int IntKind.i64 wh, V.str wc, V.int IntKind.i64 wx, V.int IntKind.i64 wy, V.int IntKind.i64 wd], elem := (27 : Nat), kind := Kind.box }]) 
  ∧ ((!Option.isSome (untilW (goodB { r := wr, w := ww, h := wh, c := wc, x := wx, y := wy, d := wd }) (pPer { r := wr, w := ww, h := wh, c := wc, x := wx, y := wy, d := wd }) (1 : Int) 
  { r := wr, w := ww, h := wh, c := wc, x := wx, y := wy, d := wd })) = false → At (goodB { r := wr, w := ww, h := wh, c := wc, x := wx, y := wy, d := wd } = true ∧ (0 : Int) ≤ optI (untilW 
  (goodB { r := wr, w := ww, h := wh, c := wc, x := wx, y := wy, d := wd }) (pPer { r := wr, w := ww, h := wh, c := wc, x := wx, y := wy, d := wd }) (1 : Int) { r := wr, w := ww, h := wh, c := wc, x := wx, y := wy, d := wd }) 
  ∧ optI (untilW (goodB { r := wr, w := ww, h := wh, c := wc, x := wx, y := wy, d := wd }) (pPer { r := wr, w := ww, h := wh, c := wc, x := wx, y := wy, d := wd }) (1 : Int) { r := wr, w := ww, h := wh, c := wc, x := wx, y := wy, d := wd }) 
  ≤ (4000 : Int)) ∧ (True ∧ (((0 : Nat) = (0 : Nat) ∧ (0 : Nat) = (0 : Nat)) ∧ ((2 : Nat) = (2 : Nat) ∧ (0 : Nat) = (0 : Nat)) ∧ ((1 : Nat) = (1 : Nat) ∧ List.length (visF (Int.toNat 
  (optI (untilW (goodB { r := wr, w := ww, h := wh, c := wc, x := wx, y := wy, d := wd }) (pPer { r := wr, w := ww, h := wh, c := wc, x := wx, y := wy, d := wd }) (1 : Int) { r := wr, w := ww, h := wh, c := wc, x := wx, y := wy, d := wd }))) 
  { r := wr, w := ww, h := wh, c := wc, x := wx, y := wy, d := wd }) = List.length (visF (Int.toNat (optI (untilW (goodB { r := wr, w := ww, h := wh, c := wc, x := wx, y := wy, d := wd }) 
  (pPer { r := wr, w := ww, h := wh, c := wc, x := wx, y := wy, d := wd }) (1 : Int) { r := wr, w := ww, h := wh, c := wc, x := wx, y := wy, d := wd }))) { r := wr, w := ww, h := wh, c := wc, x := wx, y := wy, d := wd })) 
  ∧ (True ∧ (↑(List.length (visF (Int.toNat (optI (untilW (goodB { r := wr, w := ww, h := wh, c := wc, x := wx, y := wy, d := wd }) (pPer { r := wr, w := ww, h := wh, c := wc, x := wx, y := wy, d := wd }) 
  (1 : Int) { r := wr, w := ww, h := wh, c := wc, x := wx, y := wy, d := wd }))) { r := wr, w := ww, h := wh, c := wc, x := wx, y := wy, d := wd })) : Int) = (↑(List.length (visF (Int.toNat 
  (optI (untilW (goodB { r := wr, w := ww, h := wh, c := wc, x := wx, y := wy, d := wd }) (pPer { r := wr, w := ww, h := wh, c := wc, x := wx, y := wy, d := wd }) (1 : Int) { r := wr, w := ww, h := wh, c := wc, x := wx, y := wy, d := wd }))) 
  { r := wr, w := ww, h := wh, c := wc, x := wx, y := wy, d := wd })) : Int)) ∧ (True ∧ (0 : Int) = (0 : Int)) ∧ True) ∧ ((True ∧ wr = wr ∧ (True ∧ ww = ww) ∧ (True ∧ wh = wh) ∧ wc = 
  wc ∧ (True ∧ wx = wx) ∧ (True ∧ wy = wy) ∧ (True ∧ wd = wd) ∧ True) ∧ (True ∧ IntKind.i64 = IntKind.i64 ∧ visF (Int.toNat (optI (untilW (goodB { r := wr, w := ww, h := wh, c := wc, x := wx, y := wy, d := wd }) 
  (pPer { r := wr, w := ww, h := wh, c := wc, x := wx, y := wy, d := wd }) (1 : Int) { r := wr, w := ww, h := wh, c := wc, x := wx, y := wy, d := wd }))) { r := wr, w := ww, h := wh, c := wc, x := wx, y := wy, d := wd } 
  = visF (Int.toNat (optI (untilW (goodB { r := wr, w := ww, h := wh, c := wc, x := wx, y := wy, d := wd }) (pPer { r := wr, w := ww, h := wh, c := wc, x := wx, y := wy, d := wd }) (1 
  : Int) { r := wr, w := ww, h := wh, c := wc, x := wx, y := wy, d := wd }))) { r := wr, w := ww, h := wh, c := wc, x := wx, y := wy, d := wd }) ∧ (True ∧ IntKind.i64 = IntKind.i64 ∧ 
  nilI = zerF (visF (Int.toNat (optI (untilW (goodB { r := wr, w := ww, h := wh, c := wc, x := wx, y := wy, d := wd }) (pPer { r := wr, w := ww, h := wh, c := wc, x := wx, y := wy, d := wd }) 
  (1 : Int) { r := wr, w := ww, h := wh, c := wc, x := wx, y := wy, d := wd }))) { r := wr, w := ww, h := wh, c := wc, x := wx, y := wy, d := wd }) (Int.toNat (0 : Int))) ∧ True) ∧ True) 
  ∧ At (ovInv (fun (x : Int) ↦ True) (List.length (visF (Int.toNat (optI (untilW (goodB { r := wr, w := ww, h := wh, c := wc, x := wx, y := wy, d := wd }) (pPer { r := wr, w := ww, h := wh, c := wc, x := wx, y := wy, d := wd }) 
  (1 : Int) { r := wr, w := ww, h := wh, c := wc, x := wx, y := wy, d := wd }))) { r := wr, w := ww, h := wh, c := wc, x := wx, y := wy, d := wd })) (0 : Int)) ∧ ∀ (a : Int), ovInv (fun 
  (x : Int) ↦ True) (List.length (visF (Int.toNat (optI (untilW (goodB { r := wr, w := ww, h := wh, c := wc, x := wx, y := wy, d := wd }) (pPer { r := wr, w := ww, h := wh, c := wc, x := wx, y := wy, d := wd }) 
  (1 : Int) { r := wr, w := ww, h := wh, c := wc, x := wx, y := wy, d := wd }))) { r := wr, w := ww, h := wh, c := wc, x := wx, y := wy, d := wd })) a → (decide (a < (↑(List.length (visF 
  (Int.toNat (optI (untilW (goodB { r := wr, w := ww, h := wh, c := wc, x := wx, y := wy, d := wd }) (pPer { r := wr, w := ww, h := wh, c := wc, x := wx, y := wy, d := wd }) (1 : Int) 
  { r := wr, w := ww, h := wh, c := wc, x := wx, y := wy, d := wd }))) { r := wr, w := ww, h := wh, c := wc, x := wx, y := wy, d := wd })) : Int)) = true → At ((0 : Int) ≤ a ∧ a < (↑(List.length 
  (visF (Int.toNat (optI (untilW (goodB { r := wr, w := ww, h := wh, c := wc, x := wx, y := wy, d := wd }) (pPer { r := wr, w := ww, h := wh, c := wc, x := wx, y := wy, d := wd }) (1 
  : Int) { r := wr, w := ww, h := wh, c := wc, x := wx, y := wy, d := wd }))) { r := wr, w := ww, h := wh, c := wc, x := wx, y := wy, d := wd })) : Int)) ∧ At (Int.toNat a < List.length 
  (visF (Int.toNat (optI (untilW (goodB { r := wr, w := ww, h := wh, c := wc, x := wx, y := wy, d := wd }) (pPer { r := wr, w := ww, h := wh, c := wc, x := wx, y := wy, d := wd }) (1 
  : Int) { r := wr, w := ww, h := wh, c := wc, x := wx, y := wy, d := wd }))) { r := wr, w := ww, h := wh, c := wc, x := wx, y := wy, d := wd })) ∧ ((List.getD (visF (Int.toNat (optI 
  (untilW (goodB { r := wr, w := ww, h := wh, c := wc, x := wx, y := wy, d := wd }) (pPer { r := wr, w := ww, h := wh, c := wc, x := wx, y := wy, d := wd }) (1 : Int) { r := wr, w := ww, h := wh, c := wc, x := wx, y := wy, d := wd }))) 
  { r := wr, w := ww, h := wh, c := wc, x := wx, y := wy, d := wd }) (Int.toNat a) (0 : Int) == (0 : Int)) = true → At ((List.length (zerF (visF (Int.toNat (optI (untilW (goodB { r := wr, w := ww, h := wh, c := wc, x := wx, y := wy, d := wd }) 
  (pPer { r := wr, w := ww, h := wh, c := wc, x := wx, y := wy, d := wd }) (1 : Int) { r := wr, w := ww, h := wh, c := wc, x := wx, y := wy, d := wd }))) { r := wr, w := ww, h := wh, c := wc, x := wx, y := wy, d := wd }) 
  (Int.toNat a)) = List.length (zerF (visF (Int.toNat (optI (untilW (goodB { r := wr, w := ww, h := wh, c := wc, x := wx, y := wy, d := wd }) (pPer { r := wr, w := ww, h := wh, c := wc, x := wx, y := wy, d := wd }) 
  (1 : Int) { r := wr, w := ww, h := wh, c := wc, x := wx, y := wy, d := wd }))) { r := wr, w := ww, h := wh, c := wc, x := wx, y := wy, d := wd }) (Int.toNat a)) * (1 : Nat) ∧ (1 : Nat) 
  * (1 : Nat) ≤ List.length [a]) ∧ (0 : Nat) < (1 : Nat) ∧ List.length (zerF (visF (Int.toNat (optI (untilW (goodB { r := wr, w := ww, h := wh, c := wc, x := wx, y := wy, d := wd }) (pPer 
  { r := wr, w := ww, h := wh, c := wc, x := wx, y := wy, d := wd }) (1 : Int) { r := wr, w := ww, h := wh, c := wc, x := wx, y := wy, d := wd }))) { r := wr, w := ww, h := wh, c := wc, x := wx, y := wy, d := wd }) 
  (Int.toNat a)) + (1 : Nat) ≤ (1000000000 : Nat)) ∧ (True ∧ (((0 : Nat) = (0 : Nat) ∧ (0 : Nat) = (0 : Nat)) ∧ ((2 : Nat) = (2 : Nat) ∧ List.length (zerF (visF (Int.toNat (optI (untilW 
  (goodB { r := wr, w := ww, h := wh, c := wc, x := wx, y := wy, d := wd }) (pPer { r := wr, w := ww, h := wh, c := wc, x := wx, y := wy, d := wd }) (1 : Int) { r := wr, w := ww, h := wh, c := wc, x := wx, y := wy, d := wd }))) 
  { r := wr, w := ww, h := wh, c := wc, x := wx, y := wy, d := wd }) (Int.toNat a)) + (1 : Nat) = List.length (zerF (visF (Int.toNat (optI (untilW (goodB { r := wr, w := ww, h := wh, c := wc, x := wx, y := wy, d := wd }) 
  (pPer { r := wr, w := ww, h := wh, c := wc, x := wx, y := wy, d := wd }) (1 : Int) { r := wr, w := ww, h := wh, c := wc, x := wx, y := wy, d := wd }))) { r := wr, w := ww, h := wh, c := wc, x := wx, y := wy, d := wd }) 
  (Int.toNat (IntKind.wrap IntKind.i64 (a + (1 : Int)))))) ∧ ((1 : Nat) = (1 : Nat) ∧ List.length (visF (Int.toNat (optI (untilW (goodB { r := wr, w := ww, h := wh, c := wc, x := wx, y := wy, d := wd }) 
  (pPer { r := wr, w := ww, h := wh, c := wc, x := wx, y := wy, d := wd }) (1 : Int) { r := wr, w := ww, h := wh, c := wc, x := wx, y := wy, d := wd }))) { r := wr, w := ww, h := wh, c := wc, x := wx, y := wy, d := wd }) 
  = List.length (visF (Int.toNat (optI (untilW (goodB { r := wr, w := ww, h := wh, c := wc, x := wx, y := wy, d := wd }) (pPer { r := wr, w := ww, h := wh, c := wc, x := wx, y := wy, d := wd }) 
  (1 : Int) { r := wr, w := ww, h := wh, c := wc, x := wx, y := wy, d := wd }))) { r := wr, w := ww, h := wh, c := wc, x := wx, y := wy, d := wd })) ∧ (True ∧ (↑(List.length (visF (Int.toNat 
  (optI (untilW (goodB { r := wr, w := ww, h := wh, c := wc, x := wx, y := wy, d := wd }) (pPer { r := wr, w := ww, h := wh, c := wc, x := wx, y := wy, d := wd }) (1 : Int) { r := wr, w := ww, h := wh, c := wc, x := wx, y := wy, d := wd }))) 
  { r := wr, w := ww, h := wh, c := wc, x := wx, y := wy, d := wd })) : Int) = (↑(List.length (visF (Int.toNat (optI (untilW (goodB { r := wr, w := ww, h := wh, c := wc, x := wx, y := wy, d := wd }) 
  (pPer { r := wr, w := ww, h := wh, c := wc, x := wx, y := wy, d := wd }) (1 : Int) { r := wr, w := ww, h := wh, c := wc, x := wx, y := wy, d := wd }))) { r := wr, w := ww, h := wh, c := wc, x := wx, y := wy, d := wd })) 
  : Int)) ∧ (True ∧ IntKind.wrap IntKind.i64 (a + (1 : Int)) = IntKind.wrap IntKind.i64 (a + (1 : Int))) ∧ True) ∧ ((True ∧ wr = wr ∧ (True ∧ ww = ww) ∧ (True ∧ wh = wh) ∧ wc = wc ∧ (True 
  ∧ wx = wx) ∧ (True ∧ wy = wy) ∧ (True ∧ wd = wd) ∧ True) ∧ (True ∧ IntKind.i64 = IntKind.i64 ∧ visF (Int.toNat (optI (untilW (goodB { r := wr, w := ww, h := wh, c := wc, x := wx, y := wy, d := wd }) 
  (pPer { r := wr, w := ww, h := wh, c := wc, x := wx, y := wy, d := wd }) (1 : Int) { r := wr, w := ww, h := wh, c := wc, x := wx, y := wy, d := wd }))) { r := wr, w := ww, h := wh, c := wc, x := wx, y := wy, d := wd } 
  = visF (Int.toNat (optI (untilW (goodB { r := wr, w := ww, h := wh, c := wc, x := wx, y := wy, d := wd }) (pPer { r := wr, w := ww, h := wh, c := wc, x := wx, y := wy, d := wd }) (1 
  : Int) { r := wr, w := ww, h := wh, c := wc, x := wx, y := wy, d := wd }))) { r := wr, w := ww, h := wh, c := wc, x := wx, y := wy, d := wd }) ∧ (True ∧ IntKind.i64 = IntKind.i64 ∧ 
  zerF (visF (Int.toNat (optI (untilW (goodB { r := wr, w := ww, h := wh, c := wc, x := wx, y := wy, d := wd }) (pPer { r := wr, w := ww, h := wh, c := wc, x := wx, y := wy, d := wd }) 
  (1 : Int) { r := wr, w := ww, h := wh, c := wc, x := wx, y := wy, d := wd }))) { r := wr, w := ww, h := wh, c := wc, x := wx, y := wy, d := wd }) (Int.toNat a) ++ List.take ((1 : Nat) 
  * (1 : Nat)) [a] = zerF (visF (Int.toNat (optI (untilW (goodB { r := wr, w := ww, h := wh, c := wc, x := wx, y := wy, d := wd }) (pPer { r := wr, w := ww, h := wh, c := wc, x := wx, y := wy, d := wd }) 
  (1 : Int) { r := wr, w := ww, h := wh, c := wc, x := wx, y := wy, d := wd }))) { r := wr, w := ww, h := wh, c := wc, x := wx, y := wy, d := wd }) (Int.toNat (IntKind.wrap IntKind.i64 
  (a + (1 : Int))))) ∧ True) ∧ True) ∧ At (ovInv (fun (x : Int) ↦ True) (List.length (visF (Int.toNat (optI (untilW (goodB { r := wr, w := ww, h := wh, c := wc, x := wx, y := wy, d := wd }) 
  (pPer { r := wr, w := ww, h := wh, c := wc, x := wx, y := wy, d := wd }) (1 : Int) { r := wr, w := ww, h := wh, c := wc, x := wx, y := wy, d := wd }))) { r := wr, w := ww, h := wh, c := wc, x := wx, y := wy, d := wd })) 
  (IntKind.wrap IntKind.i64 (a + (1 : Int))) ∧ Int.toNat ((↑(List.length (visF (Int.toNat (optI (untilW (goodB { r := wr, w := ww, h := wh, c := wc, x := wx, y := wy, d := wd }) (pPer 
  { r := wr, w := ww, h := wh, c := wc, x := wx, y := wy, d := wd }) (1 : Int) { r := wr, w := ww, h := wh, c := wc, x := wx, y := wy, d := wd }))) { r := wr, w := ww, h := wh, c := wc, x := wx, y := wy, d := wd })) 
  : Int) - IntKind.wrap IntKind.i64 (a + (1 : Int))) < Int.toNat ((↑(List.length (visF (Int.toNat (optI (untilW (goodB { r := wr, w := ww, h := wh, c := wc, x := wx, y := wy, d := wd }) 
  (pPer { r := wr, w := ww, h := wh, c := wc, x := wx, y := wy, d := wd }) (1 : Int) { r := wr, w := ww, h := wh, c := wc, x := wx, y := wy, d := wd }))) { r := wr, w := ww, h := wh, c := wc, x := wx, y := wy, d := wd })) 
  : Int) - a))) ∧ ((List.getD (visF (Int.toNat (optI (untilW (goodB { r := wr, w := ww, h := wh, c := wc, x := wx, y := wy, d := wd }) (pPer { r := wr, w := ww, h := wh, c := wc, x := wx, y := wy, d := wd }) 
  (1 : Int) { r := wr, w := ww, h := wh, c := wc, x := wx, y := wy, d := wd }))) { r := wr, w := ww, h := wh, c := wc, x := wx, y := wy, d := wd }) (Int.toNat a) (0 : Int) == (0 : Int)) 
  = false → (True ∧ (((0 : Nat) = (0 : Nat) ∧ (0 : Nat) = (0 : Nat)) ∧ ((2 : Nat) = (2 : Nat) ∧ List.length (zerF (visF (Int.toNat (optI (untilW (goodB { r := wr, w := ww, h := wh, c := wc, x := wx, y := wy, d := wd }) 
  (pPer { r := wr, w := ww, h := wh, c := wc, x := wx, y := wy, d := wd }) (1 : Int) { r := wr, w := ww, h := wh, c := wc, x := wx, y := wy, d := wd }))) { r := wr, w := ww, h := wh, c := wc, x := wx, y := wy, d := wd }) 
  (Int.toNat a)) = List.length (zerF (visF (Int.toNat (optI (untilW (goodB { r := wr, w := ww, h := wh, c := wc, x := wx, y := wy, d := wd }) (pPer { r := wr, w := ww, h := wh, c := wc, x := wx, y := wy, d := wd }) 
  (1 : Int) { r := wr, w := ww, h := wh, c := wc, x := wx, y := wy, d := wd }))) { r := wr, w := ww, h := wh, c := wc, x := wx, y := wy, d := wd }) (Int.toNat (IntKind.wrap IntKind.i64 
  (a + (1 : Int)))))) ∧ ((1 : Nat) = (1 : Nat) ∧ List.length (visF (Int.toNat (optI (untilW (goodB { r := wr, w := ww, h := wh, c := wc, x := wx, y := wy, d := wd }) (pPer { r := wr, w := ww, h := wh, c := wc, x := wx, y := wy, d := wd }) 
  (1 : Int) { r := wr, w := ww, h := wh, c := wc, x := wx, y := wy, d := wd }))) { r := wr, w := ww, h := wh, c := wc, x := wx, y := wy, d := wd }) = List.length (visF (Int.toNat (optI 
  (untilW (goodB { r := wr, w := ww, h := wh, c := wc, x := wx, y := wy, d := wd }) (pPer { r := wr, w := ww, h := wh, c := wc, x := wx, y := wy, d := wd }) (1 : Int) { r := wr, w := ww, h := wh, c := wc, x := wx, y := wy, d := wd }))) 
  { r := wr, w := ww, h := wh, c := wc, x := wx, y := wy, d := wd })) ∧ (True ∧ (↑(List.length (visF (Int.toNat (optI (untilW (goodB { r := wr, w := ww, h := wh, c := wc, x := wx, y := wy, d := wd }) 
  (pPer { r := wr, w := ww, h := wh, c := wc, x := wx, y := wy, d := wd }) (1 : Int) { r := wr, w := ww, h := wh, c := wc, x := wx, y := wy, d := wd }))) { r := wr, w := ww, h := wh, c := wc, x := wx, y := wy, d := wd })) 
  : Int) = (↑(List.length (visF (Int.toNat (optI (untilW (goodB { r := wr, w := ww, h := wh, c := wc, x := wx, y := wy, d := wd }) (pPer { r := wr, w := ww, h := wh, c := wc, x := wx, y := wy, d := wd }) 
  (1 : Int) { r := wr, w := ww, h := wh, c := wc, x := wx, y := wy, d := wd }))) { r := wr, w := ww, h := wh, c := wc, x := wx, y := wy, d := wd })) : Int)) ∧ (True ∧ IntKind.wrap IntKind.i64 
  (a + (1 : Int)) = IntKind.wrap IntKind.i64 (a + (1 : Int))) ∧ True) ∧ ((True ∧ wr = wr ∧ (True ∧ ww = ww) ∧ (True ∧ wh = wh) ∧ wc = wc ∧ (True ∧ wx = wx) ∧ (True ∧ wy = wy) ∧ (True 
  ∧ wd = wd) ∧ True) ∧ (True ∧ IntKind.i64 = IntKind.i64 ∧ visF (Int.toNat (optI (untilW (goodB { r := wr, w := ww, h := wh, c := wc, x := wx, y := wy, d := wd }) (pPer { r := wr, w := ww, h := wh, c := wc, x := wx, y := wy, d := wd }) 
  (1 : Int) { r := wr, w := ww, h := wh, c := wc, x := wx, y := wy, d := wd }))) { r := wr, w := ww, h := wh, c := wc, x := wx, y := wy, d := wd } = visF (Int.toNat (optI (untilW (goodB 
  { r := wr, w := ww, h := wh, c := wc, x := wx, y := wy, d := wd }) (pPer { r := wr, w := ww, h := wh, c := wc, x := wx, y := wy, d := wd }) (1 : Int) { r := wr, w := ww, h := wh, c := wc, x := wx, y := wy, d := wd }))) 
  { r := wr, w := ww, h := wh, c := wc, x := wx, y := wy, d := wd }) ∧ (True ∧ IntKind.i64 = IntKind.i64 ∧ zerF (visF (Int.toNat (optI (untilW (goodB { r := wr, w := ww, h := wh, c := wc, x := wx, y := wy, d := wd }) 
  (pPer { r := wr, w := ww, h := wh, c := wc, x := wx, y := wy, d := wd }) (1 : Int) { r := wr, w := ww, h := wh, c := wc, x := wx, y := wy, d := wd }))) { r := wr, w := ww, h := wh, c := wc, x := wx, y := wy, d := wd }) 
  (Int.toNat a) = zerF (visF (Int.toNat (optI (untilW (goodB { r := wr, w := ww, h := wh, c := wc, x := wx, y := wy, d := wd }) (pPer { r := wr, w := ww, h := wh, c := wc, x := wx, y := wy, d := wd }) 
  (1 : Int) { r := wr, w := ww, h := wh, c := wc, x := wx, y := wy, d := wd }))) { r := wr, w := ww, h := wh, c := wc, x := wx, y := wy, d := wd }) (Int.toNat (IntKind.wrap IntKind.i64 
  (a + (1 : Int))))) ∧ True) ∧ True) ∧ At (ovInv (fun (x : Int) ↦ True) (List.length (visF (Int.toNat (optI (untilW (goodB { r := wr, w := ww, h := wh, c := wc, x := wx, y := wy, d := wd }) 
  (pPer { r := wr, w := ww, h := wh, c := wc, x := wx, y := wy, d := wd }) (1 : Int) { r := wr, w := ww, h := wh, c := wc, x := wx, y := wy, d := wd }))) { r := wr, w := ww, h := wh, c := wc, x := wx, y := wy, d := wd })) 
  (IntKind.wrap IntKind.i64 (a + (1 : Int))) ∧ Int.toNat ((↑(List.length (visF (Int.toNat (optI (untilW (goodB { r := wr, w := ww, h := wh, c := wc, x := wx, y := wy, d := wd }) (pPer 
  { r := wr, w := ww, h := wh, c := wc, x := wx, y := wy, d := wd }) (1 : Int) { r := wr, w := ww, h := wh, c := wc, x := wx, y := wy, d := wd }))) { r := wr, w := ww, h := wh, c := wc, x := wx, y := wy, d := wd })) 
  : Int) - IntKind.wrap IntKind.i64 (a + (1 : Int))) < Int.toNat ((↑(List.length (visF (Int.toNat (optI (untilW (goodB { r := wr, w := ww, h := wh, c := wc, x := wx, y := wy, d := wd }) 
  (pPer { r := wr, w := ww, h := wh, c := wc, x := wx, y := wy, d := wd }) (1 : Int) { r := wr, w := ww, h := wh, c := wc, x := wx, y := wy, d := wd }))) { r := wr, w := ww, h := wh, c := wc, x := wx, y := wy, d := wd })) 
  : Int) - a)))) ∧ (decide (a < (↑(List.length (visF (Int.toNat (optI (untilW (goodB { r := wr, w := ww, h := wh, c := wc, x := wx, y := wy, d := wd }) (pPer { r := wr, w := ww, h := wh, c := wc, x := wx, y := wy, d := wd }) 
  (1 : Int) { r := wr, w := ww, h := wh, c := wc, x := wx, y := wy, d := wd }))) { r := wr, w := ww, h := wh, c := wc, x := wx, y := wy, d := wd })) : Int)) = false → K (V.tup [V.row 
  (2 : Nat) (List.length (zerF (visF (Int.toNat (optI (untilW (goodB { r := wr, w := ww, h := wh, c := wc, x := wx, y := wy, d := wd }) (pPer { r := wr, w := ww, h := wh, c := wc, x := wx, y := wy, d := wd }) 
  (1 : Int) { r := wr, w := ww, h := wh, c := wc, x := wx, y := wy, d := wd }))) { r := wr, w := ww, h := wh, c := wc, x := wx, y := wy, d := wd }) (Int.toNat a))), V.lit true]) [{ cs := Cells.vals [V.str wr, V.int IntKind.i64 ww, V.int IntKind.i64 wh, V.str wc, V.int IntKind.i64 wx, V.int IntKind.i64 wy, V.int IntKind.i64 wd], elem := (27 : Nat), kind := Kind.box }, 
  { cs := Cells.ints IntKind.i64 (visF (Int.toNat (optI (untilW (goodB { r := wr, w := ww, h := wh, c := wc, x := wx, y := wy, d := wd }) (pPer { r := wr, w := ww, h := wh, c := wc, x := wx, y := wy, d := wd }) (1 : Int) { r := wr, w := ww, h := wh, c := wc, x := wx, y := wy, d := wd }))) { r := wr, w := ww, h := wh, c := wc, x := wx, y := wy, d := wd }), elem := (3 : Nat), kind := Kind.row }, 
  { cs := Cells.ints IntKind.i64 (zerF (visF (Int.toNat (optI (untilW (goodB { r := wr, w := ww, h := wh, c := wc, x := wx, y := wy, d := wd }) (pPer { r := wr, w := ww, h := wh, c := wc, x := wx, y := wy, d := wd }) (1 : Int) { r := wr, w := ww, h := wh, c := wc, x := wx, y := wy, d := wd }))) { r := wr, w := ww, h := wh, c := wc, x := wx, y := wy, d := wd }) (Int.toNat a)), elem := (3 : Nat), kind := Kind.row }]))

def VC_laws_eqIntS (n : Nat) (m : Nat) (a : List Int) (b : List Int) (K : V → List Blk → Prop) : Prop :=
  (((↑n : Int) != (↑m : Int)) = true →
    K (V.lit false)
      [{ cs := Cells.ints IntKind.i64 a, elem := (3 : Nat), kind := Kind.row },
        { cs := Cells.ints IntKind.i64 b, elem := (3 : Nat), kind := Kind.row }]) ∧
  (((↑n : Int) != (↑m : Int)) = false →
    ((((0 : Nat) = (0 : Nat) ∧ n = n) ∧ ((1 : Nat) = (1 : Nat) ∧ m = m) ∧ (True ∧ (0 : Int) = (0 : Int)) ∧ True) ∧
        ((True ∧ IntKind.i64 = IntKind.i64 ∧ a = a) ∧ (True ∧ IntKind.i64 = IntKind.i64 ∧ b = b) ∧ True) ∧ True) ∧
      At (eqsInv a b (0 : Int)) ∧
        ∀ (a_2 : Int),
          eqsInv a b a_2 →
            (decide (a_2 < (↑n : Int)) = true →
                True ∧
                  At ((0 : Int) ≤ a_2 ∧ a_2 < (↑n : Int)) ∧
                    At (Int.toNat a_2 < List.length a) ∧
                      At ((0 : Int) ≤ a_2 ∧ a_2 < (↑m : Int)) ∧
                        At (Int.toNat a_2 < List.length b) ∧
                          ((List.getD a (Int.toNat a_2) (0 : Int) != List.getD b (Int.toNat a_2) (0 : Int)) = true →
                              K (V.lit false)
                                [{ cs := Cells.ints IntKind.i64 a, elem := (3 : Nat), kind := Kind.row },
                                  { cs := Cells.ints IntKind.i64 b, elem := (3 : Nat), kind := Kind.row }]) ∧
                            ((List.getD a (Int.toNat a_2) (0 : Int) != List.getD b (Int.toNat a_2) (0 : Int)) = false →
                              ((((0 : Nat) = (0 : Nat) ∧ n = n) ∧
                                    ((1 : Nat) = (1 : Nat) ∧ m = m) ∧
                                      (True ∧
                                          IntKind.wrap IntKind.i64 (a_2 + (1 : Int)) =
                                            IntKind.wrap IntKind.i64 (a_2 + (1 : Int))) ∧
                                        True) ∧
                                  ((True ∧ IntKind.i64 = IntKind.i64 ∧ a = a) ∧
                                      (True ∧ IntKind.i64 = IntKind.i64 ∧ b = b) ∧ True) ∧
                                    True) ∧
                                At
                                  (eqsInv a b (IntKind.wrap IntKind.i64 (a_2 + (1 : Int))) ∧
                                    Int.toNat ((↑(List.length a) : Int) - IntKind.wrap IntKind.i64 (a_2 + (1 : Int))) <
                                      Int.toNat ((↑(List.length a) : Int) - a_2)))) ∧
              (decide (a_2 < (↑n : Int)) = false →
                K (V.lit true)
                  [{ cs := Cells.ints IntKind.i64 a, elem := (3 : Nat), kind := Kind.row },
                    { cs := Cells.ints IntKind.i64 b, elem := (3 : Nat), kind := Kind.row }]))

def VC_laws_markIntS (k : Int) (n : Nat) (a : List Int) (K : V → List Blk → Prop) : Prop :=
  ((((0 : Nat) = (0 : Nat) ∧ n = n) ∧ (True ∧ k = k + (0 : Int)) ∧ (True ∧ (0 : Int) = (0 : Int)) ∧ True) ∧
    ((True ∧ IntKind.i64 = IntKind.i64 ∧ a = mrkRow a k (0 : Int)) ∧ True) ∧ True) ∧
  At (mrkInv a k (0 : Int)) ∧
    ∀ (a_1 : Int),
      mrkInv a k a_1 →
        (decide (a_1 < (↑n : Int)) = true →
            At ((0 : Int) ≤ a_1 ∧ a_1 < (↑n : Int)) ∧
              At (Int.toNat a_1 < List.length (mrkRow a k a_1)) ∧
                ((((0 : Nat) = (0 : Nat) ∧ n = n) ∧
                      (True ∧
                          IntKind.wrap IntKind.i64 (k + a_1 + (1 : Int)) =
                            k + IntKind.wrap IntKind.i64 (a_1 + (1 : Int))) ∧
                        (True ∧
                            IntKind.wrap IntKind.i64 (a_1 + (1 : Int)) = IntKind.wrap IntKind.i64 (a_1 + (1 : Int))) ∧
                          True) ∧
                    ((True ∧
                          IntKind.i64 = IntKind.i64 ∧
                            List.set (mrkRow a k a_1) (Int.toNat a_1) (k + a_1) =
                              mrkRow a k (IntKind.wrap IntKind.i64 (a_1 + (1 : Int)))) ∧
                        True) ∧
                      True) ∧
                  At
                    (mrkInv a k (IntKind.wrap IntKind.i64 (a_1 + (1 : Int))) ∧
                      Int.toNat ((↑(List.length a) : Int) - IntKind.wrap IntKind.i64 (a_1 + (1 : Int))) <
                        Int.toNat ((↑(List.length a) : Int) - a_1))) ∧
          (decide (a_1 < (↑n : Int)) = false →
            K (V.int IntKind.i64 (k + a_1))
              [{ cs := Cells.ints IntKind.i64 (mrkRow a k a_1), elem := (3 : Nat), kind := Kind.row }])

def VC_laws_heldIntS (k : Int) (n : Nat) (a : List Int) (K : V → List Blk → Prop) : Prop :=
  ((((0 : Nat) = (0 : Nat) ∧ n = n) ∧ (True ∧ k = k + (0 : Int)) ∧ (True ∧ (0 : Int) = (0 : Int)) ∧ True) ∧
    ((True ∧ IntKind.i64 = IntKind.i64 ∧ a = a) ∧ True) ∧ True) ∧
  At (hldInv a k (0 : Int)) ∧
    ∀ (a_1 : Int),
      hldInv a k a_1 →
        (decide (a_1 < (↑n : Int)) = true →
            At ((0 : Int) ≤ a_1 ∧ a_1 < (↑n : Int)) ∧
              At (Int.toNat a_1 < List.length a) ∧
                ((List.getD a (Int.toNat a_1) (0 : Int) != k + a_1) = true →
                    K (V.int IntKind.i64 (-1 : Int))
                      [{ cs := Cells.ints IntKind.i64 a, elem := (3 : Nat), kind := Kind.row }]) ∧
                  ((List.getD a (Int.toNat a_1) (0 : Int) != k + a_1) = false →
                    ((((0 : Nat) = (0 : Nat) ∧ n = n) ∧
                          (True ∧
                              IntKind.wrap IntKind.i64 (k + a_1 + (1 : Int)) =
                                k + IntKind.wrap IntKind.i64 (a_1 + (1 : Int))) ∧
                            (True ∧
                                IntKind.wrap IntKind.i64 (a_1 + (1 : Int)) =
                                  IntKind.wrap IntKind.i64 (a_1 + (1 : Int))) ∧
                              True) ∧
                        ((True ∧ IntKind.i64 = IntKind.i64 ∧ a = a) ∧ True) ∧ True) ∧
                      At
                        (hldInv a k (IntKind.wrap IntKind.i64 (a_1 + (1 : Int))) ∧
                          Int.toNat ((↑(List.length a) : Int) - IntKind.wrap IntKind.i64 (a_1 + (1 : Int))) <
                            Int.toNat ((↑(List.length a) : Int) - a_1)))) ∧
          (decide (a_1 < (↑n : Int)) = false →
            K (V.int IntKind.i64 (k + a_1)) [{ cs := Cells.ints IntKind.i64 a, elem := (3 : Nat), kind := Kind.row }])

end Go.Vi
