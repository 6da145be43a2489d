/- The conditions, reckoned out by program: texts alone. -/
import Derived.Test.YtbchncdchanomabDoorT1Defs
namespace Go.Vi
set_option linter.unusedVariables false
def VC_spec_TurnsAfter (wr : List UInt8) (ww : Int) (wh : Int) (wc : List UInt8) (wx : Int) (wy : Int) (wd : Int) (steps : Int) (K : V → Prop) : Prop :=
  At True ∧
  (goodB { r := wr, w := ww, h := wh, c := wc, x := wx, y := wy, d := wd } = true →
      At True ∧
        ((!inB steps (0 : Int) (3000 : Int)) = true → K (V.tup [V.str (Array.toList #[]), V.lit false])) ∧
          ((!inB steps (0 : Int) (3000 : Int)) = false →
            (((True ∧ steps = steps) ∧ ((0 : Nat) = (0 : Nat) ∧ (0 : Nat) = (0 : Nat)) ∧ nilB = nilB ∧ True) ∧
                ((True ∧
                      wr = Wd.r { r := wr, w := ww, h := wh, c := wc, x := wx, y := wy, d := wd } ∧
                        (True ∧ ww = Wd.w { r := wr, w := ww, h := wh, c := wc, x := wx, y := wy, d := wd }) ∧
                          (True ∧ wh = Wd.h { r := wr, w := ww, h := wh, c := wc, x := wx, y := wy, d := wd }) ∧
                            wc = Wd.c { r := wr, w := ww, h := wh, c := wc, x := wx, y := wy, d := wd } ∧
                              (True ∧ wx = Wd.x { r := wr, w := ww, h := wh, c := wc, x := wx, y := wy, d := wd }) ∧
                                (True ∧ wy = Wd.y { r := wr, w := ww, h := wh, c := wc, x := wx, y := wy, d := wd }) ∧
                                  (True ∧ wd = Wd.d { r := wr, w := ww, h := wh, c := wc, x := wx, y := wy, d := wd }) ∧
                                    True) ∧
                    True) ∧
                  True) ∧
              At
                  (trnInv steps { r := wr, w := ww, h := wh, c := wc, x := wx, y := wy, d := wd }
                    { s := steps, v := { r := wr, w := ww, h := wh, c := wc, x := wx, y := wy, d := wd },
                      l := Array.toList #[] }) ∧
                ∀ (a : Trn),
                  trnInv steps { r := wr, w := ww, h := wh, c := wc, x := wx, y := wy, d := wd } a →
                    (decide (Trn.s a > (0 : Int)) = true →
                        At (goodB (Trn.v a) = true ∧ hasB (Trn.v a) (Wd.x (Trn.v a)) (Wd.y (Trn.v a)) = true) ∧
                          At
                              ((0 : Int) ≤ colAt (Trn.v a) (Wd.x (Trn.v a)) (Wd.y (Trn.v a)) ∧
                                colAt (Trn.v a) (Wd.x (Trn.v a)) (Wd.y (Trn.v a)) ≤
                                    IntKind.wrap IntKind.i64
                                      (colAt (Trn.v a) (Wd.x (Trn.v a)) (Wd.y (Trn.v a)) + (1 : Int)) ∧
                                  IntKind.wrap IntKind.i64
                                      (colAt (Trn.v a) (Wd.x (Trn.v a)) (Wd.y (Trn.v a)) + (1 : Int)) ≤
                                    (↑(List.length (Wd.r (Trn.v a))) : Int)) ∧
                            At
                                (List.length (Trn.l a) +
                                    List.length
                                      (List.drop (Int.toNat (colAt (Trn.v a) (Wd.x (Trn.v a)) (Wd.y (Trn.v a))))
                                        (List.take
                                          (Int.toNat
                                            (IntKind.wrap IntKind.i64
                                              (colAt (Trn.v a) (Wd.x (Trn.v a)) (Wd.y (Trn.v a)) + (1 : Int))))
                                          (Wd.r (Trn.v a)))) ≤
                                  (9223372036854775807 : Nat)) ∧
                              At (goodB (Trn.v a) = true) ∧
                                (((True ∧
                                        IntKind.wrap IntKind.i64 (Trn.s a - (1 : Int)) =
                                          IntKind.wrap IntKind.i64 (Trn.s a - (1 : Int))) ∧
                                      ((0 : Nat) = (0 : Nat) ∧ (0 : Nat) = (0 : Nat)) ∧
                                        Trn.l a ++
                                              List.drop (Int.toNat (colAt (Trn.v a) (Wd.x (Trn.v a)) (Wd.y (Trn.v a))))
                                                (List.take
                                                  (Int.toNat
                                                    (IntKind.wrap IntKind.i64
                                                      (colAt (Trn.v a) (Wd.x (Trn.v a)) (Wd.y (Trn.v a)) + (1 : Int))))
                                                  (Wd.r (Trn.v a))) =
                                            Trn.l a ++
                                              List.drop (Int.toNat (colAt (Trn.v a) (Wd.x (Trn.v a)) (Wd.y (Trn.v a))))
                                                (List.take
                                                  (Int.toNat
                                                    (IntKind.wrap IntKind.i64
                                                      (colAt (Trn.v a) (Wd.x (Trn.v a)) (Wd.y (Trn.v a)) + (1 : Int))))
                                                  (Wd.r (Trn.v a))) ∧
                                          True) ∧
                                    ((True ∧
                                          Wd.r (stepW (Trn.v a)) = Wd.r (stepW (Trn.v a)) ∧
                                            (True ∧ Wd.w (stepW (Trn.v a)) = Wd.w (stepW (Trn.v a))) ∧
                                              (True ∧ Wd.h (stepW (Trn.v a)) = Wd.h (stepW (Trn.v a))) ∧
                                                Wd.c (stepW (Trn.v a)) = Wd.c (stepW (Trn.v a)) ∧
                                                  (True ∧ Wd.x (stepW (Trn.v a)) = Wd.x (stepW (Trn.v a))) ∧
                                                    (True ∧ Wd.y (stepW (Trn.v a)) = Wd.y (stepW (Trn.v a))) ∧
                                                      (True ∧ Wd.d (stepW (Trn.v a)) = Wd.d (stepW (Trn.v a))) ∧ True) ∧
                                        True) ∧
                                      True) ∧
                                  At
                                    (trnInv steps { r := wr, w := ww, h := wh, c := wc, x := wx, y := wy, d := wd }
                                        { s := IntKind.wrap IntKind.i64 (Trn.s a - (1 : Int)), v := stepW (Trn.v a),
                                          l :=
                                            Trn.l a ++
                                              List.drop (Int.toNat (colAt (Trn.v a) (Wd.x (Trn.v a)) (Wd.y (Trn.v a))))
                                                (List.take
                                                  (Int.toNat
                                                    (IntKind.wrap IntKind.i64
                                                      (colAt (Trn.v a) (Wd.x (Trn.v a)) (Wd.y (Trn.v a)) + (1 : Int))))
                                                  (Wd.r (Trn.v a))) } ∧
                                      Int.toNat (IntKind.wrap IntKind.i64 (Trn.s a - (1 : Int))) <
                                        Int.toNat (Trn.s a))) ∧
                      (decide (Trn.s a > (0 : Int)) = false → K (V.tup [V.str (Trn.l a), V.lit true])))) ∧
    (goodB { r := wr, w := ww, h := wh, c := wc, x := wx, y := wy, d := wd } = false →
      K (V.tup [V.str (Array.toList #[]), V.lit false]))

def VC_impl_TurnsAfter (wr : List UInt8) (ww : Int) (wh : Int) (wc : List UInt8) (wx : Int) (wy : Int) (wd : Int) (steps : Int) (K : V → Prop) : Prop :=
  At True ∧
  ((!goodB { r := wr, w := ww, h := wh, c := wc, x := wx, y := wy, d := wd }) = true →
      K (V.tup [V.str (Array.toList #[]), V.lit false])) ∧
    ((!goodB { r := wr, w := ww, h := wh, c := wc, x := wx, y := wy, d := wd }) = false →
      At True ∧
        ((!inB steps (0 : Int) (3000 : Int)) = true → K (V.tup [V.str (Array.toList #[]), V.lit false])) ∧
          ((!inB steps (0 : Int) (3000 : Int)) = false →
            At ((0 : Int) ≤ (0 : Int) ∧ (0 : Int) ≤ steps ∧ steps ≤ (1000000000 : Int)) ∧
              (True ∧
                  (((0 : Nat) = (0 : Nat) ∧ (0 : Nat) = (0 : Nat)) ∧
                      ((1 : Nat) = (1 : Nat) ∧ (0 : Nat) = (0 : Nat)) ∧
                        ((2 : Nat) = (2 : Nat) ∧ (0 : Nat) = (0 : Nat)) ∧
                          (True ∧ steps = steps) ∧ (True ∧ (0 : Int) = (0 : Int)) ∧ True) ∧
                    ((True ∧
                          wr = wr ∧
                            (True ∧ ww = ww) ∧
                              (True ∧ wh = wh) ∧
                                wc = wc ∧ (True ∧ wx = wx) ∧ (True ∧ wy = wy) ∧ (True ∧ wd = wd) ∧ True) ∧
                        (True ∧
                            List.replicate (Int.toNat (0 : Int)) (0 : UInt8) =
                              List.replicate (Int.toNat (0 : Int)) (0 : UInt8)) ∧
                          (True ∧
                              wr = Wd.r { r := wr, w := ww, h := wh, c := wc, x := wx, y := wy, d := wd } ∧
                                (True ∧ ww = Wd.w { r := wr, w := ww, h := wh, c := wc, x := wx, y := wy, d := wd }) ∧
                                  (True ∧ wh = Wd.h { r := wr, w := ww, h := wh, c := wc, x := wx, y := wy, d := wd }) ∧
                                    wc = Wd.c { r := wr, w := ww, h := wh, c := wc, x := wx, y := wy, d := wd } ∧
                                      (True ∧
                                          wx = Wd.x { r := wr, w := ww, h := wh, c := wc, x := wx, y := wy, d := wd }) ∧
                                        (True ∧
                                            wy =
                                              Wd.y { r := wr, w := ww, h := wh, c := wc, x := wx, y := wy, d := wd }) ∧
                                          (True ∧
                                              wd =
                                                Wd.d
                                                  { r := wr, w := ww, h := wh, c := wc, x := wx, y := wy, d := wd }) ∧
                                            True) ∧
                            True) ∧
                      True) ∧
                At
                    (trnInv steps { r := wr, w := ww, h := wh, c := wc, x := wx, y := wy, d := wd }
                      { s := steps - (0 : Int), v := { r := wr, w := ww, h := wh, c := wc, x := wx, y := wy, d := wd },
                        l := List.replicate (Int.toNat (0 : Int)) (0 : UInt8) }) ∧
                  ∀ (a : Trn),
                    trnInv steps { r := wr, w := ww, h := wh, c := wc, x := wx, y := wy, d := wd }
                        { s := steps - Trn.s a, v := Trn.v a, l := Trn.l a } →
                      (decide (Trn.s a < steps) = true →
                          At (goodB (Trn.v a) = true) ∧
                            At
                                (∀ (n : Int),
                                  n ∈ [signAt (Trn.v a) (colAt (Trn.v a) (Wd.x (Trn.v a)) (Wd.y (Trn.v a)))] →
                                    (0 : Int) ≤ n ∧ n < (256 : Int)) ∧
                              At
                                  ((List.length (Trn.l a) = List.length (Trn.l a) * (1 : Nat) ∧
                                      (1 : Nat) * (1 : Nat) ≤
                                        List.length
                                          (List.map (fun (n : Int) ↦ UInt8.ofNat (Int.toNat n))
                                            [signAt (Trn.v a) (colAt (Trn.v a) (Wd.x (Trn.v a)) (Wd.y (Trn.v a)))])) ∧
                                    (0 : Nat) < (1 : Nat) ∧ List.length (Trn.l a) + (1 : Nat) ≤ (1000000000 : Nat)) ∧
                                At (goodB (Trn.v a) = true) ∧
                                  (True ∧
                                      (((0 : Nat) = (0 : Nat) ∧ (0 : Nat) = (0 : Nat)) ∧
                                          ((1 : Nat) = (1 : Nat) ∧
                                              List.length (Trn.l a) + (1 : Nat) =
                                                List.length
                                                  (Trn.l a ++
                                                    List.take ((1 : Nat) * (1 : Nat))
                                                      (List.map (fun (n : Int) ↦ UInt8.ofNat (Int.toNat n))
                                                        [signAt (Trn.v a)
                                                            (colAt (Trn.v a) (Wd.x (Trn.v a)) (Wd.y (Trn.v a)))]))) ∧
                                            ((2 : Nat) = (2 : Nat) ∧ (0 : Nat) = (0 : Nat)) ∧
                                              (True ∧ steps = steps) ∧
                                                (True ∧
                                                    IntKind.wrap IntKind.i64 (Trn.s a + (1 : Int)) =
                                                      IntKind.wrap IntKind.i64 (Trn.s a + (1 : Int))) ∧
                                                  True) ∧
                                        ((True ∧
                                              wr = wr ∧
                                                (True ∧ ww = ww) ∧
                                                  (True ∧ wh = wh) ∧
                                                    wc = wc ∧
                                                      (True ∧ wx = wx) ∧ (True ∧ wy = wy) ∧ (True ∧ wd = wd) ∧ True) ∧
                                            (True ∧
                                                Trn.l a ++
                                                    List.take ((1 : Nat) * (1 : Nat))
                                                      (List.map (fun (n : Int) ↦ UInt8.ofNat (Int.toNat n))
                                                        [signAt (Trn.v a)
                                                            (colAt (Trn.v a) (Wd.x (Trn.v a)) (Wd.y (Trn.v a)))]) =
                                                  Trn.l a ++
                                                    List.take ((1 : Nat) * (1 : Nat))
                                                      (List.map (fun (n : Int) ↦ UInt8.ofNat (Int.toNat n))
                                                        [signAt (Trn.v a)
                                                            (colAt (Trn.v a) (Wd.x (Trn.v a)) (Wd.y (Trn.v a)))])) ∧
                                              (True ∧
                                                  Wd.r (stepW (Trn.v a)) = Wd.r (stepW (Trn.v a)) ∧
                                                    (True ∧ Wd.w (stepW (Trn.v a)) = Wd.w (stepW (Trn.v a))) ∧
                                                      (True ∧ Wd.h (stepW (Trn.v a)) = Wd.h (stepW (Trn.v a))) ∧
                                                        Wd.c (stepW (Trn.v a)) = Wd.c (stepW (Trn.v a)) ∧
                                                          (True ∧ Wd.x (stepW (Trn.v a)) = Wd.x (stepW (Trn.v a))) ∧
                                                            (True ∧ Wd.y (stepW (Trn.v a)) = Wd.y (stepW (Trn.v a))) ∧
                                                              (True ∧ Wd.d (stepW (Trn.v a)) = Wd.d (stepW (Trn.v a))) ∧
                                                                True) ∧
                                                True) ∧
                                          True) ∧
                                    At
                                      (trnInv steps { r := wr, w := ww, h := wh, c := wc, x := wx, y := wy, d := wd }
                                          { s := steps - IntKind.wrap IntKind.i64 (Trn.s a + (1 : Int)),
                                            v := stepW (Trn.v a),
                                            l :=
                                              Trn.l a ++
                                                List.take ((1 : Nat) * (1 : Nat))
                                                  (List.map (fun (n : Int) ↦ UInt8.ofNat (Int.toNat n))
                                                    [signAt (Trn.v a)
                                                        (colAt (Trn.v a) (Wd.x (Trn.v a)) (Wd.y (Trn.v a)))]) } ∧
                                        Int.toNat (steps - IntKind.wrap IntKind.i64 (Trn.s a + (1 : Int))) <
                                          Int.toNat (steps - Trn.s a))) ∧
                        (decide (Trn.s a < steps) = false →
                          At (List.length (Trn.l a) ≤ List.length (Trn.l a)) ∧
                            K (V.tup [V.str (List.take (List.length (Trn.l a)) (Trn.l a)), V.lit true]))))

end Go.Vi
