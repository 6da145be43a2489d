/- The conditions, reckoned out by program: texts alone. -/
import Derived.Test.YtbchncdchanomabB1Defs
namespace Go.Vi
set_option linter.unusedVariables false
def VC_spec_woReverse (s : List UInt8) (K : V → Prop) : Prop :=
  ((s = s ∧
      nilB = revFrom s (IntKind.wrap IntKind.i64 ((↑(List.length s) : Int) - (1 : Int))) ∧
        (True ∧
            IntKind.wrap IntKind.i64 ((↑(List.length s) : Int) - (1 : Int)) =
              IntKind.wrap IntKind.i64 ((↑(List.length s) : Int) - (1 : Int))) ∧
          True) ∧
    True ∧ True) ∧
  At (revInv s (IntKind.wrap IntKind.i64 ((↑(List.length s) : Int) - (1 : Int)))) ∧
    ∀ (a : Int),
      revInv s a →
        (decide (a ≥ (0 : Int)) = true →
            At
                ((0 : Int) ≤ a ∧
                  a ≤ IntKind.wrap IntKind.i64 (a + (1 : Int)) ∧
                    IntKind.wrap IntKind.i64 (a + (1 : Int)) ≤ (↑(List.length s) : Int)) ∧
              At
                  (List.length (revFrom s a) +
                      List.length
                        (List.drop (Int.toNat a) (List.take (Int.toNat (IntKind.wrap IntKind.i64 (a + (1 : Int)))) s)) ≤
                    (9223372036854775807 : Nat)) ∧
                ((s = s ∧
                      revFrom s a ++
                            List.drop (Int.toNat a)
                              (List.take (Int.toNat (IntKind.wrap IntKind.i64 (a + (1 : Int)))) s) =
                          revFrom s (IntKind.wrap IntKind.i64 (a - (1 : Int))) ∧
                        (True ∧ IntKind.wrap IntKind.i64 (a - (1 : Int)) = IntKind.wrap IntKind.i64 (a - (1 : Int))) ∧
                          True) ∧
                    True ∧ True) ∧
                  At
                    (revInv s (IntKind.wrap IntKind.i64 (a - (1 : Int))) ∧
                      Int.toNat (IntKind.wrap IntKind.i64 (a - (1 : Int)) + (1 : Int)) < Int.toNat (a + (1 : Int)))) ∧
          (decide (a ≥ (0 : Int)) = false → K (V.str (revFrom s a)))

def VC_impl_backwards (s : List UInt8) (K : V → Prop) : Prop :=
  At ((0 : Int) ≤ (0 : Int) ∧ (0 : Int) ≤ (↑(List.length s) : Int) ∧ (↑(List.length s) : Int) ≤ (1000000000 : Int)) ∧
  (True ∧
      (s = s ∧
          ((0 : Nat) = (0 : Nat) ∧
              (0 : Nat) = List.length (revFrom s (IntKind.wrap IntKind.i64 ((↑(List.length s) : Int) - (1 : Int))))) ∧
            (True ∧
                IntKind.wrap IntKind.i64 ((↑(List.length s) : Int) - (1 : Int)) =
                  IntKind.wrap IntKind.i64 ((↑(List.length s) : Int) - (1 : Int))) ∧
              True) ∧
        ((True ∧
              List.replicate (Int.toNat (0 : Int)) (0 : UInt8) =
                revFrom s (IntKind.wrap IntKind.i64 ((↑(List.length s) : Int) - (1 : Int)))) ∧
            True) ∧
          True) ∧
    At (revInv s (IntKind.wrap IntKind.i64 ((↑(List.length s) : Int) - (1 : Int)))) ∧
      ∀ (a : Int),
        revInv s a →
          (decide (a ≥ (0 : Int)) = true →
              At ((0 : Int) ≤ a ∧ a < (↑(List.length s) : Int)) ∧
                At
                    (∀ (n : Int),
                      n ∈ [(↑(UInt8.toNat (List.getD s (Int.toNat a) (0 : UInt8))) : Int)] →
                        (0 : Int) ≤ n ∧ n < (256 : Int)) ∧
                  At
                      ((List.length (revFrom s a) = List.length (revFrom s a) * (1 : Nat) ∧
                          (1 : Nat) * (1 : Nat) ≤
                            List.length
                              (List.map (fun (n : Int) ↦ UInt8.ofNat (Int.toNat n))
                                [(↑(UInt8.toNat (List.getD s (Int.toNat a) (0 : UInt8))) : Int)])) ∧
                        (0 : Nat) < (1 : Nat) ∧ List.length (revFrom s a) + (1 : Nat) ≤ (1000000000 : Nat)) ∧
                    (True ∧
                        (s = s ∧
                            ((0 : Nat) = (0 : Nat) ∧
                                List.length (revFrom s a) + (1 : Nat) =
                                  List.length (revFrom s (IntKind.wrap IntKind.i64 (a - (1 : Int))))) ∧
                              (True ∧
                                  IntKind.wrap IntKind.i64 (a - (1 : Int)) = IntKind.wrap IntKind.i64 (a - (1 : Int))) ∧
                                True) ∧
                          ((True ∧
                                revFrom s a ++
                                    List.take ((1 : Nat) * (1 : Nat))
                                      (List.map (fun (n : Int) ↦ UInt8.ofNat (Int.toNat n))
                                        [(↑(UInt8.toNat (List.getD s (Int.toNat a) (0 : UInt8))) : Int)]) =
                                  revFrom s (IntKind.wrap IntKind.i64 (a - (1 : Int)))) ∧
                              True) ∧
                            True) ∧
                      At
                        (revInv s (IntKind.wrap IntKind.i64 (a - (1 : Int))) ∧
                          Int.toNat (IntKind.wrap IntKind.i64 (a - (1 : Int)) + (1 : Int)) <
                            Int.toNat (a + (1 : Int)))) ∧
            (decide (a ≥ (0 : Int)) = false →
              At (List.length (revFrom s a) ≤ List.length (revFrom s a)) ∧
                K (V.str (List.take (List.length (revFrom s a)) (revFrom s a))))

def VC_spec_BackWorld (wr : List UInt8) (ww : Int) (wh : Int) (wc : List UInt8) (wx : Int) (wy : Int) (wd : Int) (K : V → Prop) : Prop :=
  At True ∧
  ((!goodB { r := wr, w := ww, h := wh, c := wc, x := wx, y := wy, d := wd }) = true →
      K
        (V.tup
          [V.agg
              [V.str (Array.toList #[]), V.int IntKind.i64 (0 : Int), V.int IntKind.i64 (0 : Int),
                V.str (Array.toList #[]), V.int IntKind.i64 (0 : Int), V.int IntKind.i64 (0 : Int),
                V.int IntKind.i64 (0 : Int)],
            V.lit false])) ∧
    ((!goodB { r := wr, w := ww, h := wh, c := wc, x := wx, y := wy, d := wd }) = false →
      At (List.length wr ≤ (1000 : Nat)) ∧
        At (List.length (othR wr) ≤ (1000 : Nat)) ∧
          ((((0 : Nat) = (0 : Nat) ∧ (0 : Nat) = (0 : Nat)) ∧
                ((1 : Nat) = (1 : Nat) ∧ (0 : Nat) = (0 : Nat)) ∧
                  false = false ∧
                    (True ∧
                        IntKind.wrap IntKind.i64 ((↑(List.length wr) : Int) - (1 : Int)) =
                          IntKind.wrap IntKind.i64 ((↑(List.length wr) : Int) - (1 : Int))) ∧
                      ((2 : Nat) = (2 : Nat) ∧ (0 : Nat) = (0 : Nat)) ∧ (True ∧ (0 : Int) = (0 : Int)) ∧ True) ∧
              ((True ∧
                    wr = wr ∧
                      (True ∧ ww = ww) ∧
                        (True ∧ wh = wh) ∧ wc = wc ∧ (True ∧ wx = wx) ∧ (True ∧ wy = wy) ∧ (True ∧ wd = wd) ∧ True) ∧
                  (True ∧
                      nilB = nilB ∧
                        (True ∧ (0 : Int) = (0 : Int)) ∧
                          (True ∧ (0 : Int) = (0 : Int)) ∧
                            nilB = nilB ∧
                              (True ∧ (0 : Int) = (0 : Int)) ∧
                                (True ∧ (0 : Int) = (0 : Int)) ∧ (True ∧ (0 : Int) = (0 : Int)) ∧ True) ∧
                    (True ∧
                        List.reverse (othR wr) = List.reverse (othR wr) ∧
                          (True ∧ ww = ww) ∧
                            (True ∧ wh = wh) ∧
                              nilB = backC (↑(List.length wr) : Int) (List.take (Int.toNat (0 : Int)) wc) ∧
                                (True ∧ wx = wx) ∧ (True ∧ wy = wy) ∧ (True ∧ wd = wd) ∧ True) ∧
                      True) ∧
                True) ∧
            At (bkInv wc (0 : Int)) ∧
              ∀ (a : Int),
                bkInv wc a →
                  (decide (a < (↑(List.length wc) : Int)) = true →
                      True ∧
                        At ((0 : Int) ≤ a ∧ a < (↑(List.length wc) : Int)) ∧
                          At
                              ((1 : Int) ≤ (↑(List.length wr) : Int) ∧
                                (↑(List.length wr) : Int) ≤ (1000 : Int) ∧
                                  (-1000000 : Int) ≤
                                      IntKind.wrap IntKind.i64
                                        (IntKind.wrap IntKind.i64
                                            (IntKind.wrap IntKind.u8
                                              ((↑(UInt8.toNat (List.getD wc (Int.toNat a) (0 : UInt8))) : Int) -
                                                (48 : Int))) -
                                          (1 : Int)) ∧
                                    IntKind.wrap IntKind.i64
                                        (IntKind.wrap IntKind.i64
                                            (IntKind.wrap IntKind.u8
                                              ((↑(UInt8.toNat (List.getD wc (Int.toNat a) (0 : UInt8))) : Int) -
                                                (48 : Int))) -
                                          (1 : Int)) ≤
                                      (1000000 : Int)) ∧
                            True ∧
                              At
                                  ((0 : Int) ≤
                                      IntKind.wrap IntKind.i64
                                        (IntKind.wrap IntKind.i64 ((↑(List.length wr) : Int) - (1 : Int)) -
                                          IntKind.wrap IntKind.i64
                                              (IntKind.wrap IntKind.i64
                                                  (IntKind.wrap IntKind.u8
                                                    ((↑(UInt8.toNat (List.getD wc (Int.toNat a) (0 : UInt8))) : Int) -
                                                      (48 : Int))) -
                                                (1 : Int)) %
                                            (↑(List.length wr) : Int)) ∧
                                    IntKind.wrap IntKind.i64
                                        (IntKind.wrap IntKind.i64 ((↑(List.length wr) : Int) - (1 : Int)) -
                                          IntKind.wrap IntKind.i64
                                              (IntKind.wrap IntKind.i64
                                                  (IntKind.wrap IntKind.u8
                                                    ((↑(UInt8.toNat (List.getD wc (Int.toNat a) (0 : UInt8))) : Int) -
                                                      (48 : Int))) -
                                                (1 : Int)) %
                                            (↑(List.length wr) : Int)) ≤
                                      (9 : Int)) ∧
                                At
                                    (List.length (backC (↑(List.length wr) : Int) (List.take (Int.toNat a) wc)) +
                                        List.length
                                          (num1
                                            (IntKind.wrap IntKind.i64
                                              (IntKind.wrap IntKind.i64 ((↑(List.length wr) : Int) - (1 : Int)) -
                                                IntKind.wrap IntKind.i64
                                                    (IntKind.wrap IntKind.i64
                                                        (IntKind.wrap IntKind.u8
                                                          ((↑(UInt8.toNat (List.getD wc (Int.toNat a) (0 : UInt8))) :
                                                              Int) -
                                                            (48 : Int))) -
                                                      (1 : Int)) %
                                                  (↑(List.length wr) : Int)))) ≤
                                      (9223372036854775807 : Nat)) ∧
                                  ((((0 : Nat) = (0 : Nat) ∧ (0 : Nat) = (0 : Nat)) ∧
                                        ((1 : Nat) = (1 : Nat) ∧ (0 : Nat) = (0 : Nat)) ∧
                                          false = false ∧
                                            (True ∧
                                                IntKind.wrap IntKind.i64 ((↑(List.length wr) : Int) - (1 : Int)) =
                                                  IntKind.wrap IntKind.i64 ((↑(List.length wr) : Int) - (1 : Int))) ∧
                                              ((2 : Nat) = (2 : Nat) ∧ (0 : Nat) = (0 : Nat)) ∧
                                                (True ∧
                                                    IntKind.wrap IntKind.i64 (a + (1 : Int)) =
                                                      IntKind.wrap IntKind.i64 (a + (1 : Int))) ∧
                                                  True) ∧
                                      ((True ∧
                                            wr = wr ∧
                                              (True ∧ ww = ww) ∧
                                                (True ∧ wh = wh) ∧
                                                  wc = wc ∧
                                                    (True ∧ wx = wx) ∧ (True ∧ wy = wy) ∧ (True ∧ wd = wd) ∧ True) ∧
                                          (True ∧
                                              nilB = nilB ∧
                                                (True ∧ (0 : Int) = (0 : Int)) ∧
                                                  (True ∧ (0 : Int) = (0 : Int)) ∧
                                                    nilB = nilB ∧
                                                      (True ∧ (0 : Int) = (0 : Int)) ∧
                                                        (True ∧ (0 : Int) = (0 : Int)) ∧
                                                          (True ∧ (0 : Int) = (0 : Int)) ∧ True) ∧
                                            (True ∧
                                                List.reverse (othR wr) = List.reverse (othR wr) ∧
                                                  (True ∧ ww = ww) ∧
                                                    (True ∧ wh = wh) ∧
                                                      backC (↑(List.length wr) : Int) (List.take (Int.toNat a) wc) ++
                                                            num1
                                                              (IntKind.wrap IntKind.i64
                                                                (IntKind.wrap IntKind.i64
                                                                    ((↑(List.length wr) : Int) - (1 : Int)) -
                                                                  IntKind.wrap IntKind.i64
                                                                      (IntKind.wrap IntKind.i64
                                                                          (IntKind.wrap IntKind.u8
                                                                            ((↑(UInt8.toNat
                                                                                    (List.getD wc (Int.toNat a)
                                                                                      (0 : UInt8))) :
                                                                                Int) -
                                                                              (48 : Int))) -
                                                                        (1 : Int)) %
                                                                    (↑(List.length wr) : Int))) =
                                                          backC (↑(List.length wr) : Int)
                                                            (List.take
                                                              (Int.toNat (IntKind.wrap IntKind.i64 (a + (1 : Int))))
                                                              wc) ∧
                                                        (True ∧ wx = wx) ∧ (True ∧ wy = wy) ∧ (True ∧ wd = wd) ∧ True) ∧
                                              True) ∧
                                        True) ∧
                                    At
                                      (bkInv wc (IntKind.wrap IntKind.i64 (a + (1 : Int))) ∧
                                        Int.toNat
                                            ((↑(List.length wc) : Int) - IntKind.wrap IntKind.i64 (a + (1 : Int))) <
                                          Int.toNat ((↑(List.length wc) : Int) - a))) ∧
                    (decide (a < (↑(List.length wc) : Int)) = false →
                      At ((4 : Int) ≠ (0 : Int)) ∧
                        At
                            (boxB
                                  { r := List.reverse (othR wr), w := ww, h := wh,
                                    c := backC (↑(List.length wr) : Int) (List.take (Int.toNat a) wc), x := wx, y := wy,
                                    d := Int.tmod (IntKind.wrap IntKind.i64 (wd + (2 : Int))) (4 : Int) } =
                                true ∧
                              ((1 : Int) = (1 : Int) ∨ (1 : Int) = (-1 : Int))) ∧
                          K
                            (V.tup
                              [V.agg
                                  [V.str
                                      (Wd.r
                                        (movW
                                          { r := List.reverse (othR wr), w := ww, h := wh,
                                            c := backC (↑(List.length wr) : Int) (List.take (Int.toNat a) wc), x := wx,
                                            y := wy,
                                            d := Int.tmod (IntKind.wrap IntKind.i64 (wd + (2 : Int))) (4 : Int) }
                                          (1 : Int))),
                                    V.int IntKind.i64
                                      (Wd.w
                                        (movW
                                          { r := List.reverse (othR wr), w := ww, h := wh,
                                            c := backC (↑(List.length wr) : Int) (List.take (Int.toNat a) wc), x := wx,
                                            y := wy,
                                            d := Int.tmod (IntKind.wrap IntKind.i64 (wd + (2 : Int))) (4 : Int) }
                                          (1 : Int))),
                                    V.int IntKind.i64
                                      (Wd.h
                                        (movW
                                          { r := List.reverse (othR wr), w := ww, h := wh,
                                            c := backC (↑(List.length wr) : Int) (List.take (Int.toNat a) wc), x := wx,
                                            y := wy,
                                            d := Int.tmod (IntKind.wrap IntKind.i64 (wd + (2 : Int))) (4 : Int) }
                                          (1 : Int))),
                                    V.str
                                      (Wd.c
                                        (movW
                                          { r := List.reverse (othR wr), w := ww, h := wh,
                                            c := backC (↑(List.length wr) : Int) (List.take (Int.toNat a) wc), x := wx,
                                            y := wy,
                                            d := Int.tmod (IntKind.wrap IntKind.i64 (wd + (2 : Int))) (4 : Int) }
                                          (1 : Int))),
                                    V.int IntKind.i64
                                      (Wd.x
                                        (movW
                                          { r := List.reverse (othR wr), w := ww, h := wh,
                                            c := backC (↑(List.length wr) : Int) (List.take (Int.toNat a) wc), x := wx,
                                            y := wy,
                                            d := Int.tmod (IntKind.wrap IntKind.i64 (wd + (2 : Int))) (4 : Int) }
                                          (1 : Int))),
                                    V.int IntKind.i64
                                      (Wd.y
                                        (movW
                                          { r := List.reverse (othR wr), w := ww, h := wh,
                                            c := backC (↑(List.length wr) : Int) (List.take (Int.toNat a) wc), x := wx,
                                            y := wy,
                                            d := Int.tmod (IntKind.wrap IntKind.i64 (wd + (2 : Int))) (4 : Int) }
                                          (1 : Int))),
                                    V.int IntKind.i64
                                      (Wd.d
                                        (movW
                                          { r := List.reverse (othR wr), w := ww, h := wh,
                                            c := backC (↑(List.length wr) : Int) (List.take (Int.toNat a) wc), x := wx,
                                            y := wy,
                                            d := Int.tmod (IntKind.wrap IntKind.i64 (wd + (2 : Int))) (4 : Int) }
                                          (1 : Int)))],
                                V.lit true])))

def VC_impl_BackWorld (wr : List UInt8) (ww : Int) (wh : Int) (wc : List UInt8) (wx : Int) (wy : Int) (wd : Int) (K : V → Prop) : Prop :=
  At True ∧
  ((!goodB { r := wr, w := ww, h := wh, c := wc, x := wx, y := wy, d := wd }) = true →
      K
        (V.tup
          [V.agg
              [V.str (Array.toList #[]), V.int IntKind.i64 (0 : Int), V.int IntKind.i64 (0 : Int),
                V.str (Array.toList #[]), V.int IntKind.i64 (0 : Int), V.int IntKind.i64 (0 : Int),
                V.int IntKind.i64 (0 : Int)],
            V.lit false])) ∧
    ((!goodB { r := wr, w := ww, h := wh, c := wc, x := wx, y := wy, d := wd }) = false →
      At (List.length wc ≤ (9223372036854775807 : Nat)) ∧
        ((((0 : Nat) = (0 : Nat) ∧ (0 : Nat) = (0 : Nat)) ∧
              ((1 : Nat) = (1 : Nat) ∧ (0 : Nat) = (0 : Nat)) ∧
                false = false ∧
                  ((2 : Nat) = (2 : Nat) ∧ List.length wc = List.length wc) ∧
                    ((2 : Nat) = (2 : Nat) ∧ List.length wc = List.length wc) ∧
                      (True ∧ (↑(List.length wc) : Int) = (↑(List.length wc) : Int)) ∧
                        (True ∧ (0 : Int) = (0 : Int)) ∧ True) ∧
            ((True ∧
                  wr = wr ∧
                    (True ∧ ww = ww) ∧
                      (True ∧ wh = wh) ∧ wc = wc ∧ (True ∧ wx = wx) ∧ (True ∧ wy = wy) ∧ (True ∧ wd = wd) ∧ True) ∧
                (True ∧
                    nilB = nilB ∧
                      (True ∧ (0 : Int) = (0 : Int)) ∧
                        (True ∧ (0 : Int) = (0 : Int)) ∧
                          nilB = nilB ∧
                            (True ∧ (0 : Int) = (0 : Int)) ∧
                              (True ∧ (0 : Int) = (0 : Int)) ∧ (True ∧ (0 : Int) = (0 : Int)) ∧ True) ∧
                  (True ∧ wc = bkRow (↑(List.length wr) : Int) wc (0 : Int)) ∧ True) ∧
              True) ∧
          At (bkInv wc (0 : Int)) ∧
            ∀ (a : Int),
              bkInv wc a →
                (decide (a < (↑(List.length wc) : Int)) = true →
                    At ((0 : Int) ≤ a ∧ a < (↑(List.length wc) : Int)) ∧
                      At (Int.toNat a < List.length (bkRow (↑(List.length wr) : Int) wc a)) ∧
                        (((↑(UInt8.toNat (List.getD (bkRow (↑(List.length wr) : Int) wc a) (Int.toNat a) (0 : UInt8))) :
                                  Int) !=
                                (48 : Int)) =
                              true →
                            True ∧
                              At
                                  ((0 : Int) ≤
                                      (↑(UInt8.toNat
                                            (List.getD (bkRow (↑(List.length wr) : Int) wc a) (Int.toNat a)
                                              (0 : UInt8))) :
                                        Int) ∧
                                    (↑(UInt8.toNat
                                            (List.getD (bkRow (↑(List.length wr) : Int) wc a) (Int.toNat a)
                                              (0 : UInt8))) :
                                        Int) <
                                      (256 : Int)) ∧
                                At ((0 : Int) ≤ a ∧ a < (↑(List.length wc) : Int)) ∧
                                  At
                                      (Int.toNat a < List.length (bkRow (↑(List.length wr) : Int) wc a) ∧
                                        (0 : Int) ≤
                                            IntKind.wrap IntKind.u8
                                              (IntKind.wrap IntKind.i64
                                                (IntKind.wrap IntKind.i64 ((48 : Int) + (↑(List.length wr) : Int)) -
                                                  ((↑(UInt8.toNat
                                                          (List.getD (bkRow (↑(List.length wr) : Int) wc a)
                                                            (Int.toNat a) (0 : UInt8))) :
                                                      Int) -
                                                    (48 : Int)))) ∧
                                          IntKind.wrap IntKind.u8
                                              (IntKind.wrap IntKind.i64
                                                (IntKind.wrap IntKind.i64 ((48 : Int) + (↑(List.length wr) : Int)) -
                                                  ((↑(UInt8.toNat
                                                          (List.getD (bkRow (↑(List.length wr) : Int) wc a)
                                                            (Int.toNat a) (0 : UInt8))) :
                                                      Int) -
                                                    (48 : Int)))) <
                                            (256 : Int)) ∧
                                    ((((0 : Nat) = (0 : Nat) ∧ (0 : Nat) = (0 : Nat)) ∧
                                          ((1 : Nat) = (1 : Nat) ∧ (0 : Nat) = (0 : Nat)) ∧
                                            false = false ∧
                                              ((2 : Nat) = (2 : Nat) ∧ List.length wc = List.length wc) ∧
                                                ((2 : Nat) = (2 : Nat) ∧ List.length wc = List.length wc) ∧
                                                  (True ∧ (↑(List.length wc) : Int) = (↑(List.length wc) : Int)) ∧
                                                    (True ∧
                                                        IntKind.wrap IntKind.i64 (a + (1 : Int)) =
                                                          IntKind.wrap IntKind.i64 (a + (1 : Int))) ∧
                                                      True) ∧
                                        ((True ∧
                                              wr = wr ∧
                                                (True ∧ ww = ww) ∧
                                                  (True ∧ wh = wh) ∧
                                                    wc = wc ∧
                                                      (True ∧ wx = wx) ∧ (True ∧ wy = wy) ∧ (True ∧ wd = wd) ∧ True) ∧
                                            (True ∧
                                                nilB = nilB ∧
                                                  (True ∧ (0 : Int) = (0 : Int)) ∧
                                                    (True ∧ (0 : Int) = (0 : Int)) ∧
                                                      nilB = nilB ∧
                                                        (True ∧ (0 : Int) = (0 : Int)) ∧
                                                          (True ∧ (0 : Int) = (0 : Int)) ∧
                                                            (True ∧ (0 : Int) = (0 : Int)) ∧ True) ∧
                                              (True ∧
                                                  List.set (bkRow (↑(List.length wr) : Int) wc a) (Int.toNat a)
                                                      (UInt8.ofNat
                                                        (Int.toNat
                                                          (IntKind.wrap IntKind.u8
                                                            (IntKind.wrap IntKind.i64
                                                              (IntKind.wrap IntKind.i64
                                                                  ((48 : Int) + (↑(List.length wr) : Int)) -
                                                                ((↑(UInt8.toNat
                                                                        (List.getD
                                                                          (bkRow (↑(List.length wr) : Int) wc a)
                                                                          (Int.toNat a) (0 : UInt8))) :
                                                                    Int) -
                                                                  (48 : Int))))))) =
                                                    bkRow (↑(List.length wr) : Int) wc
                                                      (IntKind.wrap IntKind.i64 (a + (1 : Int)))) ∧
                                                True) ∧
                                          True) ∧
                                      At
                                        (bkInv wc (IntKind.wrap IntKind.i64 (a + (1 : Int))) ∧
                                          Int.toNat
                                              ((↑(List.length wc) : Int) - IntKind.wrap IntKind.i64 (a + (1 : Int))) <
                                            Int.toNat ((↑(List.length wc) : Int) - a))) ∧
                          (((↑(UInt8.toNat
                                      (List.getD (bkRow (↑(List.length wr) : Int) wc a) (Int.toNat a) (0 : UInt8))) :
                                  Int) !=
                                (48 : Int)) =
                              false →
                            ((((0 : Nat) = (0 : Nat) ∧ (0 : Nat) = (0 : Nat)) ∧
                                  ((1 : Nat) = (1 : Nat) ∧ (0 : Nat) = (0 : Nat)) ∧
                                    false = false ∧
                                      ((2 : Nat) = (2 : Nat) ∧ List.length wc = List.length wc) ∧
                                        ((2 : Nat) = (2 : Nat) ∧ List.length wc = List.length wc) ∧
                                          (True ∧ (↑(List.length wc) : Int) = (↑(List.length wc) : Int)) ∧
                                            (True ∧
                                                IntKind.wrap IntKind.i64 (a + (1 : Int)) =
                                                  IntKind.wrap IntKind.i64 (a + (1 : Int))) ∧
                                              True) ∧
                                ((True ∧
                                      wr = wr ∧
                                        (True ∧ ww = ww) ∧
                                          (True ∧ wh = wh) ∧
                                            wc = wc ∧ (True ∧ wx = wx) ∧ (True ∧ wy = wy) ∧ (True ∧ wd = wd) ∧ True) ∧
                                    (True ∧
                                        nilB = nilB ∧
                                          (True ∧ (0 : Int) = (0 : Int)) ∧
                                            (True ∧ (0 : Int) = (0 : Int)) ∧
                                              nilB = nilB ∧
                                                (True ∧ (0 : Int) = (0 : Int)) ∧
                                                  (True ∧ (0 : Int) = (0 : Int)) ∧
                                                    (True ∧ (0 : Int) = (0 : Int)) ∧ True) ∧
                                      (True ∧
                                          bkRow (↑(List.length wr) : Int) wc a =
                                            bkRow (↑(List.length wr) : Int) wc
                                              (IntKind.wrap IntKind.i64 (a + (1 : Int)))) ∧
                                        True) ∧
                                  True) ∧
                              At
                                (bkInv wc (IntKind.wrap IntKind.i64 (a + (1 : Int))) ∧
                                  Int.toNat ((↑(List.length wc) : Int) - IntKind.wrap IntKind.i64 (a + (1 : Int))) <
                                    Int.toNat ((↑(List.length wc) : Int) - a)))) ∧
                  (decide (a < (↑(List.length wc) : Int)) = false →
                    At ((0 : Int) ≤ wd ∧ wd ≤ (3 : Int) ∧ (0 : Int) ≤ (2 : Int) ∧ (2 : Int) ≤ (4 : Int)) ∧
                      At
                          (boxB (trnW { r := wr, w := ww, h := wh, c := wc, x := wx, y := wy, d := wd } (2 : Int)) =
                              true ∧
                            ((1 : Int) = (1 : Int) ∨ (1 : Int) = (-1 : Int))) ∧
                        At (List.length wr ≤ (1000 : Nat)) ∧
                          At (List.length (List.reverse wr) ≤ (1000 : Nat)) ∧
                            At (List.length wc ≤ List.length (bkRow (↑(List.length wr) : Int) wc a)) ∧
                              K
                                (V.tup
                                  [V.agg
                                      [V.str (othR (List.reverse wr)),
                                        V.int IntKind.i64
                                          (Wd.w
                                            (movW
                                              (trnW { r := wr, w := ww, h := wh, c := wc, x := wx, y := wy, d := wd }
                                                (2 : Int))
                                              (1 : Int))),
                                        V.int IntKind.i64
                                          (Wd.h
                                            (movW
                                              (trnW { r := wr, w := ww, h := wh, c := wc, x := wx, y := wy, d := wd }
                                                (2 : Int))
                                              (1 : Int))),
                                        V.str (List.take (List.length wc) (bkRow (↑(List.length wr) : Int) wc a)),
                                        V.int IntKind.i64
                                          (Wd.x
                                            (movW
                                              (trnW { r := wr, w := ww, h := wh, c := wc, x := wx, y := wy, d := wd }
                                                (2 : Int))
                                              (1 : Int))),
                                        V.int IntKind.i64
                                          (Wd.y
                                            (movW
                                              (trnW { r := wr, w := ww, h := wh, c := wc, x := wx, y := wy, d := wd }
                                                (2 : Int))
                                              (1 : Int))),
                                        V.int IntKind.i64
                                          (Wd.d
                                            (movW
                                              (trnW { r := wr, w := ww, h := wh, c := wc, x := wx, y := wy, d := wd }
                                                (2 : Int))
                                              (1 : Int)))],
                                    V.lit true])))

def VC_spec_CountColours (wr : List UInt8) (ww : Int) (wh : Int) (wc : List UInt8) (wx : Int) (wy : Int) (wd : Int) (K : V → List Blk → Prop) : Prop :=
  At True ∧
  ((!goodB { r := wr, w := ww, h := wh, c := wc, x := wx, y := wy, d := wd }) = true →
      K (V.tup [V.raw (Value.slice none (0 : Nat) (0 : Nat)), V.lit false])
        [{
            cs :=
              Cells.vals
                [V.str wr, V.int IntKind.i64 ww, V.int IntKind.i64 wh, V.str wc, V.int IntKind.i64 wx,
                  V.int IntKind.i64 wy, V.int IntKind.i64 wd],
            elem := (28 : Nat), kind := Kind.box }]) ∧
    ((!goodB { r := wr, w := ww, h := wh, c := wc, x := wx, y := wy, d := wd }) = false →
      At
          ((0 : Int) ≤ (↑(List.length wr) : Int) ∧
            (↑(List.length wr) : Int) ≤ (↑(List.length wr) : Int) ∧ (↑(List.length wr) : Int) ≤ (1000000000 : Int)) ∧
        ((((0 : Nat) = (0 : Nat) ∧ (0 : Nat) = (0 : Nat)) ∧
              ((1 : Nat) = (1 : Nat) ∧ Int.toNat (↑(List.length wr) : Int) = List.length wr) ∧
                (True ∧ (0 : Int) = (0 : Int)) ∧ True) ∧
            ((True ∧
                  wr = wr ∧
                    (True ∧ ww = ww) ∧
                      (True ∧ wh = wh) ∧ wc = wc ∧ (True ∧ wx = wx) ∧ (True ∧ wy = wy) ∧ (True ∧ wd = wd) ∧ True) ∧
                (True ∧
                    IntKind.i64 = IntKind.i64 ∧
                      List.replicate (Int.toNat (↑(List.length wr) : Int)) (0 : Int) =
                        cntF (List.length wr) (List.take (Int.toNat (0 : Int)) wc)) ∧
                  True) ∧
              True) ∧
          At (cntInv (List.length wr) wc (0 : Int)) ∧
            ∀ (a : Int),
              cntInv (List.length wr) wc a →
                (decide (a < (↑(List.length wc) : Int)) = true →
                    At ((0 : Int) ≤ a ∧ a < (↑(List.length wc) : Int)) ∧
                      At
                          ((0 : Int) ≤
                              IntKind.wrap IntKind.u8
                                ((↑(UInt8.toNat (List.getD wc (Int.toNat a) (0 : UInt8))) : Int) - (48 : Int)) ∧
                            IntKind.wrap IntKind.u8
                                ((↑(UInt8.toNat (List.getD wc (Int.toNat a) (0 : UInt8))) : Int) - (48 : Int)) <
                              (↑(List.length wr) : Int)) ∧
                        At
                            (Int.toNat
                                (IntKind.wrap IntKind.u8
                                  ((↑(UInt8.toNat (List.getD wc (Int.toNat a) (0 : UInt8))) : Int) - (48 : Int))) <
                              List.length (cntF (List.length wr) (List.take (Int.toNat a) wc))) ∧
                          At
                              ((0 : Int) ≤
                                  IntKind.wrap IntKind.u8
                                    ((↑(UInt8.toNat (List.getD wc (Int.toNat a) (0 : UInt8))) : Int) - (48 : Int)) ∧
                                IntKind.wrap IntKind.u8
                                    ((↑(UInt8.toNat (List.getD wc (Int.toNat a) (0 : UInt8))) : Int) - (48 : Int)) <
                                  (↑(List.length wr) : Int)) ∧
                            At
                                (Int.toNat
                                    (IntKind.wrap IntKind.u8
                                      ((↑(UInt8.toNat (List.getD wc (Int.toNat a) (0 : UInt8))) : Int) - (48 : Int))) <
                                  List.length (cntF (List.length wr) (List.take (Int.toNat a) wc))) ∧
                              ((((0 : Nat) = (0 : Nat) ∧ (0 : Nat) = (0 : Nat)) ∧
                                    ((1 : Nat) = (1 : Nat) ∧ List.length wr = List.length wr) ∧
                                      (True ∧
                                          IntKind.wrap IntKind.i64 (a + (1 : Int)) =
                                            IntKind.wrap IntKind.i64 (a + (1 : Int))) ∧
                                        True) ∧
                                  ((True ∧
                                        wr = wr ∧
                                          (True ∧ ww = ww) ∧
                                            (True ∧ wh = wh) ∧
                                              wc = wc ∧ (True ∧ wx = wx) ∧ (True ∧ wy = wy) ∧ (True ∧ wd = wd) ∧ True) ∧
                                      (True ∧
                                          IntKind.i64 = IntKind.i64 ∧
                                            List.set (cntF (List.length wr) (List.take (Int.toNat a) wc))
                                                (Int.toNat
                                                  (IntKind.wrap IntKind.u8
                                                    ((↑(UInt8.toNat (List.getD wc (Int.toNat a) (0 : UInt8))) : Int) -
                                                      (48 : Int))))
                                                (IntKind.wrap IntKind.i64
                                                  (List.getD (cntF (List.length wr) (List.take (Int.toNat a) wc))
                                                      (Int.toNat
                                                        (IntKind.wrap IntKind.u8
                                                          ((↑(UInt8.toNat (List.getD wc (Int.toNat a) (0 : UInt8))) :
                                                              Int) -
                                                            (48 : Int))))
                                                      (0 : Int) +
                                                    (1 : Int))) =
                                              cntF (List.length wr)
                                                (List.take (Int.toNat (IntKind.wrap IntKind.i64 (a + (1 : Int)))) wc)) ∧
                                        True) ∧
                                    True) ∧
                                At
                                  (cntInv (List.length wr) wc (IntKind.wrap IntKind.i64 (a + (1 : Int))) ∧
                                    Int.toNat ((↑(List.length wc) : Int) - IntKind.wrap IntKind.i64 (a + (1 : Int))) <
                                      Int.toNat ((↑(List.length wc) : Int) - a))) ∧
                  (decide (a < (↑(List.length wc) : Int)) = false →
                    K (V.tup [V.row (1 : Nat) (List.length wr), V.lit true])
                      [{
                          cs :=
                            Cells.vals
                              [V.str wr, V.int IntKind.i64 ww, V.int IntKind.i64 wh, V.str wc, V.int IntKind.i64 wx,
                                V.int IntKind.i64 wy, V.int IntKind.i64 wd],
                          elem := (28 : Nat), kind := Kind.box },
                        { cs := Cells.ints IntKind.i64 (cntF (List.length wr) (List.take (Int.toNat a) wc)),
                          elem := (3 : Nat), kind := Kind.row }]))

def VC_impl_CountColours (wr : List UInt8) (ww : Int) (wh : Int) (wc : List UInt8) (wx : Int) (wy : Int) (wd : Int) (K : V → List Blk → Prop) : Prop :=
  At True ∧
  ((!goodB { r := wr, w := ww, h := wh, c := wc, x := wx, y := wy, d := wd }) = true →
      K (V.tup [V.raw (Value.slice none (0 : Nat) (0 : Nat)), V.lit false])
        [{
            cs :=
              Cells.vals
                [V.str wr, V.int IntKind.i64 ww, V.int IntKind.i64 wh, V.str wc, V.int IntKind.i64 wx,
                  V.int IntKind.i64 wy, V.int IntKind.i64 wd],
            elem := (28 : Nat), kind := Kind.box }]) ∧
    ((!goodB { r := wr, w := ww, h := wh, c := wc, x := wx, y := wy, d := wd }) = false →
      At
          ((0 : Int) ≤ (↑(List.length wr) : Int) ∧
            (↑(List.length wr) : Int) ≤ (↑(List.length wr) : Int) ∧ (↑(List.length wr) : Int) ≤ (1000000000 : Int)) ∧
        ((((0 : Nat) = (0 : Nat) ∧ (0 : Nat) = (0 : Nat)) ∧
              ((1 : Nat) = (1 : Nat) ∧ Int.toNat (↑(List.length wr) : Int) = List.length wr) ∧
                (True ∧ (↑(List.length wc) : Int) = (↑(List.length wc) : Int)) ∧
                  (True ∧ (0 : Int) = (0 : Int)) ∧ True) ∧
            ((True ∧
                  wr = wr ∧
                    (True ∧ ww = ww) ∧
                      (True ∧ wh = wh) ∧ wc = wc ∧ (True ∧ wx = wx) ∧ (True ∧ wy = wy) ∧ (True ∧ wd = wd) ∧ True) ∧
                (True ∧
                    IntKind.i64 = IntKind.i64 ∧
                      List.replicate (Int.toNat (↑(List.length wr) : Int)) (0 : Int) =
                        cntF (List.length wr) (List.take (Int.toNat (0 : Int)) wc)) ∧
                  True) ∧
              True) ∧
          At (cntInv (List.length wr) wc (0 : Int)) ∧
            ∀ (a : Int),
              cntInv (List.length wr) wc a →
                (decide (a < (↑(List.length wc) : Int)) = true →
                    At ((0 : Int) ≤ a ∧ a < (↑(List.length wc) : Int)) ∧
                      At
                          ((0 : Int) ≤ (↑(UInt8.toNat (List.getD wc (Int.toNat a) (0 : UInt8))) : Int) ∧
                            (↑(UInt8.toNat (List.getD wc (Int.toNat a) (0 : UInt8))) : Int) < (256 : Int)) ∧
                        At
                            ((0 : Int) ≤ (↑(UInt8.toNat (List.getD wc (Int.toNat a) (0 : UInt8))) : Int) - (48 : Int) ∧
                              (↑(UInt8.toNat (List.getD wc (Int.toNat a) (0 : UInt8))) : Int) - (48 : Int) <
                                (↑(List.length wr) : Int)) ∧
                          At
                              (Int.toNat
                                  ((↑(UInt8.toNat (List.getD wc (Int.toNat a) (0 : UInt8))) : Int) - (48 : Int)) <
                                List.length (cntF (List.length wr) (List.take (Int.toNat a) wc))) ∧
                            At
                                ((0 : Int) ≤
                                    (↑(UInt8.toNat (List.getD wc (Int.toNat a) (0 : UInt8))) : Int) - (48 : Int) ∧
                                  (↑(UInt8.toNat (List.getD wc (Int.toNat a) (0 : UInt8))) : Int) - (48 : Int) <
                                    (↑(List.length wr) : Int)) ∧
                              At
                                  (Int.toNat
                                      ((↑(UInt8.toNat (List.getD wc (Int.toNat a) (0 : UInt8))) : Int) - (48 : Int)) <
                                    List.length (cntF (List.length wr) (List.take (Int.toNat a) wc))) ∧
                                ((((0 : Nat) = (0 : Nat) ∧ (0 : Nat) = (0 : Nat)) ∧
                                      ((1 : Nat) = (1 : Nat) ∧ List.length wr = List.length wr) ∧
                                        (True ∧ (↑(List.length wc) : Int) = (↑(List.length wc) : Int)) ∧
                                          (True ∧
                                              IntKind.wrap IntKind.i64 (a + (1 : Int)) =
                                                IntKind.wrap IntKind.i64 (a + (1 : Int))) ∧
                                            True) ∧
                                    ((True ∧
                                          wr = wr ∧
                                            (True ∧ ww = ww) ∧
                                              (True ∧ wh = wh) ∧
                                                wc = wc ∧
                                                  (True ∧ wx = wx) ∧ (True ∧ wy = wy) ∧ (True ∧ wd = wd) ∧ True) ∧
                                        (True ∧
                                            IntKind.i64 = IntKind.i64 ∧
                                              List.set (cntF (List.length wr) (List.take (Int.toNat a) wc))
                                                  (Int.toNat
                                                    ((↑(UInt8.toNat (List.getD wc (Int.toNat a) (0 : UInt8))) : Int) -
                                                      (48 : Int)))
                                                  (IntKind.wrap IntKind.i64
                                                    (List.getD (cntF (List.length wr) (List.take (Int.toNat a) wc))
                                                        (Int.toNat
                                                          ((↑(UInt8.toNat (List.getD wc (Int.toNat a) (0 : UInt8))) :
                                                              Int) -
                                                            (48 : Int)))
                                                        (0 : Int) +
                                                      (1 : Int))) =
                                                cntF (List.length wr)
                                                  (List.take (Int.toNat (IntKind.wrap IntKind.i64 (a + (1 : Int))))
                                                    wc)) ∧
                                          True) ∧
                                      True) ∧
                                  At
                                    (cntInv (List.length wr) wc (IntKind.wrap IntKind.i64 (a + (1 : Int))) ∧
                                      Int.toNat ((↑(List.length wc) : Int) - IntKind.wrap IntKind.i64 (a + (1 : Int))) <
                                        Int.toNat ((↑(List.length wc) : Int) - a))) ∧
                  (decide (a < (↑(List.length wc) : Int)) = false →
                    K (V.tup [V.row (1 : Nat) (List.length wr), V.lit true])
                      [{
                          cs :=
                            Cells.vals
                              [V.str wr, V.int IntKind.i64 ww, V.int IntKind.i64 wh, V.str wc, V.int IntKind.i64 wx,
                                V.int IntKind.i64 wy, V.int IntKind.i64 wd],
                          elem := (28 : Nat), kind := Kind.box },
                        { cs := Cells.ints IntKind.i64 (cntF (List.length wr) (List.take (Int.toNat a) wc)),
                          elem := (3 : Nat), kind := Kind.row }]))

def VC_laws_eqIntS (n : Nat) (m : Nat) (a : List Int) (b : List Int) (K : V → List Blk → Prop) : Prop :=
  (((↑n : Int) != (↑m : Int)) = true →
    K (V.lit false)
      [{ cs := Cells.ints IntKind.i64 a, elem := (3 : Nat), kind := Kind.row },
        { cs := Cells.ints IntKind.i64 b, elem := (3 : Nat), kind := Kind.row }]) ∧
  (((↑n : Int) != (↑m : Int)) = false →
    ((((0 : Nat) = (0 : Nat) ∧ n = n) ∧ ((1 : Nat) = (1 : Nat) ∧ m = m) ∧ (True ∧ (0 : Int) = (0 : Int)) ∧ True) ∧
        ((True ∧ IntKind.i64 = IntKind.i64 ∧ a = a) ∧ (True ∧ IntKind.i64 = IntKind.i64 ∧ b = b) ∧ True) ∧ True) ∧
      At (eqsInv a b (0 : Int)) ∧
        ∀ (a_2 : Int),
          eqsInv a b a_2 →
            (decide (a_2 < (↑n : Int)) = true →
                True ∧
                  At ((0 : Int) ≤ a_2 ∧ a_2 < (↑n : Int)) ∧
                    At (Int.toNat a_2 < List.length a) ∧
                      At ((0 : Int) ≤ a_2 ∧ a_2 < (↑m : Int)) ∧
                        At (Int.toNat a_2 < List.length b) ∧
                          ((List.getD a (Int.toNat a_2) (0 : Int) != List.getD b (Int.toNat a_2) (0 : Int)) = true →
                              K (V.lit false)
                                [{ cs := Cells.ints IntKind.i64 a, elem := (3 : Nat), kind := Kind.row },
                                  { cs := Cells.ints IntKind.i64 b, elem := (3 : Nat), kind := Kind.row }]) ∧
                            ((List.getD a (Int.toNat a_2) (0 : Int) != List.getD b (Int.toNat a_2) (0 : Int)) = false →
                              ((((0 : Nat) = (0 : Nat) ∧ n = n) ∧
                                    ((1 : Nat) = (1 : Nat) ∧ m = m) ∧
                                      (True ∧
                                          IntKind.wrap IntKind.i64 (a_2 + (1 : Int)) =
                                            IntKind.wrap IntKind.i64 (a_2 + (1 : Int))) ∧
                                        True) ∧
                                  ((True ∧ IntKind.i64 = IntKind.i64 ∧ a = a) ∧
                                      (True ∧ IntKind.i64 = IntKind.i64 ∧ b = b) ∧ True) ∧
                                    True) ∧
                                At
                                  (eqsInv a b (IntKind.wrap IntKind.i64 (a_2 + (1 : Int))) ∧
                                    Int.toNat ((↑(List.length a) : Int) - IntKind.wrap IntKind.i64 (a_2 + (1 : Int))) <
                                      Int.toNat ((↑(List.length a) : Int) - a_2)))) ∧
              (decide (a_2 < (↑n : Int)) = false →
                K (V.lit true)
                  [{ cs := Cells.ints IntKind.i64 a, elem := (3 : Nat), kind := Kind.row },
                    { cs := Cells.ints IntKind.i64 b, elem := (3 : Nat), kind := Kind.row }]))

def VC_laws_markIntS (k : Int) (n : Nat) (a : List Int) (K : V → List Blk → Prop) : Prop :=
  ((((0 : Nat) = (0 : Nat) ∧ n = n) ∧ (True ∧ k = k + (0 : Int)) ∧ (True ∧ (0 : Int) = (0 : Int)) ∧ True) ∧
    ((True ∧ IntKind.i64 = IntKind.i64 ∧ a = mrkRow a k (0 : Int)) ∧ True) ∧ True) ∧
  At (mrkInv a k (0 : Int)) ∧
    ∀ (a_1 : Int),
      mrkInv a k a_1 →
        (decide (a_1 < (↑n : Int)) = true →
            At ((0 : Int) ≤ a_1 ∧ a_1 < (↑n : Int)) ∧
              At (Int.toNat a_1 < List.length (mrkRow a k a_1)) ∧
                ((((0 : Nat) = (0 : Nat) ∧ n = n) ∧
                      (True ∧
                          IntKind.wrap IntKind.i64 (k + a_1 + (1 : Int)) =
                            k + IntKind.wrap IntKind.i64 (a_1 + (1 : Int))) ∧
                        (True ∧
                            IntKind.wrap IntKind.i64 (a_1 + (1 : Int)) = IntKind.wrap IntKind.i64 (a_1 + (1 : Int))) ∧
                          True) ∧
                    ((True ∧
                          IntKind.i64 = IntKind.i64 ∧
                            List.set (mrkRow a k a_1) (Int.toNat a_1) (k + a_1) =
                              mrkRow a k (IntKind.wrap IntKind.i64 (a_1 + (1 : Int)))) ∧
                        True) ∧
                      True) ∧
                  At
                    (mrkInv a k (IntKind.wrap IntKind.i64 (a_1 + (1 : Int))) ∧
                      Int.toNat ((↑(List.length a) : Int) - IntKind.wrap IntKind.i64 (a_1 + (1 : Int))) <
                        Int.toNat ((↑(List.length a) : Int) - a_1))) ∧
          (decide (a_1 < (↑n : Int)) = false →
            K (V.int IntKind.i64 (k + a_1))
              [{ cs := Cells.ints IntKind.i64 (mrkRow a k a_1), elem := (3 : Nat), kind := Kind.row }])

def VC_laws_heldIntS (k : Int) (n : Nat) (a : List Int) (K : V → List Blk → Prop) : Prop :=
  ((((0 : Nat) = (0 : Nat) ∧ n = n) ∧ (True ∧ k = k + (0 : Int)) ∧ (True ∧ (0 : Int) = (0 : Int)) ∧ True) ∧
    ((True ∧ IntKind.i64 = IntKind.i64 ∧ a = a) ∧ True) ∧ True) ∧
  At (hldInv a k (0 : Int)) ∧
    ∀ (a_1 : Int),
      hldInv a k a_1 →
        (decide (a_1 < (↑n : Int)) = true →
            At ((0 : Int) ≤ a_1 ∧ a_1 < (↑n : Int)) ∧
              At (Int.toNat a_1 < List.length a) ∧
                ((List.getD a (Int.toNat a_1) (0 : Int) != k + a_1) = true →
                    K (V.int IntKind.i64 (-1 : Int))
                      [{ cs := Cells.ints IntKind.i64 a, elem := (3 : Nat), kind := Kind.row }]) ∧
                  ((List.getD a (Int.toNat a_1) (0 : Int) != k + a_1) = false →
                    ((((0 : Nat) = (0 : Nat) ∧ n = n) ∧
                          (True ∧
                              IntKind.wrap IntKind.i64 (k + a_1 + (1 : Int)) =
                                k + IntKind.wrap IntKind.i64 (a_1 + (1 : Int))) ∧
                            (True ∧
                                IntKind.wrap IntKind.i64 (a_1 + (1 : Int)) =
                                  IntKind.wrap IntKind.i64 (a_1 + (1 : Int))) ∧
                              True) ∧
                        ((True ∧ IntKind.i64 = IntKind.i64 ∧ a = a) ∧ True) ∧ True) ∧
                      At
                        (hldInv a k (IntKind.wrap IntKind.i64 (a_1 + (1 : Int))) ∧
                          Int.toNat ((↑(List.length a) : Int) - IntKind.wrap IntKind.i64 (a_1 + (1 : Int))) <
                            Int.toNat ((↑(List.length a) : Int) - a_1)))) ∧
          (decide (a_1 < (↑n : Int)) = false →
            K (V.int IntKind.i64 (k + a_1)) [{ cs := Cells.ints IntKind.i64 a, elem := (3 : Nat), kind := Kind.row }])

end Go.Vi
