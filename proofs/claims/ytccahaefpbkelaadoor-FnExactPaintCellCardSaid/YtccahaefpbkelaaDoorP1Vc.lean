/- The conditions, reckoned out by program: texts alone. -/
import Derived.Test.YtccahaefpbkelaaDoorP1Defs
namespace Go.Vi
set_option linter.unusedVariables false
def VC_spec_PaintCell (wr : List UInt8) (ww : Int) (wh : Int) (wc : List UInt8) (wx : Int) (wy : Int) (wd : Int) (x : Int) (y : Int) (k : Int) (K : V → Prop) : Prop :=
  At True ∧
  (goodB { r := wr, w := ww, h := wh, c := wc, x := wx, y := wy, d := wd } = true →
      At True ∧
        (inB x (0 : Int) (IntKind.wrap IntKind.i64 (ww - (1 : Int))) = true →
            At True ∧
              ((!inB y (0 : Int) (IntKind.wrap IntKind.i64 (wh - (1 : Int)))) = true →
                  K
                    (V.tup
                      [V.agg
                          [V.str (Array.toList #[]), V.int IntKind.i64 (0 : Int), V.int IntKind.i64 (0 : Int),
                            V.str (Array.toList #[]), V.int IntKind.i64 (0 : Int), V.int IntKind.i64 (0 : Int),
                            V.int IntKind.i64 (0 : Int)],
                        V.lit false])) ∧
                ((!inB y (0 : Int) (IntKind.wrap IntKind.i64 (wh - (1 : Int)))) = false →
                  At True ∧
                    ((!inB k (0 : Int) (IntKind.wrap IntKind.i64 ((↑(List.length wr) : Int) - (1 : Int)))) = true →
                        K
                          (V.tup
                            [V.agg
                                [V.str (Array.toList #[]), V.int IntKind.i64 (0 : Int), V.int IntKind.i64 (0 : Int),
                                  V.str (Array.toList #[]), V.int IntKind.i64 (0 : Int), V.int IntKind.i64 (0 : Int),
                                  V.int IntKind.i64 (0 : Int)],
                              V.lit false])) ∧
                      ((!inB k (0 : Int) (IntKind.wrap IntKind.i64 ((↑(List.length wr) : Int) - (1 : Int)))) = false →
                        True ∧
                          At
                              ((0 : Int) ≤ IntKind.wrap IntKind.i64 (IntKind.wrap IntKind.i64 (y * ww) + x) ∧
                                IntKind.wrap IntKind.i64 (IntKind.wrap IntKind.i64 (y * ww) + x) ≤
                                  (↑(List.length wc) : Int)) ∧
                            At ((0 : Int) ≤ k ∧ k ≤ (9 : Int)) ∧
                              At
                                  (List.length
                                        (List.take
                                          (Int.toNat (IntKind.wrap IntKind.i64 (IntKind.wrap IntKind.i64 (y * ww) + x)))
                                          wc) +
                                      List.length (num1 k) ≤
                                    (9223372036854775807 : Nat)) ∧
                                At
                                    ((0 : Int) ≤
                                        IntKind.wrap IntKind.i64
                                          (IntKind.wrap IntKind.i64 (IntKind.wrap IntKind.i64 (y * ww) + x) +
                                            (1 : Int)) ∧
                                      IntKind.wrap IntKind.i64
                                          (IntKind.wrap IntKind.i64 (IntKind.wrap IntKind.i64 (y * ww) + x) +
                                            (1 : Int)) ≤
                                        (↑(List.length wc) : Int)) ∧
                                  At
                                      (List.length
                                            (List.take
                                                (Int.toNat
                                                  (IntKind.wrap IntKind.i64 (IntKind.wrap IntKind.i64 (y * ww) + x)))
                                                wc ++
                                              num1 k) +
                                          List.length
                                            (List.drop
                                              (Int.toNat
                                                (IntKind.wrap IntKind.i64
                                                  (IntKind.wrap IntKind.i64 (IntKind.wrap IntKind.i64 (y * ww) + x) +
                                                    (1 : Int))))
                                              wc) ≤
                                        (9223372036854775807 : Nat)) ∧
                                    K
                                      (V.tup
                                        [V.agg
                                            [V.str wr, V.int IntKind.i64 ww, V.int IntKind.i64 wh,
                                              V.str
                                                (List.take
                                                      (Int.toNat
                                                        (IntKind.wrap IntKind.i64
                                                          (IntKind.wrap IntKind.i64 (y * ww) + x)))
                                                      wc ++
                                                    num1 k ++
                                                  List.drop
                                                    (Int.toNat
                                                      (IntKind.wrap IntKind.i64
                                                        (IntKind.wrap IntKind.i64
                                                            (IntKind.wrap IntKind.i64 (y * ww) + x) +
                                                          (1 : Int))))
                                                    wc),
                                              V.int IntKind.i64 wx, V.int IntKind.i64 wy, V.int IntKind.i64 wd],
                                          V.lit true])))) ∧
          (inB x (0 : Int) (IntKind.wrap IntKind.i64 (ww - (1 : Int))) = false →
            K
              (V.tup
                [V.agg
                    [V.str (Array.toList #[]), V.int IntKind.i64 (0 : Int), V.int IntKind.i64 (0 : Int),
                      V.str (Array.toList #[]), V.int IntKind.i64 (0 : Int), V.int IntKind.i64 (0 : Int),
                      V.int IntKind.i64 (0 : Int)],
                  V.lit false]))) ∧
    (goodB { r := wr, w := ww, h := wh, c := wc, x := wx, y := wy, d := wd } = false →
      K
        (V.tup
          [V.agg
              [V.str (Array.toList #[]), V.int IntKind.i64 (0 : Int), V.int IntKind.i64 (0 : Int),
                V.str (Array.toList #[]), V.int IntKind.i64 (0 : Int), V.int IntKind.i64 (0 : Int),
                V.int IntKind.i64 (0 : Int)],
            V.lit false]))

def VC_impl_PaintCell (wr : List UInt8) (ww : Int) (wh : Int) (wc : List UInt8) (wx : Int) (wy : Int) (wd : Int) (x : Int) (y : Int) (k : Int) (K : V → Prop) : Prop :=
  At True ∧
  ((!goodB { r := wr, w := ww, h := wh, c := wc, x := wx, y := wy, d := wd }) = true →
      K
        (V.tup
          [V.agg
              [V.str (Array.toList #[]), V.int IntKind.i64 (0 : Int), V.int IntKind.i64 (0 : Int),
                V.str (Array.toList #[]), V.int IntKind.i64 (0 : Int), V.int IntKind.i64 (0 : Int),
                V.int IntKind.i64 (0 : Int)],
            V.lit false])) ∧
    ((!goodB { r := wr, w := ww, h := wh, c := wc, x := wx, y := wy, d := wd }) = false →
      At True ∧
        (inB x (0 : Int) (IntKind.wrap IntKind.i64 (ww - (1 : Int))) = true →
            At True ∧
              ((!inB y (0 : Int) (IntKind.wrap IntKind.i64 (wh - (1 : Int)))) = true →
                  K
                    (V.tup
                      [V.agg
                          [V.str (Array.toList #[]), V.int IntKind.i64 (0 : Int), V.int IntKind.i64 (0 : Int),
                            V.str (Array.toList #[]), V.int IntKind.i64 (0 : Int), V.int IntKind.i64 (0 : Int),
                            V.int IntKind.i64 (0 : Int)],
                        V.lit false])) ∧
                ((!inB y (0 : Int) (IntKind.wrap IntKind.i64 (wh - (1 : Int)))) = false →
                  At True ∧
                    ((!inB k (0 : Int) (IntKind.wrap IntKind.i64 ((↑(List.length wr) : Int) - (1 : Int)))) = true →
                        K
                          (V.tup
                            [V.agg
                                [V.str (Array.toList #[]), V.int IntKind.i64 (0 : Int), V.int IntKind.i64 (0 : Int),
                                  V.str (Array.toList #[]), V.int IntKind.i64 (0 : Int), V.int IntKind.i64 (0 : Int),
                                  V.int IntKind.i64 (0 : Int)],
                              V.lit false])) ∧
                      ((!inB k (0 : Int) (IntKind.wrap IntKind.i64 ((↑(List.length wr) : Int) - (1 : Int)))) = false →
                        True ∧
                          At
                              ((0 : Int) ≤ IntKind.wrap IntKind.i64 (IntKind.wrap IntKind.i64 (y * ww) + x) ∧
                                IntKind.wrap IntKind.i64 (IntKind.wrap IntKind.i64 (y * ww) + x) ≤
                                  (↑(List.length wc) : Int)) ∧
                            At ((0 : Int) ≤ k ∧ k ≤ (9 : Int)) ∧
                              At
                                  (List.length
                                        (List.take
                                          (Int.toNat (IntKind.wrap IntKind.i64 (IntKind.wrap IntKind.i64 (y * ww) + x)))
                                          wc) +
                                      List.length (num1 k) ≤
                                    (9223372036854775807 : Nat)) ∧
                                At
                                    ((0 : Int) ≤
                                        IntKind.wrap IntKind.i64
                                          (IntKind.wrap IntKind.i64 (IntKind.wrap IntKind.i64 (y * ww) + x) +
                                            (1 : Int)) ∧
                                      IntKind.wrap IntKind.i64
                                          (IntKind.wrap IntKind.i64 (IntKind.wrap IntKind.i64 (y * ww) + x) +
                                            (1 : Int)) ≤
                                        (↑(List.length wc) : Int)) ∧
                                  At
                                      (List.length
                                            (List.take
                                                (Int.toNat
                                                  (IntKind.wrap IntKind.i64 (IntKind.wrap IntKind.i64 (y * ww) + x)))
                                                wc ++
                                              num1 k) +
                                          List.length
                                            (List.drop
                                              (Int.toNat
                                                (IntKind.wrap IntKind.i64
                                                  (IntKind.wrap IntKind.i64 (IntKind.wrap IntKind.i64 (y * ww) + x) +
                                                    (1 : Int))))
                                              wc) ≤
                                        (9223372036854775807 : Nat)) ∧
                                    K
                                      (V.tup
                                        [V.agg
                                            [V.str wr, V.int IntKind.i64 ww, V.int IntKind.i64 wh,
                                              V.str
                                                (List.take
                                                      (Int.toNat
                                                        (IntKind.wrap IntKind.i64
                                                          (IntKind.wrap IntKind.i64 (y * ww) + x)))
                                                      wc ++
                                                    num1 k ++
                                                  List.drop
                                                    (Int.toNat
                                                      (IntKind.wrap IntKind.i64
                                                        (IntKind.wrap IntKind.i64
                                                            (IntKind.wrap IntKind.i64 (y * ww) + x) +
                                                          (1 : Int))))
                                                    wc),
                                              V.int IntKind.i64 wx, V.int IntKind.i64 wy, V.int IntKind.i64 wd],
                                          V.lit true])))) ∧
          (inB x (0 : Int) (IntKind.wrap IntKind.i64 (ww - (1 : Int))) = false →
            K
              (V.tup
                [V.agg
                    [V.str (Array.toList #[]), V.int IntKind.i64 (0 : Int), V.int IntKind.i64 (0 : Int),
                      V.str (Array.toList #[]), V.int IntKind.i64 (0 : Int), V.int IntKind.i64 (0 : Int),
                      V.int IntKind.i64 (0 : Int)],
                  V.lit false])))

end Go.Vi
