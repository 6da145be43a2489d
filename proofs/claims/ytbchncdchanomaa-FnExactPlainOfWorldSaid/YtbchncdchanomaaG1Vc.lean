/- The conditions, reckoned out by program: texts alone. -/
import Derived.Test.YtbchncdchanomaaG1Defs
namespace Go.Vi
set_option linter.unusedVariables false
def VC_spec_PlainOfWorld (wr : List UInt8) (ww : Int) (wh : Int) (wc : List UInt8) (wx : Int) (wy : Int) (wd : Int) (K : V → List Blk → Prop) : Prop :=
  At True ∧
  ((!goodB { r := wr, w := ww, h := wh, c := wc, x := wx, y := wy, d := wd }) = true →
      K
        (V.tup
          [V.agg
              [V.str (Array.toList #[]), V.raw (Value.slice none (0 : Nat) (0 : Nat)), V.int IntKind.i64 (0 : Int),
                V.int IntKind.i64 (0 : Int), V.int IntKind.i64 (0 : Int)],
            V.lit false])
        [{
            cs :=
              Cells.vals
                [V.str wr, V.int IntKind.i64 ww, V.int IntKind.i64 wh, V.str wc, V.int IntKind.i64 wx,
                  V.int IntKind.i64 wy, V.int IntKind.i64 wd],
            elem := (46 : Nat), kind := Kind.box },
          {
            cs :=
              Cells.vals
                [V.str (Array.toList #[]), V.raw (Value.slice none (0 : Nat) (0 : Nat)), V.int IntKind.i64 (0 : Int),
                  V.int IntKind.i64 (0 : Int), V.int IntKind.i64 (0 : Int)],
            elem := (29 : Nat), kind := Kind.box }]) ∧
    ((!goodB { r := wr, w := ww, h := wh, c := wc, x := wx, y := wy, d := wd }) = false →
      (True ∧
          (((0 : Nat) = (0 : Nat) ∧ (0 : Nat) = (0 : Nat)) ∧
              ((1 : Nat) = (1 : Nat) ∧ (0 : Nat) = (0 : Nat)) ∧
                ((2 : Nat) = (2 : Nat) ∧ (0 : Nat) = (0 : Nat)) ∧ (True ∧ (0 : Int) = (0 : Int)) ∧ True) ∧
            ((True ∧
                  wr = wr ∧
                    (True ∧ ww = ww) ∧
                      (True ∧ wh = wh) ∧ wc = wc ∧ (True ∧ wx = wx) ∧ (True ∧ wy = wy) ∧ (True ∧ wd = wd) ∧ True) ∧
                (True ∧
                    nilB = nilB ∧
                      Value.slice none (0 : Nat) (0 : Nat) = Value.slice none (0 : Nat) (0 : Nat) ∧
                        (True ∧ (0 : Int) = (0 : Int)) ∧
                          (True ∧ (0 : Int) = (0 : Int)) ∧ (True ∧ (0 : Int) = (0 : Int)) ∧ True) ∧
                  (True ∧
                      wr = wr ∧
                        ((3 : Nat) = (3 : Nat) ∧
                            (0 : Nat) =
                              cntS { r := wr, w := ww, h := wh, c := wc, x := wx, y := wy, d := wd }
                                (Int.toNat ((0 : Int) * ww))) ∧
                          (True ∧ wx = wx) ∧ (True ∧ wy = wy) ∧ (True ∧ wd = wd) ∧ True) ∧
                    (True ∧
                        IntKind.i64 = IntKind.i64 ∧
                          nilI =
                            spF { r := wr, w := ww, h := wh, c := wc, x := wx, y := wy, d := wd }
                              (Int.toNat ((0 : Int) * ww))) ∧
                      True) ∧
              True) ∧
        At (owInv { r := wr, w := ww, h := wh, c := wc, x := wx, y := wy, d := wd } (0 : Int)) ∧
          ∀ (a : Int),
            owInv { r := wr, w := ww, h := wh, c := wc, x := wx, y := wy, d := wd } a →
              (decide (a < wh) = true →
                  (True ∧
                      (((0 : Nat) = (0 : Nat) ∧ (0 : Nat) = (0 : Nat)) ∧
                          ((1 : Nat) = (1 : Nat) ∧ (0 : Nat) = (0 : Nat)) ∧
                            ((2 : Nat) = (2 : Nat) ∧ (0 : Nat) = (0 : Nat)) ∧
                              (True ∧ a = a) ∧ (True ∧ (0 : Int) = (0 : Int)) ∧ True) ∧
                        ((True ∧
                              wr = wr ∧
                                (True ∧ ww = ww) ∧
                                  (True ∧ wh = wh) ∧
                                    wc = wc ∧ (True ∧ wx = wx) ∧ (True ∧ wy = wy) ∧ (True ∧ wd = wd) ∧ True) ∧
                            (True ∧
                                nilB = nilB ∧
                                  Value.slice none (0 : Nat) (0 : Nat) = Value.slice none (0 : Nat) (0 : Nat) ∧
                                    (True ∧ (0 : Int) = (0 : Int)) ∧
                                      (True ∧ (0 : Int) = (0 : Int)) ∧ (True ∧ (0 : Int) = (0 : Int)) ∧ True) ∧
                              (True ∧
                                  wr = wr ∧
                                    ((3 : Nat) = (3 : Nat) ∧
                                        cntS { r := wr, w := ww, h := wh, c := wc, x := wx, y := wy, d := wd }
                                            (Int.toNat (a * ww)) =
                                          cntS { r := wr, w := ww, h := wh, c := wc, x := wx, y := wy, d := wd }
                                            (Int.toNat (a * ww + (0 : Int)))) ∧
                                      (True ∧ wx = wx) ∧ (True ∧ wy = wy) ∧ (True ∧ wd = wd) ∧ True) ∧
                                (True ∧
                                    IntKind.i64 = IntKind.i64 ∧
                                      spF { r := wr, w := ww, h := wh, c := wc, x := wx, y := wy, d := wd }
                                          (Int.toNat (a * ww)) =
                                        spF { r := wr, w := ww, h := wh, c := wc, x := wx, y := wy, d := wd }
                                          (Int.toNat (a * ww + (0 : Int)))) ∧
                                  True) ∧
                          True) ∧
                    At (iwInv { r := wr, w := ww, h := wh, c := wc, x := wx, y := wy, d := wd } a (0 : Int)) ∧
                      ∀ (a_3 : Int),
                        iwInv { r := wr, w := ww, h := wh, c := wc, x := wx, y := wy, d := wd } a a_3 →
                          (decide (a_3 < ww) = true →
                              At
                                  (goodB { r := wr, w := ww, h := wh, c := wc, x := wx, y := wy, d := wd } = true ∧
                                    hasB { r := wr, w := ww, h := wh, c := wc, x := wx, y := wy, d := wd } a_3 a =
                                      true) ∧
                                (decide
                                        (colAt { r := wr, w := ww, h := wh, c := wc, x := wx, y := wy, d := wd } a_3 a >
                                          (0 : Int)) =
                                      true →
                                    At
                                        ((List.length
                                                (spF { r := wr, w := ww, h := wh, c := wc, x := wx, y := wy, d := wd }
                                                  (Int.toNat (a * ww + a_3))) =
                                              cntS { r := wr, w := ww, h := wh, c := wc, x := wx, y := wy, d := wd }
                                                  (Int.toNat (a * ww + a_3)) *
                                                (3 : Nat) ∧
                                            (1 : Nat) * (3 : Nat) ≤
                                              List.length
                                                [a_3, a,
                                                  colAt
                                                    { r := wr, w := ww, h := wh, c := wc, x := wx, y := wy, d := wd }
                                                    a_3 a]) ∧
                                          (0 : Nat) < (1 : Nat) ∧
                                            cntS { r := wr, w := ww, h := wh, c := wc, x := wx, y := wy, d := wd }
                                                  (Int.toNat (a * ww + a_3)) +
                                                (1 : Nat) ≤
                                              (1000000000 : Nat)) ∧
                                      (True ∧
                                          (((0 : Nat) = (0 : Nat) ∧ (0 : Nat) = (0 : Nat)) ∧
                                              ((1 : Nat) = (1 : Nat) ∧ (0 : Nat) = (0 : Nat)) ∧
                                                ((2 : Nat) = (2 : Nat) ∧ (0 : Nat) = (0 : Nat)) ∧
                                                  (True ∧ a = a) ∧
                                                    (True ∧
                                                        IntKind.wrap IntKind.i64 (a_3 + (1 : Int)) =
                                                          IntKind.wrap IntKind.i64 (a_3 + (1 : Int))) ∧
                                                      True) ∧
                                            ((True ∧
                                                  wr = wr ∧
                                                    (True ∧ ww = ww) ∧
                                                      (True ∧ wh = wh) ∧
                                                        wc = wc ∧
                                                          (True ∧ wx = wx) ∧
                                                            (True ∧ wy = wy) ∧ (True ∧ wd = wd) ∧ True) ∧
                                                (True ∧
                                                    nilB = nilB ∧
                                                      Value.slice none (0 : Nat) (0 : Nat) =
                                                          Value.slice none (0 : Nat) (0 : Nat) ∧
                                                        (True ∧ (0 : Int) = (0 : Int)) ∧
                                                          (True ∧ (0 : Int) = (0 : Int)) ∧
                                                            (True ∧ (0 : Int) = (0 : Int)) ∧ True) ∧
                                                  (True ∧
                                                      wr = wr ∧
                                                        ((3 : Nat) = (3 : Nat) ∧
                                                            cntS
                                                                  { r := wr, w := ww, h := wh, c := wc, x := wx,
                                                                    y := wy, d := wd }
                                                                  (Int.toNat (a * ww + a_3)) +
                                                                (1 : Nat) =
                                                              cntS
                                                                { r := wr, w := ww, h := wh, c := wc, x := wx, y := wy,
                                                                  d := wd }
                                                                (Int.toNat
                                                                  (a * ww +
                                                                    IntKind.wrap IntKind.i64 (a_3 + (1 : Int))))) ∧
                                                          (True ∧ wx = wx) ∧
                                                            (True ∧ wy = wy) ∧ (True ∧ wd = wd) ∧ True) ∧
                                                    (True ∧
                                                        IntKind.i64 = IntKind.i64 ∧
                                                          spF
                                                                { r := wr, w := ww, h := wh, c := wc, x := wx, y := wy,
                                                                  d := wd }
                                                                (Int.toNat (a * ww + a_3)) ++
                                                              List.take ((1 : Nat) * (3 : Nat))
                                                                [a_3, a,
                                                                  colAt
                                                                    { r := wr, w := ww, h := wh, c := wc, x := wx,
                                                                      y := wy, d := wd }
                                                                    a_3 a] =
                                                            spF
                                                              { r := wr, w := ww, h := wh, c := wc, x := wx, y := wy,
                                                                d := wd }
                                                              (Int.toNat
                                                                (a * ww +
                                                                  IntKind.wrap IntKind.i64 (a_3 + (1 : Int))))) ∧
                                                      True) ∧
                                              True) ∧
                                        At
                                          (iwInv { r := wr, w := ww, h := wh, c := wc, x := wx, y := wy, d := wd } a
                                              (IntKind.wrap IntKind.i64 (a_3 + (1 : Int))) ∧
                                            Int.toNat (ww - IntKind.wrap IntKind.i64 (a_3 + (1 : Int))) <
                                              Int.toNat (ww - a_3))) ∧
                                  (decide
                                        (colAt { r := wr, w := ww, h := wh, c := wc, x := wx, y := wy, d := wd } a_3 a >
                                          (0 : Int)) =
                                      false →
                                    (True ∧
                                        (((0 : Nat) = (0 : Nat) ∧ (0 : Nat) = (0 : Nat)) ∧
                                            ((1 : Nat) = (1 : Nat) ∧ (0 : Nat) = (0 : Nat)) ∧
                                              ((2 : Nat) = (2 : Nat) ∧ (0 : Nat) = (0 : Nat)) ∧
                                                (True ∧ a = a) ∧
                                                  (True ∧
                                                      IntKind.wrap IntKind.i64 (a_3 + (1 : Int)) =
                                                        IntKind.wrap IntKind.i64 (a_3 + (1 : Int))) ∧
                                                    True) ∧
                                          ((True ∧
                                                wr = wr ∧
                                                  (True ∧ ww = ww) ∧
                                                    (True ∧ wh = wh) ∧
                                                      wc = wc ∧
                                                        (True ∧ wx = wx) ∧ (True ∧ wy = wy) ∧ (True ∧ wd = wd) ∧ True) ∧
                                              (True ∧
                                                  nilB = nilB ∧
                                                    Value.slice none (0 : Nat) (0 : Nat) =
                                                        Value.slice none (0 : Nat) (0 : Nat) ∧
                                                      (True ∧ (0 : Int) = (0 : Int)) ∧
                                                        (True ∧ (0 : Int) = (0 : Int)) ∧
                                                          (True ∧ (0 : Int) = (0 : Int)) ∧ True) ∧
                                                (True ∧
                                                    wr = wr ∧
                                                      ((3 : Nat) = (3 : Nat) ∧
                                                          cntS
                                                              { r := wr, w := ww, h := wh, c := wc, x := wx, y := wy,
                                                                d := wd }
                                                              (Int.toNat (a * ww + a_3)) =
                                                            cntS
                                                              { r := wr, w := ww, h := wh, c := wc, x := wx, y := wy,
                                                                d := wd }
                                                              (Int.toNat
                                                                (a * ww +
                                                                  IntKind.wrap IntKind.i64 (a_3 + (1 : Int))))) ∧
                                                        (True ∧ wx = wx) ∧ (True ∧ wy = wy) ∧ (True ∧ wd = wd) ∧ True) ∧
                                                  (True ∧
                                                      IntKind.i64 = IntKind.i64 ∧
                                                        spF
                                                            { r := wr, w := ww, h := wh, c := wc, x := wx, y := wy,
                                                              d := wd }
                                                            (Int.toNat (a * ww + a_3)) =
                                                          spF
                                                            { r := wr, w := ww, h := wh, c := wc, x := wx, y := wy,
                                                              d := wd }
                                                            (Int.toNat
                                                              (a * ww + IntKind.wrap IntKind.i64 (a_3 + (1 : Int))))) ∧
                                                    True) ∧
                                            True) ∧
                                      At
                                        (iwInv { r := wr, w := ww, h := wh, c := wc, x := wx, y := wy, d := wd } a
                                            (IntKind.wrap IntKind.i64 (a_3 + (1 : Int))) ∧
                                          Int.toNat (ww - IntKind.wrap IntKind.i64 (a_3 + (1 : Int))) <
                                            Int.toNat (ww - a_3)))) ∧
                            (decide (a_3 < ww) = false →
                              (True ∧
                                  (((0 : Nat) = (0 : Nat) ∧ (0 : Nat) = (0 : Nat)) ∧
                                      ((1 : Nat) = (1 : Nat) ∧ (0 : Nat) = (0 : Nat)) ∧
                                        ((2 : Nat) = (2 : Nat) ∧ (0 : Nat) = (0 : Nat)) ∧
                                          (True ∧
                                              IntKind.wrap IntKind.i64 (a + (1 : Int)) =
                                                IntKind.wrap IntKind.i64 (a + (1 : Int))) ∧
                                            True) ∧
                                    ((True ∧
                                          wr = wr ∧
                                            (True ∧ ww = ww) ∧
                                              (True ∧ wh = wh) ∧
                                                wc = wc ∧
                                                  (True ∧ wx = wx) ∧ (True ∧ wy = wy) ∧ (True ∧ wd = wd) ∧ True) ∧
                                        (True ∧
                                            nilB = nilB ∧
                                              Value.slice none (0 : Nat) (0 : Nat) =
                                                  Value.slice none (0 : Nat) (0 : Nat) ∧
                                                (True ∧ (0 : Int) = (0 : Int)) ∧
                                                  (True ∧ (0 : Int) = (0 : Int)) ∧
                                                    (True ∧ (0 : Int) = (0 : Int)) ∧ True) ∧
                                          (True ∧
                                              wr = wr ∧
                                                ((3 : Nat) = (3 : Nat) ∧
                                                    cntS
                                                        { r := wr, w := ww, h := wh, c := wc, x := wx, y := wy,
                                                          d := wd }
                                                        (Int.toNat (a * ww + a_3)) =
                                                      cntS
                                                        { r := wr, w := ww, h := wh, c := wc, x := wx, y := wy,
                                                          d := wd }
                                                        (Int.toNat (IntKind.wrap IntKind.i64 (a + (1 : Int)) * ww))) ∧
                                                  (True ∧ wx = wx) ∧ (True ∧ wy = wy) ∧ (True ∧ wd = wd) ∧ True) ∧
                                            (True ∧
                                                IntKind.i64 = IntKind.i64 ∧
                                                  spF { r := wr, w := ww, h := wh, c := wc, x := wx, y := wy, d := wd }
                                                      (Int.toNat (a * ww + a_3)) =
                                                    spF
                                                      { r := wr, w := ww, h := wh, c := wc, x := wx, y := wy, d := wd }
                                                      (Int.toNat (IntKind.wrap IntKind.i64 (a + (1 : Int)) * ww))) ∧
                                              True) ∧
                                      True) ∧
                                At
                                  (owInv { r := wr, w := ww, h := wh, c := wc, x := wx, y := wy, d := wd }
                                      (IntKind.wrap IntKind.i64 (a + (1 : Int))) ∧
                                    Int.toNat (wh - IntKind.wrap IntKind.i64 (a + (1 : Int))) < Int.toNat (wh - a)))) ∧
                (decide (a < wh) = false →
                  K
                    (V.tup
                      [V.agg
                          [V.str wr,
                            V.row (3 : Nat)
                              (cntS { r := wr, w := ww, h := wh, c := wc, x := wx, y := wy, d := wd }
                                (Int.toNat (a * ww))),
                            V.int IntKind.i64 wx, V.int IntKind.i64 wy, V.int IntKind.i64 wd],
                        V.lit true])
                    [{
                        cs :=
                          Cells.vals
                            [V.str wr, V.int IntKind.i64 ww, V.int IntKind.i64 wh, V.str wc, V.int IntKind.i64 wx,
                              V.int IntKind.i64 wy, V.int IntKind.i64 wd],
                        elem := (46 : Nat), kind := Kind.box },
                      {
                        cs :=
                          Cells.vals
                            [V.str wr,
                              V.row (3 : Nat)
                                (cntS { r := wr, w := ww, h := wh, c := wc, x := wx, y := wy, d := wd }
                                  (Int.toNat (a * ww))),
                              V.int IntKind.i64 wx, V.int IntKind.i64 wy, V.int IntKind.i64 wd],
                        elem := (29 : Nat), kind := Kind.box },
                      {
                        cs :=
                          Cells.vals
                            [V.str wr,
                              V.row (3 : Nat)
                                (cntS { r := wr, w := ww, h := wh, c := wc, x := wx, y := wy, d := wd }
                                  (Int.toNat (a * ww))),
                              V.int IntKind.i64 wx, V.int IntKind.i64 wy, V.int IntKind.i64 wd],
                        elem := (29 : Nat), kind := Kind.box },
                      {
                        cs :=
                          Cells.ints IntKind.i64
                            (spF { r := wr, w := ww, h := wh, c := wc, x := wx, y := wy, d := wd }
                              (Int.toNat (a * ww))),
                        elem := (61 : Nat), kind := Kind.rows (3 : Nat) }]))

def VC_impl_PlainOfWorld (wr : List UInt8) (ww : Int) (wh : Int) (wc : List UInt8) (wx : Int) (wy : Int) (wd : Int) (K : V → List Blk → Prop) : Prop := At True ∧ ((!goodB { r := wr, w := ww, h := wh, c := wc, x := wx, y := wy, d := wd }) 
  = true → K (V.tup [V.agg [V.str (Array.toList #[]), V.raw (Value.slice none (0 : Nat) (0 : Nat)), V.int IntKind.i64 (0 : Int), V.int IntKind.i64 (0 : Int), V.int IntKind.i64 (0 : Int)], 
  V.lit false]) [{ cs := Cells.vals [V.str wr, V.int IntKind.i64 ww, V.int IntKind.i64 wh, V.str wc, V.int IntKind.i64 wx, V.int IntKind.i64 wy, V.int IntKind.i64 wd], elem := (46 : Nat), kind := Kind.box }, 
  { cs := Cells.vals [V.str (Array.toList #[]), V.raw (Value.slice none (0 : Nat) (0 : Nat)), V.int IntKind.i64 (0 : Int), V.int IntKind.i64 (0 : Int), V.int IntKind.i64 (0 : Int)], elem := (29 : Nat), kind := Kind.box }]) 
  ∧ ((!goodB { r := wr, w := ww, h := wh, c := wc, x := wx, y := wy, d := wd }) = false → (True ∧ (((0 : Nat) = (0 : Nat) ∧ (0 : Nat) = (0 : Nat)) ∧ ((1 : Nat) = (1 : Nat) ∧ (0 : Nat) 
  = (0 : Nat)) ∧ ((2 : Nat) = (2 : Nat) ∧ (0 : Nat) = (0 : Nat)) ∧ (True ∧ (↑(List.length wc) : Int) = (↑(List.length wc) : Int)) ∧ (True ∧ (0 : Int) = (0 : Int)) ∧ True) ∧ ((True ∧ wr 
  = wr ∧ (True ∧ ww = ww) ∧ (True ∧ wh = wh) ∧ wc = wc ∧ (True ∧ wx = wx) ∧ (True ∧ wy = wy) ∧ (True ∧ wd = wd) ∧ True) ∧ (True ∧ nilB = nilB ∧ Value.slice none (0 : Nat) (0 : Nat) = 
  Value.slice none (0 : Nat) (0 : Nat) ∧ (True ∧ (0 : Int) = (0 : Int)) ∧ (True ∧ (0 : Int) = (0 : Int)) ∧ (True ∧ (0 : Int) = (0 : Int)) ∧ True) ∧ (True ∧ wr = wr ∧ ((3 : Nat) = (3 : 
  Nat) ∧ (0 : Nat) = (0 : Nat)) ∧ (True ∧ wx = wx) ∧ (True ∧ wy = wy) ∧ (True ∧ wd = wd) ∧ True) ∧ (True ∧ IntKind.i64 = IntKind.i64 ∧ nilI = spF { r := wr, w := ww, h := wh, c := wc, x := wx, y := wy, d := wd } 
  (Int.toNat (0 : Int))) ∧ True) ∧ True) ∧ At (pwInv { r := wr, w := ww, h := wh, c := wc, x := wx, y := wy, d := wd } (0 : Int)) ∧ ∀ (a : Int), pwInv { r := wr, w := ww, h := wh, c := wc, x := wx, y := wy, d := wd } 
  a → (decide (a < (↑(List.length wc) : Int)) = true → At ((0 : Int) ≤ a ∧ a < (↑(List.length wc) : Int)) ∧ At ((0 : Int) ≤ (↑(UInt8.toNat (List.getD wc (Int.toNat a) (0 : UInt8))) : 
  Int) ∧ (↑(UInt8.toNat (List.getD wc (Int.toNat a) (0 : UInt8))) : Int) < (256 : Int)) ∧ (((↑(UInt8.toNat (List.getD wc (Int.toNat a) (0 : UInt8))) : Int) - (48 : Int) != (0 : Int)) 
  = true → ((At (ww ≠ (0 : Int)) ∧ (At (ww ≠ (0 : Int)) ∧ ((At ((List.length (spF { r := wr, w := ww, h := wh, c := wc, x := wx, y := wy, d := wd } (Int.toNat a)) = cntS { r := wr, w := ww, h := wh, c := wc, x := wx, y := wy, d := wd } 
  (Int.toNat a) * (3 : Nat) ∧ (1 : Nat) * (3 : Nat) ≤ List.length [Int.tmod a ww, IntKind.wrap IntKind.i64 (Int.tdiv a ww), (↑(UInt8.toNat (List.getD wc (Int.toNat a) (0 : UInt8))) : 
  Int) - (48 : Int)]) ∧ (0 : Nat) < (1 : Nat) ∧ cntS { r := wr, w := ww, h := wh, c := wc, x := wx, y := wy, d := wd } (Int.toNat a) + (1 : Nat) ≤ (1000000000 : Nat)) ∧ ((True ∧ (((0 
  : Nat) = (0 : Nat) ∧ (0 : Nat) = (0 : Nat)) ∧ ((1 : Nat) = (1 : Nat) ∧ (0 : Nat) = (0 : Nat)) ∧ ((2 : Nat) = (2 : Nat) ∧ (0 : Nat) = (0 : Nat)) ∧ (True ∧ (↑(List.length wc) : Int) = 
  (↑(List.length wc) : Int)) ∧ (True ∧ IntKind.wrap IntKind.i64 (a + (1 : Int)) = IntKind.wrap IntKind.i64 (a + (1 : Int))) ∧ True) ∧ ((True ∧ wr = wr ∧ (True ∧ ww = ww) ∧ (True ∧ wh 
  = wh) ∧ wc = wc ∧ (True ∧ wx = wx) ∧ (True ∧ wy = wy) ∧ (True ∧ wd = wd) ∧ True) ∧ (True ∧ nilB = nilB ∧ Value.slice none (0 : Nat) (0 : Nat) = Value.slice none (0 : Nat) (0 : Nat) 
  ∧ (True ∧ (0 : Int) = (0 : Int)) ∧ (True ∧ (0 : Int) = (0 : Int)) ∧ (True ∧ (0 : Int) = (0 : Int)) ∧ True) ∧ (True ∧ wr = wr ∧ ((3 : Nat) = (3 : Nat) ∧ cntS { r := wr, w := ww, h := wh, c := wc, x := wx, y := wy, d := wd } 
  (Int.toNat a) + (1 : Nat) = cntS { r := wr, w := ww, h := wh, c := wc, x := wx, y := wy, d := wd } (Int.toNat (IntKind.wrap IntKind.i64 (a + (1 : Int))))) ∧ (True ∧ wx = wx) ∧ (True 
  ∧ wy = wy) ∧ (True ∧ wd = wd) ∧ True) ∧ (True ∧ IntKind.i64 = IntKind.i64 ∧ spF { r := wr, w := ww, h := wh, c := wc, x := wx, y := wy, d := wd } (Int.toNat a) ++ List.take ((1 : Nat) 
  * (3 : Nat)) [Int.tmod a ww, IntKind.wrap IntKind.i64 (Int.tdiv a ww), (↑(UInt8.toNat (List.getD wc (Int.toNat a) (0 : UInt8))) : Int) - (48 : Int)] = spF { r := wr, w := ww, h := wh, c := wc, x := wx, y := wy, d := wd } 
  (Int.toNat (IntKind.wrap IntKind.i64 (a + (1 : Int))))) ∧ True) ∧ True) ∧ At (pwInv { r := wr, w := ww, h := wh, c := wc, x := wx, y := wy, d := wd } (IntKind.wrap IntKind.i64 (a + 
  (1 : Int))) ∧ Int.toNat ((↑(List.length wc) : Int) - IntKind.wrap IntKind.i64 (a + (1 : Int))) < Int.toNat ((↑(List.length wc) : Int) - a))) ∧ True) ∧ True) ∧ True) ∧ True) ∧ (At (ww 
  ≠ (0 : Int)) ∧ (At (ww ≠ (0 : Int)) ∧ ((At ((List.length (spF { r := wr, w := ww, h := wh, c := wc, x := wx, y := wy, d := wd } (Int.toNat a)) = cntS { r := wr, w := ww, h := wh, c := wc, x := wx, y := wy, d := wd } 
  (Int.toNat a) * (3 : Nat) ∧ (1 : Nat) * (3 : Nat) ≤ List.length [Int.tmod a ww, IntKind.wrap IntKind.i64 (Int.tdiv a ww), (↑(UInt8.toNat (List.getD wc (Int.toNat a) (0 : UInt8))) : 
  Int) - (48 : Int)]) ∧ (0 : Nat) < (1 : Nat) ∧ cntS { r := wr, w := ww, h := wh, c := wc, x := wx, y := wy, d := wd } (Int.toNat a) + (1 : Nat) ≤ (1000000000 : Nat)) ∧ ((True ∧ (((0 
  : Nat) = (0 : Nat) ∧ (0 : Nat) = (0 : Nat)) ∧ ((1 : Nat) = (1 : Nat) ∧ (0 : Nat) = (0 : Nat)) ∧ ((2 : Nat) = (2 : Nat) ∧ (0 : Nat) = (0 : Nat)) ∧ (True ∧ (↑(List.length wc) : Int) = 
  (↑(List.length wc) : Int)) ∧ (True ∧ IntKind.wrap IntKind.i64 (a + (1 : Int)) = IntKind.wrap IntKind.i64 (a + (1 : Int))) ∧ True) ∧ ((True ∧ wr = wr ∧ (True ∧ ww = ww) ∧ (True ∧ wh 
  = wh) ∧ wc = wc ∧ (True ∧ wx = wx) ∧ (True ∧ wy = wy) ∧ (True ∧ wd = wd) ∧ True) ∧ (True ∧ nilB = nilB ∧ Value.slice none (0 : Nat) (0 : Nat) = Value.slice none (0 : Nat) (0 : Nat) 
  ∧ (True ∧ (0 : Int) = (0 : Int)) ∧ (True ∧ (0 : Int) = (0 : Int)) ∧ (True ∧ (0 : Int) = (0 : Int)) ∧ True) ∧ (True ∧ wr = wr ∧ ((3 : Nat) = (3 : Nat) ∧ cntS { r := wr, w := ww, h := wh, c := wc, x := wx, y := wy, d := wd } 
  (Int.toNat a) + (1 : Nat) = cntS { r := wr, w := ww, h := wh, c := wc, x := wx, y := wy, d := wd } (Int.toNat (IntKind.wrap IntKind.i64 (a + (1 : Int))))) ∧ (True ∧ wx = wx) ∧ (True 
  ∧ wy = wy) ∧ (True ∧ wd = wd) ∧ True) ∧ (True ∧ IntKind.i64 = IntKind.i64 ∧ spF { r := wr, w := ww, h := wh, c := wc, x := wx, y := wy, d := wd } (Int.toNat a) ++ List.take ((1 : Nat) 
  * (3 : Nat)) [Int.tmod a ww, IntKind.wrap IntKind.i64 (Int.tdiv a ww), (↑(UInt8.toNat (List.getD wc (Int.toNat a) (0 : UInt8))) : Int) - (48 : Int)] = spF { r := wr, w := ww, h := wh, c := wc, x := wx, y := wy, d := wd } 
  (Int.toNat (IntKind.wrap IntKind.i64 (a + (1 : Int))))) ∧ True) ∧ True) ∧ At (pwInv { r := wr, w := ww, h := wh, c := wc, x := wx, y := wy, d := wd } (IntKind.wrap IntKind.i64 (a + 
  (1 : Int))) ∧ Int.toNat ((↑(List.length wc) : Int) - IntKind.wrap IntKind.i64 (a + (1 : Int))) < Int.toNat ((↑(List.length wc) : Int) - a))) ∧ True) ∧ True) ∧ True) ∧ True) ∧ True) 
  ∧ (At (ww ≠ (0 : Int)) ∧ ((At (ww ≠ (0 : Int)) ∧ ((At ((List.length (spF { r := wr, w := ww, h := wh, c := wc, x := wx, y := wy, d := wd } (Int.toNat a)) = cntS { r := wr, w := ww, h := wh, c := wc, x := wx, y := wy, d := wd } 
  (Int.toNat a) * (3 : Nat) ∧ (1 : Nat) * (3 : Nat) ≤ List.length [Int.tmod a ww, IntKind.wrap IntKind.i64 (Int.tdiv a ww), (↑(UInt8.toNat (List.getD wc (Int.toNat a) (0 : UInt8))) : 
  Int) - (48 : Int)]) ∧ (0 : Nat) < (1 : Nat) ∧ cntS { r := wr, w := ww, h := wh, c := wc, x := wx, y := wy, d := wd } (Int.toNat a) + (1 : Nat) ≤ (1000000000 : Nat)) ∧ ((True ∧ (((0 
  : Nat) = (0 : Nat) ∧ (0 : Nat) = (0 : Nat)) ∧ ((1 : Nat) = (1 : Nat) ∧ (0 : Nat) = (0 : Nat)) ∧ ((2 : Nat) = (2 : Nat) ∧ (0 : Nat) = (0 : Nat)) ∧ (True ∧ (↑(List.length wc) : Int) = 
  (↑(List.length wc) : Int)) ∧ (True ∧ IntKind.wrap IntKind.i64 (a + (1 : Int)) = IntKind.wrap IntKind.i64 (a + (1 : Int))) ∧ True) ∧ ((True ∧ wr = wr ∧ (True ∧ ww = ww) ∧ (True ∧ wh 
  = wh) ∧ wc = wc ∧ (True ∧ wx = wx) ∧ (True ∧ wy = wy) ∧ (True ∧ wd = wd) ∧ True) ∧ (True ∧ nilB = nilB ∧ Value.slice none (0 : Nat) (0 : Nat) = Value.slice none (0 : Nat) (0 : Nat) 
  ∧ (True ∧ (0 : Int) = (0 : Int)) ∧ (True ∧ (0 : Int) = (0 : Int)) ∧ (True ∧ (0 : Int) = (0 : Int)) ∧ True) ∧ (True ∧ wr = wr ∧ ((3 : Nat) = (3 : Nat) ∧ cntS { r := wr, w := ww, h := wh, c := wc, x := wx, y := wy, d := wd } 
  (Int.toNat a) + (1 : Nat) = cntS { r := wr, w := ww, h := wh, c := wc, x := wx, y := wy, d := wd } (Int.toNat (IntKind.wrap IntKind.i64 (a + (1 : Int))))) ∧ (True ∧ wx = wx) ∧ (True 
  ∧ wy = wy) ∧ (True ∧ wd = wd) ∧ True) ∧ (True ∧ IntKind.i64 = IntKind.i64 ∧ spF { r := wr, w := ww, h := wh, c := wc, x := wx, y := wy, d := wd } (Int.toNat a) ++ List.take ((1 : Nat) 
  * (3 : Nat)) [Int.tmod a ww, IntKind.wrap IntKind.i64 (Int.tdiv a ww), (↑(UInt8.toNat (List.getD wc (Int.toNat a) (0 : UInt8))) : Int) - (48 : Int)] = spF { r := wr, w := ww, h := wh, c := wc, x := wx, y := wy, d := wd } 
  (Int.toNat (IntKind.wrap IntKind.i64 (a + (1 : Int))))) ∧ True) ∧ True) ∧ At (pwInv { r := wr, w := ww, h := wh, c := wc, x := wx, y := wy, d := wd } (IntKind.wrap IntKind.i64 (a + 
  (1 : Int))) ∧ Int.toNat ((↑(List.length wc) : Int) - IntKind.wrap IntKind.i64 (a + (1 : Int))) < Int.toNat ((↑(List.length wc) : Int) - a))) ∧ True) ∧ True) ∧ True) ∧ True) ∧ (At (ww 
  ≠ (0 : Int)) ∧ (((At ((List.length (spF { r := wr, w := ww, h := wh, c := wc, x := wx, y := wy, d := wd } (Int.toNat a)) = cntS { r := wr, w := ww, h := wh, c := wc, x := wx, y := wy, d := wd } 
  (Int.toNat a) * (3 : Nat) ∧ (1 : Nat) * (3 : Nat) ≤ List.length [Int.tmod a ww, IntKind.wrap IntKind.i64 (Int.tdiv a ww), (↑(UInt8.toNat (List.getD wc (Int.toNat a) (0 : UInt8))) : 
  Int) - (48 : Int)]) ∧ (0 : Nat) < (1 : Nat) ∧ cntS { r := wr, w := ww, h := wh, c := wc, x := wx, y := wy, d := wd } (Int.toNat a) + (1 : Nat) ≤ (1000000000 : Nat)) ∧ ((True ∧ (((0 
  : Nat) = (0 : Nat) ∧ (0 : Nat) = (0 : Nat)) ∧ ((1 : Nat) = (1 : Nat) ∧ (0 : Nat) = (0 : Nat)) ∧ ((2 : Nat) = (2 : Nat) ∧ (0 : Nat) = (0 : Nat)) ∧ (True ∧ (↑(List.length wc) : Int) = 
  (↑(List.length wc) : Int)) ∧ (True ∧ IntKind.wrap IntKind.i64 (a + (1 : Int)) = IntKind.wrap IntKind.i64 (a + (1 : Int))) ∧ True) ∧ ((True ∧ wr = wr ∧ (True ∧ ww = ww) ∧ (True ∧ wh 
  = wh) ∧ wc = wc ∧ (True ∧ wx = wx) ∧ (True ∧ wy = wy) ∧ (True ∧ wd = wd) ∧ True) ∧ (True ∧ nilB = nilB ∧ Value.slice none (0 : Nat) (0 : Nat) = Value.slice none (0 : Nat) (0 : Nat) 
  ∧ (True ∧ (0 : Int) = (0 : Int)) ∧ (True ∧ (0 : Int) = (0 : Int)) ∧ (True ∧ (0 : Int) = (0 : Int)) ∧ True) ∧ (True ∧ wr = wr ∧ ((3 : Nat) = (3 : Nat) ∧ cntS { r := wr, w := ww, h := wh, c := wc, x := wx, y := wy, d := wd } 
  (Int.toNat a) + (1 : Nat) = cntS { r := wr, w := ww, h := wh, c := wc, x := wx, y := wy, d := wd } (Int.toNat (IntKind.wrap IntKind.i64 (a + (1 : Int))))) ∧ (True ∧ wx = wx) ∧ (True 
  ∧ wy = wy) ∧ (True ∧ wd = wd) ∧ True) ∧ (True ∧ IntKind.i64 = IntKind.i64 ∧ spF { r := wr, w := ww, h := wh, c := wc, x := wx, y := wy, d := wd } (Int.toNat a) ++ List.take ((1 : Nat) 
  * (3 : Nat)) [Int.tmod a ww, IntKind.wrap IntKind.i64 (Int.tdiv a ww), (↑(UInt8.toNat (List.getD wc (Int.toNat a) (0 : UInt8))) : Int) - (48 : Int)] = spF { r := wr, w := ww, h := wh, c := wc, x := wx, y := wy, d := wd } 
  (Int.toNat (IntKind.wrap IntKind.i64 (a + (1 : Int))))) ∧ True) ∧ True) ∧ At (pwInv { r := wr, w := ww, h := wh, c := wc, x := wx, y := wy, d := wd } (IntKind.wrap IntKind.i64 (a + 
  (1 : Int))) ∧ Int.toNat ((↑(List.length wc) : Int) - IntKind.wrap IntKind.i64 (a + (1 : Int))) < Int.toNat ((↑(List.length wc) : Int) - a))) ∧ True) ∧ True) ∧ True) ∧ (((At ((List.length 
  (spF { r := wr, w := ww, h := wh, c := wc, x := wx, y := wy, d := wd } (Int.toNat a)) = cntS { r := wr, w := ww, h := wh, c := wc, x := wx, y := wy, d := wd } (Int.toNat a) * (3 : Nat) 
  ∧ (1 : Nat) * (3 : Nat) ≤ List.length [Int.tmod a ww, IntKind.wrap IntKind.i64 (Int.tdiv a ww), (↑(UInt8.toNat (List.getD wc (Int.toNat a) (0 : UInt8))) : Int) - (48 : Int)]) ∧ (0 : 
  Nat) < (1 : Nat) ∧ cntS { r := wr, w := ww, h := wh, c := wc, x := wx, y := wy, d := wd } (Int.toNat a) + (1 : Nat) ≤ (1000000000 : Nat)) ∧ ((True ∧ (((0 : Nat) = (0 : Nat) ∧ (0 : Nat) 
  = (0 : Nat)) ∧ ((1 : Nat) = (1 : Nat) ∧ (0 : Nat) = (0 : Nat)) ∧ ((2 : Nat) = (2 : Nat) ∧ (0 : Nat) = (0 : Nat)) ∧ (True ∧ (↑(List.length wc) : Int) = (↑(List.length wc) : Int)) ∧ (True 
  ∧ IntKind.wrap IntKind.i64 (a + (1 : Int)) = IntKind.wrap IntKind.i64 (a + (1 : Int))) ∧ True) ∧ ((True ∧ wr = wr ∧ (True ∧ ww = ww) ∧ (True ∧ wh = wh) ∧ wc = wc ∧ (True ∧ wx = wx) 
  ∧ (True ∧ wy = wy) ∧ (True ∧ wd = wd) ∧ True) ∧ (True ∧ nilB = nilB ∧ Value.slice none (0 : Nat) (0 : Nat) = Value.slice none (0 : Nat) (0 : Nat) ∧ (True ∧ (0 : Int) = (0 : Int)) ∧ 
  (True ∧ (0 : Int) = (0 : Int)) ∧ (True ∧ (0 : Int) = (0 : Int)) ∧ True) ∧ (True ∧ wr = wr ∧ ((3 : Nat) = (3 : Nat) ∧ cntS { r := wr, w := ww, h := wh, c := wc, x := wx, y := wy, d := wd } 
  (Int.toNat a) + (1 : Nat) = cntS { r := wr, w := ww, h := wh, c := wc, x := wx, y := wy, d := wd } (Int.toNat (IntKind.wrap IntKind.i64 (a + (1 : Int))))) ∧ (True ∧ wx = wx) ∧ (True 
  ∧ wy = wy) ∧ (True ∧ wd = wd) ∧ True) ∧ (True ∧ IntKind.i64 = IntKind.i64 ∧ spF { r := wr, w := ww, h := wh, c := wc, x := wx, y := wy, d := wd } (Int.toNat a) ++ List.take ((1 : Nat) 
  * (3 : Nat)) [Int.tmod a ww, IntKind.wrap IntKind.i64 (Int.tdiv a ww), (↑(UInt8.toNat (List.getD wc (Int.toNat a) (0 : UInt8))) : Int) - (48 : Int)] = spF { r := wr, w := ww, h := wh, c := wc, x := wx, y := wy, d := wd } 
  (Int.toNat (IntKind.wrap IntKind.i64 (a + (1 : Int))))) ∧ True) ∧ True) ∧ At (pwInv { r := wr, w := ww, h := wh, c := wc, x := wx, y := wy, d := wd } (IntKind.wrap IntKind.i64 (a + 
  (1 : Int))) ∧ Int.toNat ((↑(List.length wc) : Int) - IntKind.wrap IntKind.i64 (a + (1 : Int))) < Int.toNat ((↑(List.length wc) : Int) - a))) ∧ True) ∧ True) ∧ True) ∧ True) ∧ True) 
  ∧ (At (ww ≠ (0 : Int)) ∧ ((At (ww ≠ (0 : Int)) ∧ ((At ((List.length (spF { r := wr, w := ww, h := wh, c := wc, x := wx, y := wy, d := wd } (Int.toNat a)) = cntS { r := wr, w := ww, h := wh, c := wc, x := wx, y := wy, d := wd } 
  (Int.toNat a) * (3 : Nat) ∧ (1 : Nat) * (3 : Nat) ≤ List.length [Int.tmod a ww, IntKind.wrap IntKind.i64 (Int.tdiv a ww), (↑(UInt8.toNat (List.getD wc (Int.toNat a) (0 : UInt8))) : 
  Int) - (48 : Int)]) ∧ (0 : Nat) < (1 : Nat) ∧ cntS { r := wr, w := ww, h := wh, c := wc, x := wx, y := wy, d := wd } (Int.toNat a) + (1 : Nat) ≤ (1000000000 : Nat)) ∧ ((True ∧ (((0 
  : Nat) = (0 : Nat) ∧ (0 : Nat) = (0 : Nat)) ∧ ((1 : Nat) = (1 : Nat) ∧ (0 : Nat) = (0 : Nat)) ∧ ((2 : Nat) = (2 : Nat) ∧ (0 : Nat) = (0 : Nat)) ∧ (True ∧ (↑(List.length wc) : Int) = 
  (↑(List.length wc) : Int)) ∧ (True ∧ IntKind.wrap IntKind.i64 (a + (1 : Int)) = IntKind.wrap IntKind.i64 (a + (1 : Int))) ∧ True) ∧ ((True ∧ wr = wr ∧ (True ∧ ww = ww) ∧ (True ∧ wh 
  = wh) ∧ wc = wc ∧ (True ∧ wx = wx) ∧ (True ∧ wy = wy) ∧ (True ∧ wd = wd) ∧ True) ∧ (True ∧ nilB = nilB ∧ Value.slice none (0 : Nat) (0 : Nat) = Value.slice none (0 : Nat) (0 : Nat) 
  ∧ (True ∧ (0 : Int) = (0 : Int)) ∧ (True ∧ (0 : Int) = (0 : Int)) ∧ (True ∧ (0 : Int) = (0 : Int)) ∧ True) ∧ (True ∧ wr = wr ∧ ((3 : Nat) = (3 : Nat) ∧ cntS { r := wr, w := ww, h := wh, c := wc, x := wx, y := wy, d := wd } 
  (Int.toNat a) + (1 : Nat) = cntS { r := wr, w := ww, h := wh, c := wc, x := wx, y := wy, d := wd } (Int.toNat (IntKind.wrap IntKind.i64 (a + (1 : Int))))) ∧ (True ∧ wx = wx) ∧ (True 
  ∧ wy = wy) ∧ (True ∧ wd = wd) ∧ True) ∧ (True ∧ IntKind.i64 = IntKind.i64 ∧ spF { r := wr, w := ww, h := wh, c := wc, x := wx, y := wy, d := wd } (Int.toNat a) ++ List.take ((1 : Nat) 
  * (3 : Nat)) [Int.tmod a ww, IntKind.wrap IntKind.i64 (Int.tdiv a ww), (↑(UInt8.toNat (List.getD wc (Int.toNat a) (0 : UInt8))) : Int) - (48 : Int)] = spF { r := wr, w := ww, h := wh, c := wc, x := wx, y := wy, d := wd } 
  (Int.toNat (IntKind.wrap IntKind.i64 (a + (1 : Int))))) ∧ True) ∧ True) ∧ At (pwInv { r := wr, w := ww, h := wh, c := wc, x := wx, y := wy, d := wd } (IntKind.wrap IntKind.i64 (a + 
  (1 : Int))) ∧ Int.toNat ((↑(List.length wc) : Int) - IntKind.wrap IntKind.i64 (a + (1 : Int))) < Int.toNat ((↑(List.length wc) : Int) - a))) ∧ True) ∧ True) ∧ True) ∧ True) ∧ (At (ww 
  ≠ (0 : Int)) ∧ (((At ((List.length (spF { r := wr, w := ww, h := wh, c := wc, x := wx, y := wy, d := wd } (Int.toNat a)) = cntS { r := wr, w := ww, h := wh, c := wc, x := wx, y := wy, d := wd } 
  (Int.toNat a) * (3 : Nat) ∧ (1 : Nat) * (3 : Nat) ≤ List.length [Int.tmod a ww, IntKind.wrap IntKind.i64 (Int.tdiv a ww), (↑(UInt8.toNat (List.getD wc (Int.toNat a) (0 : UInt8))) : 
  Int) - (48 : Int)]) ∧ (0 : Nat) < (1 : Nat) ∧ cntS { r := wr, w := ww, h := wh, c := wc, x := wx, y := wy, d := wd } (Int.toNat a) + (1 : Nat) ≤ (1000000000 : Nat)) ∧ ((True ∧ (((0 
  : Nat) = (0 : Nat) ∧ (0 : Nat) = (0 : Nat)) ∧ ((1 : Nat) = (1 : Nat) ∧ (0 : Nat) = (0 : Nat)) ∧ ((2 : Nat) = (2 : Nat) ∧ (0 : Nat) = (0 : Nat)) ∧ (True ∧ (↑(List.length wc) : Int) = 
  (↑(List.length wc) : Int)) ∧ (True ∧ IntKind.wrap IntKind.i64 (a + (1 : Int)) = IntKind.wrap IntKind.i64 (a + (1 : Int))) ∧ True) ∧ ((True ∧ wr = wr ∧ (True ∧ ww = ww) ∧ (True ∧ wh 
  = wh) ∧ wc = wc ∧ (True ∧ wx = wx) ∧ (True ∧ wy = wy) ∧ (True ∧ wd = wd) ∧ True) ∧ (True ∧ nilB = nilB ∧ Value.slice none (0 : Nat) (0 : Nat) = Value.slice none (0 : Nat) (0 : Nat) 
  ∧ (True ∧ (0 : Int) = (0 : Int)) ∧ (True ∧ (0 : Int) = (0 : Int)) ∧ (True ∧ (0 : Int) = (0 : Int)) ∧ True) ∧ (True ∧ wr = wr ∧ ((3 : Nat) = (3 : Nat) ∧ cntS { r := wr, w := ww, h := wh, c := wc, x := wx, y := wy, d := wd } 
  (Int.toNat a) + (1 : Nat) = cntS { r := wr, w := ww, h := wh, c := wc, x := wx, y := wy, d := wd } (Int.toNat (IntKind.wrap IntKind.i64 (a + (1 : Int))))) ∧ (True ∧ wx = wx) ∧ (True 
  ∧ wy = wy) ∧ (True ∧ wd = wd) ∧ True) ∧ (True ∧ IntKind.i64 = IntKind.i64 ∧ spF { r := wr, w := ww, h := wh, c := wc, x := wx, y := wy, d := wd } (Int.toNat a) ++ List.take ((1 : Nat) 
  * (3 : Nat)) [Int.tmod a ww, IntKind.wrap IntKind.i64 (Int.tdiv a ww), (↑(UInt8.toNat (List.getD wc (Int.toNat a) (0 : UInt8))) : Int) - (48 : Int)] = spF { r := wr, w := ww, h := wh, c := wc, x := wx, y := wy, d := wd } 
  (Int.toNat (IntKind.wrap IntKind.i64 (a + (1 : Int))))) ∧ True) ∧ True) ∧ At (pwInv { r := wr, w := ww, h := wh, c := wc, x := wx, y := wy, d := wd } (IntKind.wrap IntKind.i64 (a + 
  (1 : Int))) ∧ Int.toNat ((↑(List.length wc) : Int) - IntKind.wrap IntKind.i64 (a + (1 : Int))) < Int.toNat ((↑(List.length wc) : Int) - a))) ∧ True) ∧ True) ∧ True) ∧ (((At ((List.length 
  (spF { r := wr, w := ww, h := wh, c := wc, x := wx, y := wy, d := wd } (Int.toNat a)) = cntS { r := wr, w := ww, h := wh, c := wc, x := wx, y := wy, d := wd } (Int.toNat a) * (3 : Nat) 
  ∧ (1 : Nat) * (3 : Nat) ≤ List.length [Int.tmod a ww, IntKind.wrap IntKind.i64 (Int.tdiv a ww), (↑(UInt8.toNat (List.getD wc (Int.toNat a) (0 : UInt8))) : Int) - (48 : Int)]) ∧ (0 : 
  Nat) < (1 : Nat) ∧ cntS { r := wr, w := ww, h := wh, c := wc, x := wx, y := wy, d := wd } (Int.toNat a) + (1 : Nat) ≤ (1000000000 : Nat)) ∧ ((True ∧ (((0 : Nat) = (0 : Nat) ∧ (0 : Nat) 
  = (0 : Nat)) ∧ ((1 : Nat) = (1 : Nat) ∧ (0 : Nat) = (0 : Nat)) ∧ ((2 : Nat) = (2 : Nat) ∧ (0 : Nat) = (0 : Nat)) ∧ (True ∧ (↑(List.length wc) : Int) = (↑(List.length wc) : Int)) ∧ (True 
  ∧ IntKind.wrap IntKind.i64 (a + (1 : Int)) = IntKind.wrap IntKind.i64 (a + (1 : Int))) ∧ True) ∧ ((True ∧ wr = wr ∧ (True ∧ ww = ww) ∧ (True ∧ wh = wh) ∧ wc = wc ∧ (True ∧ wx = wx) 
  ∧ (True ∧ wy = wy) ∧ (True ∧ wd = wd) ∧ True) ∧ (True ∧ nilB = nilB ∧ Value.slice none (0 : Nat) (0 : Nat) = Value.slice none (0 : Nat) (0 : Nat) ∧ (True ∧ (0 : Int) = (0 : Int)) ∧ 
  (True ∧ (0 : Int) = (0 : Int)) ∧ (True ∧ (0 : Int) = (0 : Int)) ∧ True) ∧ (True ∧ wr = wr ∧ ((3 : Nat) = (3 : Nat) ∧ cntS { r := wr, w := ww, h := wh, c := wc, x := wx, y := wy, d := wd } 
  (Int.toNat a) + (1 : Nat) = cntS { r := wr, w := ww, h := wh, c := wc, x := wx, y := wy, d := wd } (Int.toNat (IntKind.wrap IntKind.i64 (a + (1 : Int))))) ∧ (True ∧ wx = wx) ∧ (True 
  ∧ wy = wy) ∧ (True ∧ wd = wd) ∧ True) ∧ (True ∧ IntKind.i64 = IntKind.i64 ∧ spF { r := wr, w := ww, h := wh, c := wc, x := wx, y := wy, d := wd } (Int.toNat a) ++ List.take ((1 : Nat) 
  * (3 : Nat)) [Int.tmod a ww, IntKind.wrap IntKind.i64 (Int.tdiv a ww), (↑(UInt8.toNat (List.getD wc (Int.toNat a) (0 : UInt8))) : Int) - (48 : Int)] = spF { r := wr, w := ww, h := wh, c := wc, x := wx, y := wy, d := wd } 
  (Int.toNat (IntKind.wrap IntKind.i64 (a + (1 : Int))))) ∧ True) ∧ True) ∧ At (pwInv { r := wr, w := ww, h := wh, c := wc, x := wx, y := wy, d := wd } (IntKind.wrap IntKind.i64 (a + 
  (1 : Int))) ∧ Int.toNat ((↑(List.length wc) : Int) - IntKind.wrap IntKind.i64 (a + (1 : Int))) < Int.toNat ((↑(List.length wc) : Int) - a))) ∧ True) ∧ True) ∧ True) ∧ True) ∧ True) 
  ∧ True) ∧ (((↑(UInt8.toNat (List.getD wc (Int.toNat a) (0 : UInt8))) : Int) - (48 : Int) != (0 : Int)) = false → (True ∧ (((0 : Nat) = (0 : Nat) ∧ (0 : Nat) = (0 : Nat)) ∧ ((1 : Nat) 
  = (1 : Nat) ∧ (0 : Nat) = (0 : Nat)) ∧ ((2 : Nat) = (2 : Nat) ∧ (0 : Nat) = (0 : Nat)) ∧ (True ∧ (↑(List.length wc) : Int) = (↑(List.length wc) : Int)) ∧ (True ∧ IntKind.wrap IntKind.i64 
  (a + (1 : Int)) = IntKind.wrap IntKind.i64 (a + (1 : Int))) ∧ True) ∧ ((True ∧ wr = wr ∧ (True ∧ ww = ww) ∧ (True ∧ wh = wh) ∧ wc = wc ∧ (True ∧ wx = wx) ∧ (True ∧ wy = wy) ∧ (True 
  ∧ wd = wd) ∧ True) ∧ (True ∧ nilB = nilB ∧ Value.slice none (0 : Nat) (0 : Nat) = Value.slice none (0 : Nat) (0 : Nat) ∧ (True ∧ (0 : Int) = (0 : Int)) ∧ (True ∧ (0 : Int) = (0 : Int)) 
  ∧ (True ∧ (0 : Int) = (0 : Int)) ∧ True) ∧ (True ∧ wr = wr ∧ ((3 : Nat) = (3 : Nat) ∧ cntS { r := wr, w := ww, h := wh, c := wc, x := wx, y := wy, d := wd } (Int.toNat a) = cntS { r := wr, w := ww, h := wh, c := wc, x := wx, y := wy, d := wd } 
  (Int.toNat (IntKind.wrap IntKind.i64 (a + (1 : Int))))) ∧ (True ∧ wx = wx) ∧ (True ∧ wy = wy) ∧ (True ∧ wd = wd) ∧ True) ∧ (True ∧ IntKind.i64 = IntKind.i64 ∧ spF { r := wr, w := ww, h := wh, c := wc, x := wx, y := wy, d := wd } 
  (Int.toNat a) = spF { r := wr, w := ww, h := wh, c := wc, x := wx, y := wy, d := wd } (Int.toNat (IntKind.wrap IntKind.i64 (a + (1 : Int))))) ∧ True) ∧ True) ∧ At (pwInv { r := wr, w := ww, h := wh, c := wc, x := wx, y := wy, d := wd } 
  (IntKind.wrap IntKind.i64 (a + (1 : Int))) ∧ Int.toNat ((↑(List.length wc) : Int) - IntKind.wrap IntKind.i64 (a + (1 : Int))) < Int.toNat ((↑(List.length wc) : Int) - a)))) ∧ (decide 
  (a < (↑(List.length wc) : Int)) = false → K (V.tup [V.agg [V.str wr, V.row (3 : Nat) (cntS { r := wr, w := ww, h := wh, c := wc, x := wx, y := wy, d := wd } (Int.toNat a)), V.int IntKind.i64 
  wx, V.int IntKind.i64 wy, V.int IntKind.i64 wd], V.lit true]) [{ cs := Cells.vals [V.str wr, V.int IntKind.i64 ww, V.int IntKind.i64 wh, V.str wc, V.int IntKind.i64 wx, V.int IntKind.i64 wy, V.int IntKind.i64 wd], elem := (46 : Nat), kind := Kind.box }, 
  { cs := Cells.vals [V.str wr, V.row (3 : Nat) (cntS { r := wr, w := ww, h := wh, c := wc, x := wx, y := wy, d := wd } (Int.toNat a)), V.int IntKind.i64 wx, V.int IntKind.i64 wy, V.int IntKind.i64 wd], elem := (29 : Nat), kind := Kind.box }, 
  { cs := Cells.vals [V.str wr, V.row (3 : Nat) (cntS { r := wr, w := ww, h := wh, c := wc, x := wx, y := wy, d := wd } (Int.toNat a)), V.int IntKind.i64 wx, V.int IntKind.i64 wy, V.int IntKind.i64 wd], elem := (29 : Nat), kind := Kind.box }, 
  { cs := Cells.ints IntKind.i64 (spF { r := wr, w := ww, h := wh, c := wc, x := wx, y := wy, d := wd } (Int.toNat a)), elem := (61 : Nat), kind := Kind.rows (3 : Nat) }]))

end Go.Vi
