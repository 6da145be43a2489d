/- The conditions, reckoned out by program: texts alone. -/
import Derived.Test.YtbchncdchanomacDoorS1Defs
namespace Go.Vi
set_option linter.unusedVariables false
def VC_spec_l1Mod (n : Int) (m : Int) (K : V → Prop) : Prop :=
  At (m ≠ (0 : Int)) ∧
  At (m ≠ (0 : Int)) ∧ K (V.int IntKind.i64 (Int.tmod (IntKind.wrap IntKind.i64 (Int.tmod n m + m)) m))

def VC_spec_woTurn (b : Int) (K : V → Prop) : Prop :=
  ((b == (82 : Int)) = true → K (V.int IntKind.i64 (1 : Int))) ∧
  ((b == (82 : Int)) = false →
    ((b == (85 : Int)) = true → K (V.int IntKind.i64 (2 : Int))) ∧
      ((b == (85 : Int)) = false →
        ((b == (76 : Int)) = true → K (V.int IntKind.i64 (3 : Int))) ∧
          ((b == (76 : Int)) = false → K (V.int IntKind.i64 (0 : Int)))))

def VC_impl_quarters (b : Int) (K : V → Prop) : Prop :=
  ((b == (82 : Int)) = true → K (V.int IntKind.i64 (1 : Int))) ∧
  ((b == (82 : Int)) = false →
    ((b == (85 : Int)) = true → K (V.int IntKind.i64 (2 : Int))) ∧
      ((b == (85 : Int)) = false →
        ((b == (76 : Int)) = true → K (V.int IntKind.i64 (3 : Int))) ∧
          ((b == (76 : Int)) = false → K (V.int IntKind.i64 (0 : Int)))))

def VC_impl_direction (d : Int) (K : V → Prop) : Prop :=
  ((d == (0 : Int)) = true → K (V.tup [V.int IntKind.i64 (0 : Int), V.int IntKind.i64 (-1 : Int)])) ∧
  ((d == (0 : Int)) = false →
    ((d == (1 : Int)) = true → K (V.tup [V.int IntKind.i64 (1 : Int), V.int IntKind.i64 (0 : Int)])) ∧
      ((d == (1 : Int)) = false →
        ((d == (2 : Int)) = true → K (V.tup [V.int IntKind.i64 (0 : Int), V.int IntKind.i64 (1 : Int)])) ∧
          ((d == (2 : Int)) = false → K (V.tup [V.int IntKind.i64 (-1 : Int), V.int IntKind.i64 (0 : Int)]))))

def VC_impl_board_sign (wr : List UInt8) (ww : Int) (wh : Int) (wc : List UInt8) (wx : Int) (wy : Int) (wd : Int) (K : V → Prop) : Prop :=
  True ∧
  At
      (goodB { r := wr, w := ww, h := wh, c := wc, x := wx, y := wy, d := wd } = true ∧
        hasB { r := wr, w := ww, h := wh, c := wc, x := wx, y := wy, d := wd } wx wy = true) ∧
    At
        ((0 : Int) ≤ colAt { r := wr, w := ww, h := wh, c := wc, x := wx, y := wy, d := wd } wx wy ∧
          colAt { r := wr, w := ww, h := wh, c := wc, x := wx, y := wy, d := wd } wx wy < (↑(List.length wr) : Int)) ∧
      K
        (V.int IntKind.u8
          (↑(UInt8.toNat
                (List.getD wr
                  (Int.toNat (colAt { r := wr, w := ww, h := wh, c := wc, x := wx, y := wy, d := wd } wx wy))
                  (0 : UInt8))) :
            Int))

def VC_impl_board_painted (wr : List UInt8) (ww : Int) (wh : Int) (wc : List UInt8) (wx : Int) (wy : Int) (wd : Int) (x : Int) (y : Int) (k : Int) (K : V → Prop) : Prop :=
  True ∧
  At
      ((0 : Int) ≤ IntKind.wrap IntKind.i64 (IntKind.wrap IntKind.i64 (y * ww) + x) ∧
        IntKind.wrap IntKind.i64 (IntKind.wrap IntKind.i64 (y * ww) + x) ≤ (↑(List.length wc) : Int)) ∧
    At ((0 : Int) ≤ k ∧ k ≤ (9 : Int)) ∧
      At
          (List.length (List.take (Int.toNat (IntKind.wrap IntKind.i64 (IntKind.wrap IntKind.i64 (y * ww) + x))) wc) +
              List.length (num1 k) ≤
            (9223372036854775807 : Nat)) ∧
        At
            ((0 : Int) ≤
                IntKind.wrap IntKind.i64
                  (IntKind.wrap IntKind.i64 (IntKind.wrap IntKind.i64 (y * ww) + x) + (1 : Int)) ∧
              IntKind.wrap IntKind.i64 (IntKind.wrap IntKind.i64 (IntKind.wrap IntKind.i64 (y * ww) + x) + (1 : Int)) ≤
                (↑(List.length wc) : Int)) ∧
          At
              (List.length
                    (List.take (Int.toNat (IntKind.wrap IntKind.i64 (IntKind.wrap IntKind.i64 (y * ww) + x))) wc ++
                      num1 k) +
                  List.length
                    (List.drop
                      (Int.toNat
                        (IntKind.wrap IntKind.i64
                          (IntKind.wrap IntKind.i64 (IntKind.wrap IntKind.i64 (y * ww) + x) + (1 : Int))))
                      wc) ≤
                (9223372036854775807 : Nat)) ∧
            K
              (V.agg
                [V.str wr, V.int IntKind.i64 ww, V.int IntKind.i64 wh,
                  V.str
                    (List.take (Int.toNat (IntKind.wrap IntKind.i64 (IntKind.wrap IntKind.i64 (y * ww) + x))) wc ++
                        num1 k ++
                      List.drop
                        (Int.toNat
                          (IntKind.wrap IntKind.i64
                            (IntKind.wrap IntKind.i64 (IntKind.wrap IntKind.i64 (y * ww) + x) + (1 : Int))))
                        wc),
                  V.int IntKind.i64 wx, V.int IntKind.i64 wy, V.int IntKind.i64 wd])

def VC_impl_board_turned (wr : List UInt8) (ww : Int) (wh : Int) (wc : List UInt8) (wx : Int) (wy : Int) (wd : Int) (q : Int) (K : V → Prop) : Prop :=
  At ((4 : Int) ≠ (0 : Int)) ∧
  K
    (V.agg
      [V.str wr, V.int IntKind.i64 ww, V.int IntKind.i64 wh, V.str wc, V.int IntKind.i64 wx, V.int IntKind.i64 wy,
        V.int IntKind.i64 (Int.tmod (IntKind.wrap IntKind.i64 (wd + q)) (4 : Int))])

def VC_impl_board_moved (wr : List UInt8) (ww : Int) (wh : Int) (wc : List UInt8) (wx : Int) (wy : Int) (wd : Int) (k : Int) (K : V → Prop) : Prop :=
  At True ∧
  At (ww ≠ (0 : Int)) ∧
    At (wh ≠ (0 : Int)) ∧
      K
        (V.agg
          [V.str wr, V.int IntKind.i64 ww, V.int IntKind.i64 wh, V.str wc,
            V.int IntKind.i64
              (Int.tmod
                (IntKind.wrap IntKind.i64 (IntKind.wrap IntKind.i64 (wx + IntKind.wrap IntKind.i64 (k * dirX wd)) + ww))
                ww),
            V.int IntKind.i64
              (Int.tmod
                (IntKind.wrap IntKind.i64 (IntKind.wrap IntKind.i64 (wy + IntKind.wrap IntKind.i64 (k * dirY wd)) + wh))
                wh),
            V.int IntKind.i64 wd])

def VC_spec_woPaint (x : Int) (y : Int) (k : Int) (wr : List UInt8) (ww : Int) (wh : Int) (wc : List UInt8) (wx : Int) (wy : Int) (wd : Int) (e : TypeId) (K : V → List Blk → Prop) : Prop :=
  True ∧
  At
      ((0 : Int) ≤ IntKind.wrap IntKind.i64 (IntKind.wrap IntKind.i64 (y * ww) + x) ∧
        IntKind.wrap IntKind.i64 (IntKind.wrap IntKind.i64 (y * ww) + x) ≤ (↑(List.length wc) : Int)) ∧
    At ((0 : Int) ≤ k ∧ k ≤ (9 : Int)) ∧
      At
          (List.length (List.take (Int.toNat (IntKind.wrap IntKind.i64 (IntKind.wrap IntKind.i64 (y * ww) + x))) wc) +
              List.length (num1 k) ≤
            (9223372036854775807 : Nat)) ∧
        At
            ((0 : Int) ≤
                IntKind.wrap IntKind.i64
                  (IntKind.wrap IntKind.i64 (IntKind.wrap IntKind.i64 (y * ww) + x) + (1 : Int)) ∧
              IntKind.wrap IntKind.i64 (IntKind.wrap IntKind.i64 (IntKind.wrap IntKind.i64 (y * ww) + x) + (1 : Int)) ≤
                (↑(List.length wc) : Int)) ∧
          At
              (List.length
                    (List.take (Int.toNat (IntKind.wrap IntKind.i64 (IntKind.wrap IntKind.i64 (y * ww) + x))) wc ++
                      num1 k) +
                  List.length
                    (List.drop
                      (Int.toNat
                        (IntKind.wrap IntKind.i64
                          (IntKind.wrap IntKind.i64 (IntKind.wrap IntKind.i64 (y * ww) + x) + (1 : Int))))
                      wc) ≤
                (9223372036854775807 : Nat)) ∧
            K (V.tup [])
              [{
                  cs :=
                    Cells.vals
                      [V.str wr, V.int IntKind.i64 ww, V.int IntKind.i64 wh,
                        V.str
                          (List.take (Int.toNat (IntKind.wrap IntKind.i64 (IntKind.wrap IntKind.i64 (y * ww) + x)))
                                wc ++
                              num1 k ++
                            List.drop
                              (Int.toNat
                                (IntKind.wrap IntKind.i64
                                  (IntKind.wrap IntKind.i64 (IntKind.wrap IntKind.i64 (y * ww) + x) + (1 : Int))))
                              wc),
                        V.int IntKind.i64 wx, V.int IntKind.i64 wy, V.int IntKind.i64 wd],
                  elem := e, kind := Kind.box }]

def VC_spec_woGo (k : Int) (wr : List UInt8) (ww : Int) (wh : Int) (wc : List UInt8) (wx : Int) (wy : Int) (wd : Int) (e : TypeId) (K : V → List Blk → Prop) : Prop :=
  ((wd == (0 : Int)) = true →
    True ∧
      At
          ((1 : Int) ≤ wh ∧
            wh ≤ (1000 : Int) ∧
              (-1000000 : Int) ≤ IntKind.wrap IntKind.i64 (wy - k) ∧
                IntKind.wrap IntKind.i64 (wy - k) ≤ (1000000 : Int)) ∧
        K (V.tup [])
          [{
              cs :=
                Cells.vals
                  [V.str wr, V.int IntKind.i64 ww, V.int IntKind.i64 wh, V.str wc, V.int IntKind.i64 wx,
                    V.int IntKind.i64 (IntKind.wrap IntKind.i64 (wy - k) % wh), V.int IntKind.i64 wd],
              elem := e, kind := Kind.box }]) ∧
  ((wd == (0 : Int)) = false →
    ((wd == (1 : Int)) = true →
        True ∧
          At
              ((1 : Int) ≤ ww ∧
                ww ≤ (1000 : Int) ∧
                  (-1000000 : Int) ≤ IntKind.wrap IntKind.i64 (wx + k) ∧
                    IntKind.wrap IntKind.i64 (wx + k) ≤ (1000000 : Int)) ∧
            K (V.tup [])
              [{
                  cs :=
                    Cells.vals
                      [V.str wr, V.int IntKind.i64 ww, V.int IntKind.i64 wh, V.str wc,
                        V.int IntKind.i64 (IntKind.wrap IntKind.i64 (wx + k) % ww), V.int IntKind.i64 wy,
                        V.int IntKind.i64 wd],
                  elem := e, kind := Kind.box }]) ∧
      ((wd == (1 : Int)) = false →
        ((wd == (2 : Int)) = true →
            True ∧
              At
                  ((1 : Int) ≤ wh ∧
                    wh ≤ (1000 : Int) ∧
                      (-1000000 : Int) ≤ IntKind.wrap IntKind.i64 (wy + k) ∧
                        IntKind.wrap IntKind.i64 (wy + k) ≤ (1000000 : Int)) ∧
                K (V.tup [])
                  [{
                      cs :=
                        Cells.vals
                          [V.str wr, V.int IntKind.i64 ww, V.int IntKind.i64 wh, V.str wc, V.int IntKind.i64 wx,
                            V.int IntKind.i64 (IntKind.wrap IntKind.i64 (wy + k) % wh), V.int IntKind.i64 wd],
                      elem := e, kind := Kind.box }]) ∧
          ((wd == (2 : Int)) = false →
            True ∧
              At
                  ((1 : Int) ≤ ww ∧
                    ww ≤ (1000 : Int) ∧
                      (-1000000 : Int) ≤ IntKind.wrap IntKind.i64 (wx - k) ∧
                        IntKind.wrap IntKind.i64 (wx - k) ≤ (1000000 : Int)) ∧
                K (V.tup [])
                  [{
                      cs :=
                        Cells.vals
                          [V.str wr, V.int IntKind.i64 ww, V.int IntKind.i64 wh, V.str wc,
                            V.int IntKind.i64 (IntKind.wrap IntKind.i64 (wx - k) % ww), V.int IntKind.i64 wy,
                            V.int IntKind.i64 wd],
                      elem := e, kind := Kind.box }])))

def VC_spec_woStep (wr : List UInt8) (ww : Int) (wh : Int) (wc : List UInt8) (wx : Int) (wy : Int) (wd : Int) (K : V → Prop) : Prop :=
  At
    (goodB { r := wr, w := ww, h := wh, c := wc, x := wx, y := wy, d := wd } = true ∧
      hasB { r := wr, w := ww, h := wh, c := wc, x := wx, y := wy, d := wd } wx wy = true) ∧
  True ∧
    At
        ((0 : Int) ≤ colAt { r := wr, w := ww, h := wh, c := wc, x := wx, y := wy, d := wd } wx wy ∧
          colAt { r := wr, w := ww, h := wh, c := wc, x := wx, y := wy, d := wd } wx wy < (↑(List.length wr) : Int)) ∧
      At True ∧
        At ((4 : Int) ≠ (0 : Int)) ∧
          True ∧
            At ((↑(List.length wr) : Int) ≠ (0 : Int)) ∧
              At
                  (goodB
                        { r := wr, w := ww, h := wh, c := wc, x := wx, y := wy,
                          d :=
                            Int.tmod
                              (IntKind.wrap IntKind.i64
                                (wd +
                                  turnI
                                    (↑(UInt8.toNat
                                          (List.getD wr
                                            (Int.toNat
                                              (colAt { r := wr, w := ww, h := wh, c := wc, x := wx, y := wy, d := wd }
                                                wx wy))
                                            (0 : UInt8))) :
                                      Int)))
                              (4 : Int) } =
                      true ∧
                    hasB
                          { r := wr, w := ww, h := wh, c := wc, x := wx, y := wy,
                            d :=
                              Int.tmod
                                (IntKind.wrap IntKind.i64
                                  (wd +
                                    turnI
                                      (↑(UInt8.toNat
                                            (List.getD wr
                                              (Int.toNat
                                                (colAt { r := wr, w := ww, h := wh, c := wc, x := wx, y := wy, d := wd }
                                                  wx wy))
                                              (0 : UInt8))) :
                                        Int)))
                                (4 : Int) }
                          wx wy =
                        true ∧
                      (0 : Int) ≤
                          Int.tmod
                            (IntKind.wrap IntKind.i64
                              (colAt { r := wr, w := ww, h := wh, c := wc, x := wx, y := wy, d := wd } wx wy +
                                (1 : Int)))
                            (↑(List.length wr) : Int) ∧
                        Int.tmod
                            (IntKind.wrap IntKind.i64
                              (colAt { r := wr, w := ww, h := wh, c := wc, x := wx, y := wy, d := wd } wx wy +
                                (1 : Int)))
                            (↑(List.length wr) : Int) ≤
                          (9 : Int)) ∧
                At
                    (boxB
                          (pntW
                            { r := wr, w := ww, h := wh, c := wc, x := wx, y := wy,
                              d :=
                                Int.tmod
                                  (IntKind.wrap IntKind.i64
                                    (wd +
                                      turnI
                                        (↑(UInt8.toNat
                                              (List.getD wr
                                                (Int.toNat
                                                  (colAt
                                                    { r := wr, w := ww, h := wh, c := wc, x := wx, y := wy, d := wd } wx
                                                    wy))
                                                (0 : UInt8))) :
                                          Int)))
                                  (4 : Int) }
                            wx wy
                            (Int.tmod
                              (IntKind.wrap IntKind.i64
                                (colAt { r := wr, w := ww, h := wh, c := wc, x := wx, y := wy, d := wd } wx wy +
                                  (1 : Int)))
                              (↑(List.length wr) : Int))) =
                        true ∧
                      ((1 : Int) = (1 : Int) ∨ (1 : Int) = (-1 : Int))) ∧
                  K
                    (V.agg
                      [V.str
                          (Wd.r
                            (movW
                              (pntW
                                { r := wr, w := ww, h := wh, c := wc, x := wx, y := wy,
                                  d :=
                                    Int.tmod
                                      (IntKind.wrap IntKind.i64
                                        (wd +
                                          turnI
                                            (↑(UInt8.toNat
                                                  (List.getD wr
                                                    (Int.toNat
                                                      (colAt
                                                        { r := wr, w := ww, h := wh, c := wc, x := wx, y := wy,
                                                          d := wd }
                                                        wx wy))
                                                    (0 : UInt8))) :
                                              Int)))
                                      (4 : Int) }
                                wx wy
                                (Int.tmod
                                  (IntKind.wrap IntKind.i64
                                    (colAt { r := wr, w := ww, h := wh, c := wc, x := wx, y := wy, d := wd } wx wy +
                                      (1 : Int)))
                                  (↑(List.length wr) : Int)))
                              (1 : Int))),
                        V.int IntKind.i64
                          (Wd.w
                            (movW
                              (pntW
                                { r := wr, w := ww, h := wh, c := wc, x := wx, y := wy,
                                  d :=
                                    Int.tmod
                                      (IntKind.wrap IntKind.i64
                                        (wd +
                                          turnI
                                            (↑(UInt8.toNat
                                                  (List.getD wr
                                                    (Int.toNat
                                                      (colAt
                                                        { r := wr, w := ww, h := wh, c := wc, x := wx, y := wy,
                                                          d := wd }
                                                        wx wy))
                                                    (0 : UInt8))) :
                                              Int)))
                                      (4 : Int) }
                                wx wy
                                (Int.tmod
                                  (IntKind.wrap IntKind.i64
                                    (colAt { r := wr, w := ww, h := wh, c := wc, x := wx, y := wy, d := wd } wx wy +
                                      (1 : Int)))
                                  (↑(List.length wr) : Int)))
                              (1 : Int))),
                        V.int IntKind.i64
                          (Wd.h
                            (movW
                              (pntW
                                { r := wr, w := ww, h := wh, c := wc, x := wx, y := wy,
                                  d :=
                                    Int.tmod
                                      (IntKind.wrap IntKind.i64
                                        (wd +
                                          turnI
                                            (↑(UInt8.toNat
                                                  (List.getD wr
                                                    (Int.toNat
                                                      (colAt
                                                        { r := wr, w := ww, h := wh, c := wc, x := wx, y := wy,
                                                          d := wd }
                                                        wx wy))
                                                    (0 : UInt8))) :
                                              Int)))
                                      (4 : Int) }
                                wx wy
                                (Int.tmod
                                  (IntKind.wrap IntKind.i64
                                    (colAt { r := wr, w := ww, h := wh, c := wc, x := wx, y := wy, d := wd } wx wy +
                                      (1 : Int)))
                                  (↑(List.length wr) : Int)))
                              (1 : Int))),
                        V.str
                          (Wd.c
                            (movW
                              (pntW
                                { r := wr, w := ww, h := wh, c := wc, x := wx, y := wy,
                                  d :=
                                    Int.tmod
                                      (IntKind.wrap IntKind.i64
                                        (wd +
                                          turnI
                                            (↑(UInt8.toNat
                                                  (List.getD wr
                                                    (Int.toNat
                                                      (colAt
                                                        { r := wr, w := ww, h := wh, c := wc, x := wx, y := wy,
                                                          d := wd }
                                                        wx wy))
                                                    (0 : UInt8))) :
                                              Int)))
                                      (4 : Int) }
                                wx wy
                                (Int.tmod
                                  (IntKind.wrap IntKind.i64
                                    (colAt { r := wr, w := ww, h := wh, c := wc, x := wx, y := wy, d := wd } wx wy +
                                      (1 : Int)))
                                  (↑(List.length wr) : Int)))
                              (1 : Int))),
                        V.int IntKind.i64
                          (Wd.x
                            (movW
                              (pntW
                                { r := wr, w := ww, h := wh, c := wc, x := wx, y := wy,
                                  d :=
                                    Int.tmod
                                      (IntKind.wrap IntKind.i64
                                        (wd +
                                          turnI
                                            (↑(UInt8.toNat
                                                  (List.getD wr
                                                    (Int.toNat
                                                      (colAt
                                                        { r := wr, w := ww, h := wh, c := wc, x := wx, y := wy,
                                                          d := wd }
                                                        wx wy))
                                                    (0 : UInt8))) :
                                              Int)))
                                      (4 : Int) }
                                wx wy
                                (Int.tmod
                                  (IntKind.wrap IntKind.i64
                                    (colAt { r := wr, w := ww, h := wh, c := wc, x := wx, y := wy, d := wd } wx wy +
                                      (1 : Int)))
                                  (↑(List.length wr) : Int)))
                              (1 : Int))),
                        V.int IntKind.i64
                          (Wd.y
                            (movW
                              (pntW
                                { r := wr, w := ww, h := wh, c := wc, x := wx, y := wy,
                                  d :=
                                    Int.tmod
                                      (IntKind.wrap IntKind.i64
                                        (wd +
                                          turnI
                                            (↑(UInt8.toNat
                                                  (List.getD wr
                                                    (Int.toNat
                                                      (colAt
                                                        { r := wr, w := ww, h := wh, c := wc, x := wx, y := wy,
                                                          d := wd }
                                                        wx wy))
                                                    (0 : UInt8))) :
                                              Int)))
                                      (4 : Int) }
                                wx wy
                                (Int.tmod
                                  (IntKind.wrap IntKind.i64
                                    (colAt { r := wr, w := ww, h := wh, c := wc, x := wx, y := wy, d := wd } wx wy +
                                      (1 : Int)))
                                  (↑(List.length wr) : Int)))
                              (1 : Int))),
                        V.int IntKind.i64
                          (Wd.d
                            (movW
                              (pntW
                                { r := wr, w := ww, h := wh, c := wc, x := wx, y := wy,
                                  d :=
                                    Int.tmod
                                      (IntKind.wrap IntKind.i64
                                        (wd +
                                          turnI
                                            (↑(UInt8.toNat
                                                  (List.getD wr
                                                    (Int.toNat
                                                      (colAt
                                                        { r := wr, w := ww, h := wh, c := wc, x := wx, y := wy,
                                                          d := wd }
                                                        wx wy))
                                                    (0 : UInt8))) :
                                              Int)))
                                      (4 : Int) }
                                wx wy
                                (Int.tmod
                                  (IntKind.wrap IntKind.i64
                                    (colAt { r := wr, w := ww, h := wh, c := wc, x := wx, y := wy, d := wd } wx wy +
                                      (1 : Int)))
                                  (↑(List.length wr) : Int)))
                              (1 : Int)))])

def VC_impl_board_forth (wr : List UInt8) (ww : Int) (wh : Int) (wc : List UInt8) (wx : Int) (wy : Int) (wd : Int) (K : V → Prop) : Prop :=
  At
    (goodB { r := wr, w := ww, h := wh, c := wc, x := wx, y := wy, d := wd } = true ∧
      hasB { r := wr, w := ww, h := wh, c := wc, x := wx, y := wy, d := wd } wx wy = true) ∧
  At ((↑(List.length wr) : Int) ≠ (0 : Int)) ∧
    True ∧
      At (goodB { r := wr, w := ww, h := wh, c := wc, x := wx, y := wy, d := wd } = true) ∧
        At True ∧
          At
              ((0 : Int) ≤ wd ∧
                wd ≤ (3 : Int) ∧
                  (0 : Int) ≤
                      turnI
                        (signAt { r := wr, w := ww, h := wh, c := wc, x := wx, y := wy, d := wd }
                          (colAt { r := wr, w := ww, h := wh, c := wc, x := wx, y := wy, d := wd } wx wy)) ∧
                    turnI
                        (signAt { r := wr, w := ww, h := wh, c := wc, x := wx, y := wy, d := wd }
                          (colAt { r := wr, w := ww, h := wh, c := wc, x := wx, y := wy, d := wd } wx wy)) ≤
                      (4 : Int)) ∧
            At
                (goodB
                      (trnW { r := wr, w := ww, h := wh, c := wc, x := wx, y := wy, d := wd }
                        (turnI
                          (signAt { r := wr, w := ww, h := wh, c := wc, x := wx, y := wy, d := wd }
                            (colAt { r := wr, w := ww, h := wh, c := wc, x := wx, y := wy, d := wd } wx wy)))) =
                    true ∧
                  hasB
                        (trnW { r := wr, w := ww, h := wh, c := wc, x := wx, y := wy, d := wd }
                          (turnI
                            (signAt { r := wr, w := ww, h := wh, c := wc, x := wx, y := wy, d := wd }
                              (colAt { r := wr, w := ww, h := wh, c := wc, x := wx, y := wy, d := wd } wx wy))))
                        wx wy =
                      true ∧
                    (0 : Int) ≤
                        Int.tmod
                          (IntKind.wrap IntKind.i64
                            (colAt { r := wr, w := ww, h := wh, c := wc, x := wx, y := wy, d := wd } wx wy + (1 : Int)))
                          (↑(List.length wr) : Int) ∧
                      Int.tmod
                          (IntKind.wrap IntKind.i64
                            (colAt { r := wr, w := ww, h := wh, c := wc, x := wx, y := wy, d := wd } wx wy + (1 : Int)))
                          (↑(List.length wr) : Int) ≤
                        (9 : Int)) ∧
              At
                  (boxB
                        (pntW
                          (trnW { r := wr, w := ww, h := wh, c := wc, x := wx, y := wy, d := wd }
                            (turnI
                              (signAt { r := wr, w := ww, h := wh, c := wc, x := wx, y := wy, d := wd }
                                (colAt { r := wr, w := ww, h := wh, c := wc, x := wx, y := wy, d := wd } wx wy))))
                          wx wy
                          (Int.tmod
                            (IntKind.wrap IntKind.i64
                              (colAt { r := wr, w := ww, h := wh, c := wc, x := wx, y := wy, d := wd } wx wy +
                                (1 : Int)))
                            (↑(List.length wr) : Int))) =
                      true ∧
                    ((1 : Int) = (1 : Int) ∨ (1 : Int) = (-1 : Int))) ∧
                K
                  (V.agg
                    [V.str
                        (Wd.r
                          (movW
                            (pntW
                              (trnW { r := wr, w := ww, h := wh, c := wc, x := wx, y := wy, d := wd }
                                (turnI
                                  (signAt { r := wr, w := ww, h := wh, c := wc, x := wx, y := wy, d := wd }
                                    (colAt { r := wr, w := ww, h := wh, c := wc, x := wx, y := wy, d := wd } wx wy))))
                              wx wy
                              (Int.tmod
                                (IntKind.wrap IntKind.i64
                                  (colAt { r := wr, w := ww, h := wh, c := wc, x := wx, y := wy, d := wd } wx wy +
                                    (1 : Int)))
                                (↑(List.length wr) : Int)))
                            (1 : Int))),
                      V.int IntKind.i64
                        (Wd.w
                          (movW
                            (pntW
                              (trnW { r := wr, w := ww, h := wh, c := wc, x := wx, y := wy, d := wd }
                                (turnI
                                  (signAt { r := wr, w := ww, h := wh, c := wc, x := wx, y := wy, d := wd }
                                    (colAt { r := wr, w := ww, h := wh, c := wc, x := wx, y := wy, d := wd } wx wy))))
                              wx wy
                              (Int.tmod
                                (IntKind.wrap IntKind.i64
                                  (colAt { r := wr, w := ww, h := wh, c := wc, x := wx, y := wy, d := wd } wx wy +
                                    (1 : Int)))
                                (↑(List.length wr) : Int)))
                            (1 : Int))),
                      V.int IntKind.i64
                        (Wd.h
                          (movW
                            (pntW
                              (trnW { r := wr, w := ww, h := wh, c := wc, x := wx, y := wy, d := wd }
                                (turnI
                                  (signAt { r := wr, w := ww, h := wh, c := wc, x := wx, y := wy, d := wd }
                                    (colAt { r := wr, w := ww, h := wh, c := wc, x := wx, y := wy, d := wd } wx wy))))
                              wx wy
                              (Int.tmod
                                (IntKind.wrap IntKind.i64
                                  (colAt { r := wr, w := ww, h := wh, c := wc, x := wx, y := wy, d := wd } wx wy +
                                    (1 : Int)))
                                (↑(List.length wr) : Int)))
                            (1 : Int))),
                      V.str
                        (Wd.c
                          (movW
                            (pntW
                              (trnW { r := wr, w := ww, h := wh, c := wc, x := wx, y := wy, d := wd }
                                (turnI
                                  (signAt { r := wr, w := ww, h := wh, c := wc, x := wx, y := wy, d := wd }
                                    (colAt { r := wr, w := ww, h := wh, c := wc, x := wx, y := wy, d := wd } wx wy))))
                              wx wy
                              (Int.tmod
                                (IntKind.wrap IntKind.i64
                                  (colAt { r := wr, w := ww, h := wh, c := wc, x := wx, y := wy, d := wd } wx wy +
                                    (1 : Int)))
                                (↑(List.length wr) : Int)))
                            (1 : Int))),
                      V.int IntKind.i64
                        (Wd.x
                          (movW
                            (pntW
                              (trnW { r := wr, w := ww, h := wh, c := wc, x := wx, y := wy, d := wd }
                                (turnI
                                  (signAt { r := wr, w := ww, h := wh, c := wc, x := wx, y := wy, d := wd }
                                    (colAt { r := wr, w := ww, h := wh, c := wc, x := wx, y := wy, d := wd } wx wy))))
                              wx wy
                              (Int.tmod
                                (IntKind.wrap IntKind.i64
                                  (colAt { r := wr, w := ww, h := wh, c := wc, x := wx, y := wy, d := wd } wx wy +
                                    (1 : Int)))
                                (↑(List.length wr) : Int)))
                            (1 : Int))),
                      V.int IntKind.i64
                        (Wd.y
                          (movW
                            (pntW
                              (trnW { r := wr, w := ww, h := wh, c := wc, x := wx, y := wy, d := wd }
                                (turnI
                                  (signAt { r := wr, w := ww, h := wh, c := wc, x := wx, y := wy, d := wd }
                                    (colAt { r := wr, w := ww, h := wh, c := wc, x := wx, y := wy, d := wd } wx wy))))
                              wx wy
                              (Int.tmod
                                (IntKind.wrap IntKind.i64
                                  (colAt { r := wr, w := ww, h := wh, c := wc, x := wx, y := wy, d := wd } wx wy +
                                    (1 : Int)))
                                (↑(List.length wr) : Int)))
                            (1 : Int))),
                      V.int IntKind.i64
                        (Wd.d
                          (movW
                            (pntW
                              (trnW { r := wr, w := ww, h := wh, c := wc, x := wx, y := wy, d := wd }
                                (turnI
                                  (signAt { r := wr, w := ww, h := wh, c := wc, x := wx, y := wy, d := wd }
                                    (colAt { r := wr, w := ww, h := wh, c := wc, x := wx, y := wy, d := wd } wx wy))))
                              wx wy
                              (Int.tmod
                                (IntKind.wrap IntKind.i64
                                  (colAt { r := wr, w := ww, h := wh, c := wc, x := wx, y := wy, d := wd } wx wy +
                                    (1 : Int)))
                                (↑(List.length wr) : Int)))
                            (1 : Int)))])

def VC_spec_woBack (wr : List UInt8) (ww : Int) (wh : Int) (wc : List UInt8) (wx : Int) (wy : Int) (wd : Int) (K : V → Prop) : Prop :=
  At
    (boxB { r := wr, w := ww, h := wh, c := wc, x := wx, y := wy, d := wd } = true ∧
      ((-1 : Int) = (1 : Int) ∨ (-1 : Int) = (-1 : Int))) ∧
  True ∧
    At
        (goodB (movW { r := wr, w := ww, h := wh, c := wc, x := wx, y := wy, d := wd } (-1 : Int)) = true ∧
          hasB (movW { r := wr, w := ww, h := wh, c := wc, x := wx, y := wy, d := wd } (-1 : Int))
              (Wd.x (movW { r := wr, w := ww, h := wh, c := wc, x := wx, y := wy, d := wd } (-1 : Int)))
              (Wd.y (movW { r := wr, w := ww, h := wh, c := wc, x := wx, y := wy, d := wd } (-1 : Int))) =
            true) ∧
      At
          ((1 : Int) ≤
              (↑(List.length
                    (Wd.r (movW { r := wr, w := ww, h := wh, c := wc, x := wx, y := wy, d := wd } (-1 : Int)))) :
                Int) ∧
            (↑(List.length (Wd.r (movW { r := wr, w := ww, h := wh, c := wc, x := wx, y := wy, d := wd } (-1 : Int)))) :
                  Int) ≤
                (1000 : Int) ∧
              (-1000000 : Int) ≤
                  IntKind.wrap IntKind.i64
                    (colAt (movW { r := wr, w := ww, h := wh, c := wc, x := wx, y := wy, d := wd } (-1 : Int))
                        (Wd.x (movW { r := wr, w := ww, h := wh, c := wc, x := wx, y := wy, d := wd } (-1 : Int)))
                        (Wd.y (movW { r := wr, w := ww, h := wh, c := wc, x := wx, y := wy, d := wd } (-1 : Int))) -
                      (1 : Int)) ∧
                IntKind.wrap IntKind.i64
                    (colAt (movW { r := wr, w := ww, h := wh, c := wc, x := wx, y := wy, d := wd } (-1 : Int))
                        (Wd.x (movW { r := wr, w := ww, h := wh, c := wc, x := wx, y := wy, d := wd } (-1 : Int)))
                        (Wd.y (movW { r := wr, w := ww, h := wh, c := wc, x := wx, y := wy, d := wd } (-1 : Int))) -
                      (1 : Int)) ≤
                  (1000000 : Int)) ∧
        At
            (goodB (movW { r := wr, w := ww, h := wh, c := wc, x := wx, y := wy, d := wd } (-1 : Int)) = true ∧
              hasB (movW { r := wr, w := ww, h := wh, c := wc, x := wx, y := wy, d := wd } (-1 : Int))
                    (Wd.x (movW { r := wr, w := ww, h := wh, c := wc, x := wx, y := wy, d := wd } (-1 : Int)))
                    (Wd.y (movW { r := wr, w := ww, h := wh, c := wc, x := wx, y := wy, d := wd } (-1 : Int))) =
                  true ∧
                (0 : Int) ≤
                    IntKind.wrap IntKind.i64
                        (colAt (movW { r := wr, w := ww, h := wh, c := wc, x := wx, y := wy, d := wd } (-1 : Int))
                            (Wd.x (movW { r := wr, w := ww, h := wh, c := wc, x := wx, y := wy, d := wd } (-1 : Int)))
                            (Wd.y (movW { r := wr, w := ww, h := wh, c := wc, x := wx, y := wy, d := wd } (-1 : Int))) -
                          (1 : Int)) %
                      (↑(List.length
                            (Wd.r
                              (movW { r := wr, w := ww, h := wh, c := wc, x := wx, y := wy, d := wd } (-1 : Int)))) :
                        Int) ∧
                  IntKind.wrap IntKind.i64
                        (colAt (movW { r := wr, w := ww, h := wh, c := wc, x := wx, y := wy, d := wd } (-1 : Int))
                            (Wd.x (movW { r := wr, w := ww, h := wh, c := wc, x := wx, y := wy, d := wd } (-1 : Int)))
                            (Wd.y (movW { r := wr, w := ww, h := wh, c := wc, x := wx, y := wy, d := wd } (-1 : Int))) -
                          (1 : Int)) %
                      (↑(List.length
                            (Wd.r
                              (movW { r := wr, w := ww, h := wh, c := wc, x := wx, y := wy, d := wd } (-1 : Int)))) :
                        Int) ≤
                    (9 : Int)) ∧
          True ∧
            At
                ((0 : Int) ≤
                    IntKind.wrap IntKind.i64
                        (colAt (movW { r := wr, w := ww, h := wh, c := wc, x := wx, y := wy, d := wd } (-1 : Int))
                            (Wd.x (movW { r := wr, w := ww, h := wh, c := wc, x := wx, y := wy, d := wd } (-1 : Int)))
                            (Wd.y (movW { r := wr, w := ww, h := wh, c := wc, x := wx, y := wy, d := wd } (-1 : Int))) -
                          (1 : Int)) %
                      (↑(List.length
                            (Wd.r
                              (movW { r := wr, w := ww, h := wh, c := wc, x := wx, y := wy, d := wd } (-1 : Int)))) :
                        Int) ∧
                  IntKind.wrap IntKind.i64
                        (colAt (movW { r := wr, w := ww, h := wh, c := wc, x := wx, y := wy, d := wd } (-1 : Int))
                            (Wd.x (movW { r := wr, w := ww, h := wh, c := wc, x := wx, y := wy, d := wd } (-1 : Int)))
                            (Wd.y (movW { r := wr, w := ww, h := wh, c := wc, x := wx, y := wy, d := wd } (-1 : Int))) -
                          (1 : Int)) %
                      (↑(List.length
                            (Wd.r
                              (movW { r := wr, w := ww, h := wh, c := wc, x := wx, y := wy, d := wd } (-1 : Int)))) :
                        Int) <
                    (↑(List.length
                          (Wd.r
                            (pntW (movW { r := wr, w := ww, h := wh, c := wc, x := wx, y := wy, d := wd } (-1 : Int))
                              (Wd.x (movW { r := wr, w := ww, h := wh, c := wc, x := wx, y := wy, d := wd } (-1 : Int)))
                              (Wd.y (movW { r := wr, w := ww, h := wh, c := wc, x := wx, y := wy, d := wd } (-1 : Int)))
                              (IntKind.wrap IntKind.i64
                                  (colAt
                                      (movW { r := wr, w := ww, h := wh, c := wc, x := wx, y := wy, d := wd }
                                        (-1 : Int))
                                      (Wd.x
                                        (movW { r := wr, w := ww, h := wh, c := wc, x := wx, y := wy, d := wd }
                                          (-1 : Int)))
                                      (Wd.y
                                        (movW { r := wr, w := ww, h := wh, c := wc, x := wx, y := wy, d := wd }
                                          (-1 : Int))) -
                                    (1 : Int)) %
                                (↑(List.length
                                      (Wd.r
                                        (movW { r := wr, w := ww, h := wh, c := wc, x := wx, y := wy, d := wd }
                                          (-1 : Int)))) :
                                  Int))))) :
                      Int)) ∧
              At True ∧
                At
                    ((1 : Int) ≤ (4 : Int) ∧
                      (4 : Int) ≤ (1000 : Int) ∧
                        (-1000000 : Int) ≤
                            IntKind.wrap IntKind.i64
                              (Wd.d
                                  (pntW
                                    (movW { r := wr, w := ww, h := wh, c := wc, x := wx, y := wy, d := wd } (-1 : Int))
                                    (Wd.x
                                      (movW { r := wr, w := ww, h := wh, c := wc, x := wx, y := wy, d := wd }
                                        (-1 : Int)))
                                    (Wd.y
                                      (movW { r := wr, w := ww, h := wh, c := wc, x := wx, y := wy, d := wd }
                                        (-1 : Int)))
                                    (IntKind.wrap IntKind.i64
                                        (colAt
                                            (movW { r := wr, w := ww, h := wh, c := wc, x := wx, y := wy, d := wd }
                                              (-1 : Int))
                                            (Wd.x
                                              (movW { r := wr, w := ww, h := wh, c := wc, x := wx, y := wy, d := wd }
                                                (-1 : Int)))
                                            (Wd.y
                                              (movW { r := wr, w := ww, h := wh, c := wc, x := wx, y := wy, d := wd }
                                                (-1 : Int))) -
                                          (1 : Int)) %
                                      (↑(List.length
                                            (Wd.r
                                              (movW { r := wr, w := ww, h := wh, c := wc, x := wx, y := wy, d := wd }
                                                (-1 : Int)))) :
                                        Int))) -
                                turnI
                                  (↑(UInt8.toNat
                                        (List.getD
                                          (Wd.r
                                            (pntW
                                              (movW { r := wr, w := ww, h := wh, c := wc, x := wx, y := wy, d := wd }
                                                (-1 : Int))
                                              (Wd.x
                                                (movW { r := wr, w := ww, h := wh, c := wc, x := wx, y := wy, d := wd }
                                                  (-1 : Int)))
                                              (Wd.y
                                                (movW { r := wr, w := ww, h := wh, c := wc, x := wx, y := wy, d := wd }
                                                  (-1 : Int)))
                                              (IntKind.wrap IntKind.i64
                                                  (colAt
                                                      (movW
                                                        { r := wr, w := ww, h := wh, c := wc, x := wx, y := wy,
                                                          d := wd }
                                                        (-1 : Int))
                                                      (Wd.x
                                                        (movW
                                                          { r := wr, w := ww, h := wh, c := wc, x := wx, y := wy,
                                                            d := wd }
                                                          (-1 : Int)))
                                                      (Wd.y
                                                        (movW
                                                          { r := wr, w := ww, h := wh, c := wc, x := wx, y := wy,
                                                            d := wd }
                                                          (-1 : Int))) -
                                                    (1 : Int)) %
                                                (↑(List.length
                                                      (Wd.r
                                                        (movW
                                                          { r := wr, w := ww, h := wh, c := wc, x := wx, y := wy,
                                                            d := wd }
                                                          (-1 : Int)))) :
                                                  Int))))
                                          (Int.toNat
                                            (IntKind.wrap IntKind.i64
                                                (colAt
                                                    (movW
                                                      { r := wr, w := ww, h := wh, c := wc, x := wx, y := wy, d := wd }
                                                      (-1 : Int))
                                                    (Wd.x
                                                      (movW
                                                        { r := wr, w := ww, h := wh, c := wc, x := wx, y := wy,
                                                          d := wd }
                                                        (-1 : Int)))
                                                    (Wd.y
                                                      (movW
                                                        { r := wr, w := ww, h := wh, c := wc, x := wx, y := wy,
                                                          d := wd }
                                                        (-1 : Int))) -
                                                  (1 : Int)) %
                                              (↑(List.length
                                                    (Wd.r
                                                      (movW
                                                        { r := wr, w := ww, h := wh, c := wc, x := wx, y := wy,
                                                          d := wd }
                                                        (-1 : Int)))) :
                                                Int)))
                                          (0 : UInt8))) :
                                    Int)) ∧
                          IntKind.wrap IntKind.i64
                              (Wd.d
                                  (pntW
                                    (movW { r := wr, w := ww, h := wh, c := wc, x := wx, y := wy, d := wd } (-1 : Int))
                                    (Wd.x
                                      (movW { r := wr, w := ww, h := wh, c := wc, x := wx, y := wy, d := wd }
                                        (-1 : Int)))
                                    (Wd.y
                                      (movW { r := wr, w := ww, h := wh, c := wc, x := wx, y := wy, d := wd }
                                        (-1 : Int)))
                                    (IntKind.wrap IntKind.i64
                                        (colAt
                                            (movW { r := wr, w := ww, h := wh, c := wc, x := wx, y := wy, d := wd }
                                              (-1 : Int))
                                            (Wd.x
                                              (movW { r := wr, w := ww, h := wh, c := wc, x := wx, y := wy, d := wd }
                                                (-1 : Int)))
                                            (Wd.y
                                              (movW { r := wr, w := ww, h := wh, c := wc, x := wx, y := wy, d := wd }
                                                (-1 : Int))) -
                                          (1 : Int)) %
                                      (↑(List.length
                                            (Wd.r
                                              (movW { r := wr, w := ww, h := wh, c := wc, x := wx, y := wy, d := wd }
                                                (-1 : Int)))) :
                                        Int))) -
                                turnI
                                  (↑(UInt8.toNat
                                        (List.getD
                                          (Wd.r
                                            (pntW
                                              (movW { r := wr, w := ww, h := wh, c := wc, x := wx, y := wy, d := wd }
                                                (-1 : Int))
                                              (Wd.x
                                                (movW { r := wr, w := ww, h := wh, c := wc, x := wx, y := wy, d := wd }
                                                  (-1 : Int)))
                                              (Wd.y
                                                (movW { r := wr, w := ww, h := wh, c := wc, x := wx, y := wy, d := wd }
                                                  (-1 : Int)))
                                              (IntKind.wrap IntKind.i64
                                                  (colAt
                                                      (movW
                                                        { r := wr, w := ww, h := wh, c := wc, x := wx, y := wy,
                                                          d := wd }
                                                        (-1 : Int))
                                                      (Wd.x
                                                        (movW
                                                          { r := wr, w := ww, h := wh, c := wc, x := wx, y := wy,
                                                            d := wd }
                                                          (-1 : Int)))
                                                      (Wd.y
                                                        (movW
                                                          { r := wr, w := ww, h := wh, c := wc, x := wx, y := wy,
                                                            d := wd }
                                                          (-1 : Int))) -
                                                    (1 : Int)) %
                                                (↑(List.length
                                                      (Wd.r
                                                        (movW
                                                          { r := wr, w := ww, h := wh, c := wc, x := wx, y := wy,
                                                            d := wd }
                                                          (-1 : Int)))) :
                                                  Int))))
                                          (Int.toNat
                                            (IntKind.wrap IntKind.i64
                                                (colAt
                                                    (movW
                                                      { r := wr, w := ww, h := wh, c := wc, x := wx, y := wy, d := wd }
                                                      (-1 : Int))
                                                    (Wd.x
                                                      (movW
                                                        { r := wr, w := ww, h := wh, c := wc, x := wx, y := wy,
                                                          d := wd }
                                                        (-1 : Int)))
                                                    (Wd.y
                                                      (movW
                                                        { r := wr, w := ww, h := wh, c := wc, x := wx, y := wy,
                                                          d := wd }
                                                        (-1 : Int))) -
                                                  (1 : Int)) %
                                              (↑(List.length
                                                    (Wd.r
                                                      (movW
                                                        { r := wr, w := ww, h := wh, c := wc, x := wx, y := wy,
                                                          d := wd }
                                                        (-1 : Int)))) :
                                                Int)))
                                          (0 : UInt8))) :
                                    Int)) ≤
                            (1000000 : Int)) ∧
                  K
                    (V.agg
                      [V.str
                          (Wd.r
                            (pntW (movW { r := wr, w := ww, h := wh, c := wc, x := wx, y := wy, d := wd } (-1 : Int))
                              (Wd.x (movW { r := wr, w := ww, h := wh, c := wc, x := wx, y := wy, d := wd } (-1 : Int)))
                              (Wd.y (movW { r := wr, w := ww, h := wh, c := wc, x := wx, y := wy, d := wd } (-1 : Int)))
                              (IntKind.wrap IntKind.i64
                                  (colAt
                                      (movW { r := wr, w := ww, h := wh, c := wc, x := wx, y := wy, d := wd }
                                        (-1 : Int))
                                      (Wd.x
                                        (movW { r := wr, w := ww, h := wh, c := wc, x := wx, y := wy, d := wd }
                                          (-1 : Int)))
                                      (Wd.y
                                        (movW { r := wr, w := ww, h := wh, c := wc, x := wx, y := wy, d := wd }
                                          (-1 : Int))) -
                                    (1 : Int)) %
                                (↑(List.length
                                      (Wd.r
                                        (movW { r := wr, w := ww, h := wh, c := wc, x := wx, y := wy, d := wd }
                                          (-1 : Int)))) :
                                  Int)))),
                        V.int IntKind.i64
                          (Wd.w
                            (pntW (movW { r := wr, w := ww, h := wh, c := wc, x := wx, y := wy, d := wd } (-1 : Int))
                              (Wd.x (movW { r := wr, w := ww, h := wh, c := wc, x := wx, y := wy, d := wd } (-1 : Int)))
                              (Wd.y (movW { r := wr, w := ww, h := wh, c := wc, x := wx, y := wy, d := wd } (-1 : Int)))
                              (IntKind.wrap IntKind.i64
                                  (colAt
                                      (movW { r := wr, w := ww, h := wh, c := wc, x := wx, y := wy, d := wd }
                                        (-1 : Int))
                                      (Wd.x
                                        (movW { r := wr, w := ww, h := wh, c := wc, x := wx, y := wy, d := wd }
                                          (-1 : Int)))
                                      (Wd.y
                                        (movW { r := wr, w := ww, h := wh, c := wc, x := wx, y := wy, d := wd }
                                          (-1 : Int))) -
                                    (1 : Int)) %
                                (↑(List.length
                                      (Wd.r
                                        (movW { r := wr, w := ww, h := wh, c := wc, x := wx, y := wy, d := wd }
                                          (-1 : Int)))) :
                                  Int)))),
                        V.int IntKind.i64
                          (Wd.h
                            (pntW (movW { r := wr, w := ww, h := wh, c := wc, x := wx, y := wy, d := wd } (-1 : Int))
                              (Wd.x (movW { r := wr, w := ww, h := wh, c := wc, x := wx, y := wy, d := wd } (-1 : Int)))
                              (Wd.y (movW { r := wr, w := ww, h := wh, c := wc, x := wx, y := wy, d := wd } (-1 : Int)))
                              (IntKind.wrap IntKind.i64
                                  (colAt
                                      (movW { r := wr, w := ww, h := wh, c := wc, x := wx, y := wy, d := wd }
                                        (-1 : Int))
                                      (Wd.x
                                        (movW { r := wr, w := ww, h := wh, c := wc, x := wx, y := wy, d := wd }
                                          (-1 : Int)))
                                      (Wd.y
                                        (movW { r := wr, w := ww, h := wh, c := wc, x := wx, y := wy, d := wd }
                                          (-1 : Int))) -
                                    (1 : Int)) %
                                (↑(List.length
                                      (Wd.r
                                        (movW { r := wr, w := ww, h := wh, c := wc, x := wx, y := wy, d := wd }
                                          (-1 : Int)))) :
                                  Int)))),
                        V.str
                          (Wd.c
                            (pntW (movW { r := wr, w := ww, h := wh, c := wc, x := wx, y := wy, d := wd } (-1 : Int))
                              (Wd.x (movW { r := wr, w := ww, h := wh, c := wc, x := wx, y := wy, d := wd } (-1 : Int)))
                              (Wd.y (movW { r := wr, w := ww, h := wh, c := wc, x := wx, y := wy, d := wd } (-1 : Int)))
                              (IntKind.wrap IntKind.i64
                                  (colAt
                                      (movW { r := wr, w := ww, h := wh, c := wc, x := wx, y := wy, d := wd }
                                        (-1 : Int))
                                      (Wd.x
                                        (movW { r := wr, w := ww, h := wh, c := wc, x := wx, y := wy, d := wd }
                                          (-1 : Int)))
                                      (Wd.y
                                        (movW { r := wr, w := ww, h := wh, c := wc, x := wx, y := wy, d := wd }
                                          (-1 : Int))) -
                                    (1 : Int)) %
                                (↑(List.length
                                      (Wd.r
                                        (movW { r := wr, w := ww, h := wh, c := wc, x := wx, y := wy, d := wd }
                                          (-1 : Int)))) :
                                  Int)))),
                        V.int IntKind.i64
                          (Wd.x
                            (pntW (movW { r := wr, w := ww, h := wh, c := wc, x := wx, y := wy, d := wd } (-1 : Int))
                              (Wd.x (movW { r := wr, w := ww, h := wh, c := wc, x := wx, y := wy, d := wd } (-1 : Int)))
                              (Wd.y (movW { r := wr, w := ww, h := wh, c := wc, x := wx, y := wy, d := wd } (-1 : Int)))
                              (IntKind.wrap IntKind.i64
                                  (colAt
                                      (movW { r := wr, w := ww, h := wh, c := wc, x := wx, y := wy, d := wd }
                                        (-1 : Int))
                                      (Wd.x
                                        (movW { r := wr, w := ww, h := wh, c := wc, x := wx, y := wy, d := wd }
                                          (-1 : Int)))
                                      (Wd.y
                                        (movW { r := wr, w := ww, h := wh, c := wc, x := wx, y := wy, d := wd }
                                          (-1 : Int))) -
                                    (1 : Int)) %
                                (↑(List.length
                                      (Wd.r
                                        (movW { r := wr, w := ww, h := wh, c := wc, x := wx, y := wy, d := wd }
                                          (-1 : Int)))) :
                                  Int)))),
                        V.int IntKind.i64
                          (Wd.y
                            (pntW (movW { r := wr, w := ww, h := wh, c := wc, x := wx, y := wy, d := wd } (-1 : Int))
                              (Wd.x (movW { r := wr, w := ww, h := wh, c := wc, x := wx, y := wy, d := wd } (-1 : Int)))
                              (Wd.y (movW { r := wr, w := ww, h := wh, c := wc, x := wx, y := wy, d := wd } (-1 : Int)))
                              (IntKind.wrap IntKind.i64
                                  (colAt
                                      (movW { r := wr, w := ww, h := wh, c := wc, x := wx, y := wy, d := wd }
                                        (-1 : Int))
                                      (Wd.x
                                        (movW { r := wr, w := ww, h := wh, c := wc, x := wx, y := wy, d := wd }
                                          (-1 : Int)))
                                      (Wd.y
                                        (movW { r := wr, w := ww, h := wh, c := wc, x := wx, y := wy, d := wd }
                                          (-1 : Int))) -
                                    (1 : Int)) %
                                (↑(List.length
                                      (Wd.r
                                        (movW { r := wr, w := ww, h := wh, c := wc, x := wx, y := wy, d := wd }
                                          (-1 : Int)))) :
                                  Int)))),
                        V.int IntKind.i64
                          (IntKind.wrap IntKind.i64
                              (Wd.d
                                  (pntW
                                    (movW { r := wr, w := ww, h := wh, c := wc, x := wx, y := wy, d := wd } (-1 : Int))
                                    (Wd.x
                                      (movW { r := wr, w := ww, h := wh, c := wc, x := wx, y := wy, d := wd }
                                        (-1 : Int)))
                                    (Wd.y
                                      (movW { r := wr, w := ww, h := wh, c := wc, x := wx, y := wy, d := wd }
                                        (-1 : Int)))
                                    (IntKind.wrap IntKind.i64
                                        (colAt
                                            (movW { r := wr, w := ww, h := wh, c := wc, x := wx, y := wy, d := wd }
                                              (-1 : Int))
                                            (Wd.x
                                              (movW { r := wr, w := ww, h := wh, c := wc, x := wx, y := wy, d := wd }
                                                (-1 : Int)))
                                            (Wd.y
                                              (movW { r := wr, w := ww, h := wh, c := wc, x := wx, y := wy, d := wd }
                                                (-1 : Int))) -
                                          (1 : Int)) %
                                      (↑(List.length
                                            (Wd.r
                                              (movW { r := wr, w := ww, h := wh, c := wc, x := wx, y := wy, d := wd }
                                                (-1 : Int)))) :
                                        Int))) -
                                turnI
                                  (↑(UInt8.toNat
                                        (List.getD
                                          (Wd.r
                                            (pntW
                                              (movW { r := wr, w := ww, h := wh, c := wc, x := wx, y := wy, d := wd }
                                                (-1 : Int))
                                              (Wd.x
                                                (movW { r := wr, w := ww, h := wh, c := wc, x := wx, y := wy, d := wd }
                                                  (-1 : Int)))
                                              (Wd.y
                                                (movW { r := wr, w := ww, h := wh, c := wc, x := wx, y := wy, d := wd }
                                                  (-1 : Int)))
                                              (IntKind.wrap IntKind.i64
                                                  (colAt
                                                      (movW
                                                        { r := wr, w := ww, h := wh, c := wc, x := wx, y := wy,
                                                          d := wd }
                                                        (-1 : Int))
                                                      (Wd.x
                                                        (movW
                                                          { r := wr, w := ww, h := wh, c := wc, x := wx, y := wy,
                                                            d := wd }
                                                          (-1 : Int)))
                                                      (Wd.y
                                                        (movW
                                                          { r := wr, w := ww, h := wh, c := wc, x := wx, y := wy,
                                                            d := wd }
                                                          (-1 : Int))) -
                                                    (1 : Int)) %
                                                (↑(List.length
                                                      (Wd.r
                                                        (movW
                                                          { r := wr, w := ww, h := wh, c := wc, x := wx, y := wy,
                                                            d := wd }
                                                          (-1 : Int)))) :
                                                  Int))))
                                          (Int.toNat
                                            (IntKind.wrap IntKind.i64
                                                (colAt
                                                    (movW
                                                      { r := wr, w := ww, h := wh, c := wc, x := wx, y := wy, d := wd }
                                                      (-1 : Int))
                                                    (Wd.x
                                                      (movW
                                                        { r := wr, w := ww, h := wh, c := wc, x := wx, y := wy,
                                                          d := wd }
                                                        (-1 : Int)))
                                                    (Wd.y
                                                      (movW
                                                        { r := wr, w := ww, h := wh, c := wc, x := wx, y := wy,
                                                          d := wd }
                                                        (-1 : Int))) -
                                                  (1 : Int)) %
                                              (↑(List.length
                                                    (Wd.r
                                                      (movW
                                                        { r := wr, w := ww, h := wh, c := wc, x := wx, y := wy,
                                                          d := wd }
                                                        (-1 : Int)))) :
                                                Int)))
                                          (0 : UInt8))) :
                                    Int)) %
                            (4 : Int))])

def VC_impl_board_back (wr : List UInt8) (ww : Int) (wh : Int) (wc : List UInt8) (wx : Int) (wy : Int) (wd : Int) (K : V → Prop) : Prop :=
  At
    (boxB { r := wr, w := ww, h := wh, c := wc, x := wx, y := wy, d := wd } = true ∧
      ((-1 : Int) = (1 : Int) ∨ (-1 : Int) = (-1 : Int))) ∧
  True ∧
    At
        (goodB (movW { r := wr, w := ww, h := wh, c := wc, x := wx, y := wy, d := wd } (-1 : Int)) = true ∧
          hasB (movW { r := wr, w := ww, h := wh, c := wc, x := wx, y := wy, d := wd } (-1 : Int))
              (Wd.x (movW { r := wr, w := ww, h := wh, c := wc, x := wx, y := wy, d := wd } (-1 : Int)))
              (Wd.y (movW { r := wr, w := ww, h := wh, c := wc, x := wx, y := wy, d := wd } (-1 : Int))) =
            true) ∧
      At
          ((↑(List.length (Wd.r (movW { r := wr, w := ww, h := wh, c := wc, x := wx, y := wy, d := wd } (-1 : Int)))) :
              Int) ≠
            (0 : Int)) ∧
        At
            (goodB (movW { r := wr, w := ww, h := wh, c := wc, x := wx, y := wy, d := wd } (-1 : Int)) = true ∧
              hasB (movW { r := wr, w := ww, h := wh, c := wc, x := wx, y := wy, d := wd } (-1 : Int))
                    (Wd.x (movW { r := wr, w := ww, h := wh, c := wc, x := wx, y := wy, d := wd } (-1 : Int)))
                    (Wd.y (movW { r := wr, w := ww, h := wh, c := wc, x := wx, y := wy, d := wd } (-1 : Int))) =
                  true ∧
                (0 : Int) ≤
                    Int.tmod
                      (IntKind.wrap IntKind.i64
                        (IntKind.wrap IntKind.i64
                            (colAt (movW { r := wr, w := ww, h := wh, c := wc, x := wx, y := wy, d := wd } (-1 : Int))
                                (Wd.x
                                  (movW { r := wr, w := ww, h := wh, c := wc, x := wx, y := wy, d := wd } (-1 : Int)))
                                (Wd.y
                                  (movW { r := wr, w := ww, h := wh, c := wc, x := wx, y := wy, d := wd } (-1 : Int))) +
                              (↑(List.length
                                    (Wd.r
                                      (movW { r := wr, w := ww, h := wh, c := wc, x := wx, y := wy, d := wd }
                                        (-1 : Int)))) :
                                Int)) -
                          (1 : Int)))
                      (↑(List.length
                            (Wd.r
                              (movW { r := wr, w := ww, h := wh, c := wc, x := wx, y := wy, d := wd } (-1 : Int)))) :
                        Int) ∧
                  Int.tmod
                      (IntKind.wrap IntKind.i64
                        (IntKind.wrap IntKind.i64
                            (colAt (movW { r := wr, w := ww, h := wh, c := wc, x := wx, y := wy, d := wd } (-1 : Int))
                                (Wd.x
                                  (movW { r := wr, w := ww, h := wh, c := wc, x := wx, y := wy, d := wd } (-1 : Int)))
                                (Wd.y
                                  (movW { r := wr, w := ww, h := wh, c := wc, x := wx, y := wy, d := wd } (-1 : Int))) +
                              (↑(List.length
                                    (Wd.r
                                      (movW { r := wr, w := ww, h := wh, c := wc, x := wx, y := wy, d := wd }
                                        (-1 : Int)))) :
                                Int)) -
                          (1 : Int)))
                      (↑(List.length
                            (Wd.r
                              (movW { r := wr, w := ww, h := wh, c := wc, x := wx, y := wy, d := wd } (-1 : Int)))) :
                        Int) ≤
                    (9 : Int)) ∧
          True ∧
            At
                (goodB
                    (pntW (movW { r := wr, w := ww, h := wh, c := wc, x := wx, y := wy, d := wd } (-1 : Int))
                      (Wd.x (movW { r := wr, w := ww, h := wh, c := wc, x := wx, y := wy, d := wd } (-1 : Int)))
                      (Wd.y (movW { r := wr, w := ww, h := wh, c := wc, x := wx, y := wy, d := wd } (-1 : Int)))
                      (Int.tmod
                        (IntKind.wrap IntKind.i64
                          (IntKind.wrap IntKind.i64
                              (colAt (movW { r := wr, w := ww, h := wh, c := wc, x := wx, y := wy, d := wd } (-1 : Int))
                                  (Wd.x
                                    (movW { r := wr, w := ww, h := wh, c := wc, x := wx, y := wy, d := wd } (-1 : Int)))
                                  (Wd.y
                                    (movW { r := wr, w := ww, h := wh, c := wc, x := wx, y := wy, d := wd }
                                      (-1 : Int))) +
                                (↑(List.length
                                      (Wd.r
                                        (movW { r := wr, w := ww, h := wh, c := wc, x := wx, y := wy, d := wd }
                                          (-1 : Int)))) :
                                  Int)) -
                            (1 : Int)))
                        (↑(List.length
                              (Wd.r
                                (movW { r := wr, w := ww, h := wh, c := wc, x := wx, y := wy, d := wd } (-1 : Int)))) :
                          Int))) =
                  true) ∧
              At True ∧
                At
                    ((0 : Int) ≤
                        Wd.d
                          (pntW (movW { r := wr, w := ww, h := wh, c := wc, x := wx, y := wy, d := wd } (-1 : Int))
                            (Wd.x (movW { r := wr, w := ww, h := wh, c := wc, x := wx, y := wy, d := wd } (-1 : Int)))
                            (Wd.y (movW { r := wr, w := ww, h := wh, c := wc, x := wx, y := wy, d := wd } (-1 : Int)))
                            (Int.tmod
                              (IntKind.wrap IntKind.i64
                                (IntKind.wrap IntKind.i64
                                    (colAt
                                        (movW { r := wr, w := ww, h := wh, c := wc, x := wx, y := wy, d := wd }
                                          (-1 : Int))
                                        (Wd.x
                                          (movW { r := wr, w := ww, h := wh, c := wc, x := wx, y := wy, d := wd }
                                            (-1 : Int)))
                                        (Wd.y
                                          (movW { r := wr, w := ww, h := wh, c := wc, x := wx, y := wy, d := wd }
                                            (-1 : Int))) +
                                      (↑(List.length
                                            (Wd.r
                                              (movW { r := wr, w := ww, h := wh, c := wc, x := wx, y := wy, d := wd }
                                                (-1 : Int)))) :
                                        Int)) -
                                  (1 : Int)))
                              (↑(List.length
                                    (Wd.r
                                      (movW { r := wr, w := ww, h := wh, c := wc, x := wx, y := wy, d := wd }
                                        (-1 : Int)))) :
                                Int))) ∧
                      Wd.d
                            (pntW (movW { r := wr, w := ww, h := wh, c := wc, x := wx, y := wy, d := wd } (-1 : Int))
                              (Wd.x (movW { r := wr, w := ww, h := wh, c := wc, x := wx, y := wy, d := wd } (-1 : Int)))
                              (Wd.y (movW { r := wr, w := ww, h := wh, c := wc, x := wx, y := wy, d := wd } (-1 : Int)))
                              (Int.tmod
                                (IntKind.wrap IntKind.i64
                                  (IntKind.wrap IntKind.i64
                                      (colAt
                                          (movW { r := wr, w := ww, h := wh, c := wc, x := wx, y := wy, d := wd }
                                            (-1 : Int))
                                          (Wd.x
                                            (movW { r := wr, w := ww, h := wh, c := wc, x := wx, y := wy, d := wd }
                                              (-1 : Int)))
                                          (Wd.y
                                            (movW { r := wr, w := ww, h := wh, c := wc, x := wx, y := wy, d := wd }
                                              (-1 : Int))) +
                                        (↑(List.length
                                              (Wd.r
                                                (movW { r := wr, w := ww, h := wh, c := wc, x := wx, y := wy, d := wd }
                                                  (-1 : Int)))) :
                                          Int)) -
                                    (1 : Int)))
                                (↑(List.length
                                      (Wd.r
                                        (movW { r := wr, w := ww, h := wh, c := wc, x := wx, y := wy, d := wd }
                                          (-1 : Int)))) :
                                  Int))) ≤
                          (3 : Int) ∧
                        (0 : Int) ≤
                            IntKind.wrap IntKind.i64
                              ((4 : Int) -
                                turnI
                                  (signAt
                                    (pntW
                                      (movW { r := wr, w := ww, h := wh, c := wc, x := wx, y := wy, d := wd }
                                        (-1 : Int))
                                      (Wd.x
                                        (movW { r := wr, w := ww, h := wh, c := wc, x := wx, y := wy, d := wd }
                                          (-1 : Int)))
                                      (Wd.y
                                        (movW { r := wr, w := ww, h := wh, c := wc, x := wx, y := wy, d := wd }
                                          (-1 : Int)))
                                      (Int.tmod
                                        (IntKind.wrap IntKind.i64
                                          (IntKind.wrap IntKind.i64
                                              (colAt
                                                  (movW
                                                    { r := wr, w := ww, h := wh, c := wc, x := wx, y := wy, d := wd }
                                                    (-1 : Int))
                                                  (Wd.x
                                                    (movW
                                                      { r := wr, w := ww, h := wh, c := wc, x := wx, y := wy, d := wd }
                                                      (-1 : Int)))
                                                  (Wd.y
                                                    (movW
                                                      { r := wr, w := ww, h := wh, c := wc, x := wx, y := wy, d := wd }
                                                      (-1 : Int))) +
                                                (↑(List.length
                                                      (Wd.r
                                                        (movW
                                                          { r := wr, w := ww, h := wh, c := wc, x := wx, y := wy,
                                                            d := wd }
                                                          (-1 : Int)))) :
                                                  Int)) -
                                            (1 : Int)))
                                        (↑(List.length
                                              (Wd.r
                                                (movW { r := wr, w := ww, h := wh, c := wc, x := wx, y := wy, d := wd }
                                                  (-1 : Int)))) :
                                          Int)))
                                    (colAt
                                      (pntW
                                        (movW { r := wr, w := ww, h := wh, c := wc, x := wx, y := wy, d := wd }
                                          (-1 : Int))
                                        (Wd.x
                                          (movW { r := wr, w := ww, h := wh, c := wc, x := wx, y := wy, d := wd }
                                            (-1 : Int)))
                                        (Wd.y
                                          (movW { r := wr, w := ww, h := wh, c := wc, x := wx, y := wy, d := wd }
                                            (-1 : Int)))
                                        (Int.tmod
                                          (IntKind.wrap IntKind.i64
                                            (IntKind.wrap IntKind.i64
                                                (colAt
                                                    (movW
                                                      { r := wr, w := ww, h := wh, c := wc, x := wx, y := wy, d := wd }
                                                      (-1 : Int))
                                                    (Wd.x
                                                      (movW
                                                        { r := wr, w := ww, h := wh, c := wc, x := wx, y := wy,
                                                          d := wd }
                                                        (-1 : Int)))
                                                    (Wd.y
                                                      (movW
                                                        { r := wr, w := ww, h := wh, c := wc, x := wx, y := wy,
                                                          d := wd }
                                                        (-1 : Int))) +
                                                  (↑(List.length
                                                        (Wd.r
                                                          (movW
                                                            { r := wr, w := ww, h := wh, c := wc, x := wx, y := wy,
                                                              d := wd }
                                                            (-1 : Int)))) :
                                                    Int)) -
                                              (1 : Int)))
                                          (↑(List.length
                                                (Wd.r
                                                  (movW
                                                    { r := wr, w := ww, h := wh, c := wc, x := wx, y := wy, d := wd }
                                                    (-1 : Int)))) :
                                            Int)))
                                      (Wd.x
                                        (pntW
                                          (movW { r := wr, w := ww, h := wh, c := wc, x := wx, y := wy, d := wd }
                                            (-1 : Int))
                                          (Wd.x
                                            (movW { r := wr, w := ww, h := wh, c := wc, x := wx, y := wy, d := wd }
                                              (-1 : Int)))
                                          (Wd.y
                                            (movW { r := wr, w := ww, h := wh, c := wc, x := wx, y := wy, d := wd }
                                              (-1 : Int)))
                                          (Int.tmod
                                            (IntKind.wrap IntKind.i64
                                              (IntKind.wrap IntKind.i64
                                                  (colAt
                                                      (movW
                                                        { r := wr, w := ww, h := wh, c := wc, x := wx, y := wy,
                                                          d := wd }
                                                        (-1 : Int))
                                                      (Wd.x
                                                        (movW
                                                          { r := wr, w := ww, h := wh, c := wc, x := wx, y := wy,
                                                            d := wd }
                                                          (-1 : Int)))
                                                      (Wd.y
                                                        (movW
                                                          { r := wr, w := ww, h := wh, c := wc, x := wx, y := wy,
                                                            d := wd }
                                                          (-1 : Int))) +
                                                    (↑(List.length
                                                          (Wd.r
                                                            (movW
                                                              { r := wr, w := ww, h := wh, c := wc, x := wx, y := wy,
                                                                d := wd }
                                                              (-1 : Int)))) :
                                                      Int)) -
                                                (1 : Int)))
                                            (↑(List.length
                                                  (Wd.r
                                                    (movW
                                                      { r := wr, w := ww, h := wh, c := wc, x := wx, y := wy, d := wd }
                                                      (-1 : Int)))) :
                                              Int))))
                                      (Wd.y
                                        (pntW
                                          (movW { r := wr, w := ww, h := wh, c := wc, x := wx, y := wy, d := wd }
                                            (-1 : Int))
                                          (Wd.x
                                            (movW { r := wr, w := ww, h := wh, c := wc, x := wx, y := wy, d := wd }
                                              (-1 : Int)))
                                          (Wd.y
                                            (movW { r := wr, w := ww, h := wh, c := wc, x := wx, y := wy, d := wd }
                                              (-1 : Int)))
                                          (Int.tmod
                                            (IntKind.wrap IntKind.i64
                                              (IntKind.wrap IntKind.i64
                                                  (colAt
                                                      (movW
                                                        { r := wr, w := ww, h := wh, c := wc, x := wx, y := wy,
                                                          d := wd }
                                                        (-1 : Int))
                                                      (Wd.x
                                                        (movW
                                                          { r := wr, w := ww, h := wh, c := wc, x := wx, y := wy,
                                                            d := wd }
                                                          (-1 : Int)))
                                                      (Wd.y
                                                        (movW
                                                          { r := wr, w := ww, h := wh, c := wc, x := wx, y := wy,
                                                            d := wd }
                                                          (-1 : Int))) +
                                                    (↑(List.length
                                                          (Wd.r
                                                            (movW
                                                              { r := wr, w := ww, h := wh, c := wc, x := wx, y := wy,
                                                                d := wd }
                                                              (-1 : Int)))) :
                                                      Int)) -
                                                (1 : Int)))
                                            (↑(List.length
                                                  (Wd.r
                                                    (movW
                                                      { r := wr, w := ww, h := wh, c := wc, x := wx, y := wy, d := wd }
                                                      (-1 : Int)))) :
                                              Int))))))) ∧
                          IntKind.wrap IntKind.i64
                              ((4 : Int) -
                                turnI
                                  (signAt
                                    (pntW
                                      (movW { r := wr, w := ww, h := wh, c := wc, x := wx, y := wy, d := wd }
                                        (-1 : Int))
                                      (Wd.x
                                        (movW { r := wr, w := ww, h := wh, c := wc, x := wx, y := wy, d := wd }
                                          (-1 : Int)))
                                      (Wd.y
                                        (movW { r := wr, w := ww, h := wh, c := wc, x := wx, y := wy, d := wd }
                                          (-1 : Int)))
                                      (Int.tmod
                                        (IntKind.wrap IntKind.i64
                                          (IntKind.wrap IntKind.i64
                                              (colAt
                                                  (movW
                                                    { r := wr, w := ww, h := wh, c := wc, x := wx, y := wy, d := wd }
                                                    (-1 : Int))
                                                  (Wd.x
                                                    (movW
                                                      { r := wr, w := ww, h := wh, c := wc, x := wx, y := wy, d := wd }
                                                      (-1 : Int)))
                                                  (Wd.y
                                                    (movW
                                                      { r := wr, w := ww, h := wh, c := wc, x := wx, y := wy, d := wd }
                                                      (-1 : Int))) +
                                                (↑(List.length
                                                      (Wd.r
                                                        (movW
                                                          { r := wr, w := ww, h := wh, c := wc, x := wx, y := wy,
                                                            d := wd }
                                                          (-1 : Int)))) :
                                                  Int)) -
                                            (1 : Int)))
                                        (↑(List.length
                                              (Wd.r
                                                (movW { r := wr, w := ww, h := wh, c := wc, x := wx, y := wy, d := wd }
                                                  (-1 : Int)))) :
                                          Int)))
                                    (colAt
                                      (pntW
                                        (movW { r := wr, w := ww, h := wh, c := wc, x := wx, y := wy, d := wd }
                                          (-1 : Int))
                                        (Wd.x
                                          (movW { r := wr, w := ww, h := wh, c := wc, x := wx, y := wy, d := wd }
                                            (-1 : Int)))
                                        (Wd.y
                                          (movW { r := wr, w := ww, h := wh, c := wc, x := wx, y := wy, d := wd }
                                            (-1 : Int)))
                                        (Int.tmod
                                          (IntKind.wrap IntKind.i64
                                            (IntKind.wrap IntKind.i64
                                                (colAt
                                                    (movW
                                                      { r := wr, w := ww, h := wh, c := wc, x := wx, y := wy, d := wd }
                                                      (-1 : Int))
                                                    (Wd.x
                                                      (movW
                                                        { r := wr, w := ww, h := wh, c := wc, x := wx, y := wy,
                                                          d := wd }
                                                        (-1 : Int)))
                                                    (Wd.y
                                                      (movW
                                                        { r := wr, w := ww, h := wh, c := wc, x := wx, y := wy,
                                                          d := wd }
                                                        (-1 : Int))) +
                                                  (↑(List.length
                                                        (Wd.r
                                                          (movW
                                                            { r := wr, w := ww, h := wh, c := wc, x := wx, y := wy,
                                                              d := wd }
                                                            (-1 : Int)))) :
                                                    Int)) -
                                              (1 : Int)))
                                          (↑(List.length
                                                (Wd.r
                                                  (movW
                                                    { r := wr, w := ww, h := wh, c := wc, x := wx, y := wy, d := wd }
                                                    (-1 : Int)))) :
                                            Int)))
                                      (Wd.x
                                        (pntW
                                          (movW { r := wr, w := ww, h := wh, c := wc, x := wx, y := wy, d := wd }
                                            (-1 : Int))
                                          (Wd.x
                                            (movW { r := wr, w := ww, h := wh, c := wc, x := wx, y := wy, d := wd }
                                              (-1 : Int)))
                                          (Wd.y
                                            (movW { r := wr, w := ww, h := wh, c := wc, x := wx, y := wy, d := wd }
                                              (-1 : Int)))
                                          (Int.tmod
                                            (IntKind.wrap IntKind.i64
                                              (IntKind.wrap IntKind.i64
                                                  (colAt
                                                      (movW
                                                        { r := wr, w := ww, h := wh, c := wc, x := wx, y := wy,
                                                          d := wd }
                                                        (-1 : Int))
                                                      (Wd.x
                                                        (movW
                                                          { r := wr, w := ww, h := wh, c := wc, x := wx, y := wy,
                                                            d := wd }
                                                          (-1 : Int)))
                                                      (Wd.y
                                                        (movW
                                                          { r := wr, w := ww, h := wh, c := wc, x := wx, y := wy,
                                                            d := wd }
                                                          (-1 : Int))) +
                                                    (↑(List.length
                                                          (Wd.r
                                                            (movW
                                                              { r := wr, w := ww, h := wh, c := wc, x := wx, y := wy,
                                                                d := wd }
                                                              (-1 : Int)))) :
                                                      Int)) -
                                                (1 : Int)))
                                            (↑(List.length
                                                  (Wd.r
                                                    (movW
                                                      { r := wr, w := ww, h := wh, c := wc, x := wx, y := wy, d := wd }
                                                      (-1 : Int)))) :
                                              Int))))
                                      (Wd.y
                                        (pntW
                                          (movW { r := wr, w := ww, h := wh, c := wc, x := wx, y := wy, d := wd }
                                            (-1 : Int))
                                          (Wd.x
                                            (movW { r := wr, w := ww, h := wh, c := wc, x := wx, y := wy, d := wd }
                                              (-1 : Int)))
                                          (Wd.y
                                            (movW { r := wr, w := ww, h := wh, c := wc, x := wx, y := wy, d := wd }
                                              (-1 : Int)))
                                          (Int.tmod
                                            (IntKind.wrap IntKind.i64
                                              (IntKind.wrap IntKind.i64
                                                  (colAt
                                                      (movW
                                                        { r := wr, w := ww, h := wh, c := wc, x := wx, y := wy,
                                                          d := wd }
                                                        (-1 : Int))
                                                      (Wd.x
                                                        (movW
                                                          { r := wr, w := ww, h := wh, c := wc, x := wx, y := wy,
                                                            d := wd }
                                                          (-1 : Int)))
                                                      (Wd.y
                                                        (movW
                                                          { r := wr, w := ww, h := wh, c := wc, x := wx, y := wy,
                                                            d := wd }
                                                          (-1 : Int))) +
                                                    (↑(List.length
                                                          (Wd.r
                                                            (movW
                                                              { r := wr, w := ww, h := wh, c := wc, x := wx, y := wy,
                                                                d := wd }
                                                              (-1 : Int)))) :
                                                      Int)) -
                                                (1 : Int)))
                                            (↑(List.length
                                                  (Wd.r
                                                    (movW
                                                      { r := wr, w := ww, h := wh, c := wc, x := wx, y := wy, d := wd }
                                                      (-1 : Int)))) :
                                              Int))))))) ≤
                            (4 : Int)) ∧
                  K
                    (V.agg
                      [V.str
                          (Wd.r
                            (trnW
                              (pntW (movW { r := wr, w := ww, h := wh, c := wc, x := wx, y := wy, d := wd } (-1 : Int))
                                (Wd.x
                                  (movW { r := wr, w := ww, h := wh, c := wc, x := wx, y := wy, d := wd } (-1 : Int)))
                                (Wd.y
                                  (movW { r := wr, w := ww, h := wh, c := wc, x := wx, y := wy, d := wd } (-1 : Int)))
                                (Int.tmod
                                  (IntKind.wrap IntKind.i64
                                    (IntKind.wrap IntKind.i64
                                        (colAt
                                            (movW { r := wr, w := ww, h := wh, c := wc, x := wx, y := wy, d := wd }
                                              (-1 : Int))
                                            (Wd.x
                                              (movW { r := wr, w := ww, h := wh, c := wc, x := wx, y := wy, d := wd }
                                                (-1 : Int)))
                                            (Wd.y
                                              (movW { r := wr, w := ww, h := wh, c := wc, x := wx, y := wy, d := wd }
                                                (-1 : Int))) +
                                          (↑(List.length
                                                (Wd.r
                                                  (movW
                                                    { r := wr, w := ww, h := wh, c := wc, x := wx, y := wy, d := wd }
                                                    (-1 : Int)))) :
                                            Int)) -
                                      (1 : Int)))
                                  (↑(List.length
                                        (Wd.r
                                          (movW { r := wr, w := ww, h := wh, c := wc, x := wx, y := wy, d := wd }
                                            (-1 : Int)))) :
                                    Int)))
                              (IntKind.wrap IntKind.i64
                                ((4 : Int) -
                                  turnI
                                    (signAt
                                      (pntW
                                        (movW { r := wr, w := ww, h := wh, c := wc, x := wx, y := wy, d := wd }
                                          (-1 : Int))
                                        (Wd.x
                                          (movW { r := wr, w := ww, h := wh, c := wc, x := wx, y := wy, d := wd }
                                            (-1 : Int)))
                                        (Wd.y
                                          (movW { r := wr, w := ww, h := wh, c := wc, x := wx, y := wy, d := wd }
                                            (-1 : Int)))
                                        (Int.tmod
                                          (IntKind.wrap IntKind.i64
                                            (IntKind.wrap IntKind.i64
                                                (colAt
                                                    (movW
                                                      { r := wr, w := ww, h := wh, c := wc, x := wx, y := wy, d := wd }
                                                      (-1 : Int))
                                                    (Wd.x
                                                      (movW
                                                        { r := wr, w := ww, h := wh, c := wc, x := wx, y := wy,
                                                          d := wd }
                                                        (-1 : Int)))
                                                    (Wd.y
                                                      (movW
                                                        { r := wr, w := ww, h := wh, c := wc, x := wx, y := wy,
                                                          d := wd }
                                                        (-1 : Int))) +
                                                  (↑(List.length
                                                        (Wd.r
                                                          (movW
                                                            { r := wr, w := ww, h := wh, c := wc, x := wx, y := wy,
                                                              d := wd }
                                                            (-1 : Int)))) :
                                                    Int)) -
                                              (1 : Int)))
                                          (↑(List.length
                                                (Wd.r
                                                  (movW
                                                    { r := wr, w := ww, h := wh, c := wc, x := wx, y := wy, d := wd }
                                                    (-1 : Int)))) :
                                            Int)))
                                      (colAt
                                        (pntW
                                          (movW { r := wr, w := ww, h := wh, c := wc, x := wx, y := wy, d := wd }
                                            (-1 : Int))
                                          (Wd.x
                                            (movW { r := wr, w := ww, h := wh, c := wc, x := wx, y := wy, d := wd }
                                              (-1 : Int)))
                                          (Wd.y
                                            (movW { r := wr, w := ww, h := wh, c := wc, x := wx, y := wy, d := wd }
                                              (-1 : Int)))
                                          (Int.tmod
                                            (IntKind.wrap IntKind.i64
                                              (IntKind.wrap IntKind.i64
                                                  (colAt
                                                      (movW
                                                        { r := wr, w := ww, h := wh, c := wc, x := wx, y := wy,
                                                          d := wd }
                                                        (-1 : Int))
                                                      (Wd.x
                                                        (movW
                                                          { r := wr, w := ww, h := wh, c := wc, x := wx, y := wy,
                                                            d := wd }
                                                          (-1 : Int)))
                                                      (Wd.y
                                                        (movW
                                                          { r := wr, w := ww, h := wh, c := wc, x := wx, y := wy,
                                                            d := wd }
                                                          (-1 : Int))) +
                                                    (↑(List.length
                                                          (Wd.r
                                                            (movW
                                                              { r := wr, w := ww, h := wh, c := wc, x := wx, y := wy,
                                                                d := wd }
                                                              (-1 : Int)))) :
                                                      Int)) -
                                                (1 : Int)))
                                            (↑(List.length
                                                  (Wd.r
                                                    (movW
                                                      { r := wr, w := ww, h := wh, c := wc, x := wx, y := wy, d := wd }
                                                      (-1 : Int)))) :
                                              Int)))
                                        (Wd.x
                                          (pntW
                                            (movW { r := wr, w := ww, h := wh, c := wc, x := wx, y := wy, d := wd }
                                              (-1 : Int))
                                            (Wd.x
                                              (movW { r := wr, w := ww, h := wh, c := wc, x := wx, y := wy, d := wd }
                                                (-1 : Int)))
                                            (Wd.y
                                              (movW { r := wr, w := ww, h := wh, c := wc, x := wx, y := wy, d := wd }
                                                (-1 : Int)))
                                            (Int.tmod
                                              (IntKind.wrap IntKind.i64
                                                (IntKind.wrap IntKind.i64
                                                    (colAt
                                                        (movW
                                                          { r := wr, w := ww, h := wh, c := wc, x := wx, y := wy,
                                                            d := wd }
                                                          (-1 : Int))
                                                        (Wd.x
                                                          (movW
                                                            { r := wr, w := ww, h := wh, c := wc, x := wx, y := wy,
                                                              d := wd }
                                                            (-1 : Int)))
                                                        (Wd.y
                                                          (movW
                                                            { r := wr, w := ww, h := wh, c := wc, x := wx, y := wy,
                                                              d := wd }
                                                            (-1 : Int))) +
                                                      (↑(List.length
                                                            (Wd.r
                                                              (movW
                                                                { r := wr, w := ww, h := wh, c := wc, x := wx, y := wy,
                                                                  d := wd }
                                                                (-1 : Int)))) :
                                                        Int)) -
                                                  (1 : Int)))
                                              (↑(List.length
                                                    (Wd.r
                                                      (movW
                                                        { r := wr, w := ww, h := wh, c := wc, x := wx, y := wy,
                                                          d := wd }
                                                        (-1 : Int)))) :
                                                Int))))
                                        (Wd.y
                                          (pntW
                                            (movW { r := wr, w := ww, h := wh, c := wc, x := wx, y := wy, d := wd }
                                              (-1 : Int))
                                            (Wd.x
                                              (movW { r := wr, w := ww, h := wh, c := wc, x := wx, y := wy, d := wd }
                                                (-1 : Int)))
                                            (Wd.y
                                              (movW { r := wr, w := ww, h := wh, c := wc, x := wx, y := wy, d := wd }
                                                (-1 : Int)))
                                            (Int.tmod
                                              (IntKind.wrap IntKind.i64
                                                (IntKind.wrap IntKind.i64
                                                    (colAt
                                                        (movW
                                                          { r := wr, w := ww, h := wh, c := wc, x := wx, y := wy,
                                                            d := wd }
                                                          (-1 : Int))
                                                        (Wd.x
                                                          (movW
                                                            { r := wr, w := ww, h := wh, c := wc, x := wx, y := wy,
                                                              d := wd }
                                                            (-1 : Int)))
                                                        (Wd.y
                                                          (movW
                                                            { r := wr, w := ww, h := wh, c := wc, x := wx, y := wy,
                                                              d := wd }
                                                            (-1 : Int))) +
                                                      (↑(List.length
                                                            (Wd.r
                                                              (movW
                                                                { r := wr, w := ww, h := wh, c := wc, x := wx, y := wy,
                                                                  d := wd }
                                                                (-1 : Int)))) :
                                                        Int)) -
                                                  (1 : Int)))
                                              (↑(List.length
                                                    (Wd.r
                                                      (movW
                                                        { r := wr, w := ww, h := wh, c := wc, x := wx, y := wy,
                                                          d := wd }
                                                        (-1 : Int)))) :
                                                Int)))))))))),
                        V.int IntKind.i64
                          (Wd.w
                            (trnW
                              (pntW (movW { r := wr, w := ww, h := wh, c := wc, x := wx, y := wy, d := wd } (-1 : Int))
                                (Wd.x
                                  (movW { r := wr, w := ww, h := wh, c := wc, x := wx, y := wy, d := wd } (-1 : Int)))
                                (Wd.y
                                  (movW { r := wr, w := ww, h := wh, c := wc, x := wx, y := wy, d := wd } (-1 : Int)))
                                (Int.tmod
                                  (IntKind.wrap IntKind.i64
                                    (IntKind.wrap IntKind.i64
                                        (colAt
                                            (movW { r := wr, w := ww, h := wh, c := wc, x := wx, y := wy, d := wd }
                                              (-1 : Int))
                                            (Wd.x
                                              (movW { r := wr, w := ww, h := wh, c := wc, x := wx, y := wy, d := wd }
                                                (-1 : Int)))
                                            (Wd.y
                                              (movW { r := wr, w := ww, h := wh, c := wc, x := wx, y := wy, d := wd }
                                                (-1 : Int))) +
                                          (↑(List.length
                                                (Wd.r
                                                  (movW
                                                    { r := wr, w := ww, h := wh, c := wc, x := wx, y := wy, d := wd }
                                                    (-1 : Int)))) :
                                            Int)) -
                                      (1 : Int)))
                                  (↑(List.length
                                        (Wd.r
                                          (movW { r := wr, w := ww, h := wh, c := wc, x := wx, y := wy, d := wd }
                                            (-1 : Int)))) :
                                    Int)))
                              (IntKind.wrap IntKind.i64
                                ((4 : Int) -
                                  turnI
                                    (signAt
                                      (pntW
                                        (movW { r := wr, w := ww, h := wh, c := wc, x := wx, y := wy, d := wd }
                                          (-1 : Int))
                                        (Wd.x
                                          (movW { r := wr, w := ww, h := wh, c := wc, x := wx, y := wy, d := wd }
                                            (-1 : Int)))
                                        (Wd.y
                                          (movW { r := wr, w := ww, h := wh, c := wc, x := wx, y := wy, d := wd }
                                            (-1 : Int)))
                                        (Int.tmod
                                          (IntKind.wrap IntKind.i64
                                            (IntKind.wrap IntKind.i64
                                                (colAt
                                                    (movW
                                                      { r := wr, w := ww, h := wh, c := wc, x := wx, y := wy, d := wd }
                                                      (-1 : Int))
                                                    (Wd.x
                                                      (movW
                                                        { r := wr, w := ww, h := wh, c := wc, x := wx, y := wy,
                                                          d := wd }
                                                        (-1 : Int)))
                                                    (Wd.y
                                                      (movW
                                                        { r := wr, w := ww, h := wh, c := wc, x := wx, y := wy,
                                                          d := wd }
                                                        (-1 : Int))) +
                                                  (↑(List.length
                                                        (Wd.r
                                                          (movW
                                                            { r := wr, w := ww, h := wh, c := wc, x := wx, y := wy,
                                                              d := wd }
                                                            (-1 : Int)))) :
                                                    Int)) -
                                              (1 : Int)))
                                          (↑(List.length
                                                (Wd.r
                                                  (movW
                                                    { r := wr, w := ww, h := wh, c := wc, x := wx, y := wy, d := wd }
                                                    (-1 : Int)))) :
                                            Int)))
                                      (colAt
                                        (pntW
                                          (movW { r := wr, w := ww, h := wh, c := wc, x := wx, y := wy, d := wd }
                                            (-1 : Int))
                                          (Wd.x
                                            (movW { r := wr, w := ww, h := wh, c := wc, x := wx, y := wy, d := wd }
                                              (-1 : Int)))
                                          (Wd.y
                                            (movW { r := wr, w := ww, h := wh, c := wc, x := wx, y := wy, d := wd }
                                              (-1 : Int)))
                                          (Int.tmod
                                            (IntKind.wrap IntKind.i64
                                              (IntKind.wrap IntKind.i64
                                                  (colAt
                                                      (movW
                                                        { r := wr, w := ww, h := wh, c := wc, x := wx, y := wy,
                                                          d := wd }
                                                        (-1 : Int))
                                                      (Wd.x
                                                        (movW
                                                          { r := wr, w := ww, h := wh, c := wc, x := wx, y := wy,
                                                            d := wd }
                                                          (-1 : Int)))
                                                      (Wd.y
                                                        (movW
                                                          { r := wr, w := ww, h := wh, c := wc, x := wx, y := wy,
                                                            d := wd }
                                                          (-1 : Int))) +
                                                    (↑(List.length
                                                          (Wd.r
                                                            (movW
                                                              { r := wr, w := ww, h := wh, c := wc, x := wx, y := wy,
                                                                d := wd }
                                                              (-1 : Int)))) :
                                                      Int)) -
                                                (1 : Int)))
                                            (↑(List.length
                                                  (Wd.r
                                                    (movW
                                                      { r := wr, w := ww, h := wh, c := wc, x := wx, y := wy, d := wd }
                                                      (-1 : Int)))) :
                                              Int)))
                                        (Wd.x
                                          (pntW
                                            (movW { r := wr, w := ww, h := wh, c := wc, x := wx, y := wy, d := wd }
                                              (-1 : Int))
                                            (Wd.x
                                              (movW { r := wr, w := ww, h := wh, c := wc, x := wx, y := wy, d := wd }
                                                (-1 : Int)))
                                            (Wd.y
                                              (movW { r := wr, w := ww, h := wh, c := wc, x := wx, y := wy, d := wd }
                                                (-1 : Int)))
                                            (Int.tmod
                                              (IntKind.wrap IntKind.i64
                                                (IntKind.wrap IntKind.i64
                                                    (colAt
                                                        (movW
                                                          { r := wr, w := ww, h := wh, c := wc, x := wx, y := wy,
                                                            d := wd }
                                                          (-1 : Int))
                                                        (Wd.x
                                                          (movW
                                                            { r := wr, w := ww, h := wh, c := wc, x := wx, y := wy,
                                                              d := wd }
                                                            (-1 : Int)))
                                                        (Wd.y
                                                          (movW
                                                            { r := wr, w := ww, h := wh, c := wc, x := wx, y := wy,
                                                              d := wd }
                                                            (-1 : Int))) +
                                                      (↑(List.length
                                                            (Wd.r
                                                              (movW
                                                                { r := wr, w := ww, h := wh, c := wc, x := wx, y := wy,
                                                                  d := wd }
                                                                (-1 : Int)))) :
                                                        Int)) -
                                                  (1 : Int)))
                                              (↑(List.length
                                                    (Wd.r
                                                      (movW
                                                        { r := wr, w := ww, h := wh, c := wc, x := wx, y := wy,
                                                          d := wd }
                                                        (-1 : Int)))) :
                                                Int))))
                                        (Wd.y
                                          (pntW
                                            (movW { r := wr, w := ww, h := wh, c := wc, x := wx, y := wy, d := wd }
                                              (-1 : Int))
                                            (Wd.x
                                              (movW { r := wr, w := ww, h := wh, c := wc, x := wx, y := wy, d := wd }
                                                (-1 : Int)))
                                            (Wd.y
                                              (movW { r := wr, w := ww, h := wh, c := wc, x := wx, y := wy, d := wd }
                                                (-1 : Int)))
                                            (Int.tmod
                                              (IntKind.wrap IntKind.i64
                                                (IntKind.wrap IntKind.i64
                                                    (colAt
                                                        (movW
                                                          { r := wr, w := ww, h := wh, c := wc, x := wx, y := wy,
                                                            d := wd }
                                                          (-1 : Int))
                                                        (Wd.x
                                                          (movW
                                                            { r := wr, w := ww, h := wh, c := wc, x := wx, y := wy,
                                                              d := wd }
                                                            (-1 : Int)))
                                                        (Wd.y
                                                          (movW
                                                            { r := wr, w := ww, h := wh, c := wc, x := wx, y := wy,
                                                              d := wd }
                                                            (-1 : Int))) +
                                                      (↑(List.length
                                                            (Wd.r
                                                              (movW
                                                                { r := wr, w := ww, h := wh, c := wc, x := wx, y := wy,
                                                                  d := wd }
                                                                (-1 : Int)))) :
                                                        Int)) -
                                                  (1 : Int)))
                                              (↑(List.length
                                                    (Wd.r
                                                      (movW
                                                        { r := wr, w := ww, h := wh, c := wc, x := wx, y := wy,
                                                          d := wd }
                                                        (-1 : Int)))) :
                                                Int)))))))))),
                        V.int IntKind.i64
                          (Wd.h
                            (trnW
                              (pntW (movW { r := wr, w := ww, h := wh, c := wc, x := wx, y := wy, d := wd } (-1 : Int))
                                (Wd.x
                                  (movW { r := wr, w := ww, h := wh, c := wc, x := wx, y := wy, d := wd } (-1 : Int)))
                                (Wd.y
                                  (movW { r := wr, w := ww, h := wh, c := wc, x := wx, y := wy, d := wd } (-1 : Int)))
                                (Int.tmod
                                  (IntKind.wrap IntKind.i64
                                    (IntKind.wrap IntKind.i64
                                        (colAt
                                            (movW { r := wr, w := ww, h := wh, c := wc, x := wx, y := wy, d := wd }
                                              (-1 : Int))
                                            (Wd.x
                                              (movW { r := wr, w := ww, h := wh, c := wc, x := wx, y := wy, d := wd }
                                                (-1 : Int)))
                                            (Wd.y
                                              (movW { r := wr, w := ww, h := wh, c := wc, x := wx, y := wy, d := wd }
                                                (-1 : Int))) +
                                          (↑(List.length
                                                (Wd.r
                                                  (movW
                                                    { r := wr, w := ww, h := wh, c := wc, x := wx, y := wy, d := wd }
                                                    (-1 : Int)))) :
                                            Int)) -
                                      (1 : Int)))
                                  (↑(List.length
                                        (Wd.r
                                          (movW { r := wr, w := ww, h := wh, c := wc, x := wx, y := wy, d := wd }
                                            (-1 : Int)))) :
                                    Int)))
                              (IntKind.wrap IntKind.i64
                                ((4 : Int) -
                                  turnI
                                    (signAt
                                      (pntW
                                        (movW { r := wr, w := ww, h := wh, c := wc, x := wx, y := wy, d := wd }
                                          (-1 : Int))
                                        (Wd.x
                                          (movW { r := wr, w := ww, h := wh, c := wc, x := wx, y := wy, d := wd }
                                            (-1 : Int)))
                                        (Wd.y
                                          (movW { r := wr, w := ww, h := wh, c := wc, x := wx, y := wy, d := wd }
                                            (-1 : Int)))
                                        (Int.tmod
                                          (IntKind.wrap IntKind.i64
                                            (IntKind.wrap IntKind.i64
                                                (colAt
                                                    (movW
                                                      { r := wr, w := ww, h := wh, c := wc, x := wx, y := wy, d := wd }
                                                      (-1 : Int))
                                                    (Wd.x
                                                      (movW
                                                        { r := wr, w := ww, h := wh, c := wc, x := wx, y := wy,
                                                          d := wd }
                                                        (-1 : Int)))
                                                    (Wd.y
                                                      (movW
                                                        { r := wr, w := ww, h := wh, c := wc, x := wx, y := wy,
                                                          d := wd }
                                                        (-1 : Int))) +
                                                  (↑(List.length
                                                        (Wd.r
                                                          (movW
                                                            { r := wr, w := ww, h := wh, c := wc, x := wx, y := wy,
                                                              d := wd }
                                                            (-1 : Int)))) :
                                                    Int)) -
                                              (1 : Int)))
                                          (↑(List.length
                                                (Wd.r
                                                  (movW
                                                    { r := wr, w := ww, h := wh, c := wc, x := wx, y := wy, d := wd }
                                                    (-1 : Int)))) :
                                            Int)))
                                      (colAt
                                        (pntW
                                          (movW { r := wr, w := ww, h := wh, c := wc, x := wx, y := wy, d := wd }
                                            (-1 : Int))
                                          (Wd.x
                                            (movW { r := wr, w := ww, h := wh, c := wc, x := wx, y := wy, d := wd }
                                              (-1 : Int)))
                                          (Wd.y
                                            (movW { r := wr, w := ww, h := wh, c := wc, x := wx, y := wy, d := wd }
                                              (-1 : Int)))
                                          (Int.tmod
                                            (IntKind.wrap IntKind.i64
                                              (IntKind.wrap IntKind.i64
                                                  (colAt
                                                      (movW
                                                        { r := wr, w := ww, h := wh, c := wc, x := wx, y := wy,
                                                          d := wd }
                                                        (-1 : Int))
                                                      (Wd.x
                                                        (movW
                                                          { r := wr, w := ww, h := wh, c := wc, x := wx, y := wy,
                                                            d := wd }
                                                          (-1 : Int)))
                                                      (Wd.y
                                                        (movW
                                                          { r := wr, w := ww, h := wh, c := wc, x := wx, y := wy,
                                                            d := wd }
                                                          (-1 : Int))) +
                                                    (↑(List.length
                                                          (Wd.r
                                                            (movW
                                                              { r := wr, w := ww, h := wh, c := wc, x := wx, y := wy,
                                                                d := wd }
                                                              (-1 : Int)))) :
                                                      Int)) -
                                                (1 : Int)))
                                            (↑(List.length
                                                  (Wd.r
                                                    (movW
                                                      { r := wr, w := ww, h := wh, c := wc, x := wx, y := wy, d := wd }
                                                      (-1 : Int)))) :
                                              Int)))
                                        (Wd.x
                                          (pntW
                                            (movW { r := wr, w := ww, h := wh, c := wc, x := wx, y := wy, d := wd }
                                              (-1 : Int))
                                            (Wd.x
                                              (movW { r := wr, w := ww, h := wh, c := wc, x := wx, y := wy, d := wd }
                                                (-1 : Int)))
                                            (Wd.y
                                              (movW { r := wr, w := ww, h := wh, c := wc, x := wx, y := wy, d := wd }
                                                (-1 : Int)))
                                            (Int.tmod
                                              (IntKind.wrap IntKind.i64
                                                (IntKind.wrap IntKind.i64
                                                    (colAt
                                                        (movW
                                                          { r := wr, w := ww, h := wh, c := wc, x := wx, y := wy,
                                                            d := wd }
                                                          (-1 : Int))
                                                        (Wd.x
                                                          (movW
                                                            { r := wr, w := ww, h := wh, c := wc, x := wx, y := wy,
                                                              d := wd }
                                                            (-1 : Int)))
                                                        (Wd.y
                                                          (movW
                                                            { r := wr, w := ww, h := wh, c := wc, x := wx, y := wy,
                                                              d := wd }
                                                            (-1 : Int))) +
                                                      (↑(List.length
                                                            (Wd.r
                                                              (movW
                                                                { r := wr, w := ww, h := wh, c := wc, x := wx, y := wy,
                                                                  d := wd }
                                                                (-1 : Int)))) :
                                                        Int)) -
                                                  (1 : Int)))
                                              (↑(List.length
                                                    (Wd.r
                                                      (movW
                                                        { r := wr, w := ww, h := wh, c := wc, x := wx, y := wy,
                                                          d := wd }
                                                        (-1 : Int)))) :
                                                Int))))
                                        (Wd.y
                                          (pntW
                                            (movW { r := wr, w := ww, h := wh, c := wc, x := wx, y := wy, d := wd }
                                              (-1 : Int))
                                            (Wd.x
                                              (movW { r := wr, w := ww, h := wh, c := wc, x := wx, y := wy, d := wd }
                                                (-1 : Int)))
                                            (Wd.y
                                              (movW { r := wr, w := ww, h := wh, c := wc, x := wx, y := wy, d := wd }
                                                (-1 : Int)))
                                            (Int.tmod
                                              (IntKind.wrap IntKind.i64
                                                (IntKind.wrap IntKind.i64
                                                    (colAt
                                                        (movW
                                                          { r := wr, w := ww, h := wh, c := wc, x := wx, y := wy,
                                                            d := wd }
                                                          (-1 : Int))
                                                        (Wd.x
                                                          (movW
                                                            { r := wr, w := ww, h := wh, c := wc, x := wx, y := wy,
                                                              d := wd }
                                                            (-1 : Int)))
                                                        (Wd.y
                                                          (movW
                                                            { r := wr, w := ww, h := wh, c := wc, x := wx, y := wy,
                                                              d := wd }
                                                            (-1 : Int))) +
                                                      (↑(List.length
                                                            (Wd.r
                                                              (movW
                                                                { r := wr, w := ww, h := wh, c := wc, x := wx, y := wy,
                                                                  d := wd }
                                                                (-1 : Int)))) :
                                                        Int)) -
                                                  (1 : Int)))
                                              (↑(List.length
                                                    (Wd.r
                                                      (movW
                                                        { r := wr, w := ww, h := wh, c := wc, x := wx, y := wy,
                                                          d := wd }
                                                        (-1 : Int)))) :
                                                Int)))))))))),
                        V.str
                          (Wd.c
                            (trnW
                              (pntW (movW { r := wr, w := ww, h := wh, c := wc, x := wx, y := wy, d := wd } (-1 : Int))
                                (Wd.x
                                  (movW { r := wr, w := ww, h := wh, c := wc, x := wx, y := wy, d := wd } (-1 : Int)))
                                (Wd.y
                                  (movW { r := wr, w := ww, h := wh, c := wc, x := wx, y := wy, d := wd } (-1 : Int)))
                                (Int.tmod
                                  (IntKind.wrap IntKind.i64
                                    (IntKind.wrap IntKind.i64
                                        (colAt
                                            (movW { r := wr, w := ww, h := wh, c := wc, x := wx, y := wy, d := wd }
                                              (-1 : Int))
                                            (Wd.x
                                              (movW { r := wr, w := ww, h := wh, c := wc, x := wx, y := wy, d := wd }
                                                (-1 : Int)))
                                            (Wd.y
                                              (movW { r := wr, w := ww, h := wh, c := wc, x := wx, y := wy, d := wd }
                                                (-1 : Int))) +
                                          (↑(List.length
                                                (Wd.r
                                                  (movW
                                                    { r := wr, w := ww, h := wh, c := wc, x := wx, y := wy, d := wd }
                                                    (-1 : Int)))) :
                                            Int)) -
                                      (1 : Int)))
                                  (↑(List.length
                                        (Wd.r
                                          (movW { r := wr, w := ww, h := wh, c := wc, x := wx, y := wy, d := wd }
                                            (-1 : Int)))) :
                                    Int)))
                              (IntKind.wrap IntKind.i64
                                ((4 : Int) -
                                  turnI
                                    (signAt
                                      (pntW
                                        (movW { r := wr, w := ww, h := wh, c := wc, x := wx, y := wy, d := wd }
                                          (-1 : Int))
                                        (Wd.x
                                          (movW { r := wr, w := ww, h := wh, c := wc, x := wx, y := wy, d := wd }
                                            (-1 : Int)))
                                        (Wd.y
                                          (movW { r := wr, w := ww, h := wh, c := wc, x := wx, y := wy, d := wd }
                                            (-1 : Int)))
                                        (Int.tmod
                                          (IntKind.wrap IntKind.i64
                                            (IntKind.wrap IntKind.i64
                                                (colAt
                                                    (movW
                                                      { r := wr, w := ww, h := wh, c := wc, x := wx, y := wy, d := wd }
                                                      (-1 : Int))
                                                    (Wd.x
                                                      (movW
                                                        { r := wr, w := ww, h := wh, c := wc, x := wx, y := wy,
                                                          d := wd }
                                                        (-1 : Int)))
                                                    (Wd.y
                                                      (movW
                                                        { r := wr, w := ww, h := wh, c := wc, x := wx, y := wy,
                                                          d := wd }
                                                        (-1 : Int))) +
                                                  (↑(List.length
                                                        (Wd.r
                                                          (movW
                                                            { r := wr, w := ww, h := wh, c := wc, x := wx, y := wy,
                                                              d := wd }
                                                            (-1 : Int)))) :
                                                    Int)) -
                                              (1 : Int)))
                                          (↑(List.length
                                                (Wd.r
                                                  (movW
                                                    { r := wr, w := ww, h := wh, c := wc, x := wx, y := wy, d := wd }
                                                    (-1 : Int)))) :
                                            Int)))
                                      (colAt
                                        (pntW
                                          (movW { r := wr, w := ww, h := wh, c := wc, x := wx, y := wy, d := wd }
                                            (-1 : Int))
                                          (Wd.x
                                            (movW { r := wr, w := ww, h := wh, c := wc, x := wx, y := wy, d := wd }
                                              (-1 : Int)))
                                          (Wd.y
                                            (movW { r := wr, w := ww, h := wh, c := wc, x := wx, y := wy, d := wd }
                                              (-1 : Int)))
                                          (Int.tmod
                                            (IntKind.wrap IntKind.i64
                                              (IntKind.wrap IntKind.i64
                                                  (colAt
                                                      (movW
                                                        { r := wr, w := ww, h := wh, c := wc, x := wx, y := wy,
                                                          d := wd }
                                                        (-1 : Int))
                                                      (Wd.x
                                                        (movW
                                                          { r := wr, w := ww, h := wh, c := wc, x := wx, y := wy,
                                                            d := wd }
                                                          (-1 : Int)))
                                                      (Wd.y
                                                        (movW
                                                          { r := wr, w := ww, h := wh, c := wc, x := wx, y := wy,
                                                            d := wd }
                                                          (-1 : Int))) +
                                                    (↑(List.length
                                                          (Wd.r
                                                            (movW
                                                              { r := wr, w := ww, h := wh, c := wc, x := wx, y := wy,
                                                                d := wd }
                                                              (-1 : Int)))) :
                                                      Int)) -
                                                (1 : Int)))
                                            (↑(List.length
                                                  (Wd.r
                                                    (movW
                                                      { r := wr, w := ww, h := wh, c := wc, x := wx, y := wy, d := wd }
                                                      (-1 : Int)))) :
                                              Int)))
                                        (Wd.x
                                          (pntW
                                            (movW { r := wr, w := ww, h := wh, c := wc, x := wx, y := wy, d := wd }
                                              (-1 : Int))
                                            (Wd.x
                                              (movW { r := wr, w := ww, h := wh, c := wc, x := wx, y := wy, d := wd }
                                                (-1 : Int)))
                                            (Wd.y
                                              (movW { r := wr, w := ww, h := wh, c := wc, x := wx, y := wy, d := wd }
                                                (-1 : Int)))
                                            (Int.tmod
                                              (IntKind.wrap IntKind.i64
                                                (IntKind.wrap IntKind.i64
                                                    (colAt
                                                        (movW
                                                          { r := wr, w := ww, h := wh, c := wc, x := wx, y := wy,
                                                            d := wd }
                                                          (-1 : Int))
                                                        (Wd.x
                                                          (movW
                                                            { r := wr, w := ww, h := wh, c := wc, x := wx, y := wy,
                                                              d := wd }
                                                            (-1 : Int)))
                                                        (Wd.y
                                                          (movW
                                                            { r := wr, w := ww, h := wh, c := wc, x := wx, y := wy,
                                                              d := wd }
                                                            (-1 : Int))) +
                                                      (↑(List.length
                                                            (Wd.r
                                                              (movW
                                                                { r := wr, w := ww, h := wh, c := wc, x := wx, y := wy,
                                                                  d := wd }
                                                                (-1 : Int)))) :
                                                        Int)) -
                                                  (1 : Int)))
                                              (↑(List.length
                                                    (Wd.r
                                                      (movW
                                                        { r := wr, w := ww, h := wh, c := wc, x := wx, y := wy,
                                                          d := wd }
                                                        (-1 : Int)))) :
                                                Int))))
                                        (Wd.y
                                          (pntW
                                            (movW { r := wr, w := ww, h := wh, c := wc, x := wx, y := wy, d := wd }
                                              (-1 : Int))
                                            (Wd.x
                                              (movW { r := wr, w := ww, h := wh, c := wc, x := wx, y := wy, d := wd }
                                                (-1 : Int)))
                                            (Wd.y
                                              (movW { r := wr, w := ww, h := wh, c := wc, x := wx, y := wy, d := wd }
                                                (-1 : Int)))
                                            (Int.tmod
                                              (IntKind.wrap IntKind.i64
                                                (IntKind.wrap IntKind.i64
                                                    (colAt
                                                        (movW
                                                          { r := wr, w := ww, h := wh, c := wc, x := wx, y := wy,
                                                            d := wd }
                                                          (-1 : Int))
                                                        (Wd.x
                                                          (movW
                                                            { r := wr, w := ww, h := wh, c := wc, x := wx, y := wy,
                                                              d := wd }
                                                            (-1 : Int)))
                                                        (Wd.y
                                                          (movW
                                                            { r := wr, w := ww, h := wh, c := wc, x := wx, y := wy,
                                                              d := wd }
                                                            (-1 : Int))) +
                                                      (↑(List.length
                                                            (Wd.r
                                                              (movW
                                                                { r := wr, w := ww, h := wh, c := wc, x := wx, y := wy,
                                                                  d := wd }
                                                                (-1 : Int)))) :
                                                        Int)) -
                                                  (1 : Int)))
                                              (↑(List.length
                                                    (Wd.r
                                                      (movW
                                                        { r := wr, w := ww, h := wh, c := wc, x := wx, y := wy,
                                                          d := wd }
                                                        (-1 : Int)))) :
                                                Int)))))))))),
                        V.int IntKind.i64
                          (Wd.x
                            (trnW
                              (pntW (movW { r := wr, w := ww, h := wh, c := wc, x := wx, y := wy, d := wd } (-1 : Int))
                                (Wd.x
                                  (movW { r := wr, w := ww, h := wh, c := wc, x := wx, y := wy, d := wd } (-1 : Int)))
                                (Wd.y
                                  (movW { r := wr, w := ww, h := wh, c := wc, x := wx, y := wy, d := wd } (-1 : Int)))
                                (Int.tmod
                                  (IntKind.wrap IntKind.i64
                                    (IntKind.wrap IntKind.i64
                                        (colAt
                                            (movW { r := wr, w := ww, h := wh, c := wc, x := wx, y := wy, d := wd }
                                              (-1 : Int))
                                            (Wd.x
                                              (movW { r := wr, w := ww, h := wh, c := wc, x := wx, y := wy, d := wd }
                                                (-1 : Int)))
                                            (Wd.y
                                              (movW { r := wr, w := ww, h := wh, c := wc, x := wx, y := wy, d := wd }
                                                (-1 : Int))) +
                                          (↑(List.length
                                                (Wd.r
                                                  (movW
                                                    { r := wr, w := ww, h := wh, c := wc, x := wx, y := wy, d := wd }
                                                    (-1 : Int)))) :
                                            Int)) -
                                      (1 : Int)))
                                  (↑(List.length
                                        (Wd.r
                                          (movW { r := wr, w := ww, h := wh, c := wc, x := wx, y := wy, d := wd }
                                            (-1 : Int)))) :
                                    Int)))
                              (IntKind.wrap IntKind.i64
                                ((4 : Int) -
                                  turnI
                                    (signAt
                                      (pntW
                                        (movW { r := wr, w := ww, h := wh, c := wc, x := wx, y := wy, d := wd }
                                          (-1 : Int))
                                        (Wd.x
                                          (movW { r := wr, w := ww, h := wh, c := wc, x := wx, y := wy, d := wd }
                                            (-1 : Int)))
                                        (Wd.y
                                          (movW { r := wr, w := ww, h := wh, c := wc, x := wx, y := wy, d := wd }
                                            (-1 : Int)))
                                        (Int.tmod
                                          (IntKind.wrap IntKind.i64
                                            (IntKind.wrap IntKind.i64
                                                (colAt
                                                    (movW
                                                      { r := wr, w := ww, h := wh, c := wc, x := wx, y := wy, d := wd }
                                                      (-1 : Int))
                                                    (Wd.x
                                                      (movW
                                                        { r := wr, w := ww, h := wh, c := wc, x := wx, y := wy,
                                                          d := wd }
                                                        (-1 : Int)))
                                                    (Wd.y
                                                      (movW
                                                        { r := wr, w := ww, h := wh, c := wc, x := wx, y := wy,
                                                          d := wd }
                                                        (-1 : Int))) +
                                                  (↑(List.length
                                                        (Wd.r
                                                          (movW
                                                            { r := wr, w := ww, h := wh, c := wc, x := wx, y := wy,
                                                              d := wd }
                                                            (-1 : Int)))) :
                                                    Int)) -
                                              (1 : Int)))
                                          (↑(List.length
                                                (Wd.r
                                                  (movW
                                                    { r := wr, w := ww, h := wh, c := wc, x := wx, y := wy, d := wd }
                                                    (-1 : Int)))) :
                                            Int)))
                                      (colAt
                                        (pntW
                                          (movW { r := wr, w := ww, h := wh, c := wc, x := wx, y := wy, d := wd }
                                            (-1 : Int))
                                          (Wd.x
                                            (movW { r := wr, w := ww, h := wh, c := wc, x := wx, y := wy, d := wd }
                                              (-1 : Int)))
                                          (Wd.y
                                            (movW { r := wr, w := ww, h := wh, c := wc, x := wx, y := wy, d := wd }
                                              (-1 : Int)))
                                          (Int.tmod
                                            (IntKind.wrap IntKind.i64
                                              (IntKind.wrap IntKind.i64
                                                  (colAt
                                                      (movW
                                                        { r := wr, w := ww, h := wh, c := wc, x := wx, y := wy,
                                                          d := wd }
                                                        (-1 : Int))
                                                      (Wd.x
                                                        (movW
                                                          { r := wr, w := ww, h := wh, c := wc, x := wx, y := wy,
                                                            d := wd }
                                                          (-1 : Int)))
                                                      (Wd.y
                                                        (movW
                                                          { r := wr, w := ww, h := wh, c := wc, x := wx, y := wy,
                                                            d := wd }
                                                          (-1 : Int))) +
                                                    (↑(List.length
                                                          (Wd.r
                                                            (movW
                                                              { r := wr, w := ww, h := wh, c := wc, x := wx, y := wy,
                                                                d := wd }
                                                              (-1 : Int)))) :
                                                      Int)) -
                                                (1 : Int)))
                                            (↑(List.length
                                                  (Wd.r
                                                    (movW
                                                      { r := wr, w := ww, h := wh, c := wc, x := wx, y := wy, d := wd }
                                                      (-1 : Int)))) :
                                              Int)))
                                        (Wd.x
                                          (pntW
                                            (movW { r := wr, w := ww, h := wh, c := wc, x := wx, y := wy, d := wd }
                                              (-1 : Int))
                                            (Wd.x
                                              (movW { r := wr, w := ww, h := wh, c := wc, x := wx, y := wy, d := wd }
                                                (-1 : Int)))
                                            (Wd.y
                                              (movW { r := wr, w := ww, h := wh, c := wc, x := wx, y := wy, d := wd }
                                                (-1 : Int)))
                                            (Int.tmod
                                              (IntKind.wrap IntKind.i64
                                                (IntKind.wrap IntKind.i64
                                                    (colAt
                                                        (movW
                                                          { r := wr, w := ww, h := wh, c := wc, x := wx, y := wy,
                                                            d := wd }
                                                          (-1 : Int))
                                                        (Wd.x
                                                          (movW
                                                            { r := wr, w := ww, h := wh, c := wc, x := wx, y := wy,
                                                              d := wd }
                                                            (-1 : Int)))
                                                        (Wd.y
                                                          (movW
                                                            { r := wr, w := ww, h := wh, c := wc, x := wx, y := wy,
                                                              d := wd }
                                                            (-1 : Int))) +
                                                      (↑(List.length
                                                            (Wd.r
                                                              (movW
                                                                { r := wr, w := ww, h := wh, c := wc, x := wx, y := wy,
                                                                  d := wd }
                                                                (-1 : Int)))) :
                                                        Int)) -
                                                  (1 : Int)))
                                              (↑(List.length
                                                    (Wd.r
                                                      (movW
                                                        { r := wr, w := ww, h := wh, c := wc, x := wx, y := wy,
                                                          d := wd }
                                                        (-1 : Int)))) :
                                                Int))))
                                        (Wd.y
                                          (pntW
                                            (movW { r := wr, w := ww, h := wh, c := wc, x := wx, y := wy, d := wd }
                                              (-1 : Int))
                                            (Wd.x
                                              (movW { r := wr, w := ww, h := wh, c := wc, x := wx, y := wy, d := wd }
                                                (-1 : Int)))
                                            (Wd.y
                                              (movW { r := wr, w := ww, h := wh, c := wc, x := wx, y := wy, d := wd }
                                                (-1 : Int)))
                                            (Int.tmod
                                              (IntKind.wrap IntKind.i64
                                                (IntKind.wrap IntKind.i64
                                                    (colAt
                                                        (movW
                                                          { r := wr, w := ww, h := wh, c := wc, x := wx, y := wy,
                                                            d := wd }
                                                          (-1 : Int))
                                                        (Wd.x
                                                          (movW
                                                            { r := wr, w := ww, h := wh, c := wc, x := wx, y := wy,
                                                              d := wd }
                                                            (-1 : Int)))
                                                        (Wd.y
                                                          (movW
                                                            { r := wr, w := ww, h := wh, c := wc, x := wx, y := wy,
                                                              d := wd }
                                                            (-1 : Int))) +
                                                      (↑(List.length
                                                            (Wd.r
                                                              (movW
                                                                { r := wr, w := ww, h := wh, c := wc, x := wx, y := wy,
                                                                  d := wd }
                                                                (-1 : Int)))) :
                                                        Int)) -
                                                  (1 : Int)))
                                              (↑(List.length
                                                    (Wd.r
                                                      (movW
                                                        { r := wr, w := ww, h := wh, c := wc, x := wx, y := wy,
                                                          d := wd }
                                                        (-1 : Int)))) :
                                                Int)))))))))),
                        V.int IntKind.i64
                          (Wd.y
                            (trnW
                              (pntW (movW { r := wr, w := ww, h := wh, c := wc, x := wx, y := wy, d := wd } (-1 : Int))
                                (Wd.x
                                  (movW { r := wr, w := ww, h := wh, c := wc, x := wx, y := wy, d := wd } (-1 : Int)))
                                (Wd.y
                                  (movW { r := wr, w := ww, h := wh, c := wc, x := wx, y := wy, d := wd } (-1 : Int)))
                                (Int.tmod
                                  (IntKind.wrap IntKind.i64
                                    (IntKind.wrap IntKind.i64
                                        (colAt
                                            (movW { r := wr, w := ww, h := wh, c := wc, x := wx, y := wy, d := wd }
                                              (-1 : Int))
                                            (Wd.x
                                              (movW { r := wr, w := ww, h := wh, c := wc, x := wx, y := wy, d := wd }
                                                (-1 : Int)))
                                            (Wd.y
                                              (movW { r := wr, w := ww, h := wh, c := wc, x := wx, y := wy, d := wd }
                                                (-1 : Int))) +
                                          (↑(List.length
                                                (Wd.r
                                                  (movW
                                                    { r := wr, w := ww, h := wh, c := wc, x := wx, y := wy, d := wd }
                                                    (-1 : Int)))) :
                                            Int)) -
                                      (1 : Int)))
                                  (↑(List.length
                                        (Wd.r
                                          (movW { r := wr, w := ww, h := wh, c := wc, x := wx, y := wy, d := wd }
                                            (-1 : Int)))) :
                                    Int)))
                              (IntKind.wrap IntKind.i64
                                ((4 : Int) -
                                  turnI
                                    (signAt
                                      (pntW
                                        (movW { r := wr, w := ww, h := wh, c := wc, x := wx, y := wy, d := wd }
                                          (-1 : Int))
                                        (Wd.x
                                          (movW { r := wr, w := ww, h := wh, c := wc, x := wx, y := wy, d := wd }
                                            (-1 : Int)))
                                        (Wd.y
                                          (movW { r := wr, w := ww, h := wh, c := wc, x := wx, y := wy, d := wd }
                                            (-1 : Int)))
                                        (Int.tmod
                                          (IntKind.wrap IntKind.i64
                                            (IntKind.wrap IntKind.i64
                                                (colAt
                                                    (movW
                                                      { r := wr, w := ww, h := wh, c := wc, x := wx, y := wy, d := wd }
                                                      (-1 : Int))
                                                    (Wd.x
                                                      (movW
                                                        { r := wr, w := ww, h := wh, c := wc, x := wx, y := wy,
                                                          d := wd }
                                                        (-1 : Int)))
                                                    (Wd.y
                                                      (movW
                                                        { r := wr, w := ww, h := wh, c := wc, x := wx, y := wy,
                                                          d := wd }
                                                        (-1 : Int))) +
                                                  (↑(List.length
                                                        (Wd.r
                                                          (movW
                                                            { r := wr, w := ww, h := wh, c := wc, x := wx, y := wy,
                                                              d := wd }
                                                            (-1 : Int)))) :
                                                    Int)) -
                                              (1 : Int)))
                                          (↑(List.length
                                                (Wd.r
                                                  (movW
                                                    { r := wr, w := ww, h := wh, c := wc, x := wx, y := wy, d := wd }
                                                    (-1 : Int)))) :
                                            Int)))
                                      (colAt
                                        (pntW
                                          (movW { r := wr, w := ww, h := wh, c := wc, x := wx, y := wy, d := wd }
                                            (-1 : Int))
                                          (Wd.x
                                            (movW { r := wr, w := ww, h := wh, c := wc, x := wx, y := wy, d := wd }
                                              (-1 : Int)))
                                          (Wd.y
                                            (movW { r := wr, w := ww, h := wh, c := wc, x := wx, y := wy, d := wd }
                                              (-1 : Int)))
                                          (Int.tmod
                                            (IntKind.wrap IntKind.i64
                                              (IntKind.wrap IntKind.i64
                                                  (colAt
                                                      (movW
                                                        { r := wr, w := ww, h := wh, c := wc, x := wx, y := wy,
                                                          d := wd }
                                                        (-1 : Int))
                                                      (Wd.x
                                                        (movW
                                                          { r := wr, w := ww, h := wh, c := wc, x := wx, y := wy,
                                                            d := wd }
                                                          (-1 : Int)))
                                                      (Wd.y
                                                        (movW
                                                          { r := wr, w := ww, h := wh, c := wc, x := wx, y := wy,
                                                            d := wd }
                                                          (-1 : Int))) +
                                                    (↑(List.length
                                                          (Wd.r
                                                            (movW
                                                              { r := wr, w := ww, h := wh, c := wc, x := wx, y := wy,
                                                                d := wd }
                                                              (-1 : Int)))) :
                                                      Int)) -
                                                (1 : Int)))
                                            (↑(List.length
                                                  (Wd.r
                                                    (movW
                                                      { r := wr, w := ww, h := wh, c := wc, x := wx, y := wy, d := wd }
                                                      (-1 : Int)))) :
                                              Int)))
                                        (Wd.x
                                          (pntW
                                            (movW { r := wr, w := ww, h := wh, c := wc, x := wx, y := wy, d := wd }
                                              (-1 : Int))
                                            (Wd.x
                                              (movW { r := wr, w := ww, h := wh, c := wc, x := wx, y := wy, d := wd }
                                                (-1 : Int)))
                                            (Wd.y
                                              (movW { r := wr, w := ww, h := wh, c := wc, x := wx, y := wy, d := wd }
                                                (-1 : Int)))
                                            (Int.tmod
                                              (IntKind.wrap IntKind.i64
                                                (IntKind.wrap IntKind.i64
                                                    (colAt
                                                        (movW
                                                          { r := wr, w := ww, h := wh, c := wc, x := wx, y := wy,
                                                            d := wd }
                                                          (-1 : Int))
                                                        (Wd.x
                                                          (movW
                                                            { r := wr, w := ww, h := wh, c := wc, x := wx, y := wy,
                                                              d := wd }
                                                            (-1 : Int)))
                                                        (Wd.y
                                                          (movW
                                                            { r := wr, w := ww, h := wh, c := wc, x := wx, y := wy,
                                                              d := wd }
                                                            (-1 : Int))) +
                                                      (↑(List.length
                                                            (Wd.r
                                                              (movW
                                                                { r := wr, w := ww, h := wh, c := wc, x := wx, y := wy,
                                                                  d := wd }
                                                                (-1 : Int)))) :
                                                        Int)) -
                                                  (1 : Int)))
                                              (↑(List.length
                                                    (Wd.r
                                                      (movW
                                                        { r := wr, w := ww, h := wh, c := wc, x := wx, y := wy,
                                                          d := wd }
                                                        (-1 : Int)))) :
                                                Int))))
                                        (Wd.y
                                          (pntW
                                            (movW { r := wr, w := ww, h := wh, c := wc, x := wx, y := wy, d := wd }
                                              (-1 : Int))
                                            (Wd.x
                                              (movW { r := wr, w := ww, h := wh, c := wc, x := wx, y := wy, d := wd }
                                                (-1 : Int)))
                                            (Wd.y
                                              (movW { r := wr, w := ww, h := wh, c := wc, x := wx, y := wy, d := wd }
                                                (-1 : Int)))
                                            (Int.tmod
                                              (IntKind.wrap IntKind.i64
                                                (IntKind.wrap IntKind.i64
                                                    (colAt
                                                        (movW
                                                          { r := wr, w := ww, h := wh, c := wc, x := wx, y := wy,
                                                            d := wd }
                                                          (-1 : Int))
                                                        (Wd.x
                                                          (movW
                                                            { r := wr, w := ww, h := wh, c := wc, x := wx, y := wy,
                                                              d := wd }
                                                            (-1 : Int)))
                                                        (Wd.y
                                                          (movW
                                                            { r := wr, w := ww, h := wh, c := wc, x := wx, y := wy,
                                                              d := wd }
                                                            (-1 : Int))) +
                                                      (↑(List.length
                                                            (Wd.r
                                                              (movW
                                                                { r := wr, w := ww, h := wh, c := wc, x := wx, y := wy,
                                                                  d := wd }
                                                                (-1 : Int)))) :
                                                        Int)) -
                                                  (1 : Int)))
                                              (↑(List.length
                                                    (Wd.r
                                                      (movW
                                                        { r := wr, w := ww, h := wh, c := wc, x := wx, y := wy,
                                                          d := wd }
                                                        (-1 : Int)))) :
                                                Int)))))))))),
                        V.int IntKind.i64
                          (Wd.d
                            (trnW
                              (pntW (movW { r := wr, w := ww, h := wh, c := wc, x := wx, y := wy, d := wd } (-1 : Int))
                                (Wd.x
                                  (movW { r := wr, w := ww, h := wh, c := wc, x := wx, y := wy, d := wd } (-1 : Int)))
                                (Wd.y
                                  (movW { r := wr, w := ww, h := wh, c := wc, x := wx, y := wy, d := wd } (-1 : Int)))
                                (Int.tmod
                                  (IntKind.wrap IntKind.i64
                                    (IntKind.wrap IntKind.i64
                                        (colAt
                                            (movW { r := wr, w := ww, h := wh, c := wc, x := wx, y := wy, d := wd }
                                              (-1 : Int))
                                            (Wd.x
                                              (movW { r := wr, w := ww, h := wh, c := wc, x := wx, y := wy, d := wd }
                                                (-1 : Int)))
                                            (Wd.y
                                              (movW { r := wr, w := ww, h := wh, c := wc, x := wx, y := wy, d := wd }
                                                (-1 : Int))) +
                                          (↑(List.length
                                                (Wd.r
                                                  (movW
                                                    { r := wr, w := ww, h := wh, c := wc, x := wx, y := wy, d := wd }
                                                    (-1 : Int)))) :
                                            Int)) -
                                      (1 : Int)))
                                  (↑(List.length
                                        (Wd.r
                                          (movW { r := wr, w := ww, h := wh, c := wc, x := wx, y := wy, d := wd }
                                            (-1 : Int)))) :
                                    Int)))
                              (IntKind.wrap IntKind.i64
                                ((4 : Int) -
                                  turnI
                                    (signAt
                                      (pntW
                                        (movW { r := wr, w := ww, h := wh, c := wc, x := wx, y := wy, d := wd }
                                          (-1 : Int))
                                        (Wd.x
                                          (movW { r := wr, w := ww, h := wh, c := wc, x := wx, y := wy, d := wd }
                                            (-1 : Int)))
                                        (Wd.y
                                          (movW { r := wr, w := ww, h := wh, c := wc, x := wx, y := wy, d := wd }
                                            (-1 : Int)))
                                        (Int.tmod
                                          (IntKind.wrap IntKind.i64
                                            (IntKind.wrap IntKind.i64
                                                (colAt
                                                    (movW
                                                      { r := wr, w := ww, h := wh, c := wc, x := wx, y := wy, d := wd }
                                                      (-1 : Int))
                                                    (Wd.x
                                                      (movW
                                                        { r := wr, w := ww, h := wh, c := wc, x := wx, y := wy,
                                                          d := wd }
                                                        (-1 : Int)))
                                                    (Wd.y
                                                      (movW
                                                        { r := wr, w := ww, h := wh, c := wc, x := wx, y := wy,
                                                          d := wd }
                                                        (-1 : Int))) +
                                                  (↑(List.length
                                                        (Wd.r
                                                          (movW
                                                            { r := wr, w := ww, h := wh, c := wc, x := wx, y := wy,
                                                              d := wd }
                                                            (-1 : Int)))) :
                                                    Int)) -
                                              (1 : Int)))
                                          (↑(List.length
                                                (Wd.r
                                                  (movW
                                                    { r := wr, w := ww, h := wh, c := wc, x := wx, y := wy, d := wd }
                                                    (-1 : Int)))) :
                                            Int)))
                                      (colAt
                                        (pntW
                                          (movW { r := wr, w := ww, h := wh, c := wc, x := wx, y := wy, d := wd }
                                            (-1 : Int))
                                          (Wd.x
                                            (movW { r := wr, w := ww, h := wh, c := wc, x := wx, y := wy, d := wd }
                                              (-1 : Int)))
                                          (Wd.y
                                            (movW { r := wr, w := ww, h := wh, c := wc, x := wx, y := wy, d := wd }
                                              (-1 : Int)))
                                          (Int.tmod
                                            (IntKind.wrap IntKind.i64
                                              (IntKind.wrap IntKind.i64
                                                  (colAt
                                                      (movW
                                                        { r := wr, w := ww, h := wh, c := wc, x := wx, y := wy,
                                                          d := wd }
                                                        (-1 : Int))
                                                      (Wd.x
                                                        (movW
                                                          { r := wr, w := ww, h := wh, c := wc, x := wx, y := wy,
                                                            d := wd }
                                                          (-1 : Int)))
                                                      (Wd.y
                                                        (movW
                                                          { r := wr, w := ww, h := wh, c := wc, x := wx, y := wy,
                                                            d := wd }
                                                          (-1 : Int))) +
                                                    (↑(List.length
                                                          (Wd.r
                                                            (movW
                                                              { r := wr, w := ww, h := wh, c := wc, x := wx, y := wy,
                                                                d := wd }
                                                              (-1 : Int)))) :
                                                      Int)) -
                                                (1 : Int)))
                                            (↑(List.length
                                                  (Wd.r
                                                    (movW
                                                      { r := wr, w := ww, h := wh, c := wc, x := wx, y := wy, d := wd }
                                                      (-1 : Int)))) :
                                              Int)))
                                        (Wd.x
                                          (pntW
                                            (movW { r := wr, w := ww, h := wh, c := wc, x := wx, y := wy, d := wd }
                                              (-1 : Int))
                                            (Wd.x
                                              (movW { r := wr, w := ww, h := wh, c := wc, x := wx, y := wy, d := wd }
                                                (-1 : Int)))
                                            (Wd.y
                                              (movW { r := wr, w := ww, h := wh, c := wc, x := wx, y := wy, d := wd }
                                                (-1 : Int)))
                                            (Int.tmod
                                              (IntKind.wrap IntKind.i64
                                                (IntKind.wrap IntKind.i64
                                                    (colAt
                                                        (movW
                                                          { r := wr, w := ww, h := wh, c := wc, x := wx, y := wy,
                                                            d := wd }
                                                          (-1 : Int))
                                                        (Wd.x
                                                          (movW
                                                            { r := wr, w := ww, h := wh, c := wc, x := wx, y := wy,
                                                              d := wd }
                                                            (-1 : Int)))
                                                        (Wd.y
                                                          (movW
                                                            { r := wr, w := ww, h := wh, c := wc, x := wx, y := wy,
                                                              d := wd }
                                                            (-1 : Int))) +
                                                      (↑(List.length
                                                            (Wd.r
                                                              (movW
                                                                { r := wr, w := ww, h := wh, c := wc, x := wx, y := wy,
                                                                  d := wd }
                                                                (-1 : Int)))) :
                                                        Int)) -
                                                  (1 : Int)))
                                              (↑(List.length
                                                    (Wd.r
                                                      (movW
                                                        { r := wr, w := ww, h := wh, c := wc, x := wx, y := wy,
                                                          d := wd }
                                                        (-1 : Int)))) :
                                                Int))))
                                        (Wd.y
                                          (pntW
                                            (movW { r := wr, w := ww, h := wh, c := wc, x := wx, y := wy, d := wd }
                                              (-1 : Int))
                                            (Wd.x
                                              (movW { r := wr, w := ww, h := wh, c := wc, x := wx, y := wy, d := wd }
                                                (-1 : Int)))
                                            (Wd.y
                                              (movW { r := wr, w := ww, h := wh, c := wc, x := wx, y := wy, d := wd }
                                                (-1 : Int)))
                                            (Int.tmod
                                              (IntKind.wrap IntKind.i64
                                                (IntKind.wrap IntKind.i64
                                                    (colAt
                                                        (movW
                                                          { r := wr, w := ww, h := wh, c := wc, x := wx, y := wy,
                                                            d := wd }
                                                          (-1 : Int))
                                                        (Wd.x
                                                          (movW
                                                            { r := wr, w := ww, h := wh, c := wc, x := wx, y := wy,
                                                              d := wd }
                                                            (-1 : Int)))
                                                        (Wd.y
                                                          (movW
                                                            { r := wr, w := ww, h := wh, c := wc, x := wx, y := wy,
                                                              d := wd }
                                                            (-1 : Int))) +
                                                      (↑(List.length
                                                            (Wd.r
                                                              (movW
                                                                { r := wr, w := ww, h := wh, c := wc, x := wx, y := wy,
                                                                  d := wd }
                                                                (-1 : Int)))) :
                                                        Int)) -
                                                  (1 : Int)))
                                              (↑(List.length
                                                    (Wd.r
                                                      (movW
                                                        { r := wr, w := ww, h := wh, c := wc, x := wx, y := wy,
                                                          d := wd }
                                                        (-1 : Int)))) :
                                                Int))))))))))])

def VC_spec_WorldAfter (wr : List UInt8) (ww : Int) (wh : Int) (wc : List UInt8) (wx : Int) (wy : Int) (wd : Int) (steps : Int) (K : V → Prop) : Prop :=
  At True ∧
  (goodB { r := wr, w := ww, h := wh, c := wc, x := wx, y := wy, d := wd } = true →
      At True ∧
        ((!inB steps (0 : Int) (3000 : Int)) = true →
            K
              (V.tup
                [V.agg
                    [V.str (Array.toList #[]), V.int IntKind.i64 (0 : Int), V.int IntKind.i64 (0 : Int),
                      V.str (Array.toList #[]), V.int IntKind.i64 (0 : Int), V.int IntKind.i64 (0 : Int),
                      V.int IntKind.i64 (0 : Int)],
                  V.lit false])) ∧
          ((!inB steps (0 : Int) (3000 : Int)) = false →
            (((True ∧ steps = steps) ∧
                  ((0 : Nat) = (0 : Nat) ∧ (0 : Nat) = (0 : Nat)) ∧
                    ((1 : Nat) = (1 : Nat) ∧ (0 : Nat) = (0 : Nat)) ∧ false = false ∧ True) ∧
                ((True ∧
                      wr = Wd.r { r := wr, w := ww, h := wh, c := wc, x := wx, y := wy, d := wd } ∧
                        (True ∧ ww = Wd.w { r := wr, w := ww, h := wh, c := wc, x := wx, y := wy, d := wd }) ∧
                          (True ∧ wh = Wd.h { r := wr, w := ww, h := wh, c := wc, x := wx, y := wy, d := wd }) ∧
                            wc = Wd.c { r := wr, w := ww, h := wh, c := wc, x := wx, y := wy, d := wd } ∧
                              (True ∧ wx = Wd.x { r := wr, w := ww, h := wh, c := wc, x := wx, y := wy, d := wd }) ∧
                                (True ∧ wy = Wd.y { r := wr, w := ww, h := wh, c := wc, x := wx, y := wy, d := wd }) ∧
                                  (True ∧ wd = Wd.d { r := wr, w := ww, h := wh, c := wc, x := wx, y := wy, d := wd }) ∧
                                    True) ∧
                    (True ∧
                        nilB = nilB ∧
                          (True ∧ (0 : Int) = (0 : Int)) ∧
                            (True ∧ (0 : Int) = (0 : Int)) ∧
                              nilB = nilB ∧
                                (True ∧ (0 : Int) = (0 : Int)) ∧
                                  (True ∧ (0 : Int) = (0 : Int)) ∧ (True ∧ (0 : Int) = (0 : Int)) ∧ True) ∧
                      True) ∧
                  True) ∧
              At
                  (aftInv stepW steps { r := wr, w := ww, h := wh, c := wc, x := wx, y := wy, d := wd }
                    (steps, { r := wr, w := ww, h := wh, c := wc, x := wx, y := wy, d := wd })) ∧
                ∀ (a : Int × Wd),
                  aftInv stepW steps { r := wr, w := ww, h := wh, c := wc, x := wx, y := wy, d := wd } a →
                    (decide (Prod.fst a > (0 : Int)) = true →
                        At (goodB (Prod.snd a) = true) ∧
                          (((True ∧
                                  IntKind.wrap IntKind.i64 (Prod.fst a - (1 : Int)) =
                                    IntKind.wrap IntKind.i64 (Prod.fst a - (1 : Int))) ∧
                                ((0 : Nat) = (0 : Nat) ∧ (0 : Nat) = (0 : Nat)) ∧
                                  ((1 : Nat) = (1 : Nat) ∧ (0 : Nat) = (0 : Nat)) ∧ false = false ∧ True) ∧
                              ((True ∧
                                    Wd.r (stepW (Prod.snd a)) = Wd.r (stepW (Prod.snd a)) ∧
                                      (True ∧ Wd.w (stepW (Prod.snd a)) = Wd.w (stepW (Prod.snd a))) ∧
                                        (True ∧ Wd.h (stepW (Prod.snd a)) = Wd.h (stepW (Prod.snd a))) ∧
                                          Wd.c (stepW (Prod.snd a)) = Wd.c (stepW (Prod.snd a)) ∧
                                            (True ∧ Wd.x (stepW (Prod.snd a)) = Wd.x (stepW (Prod.snd a))) ∧
                                              (True ∧ Wd.y (stepW (Prod.snd a)) = Wd.y (stepW (Prod.snd a))) ∧
                                                (True ∧ Wd.d (stepW (Prod.snd a)) = Wd.d (stepW (Prod.snd a))) ∧ True) ∧
                                  (True ∧
                                      nilB = nilB ∧
                                        (True ∧ (0 : Int) = (0 : Int)) ∧
                                          (True ∧ (0 : Int) = (0 : Int)) ∧
                                            nilB = nilB ∧
                                              (True ∧ (0 : Int) = (0 : Int)) ∧
                                                (True ∧ (0 : Int) = (0 : Int)) ∧
                                                  (True ∧ (0 : Int) = (0 : Int)) ∧ True) ∧
                                    True) ∧
                                True) ∧
                            At
                              (aftInv stepW steps { r := wr, w := ww, h := wh, c := wc, x := wx, y := wy, d := wd }
                                  (IntKind.wrap IntKind.i64 (Prod.fst a - (1 : Int)), stepW (Prod.snd a)) ∧
                                Int.toNat (IntKind.wrap IntKind.i64 (Prod.fst a - (1 : Int))) <
                                  Int.toNat (Prod.fst a))) ∧
                      (decide (Prod.fst a > (0 : Int)) = false →
                        K
                          (V.tup
                            [V.agg
                                [V.str (Wd.r (Prod.snd a)), V.int IntKind.i64 (Wd.w (Prod.snd a)),
                                  V.int IntKind.i64 (Wd.h (Prod.snd a)), V.str (Wd.c (Prod.snd a)),
                                  V.int IntKind.i64 (Wd.x (Prod.snd a)), V.int IntKind.i64 (Wd.y (Prod.snd a)),
                                  V.int IntKind.i64 (Wd.d (Prod.snd a))],
                              V.lit true])))) ∧
    (goodB { r := wr, w := ww, h := wh, c := wc, x := wx, y := wy, d := wd } = false →
      K
        (V.tup
          [V.agg
              [V.str (Array.toList #[]), V.int IntKind.i64 (0 : Int), V.int IntKind.i64 (0 : Int),
                V.str (Array.toList #[]), V.int IntKind.i64 (0 : Int), V.int IntKind.i64 (0 : Int),
                V.int IntKind.i64 (0 : Int)],
            V.lit false]))

def VC_spec_WorldBefore (wr : List UInt8) (ww : Int) (wh : Int) (wc : List UInt8) (wx : Int) (wy : Int) (wd : Int) (steps : Int) (K : V → Prop) : Prop :=
  At True ∧
  (goodB { r := wr, w := ww, h := wh, c := wc, x := wx, y := wy, d := wd } = true →
      At True ∧
        ((!inB steps (0 : Int) (3000 : Int)) = true →
            K
              (V.tup
                [V.agg
                    [V.str (Array.toList #[]), V.int IntKind.i64 (0 : Int), V.int IntKind.i64 (0 : Int),
                      V.str (Array.toList #[]), V.int IntKind.i64 (0 : Int), V.int IntKind.i64 (0 : Int),
                      V.int IntKind.i64 (0 : Int)],
                  V.lit false])) ∧
          ((!inB steps (0 : Int) (3000 : Int)) = false →
            (((True ∧ steps = steps) ∧
                  ((0 : Nat) = (0 : Nat) ∧ (0 : Nat) = (0 : Nat)) ∧
                    ((1 : Nat) = (1 : Nat) ∧ (0 : Nat) = (0 : Nat)) ∧ false = false ∧ True) ∧
                ((True ∧
                      wr = Wd.r { r := wr, w := ww, h := wh, c := wc, x := wx, y := wy, d := wd } ∧
                        (True ∧ ww = Wd.w { r := wr, w := ww, h := wh, c := wc, x := wx, y := wy, d := wd }) ∧
                          (True ∧ wh = Wd.h { r := wr, w := ww, h := wh, c := wc, x := wx, y := wy, d := wd }) ∧
                            wc = Wd.c { r := wr, w := ww, h := wh, c := wc, x := wx, y := wy, d := wd } ∧
                              (True ∧ wx = Wd.x { r := wr, w := ww, h := wh, c := wc, x := wx, y := wy, d := wd }) ∧
                                (True ∧ wy = Wd.y { r := wr, w := ww, h := wh, c := wc, x := wx, y := wy, d := wd }) ∧
                                  (True ∧ wd = Wd.d { r := wr, w := ww, h := wh, c := wc, x := wx, y := wy, d := wd }) ∧
                                    True) ∧
                    (True ∧
                        nilB = nilB ∧
                          (True ∧ (0 : Int) = (0 : Int)) ∧
                            (True ∧ (0 : Int) = (0 : Int)) ∧
                              nilB = nilB ∧
                                (True ∧ (0 : Int) = (0 : Int)) ∧
                                  (True ∧ (0 : Int) = (0 : Int)) ∧ (True ∧ (0 : Int) = (0 : Int)) ∧ True) ∧
                      True) ∧
                  True) ∧
              At
                  (aftInv backW steps { r := wr, w := ww, h := wh, c := wc, x := wx, y := wy, d := wd }
                    (steps, { r := wr, w := ww, h := wh, c := wc, x := wx, y := wy, d := wd })) ∧
                ∀ (a : Int × Wd),
                  aftInv backW steps { r := wr, w := ww, h := wh, c := wc, x := wx, y := wy, d := wd } a →
                    (decide (Prod.fst a > (0 : Int)) = true →
                        At (goodB (Prod.snd a) = true) ∧
                          (((True ∧
                                  IntKind.wrap IntKind.i64 (Prod.fst a - (1 : Int)) =
                                    IntKind.wrap IntKind.i64 (Prod.fst a - (1 : Int))) ∧
                                ((0 : Nat) = (0 : Nat) ∧ (0 : Nat) = (0 : Nat)) ∧
                                  ((1 : Nat) = (1 : Nat) ∧ (0 : Nat) = (0 : Nat)) ∧ false = false ∧ True) ∧
                              ((True ∧
                                    Wd.r (backW (Prod.snd a)) = Wd.r (backW (Prod.snd a)) ∧
                                      (True ∧ Wd.w (backW (Prod.snd a)) = Wd.w (backW (Prod.snd a))) ∧
                                        (True ∧ Wd.h (backW (Prod.snd a)) = Wd.h (backW (Prod.snd a))) ∧
                                          Wd.c (backW (Prod.snd a)) = Wd.c (backW (Prod.snd a)) ∧
                                            (True ∧ Wd.x (backW (Prod.snd a)) = Wd.x (backW (Prod.snd a))) ∧
                                              (True ∧ Wd.y (backW (Prod.snd a)) = Wd.y (backW (Prod.snd a))) ∧
                                                (True ∧ Wd.d (backW (Prod.snd a)) = Wd.d (backW (Prod.snd a))) ∧ True) ∧
                                  (True ∧
                                      nilB = nilB ∧
                                        (True ∧ (0 : Int) = (0 : Int)) ∧
                                          (True ∧ (0 : Int) = (0 : Int)) ∧
                                            nilB = nilB ∧
                                              (True ∧ (0 : Int) = (0 : Int)) ∧
                                                (True ∧ (0 : Int) = (0 : Int)) ∧
                                                  (True ∧ (0 : Int) = (0 : Int)) ∧ True) ∧
                                    True) ∧
                                True) ∧
                            At
                              (aftInv backW steps { r := wr, w := ww, h := wh, c := wc, x := wx, y := wy, d := wd }
                                  (IntKind.wrap IntKind.i64 (Prod.fst a - (1 : Int)), backW (Prod.snd a)) ∧
                                Int.toNat (IntKind.wrap IntKind.i64 (Prod.fst a - (1 : Int))) <
                                  Int.toNat (Prod.fst a))) ∧
                      (decide (Prod.fst a > (0 : Int)) = false →
                        K
                          (V.tup
                            [V.agg
                                [V.str (Wd.r (Prod.snd a)), V.int IntKind.i64 (Wd.w (Prod.snd a)),
                                  V.int IntKind.i64 (Wd.h (Prod.snd a)), V.str (Wd.c (Prod.snd a)),
                                  V.int IntKind.i64 (Wd.x (Prod.snd a)), V.int IntKind.i64 (Wd.y (Prod.snd a)),
                                  V.int IntKind.i64 (Wd.d (Prod.snd a))],
                              V.lit true])))) ∧
    (goodB { r := wr, w := ww, h := wh, c := wc, x := wx, y := wy, d := wd } = false →
      K
        (V.tup
          [V.agg
              [V.str (Array.toList #[]), V.int IntKind.i64 (0 : Int), V.int IntKind.i64 (0 : Int),
                V.str (Array.toList #[]), V.int IntKind.i64 (0 : Int), V.int IntKind.i64 (0 : Int),
                V.int IntKind.i64 (0 : Int)],
            V.lit false]))

def VC_impl_WorldAfter (wr : List UInt8) (ww : Int) (wh : Int) (wc : List UInt8) (wx : Int) (wy : Int) (wd : Int) (steps : Int) (K : V → Prop) : Prop :=
  At True ∧
  ((!goodB { r := wr, w := ww, h := wh, c := wc, x := wx, y := wy, d := wd }) = true →
      K
        (V.tup
          [V.agg
              [V.str (Array.toList #[]), V.int IntKind.i64 (0 : Int), V.int IntKind.i64 (0 : Int),
                V.str (Array.toList #[]), V.int IntKind.i64 (0 : Int), V.int IntKind.i64 (0 : Int),
                V.int IntKind.i64 (0 : Int)],
            V.lit false])) ∧
    ((!goodB { r := wr, w := ww, h := wh, c := wc, x := wx, y := wy, d := wd }) = false →
      At True ∧
        ((!inB steps (0 : Int) (3000 : Int)) = true →
            K
              (V.tup
                [V.agg
                    [V.str (Array.toList #[]), V.int IntKind.i64 (0 : Int), V.int IntKind.i64 (0 : Int),
                      V.str (Array.toList #[]), V.int IntKind.i64 (0 : Int), V.int IntKind.i64 (0 : Int),
                      V.int IntKind.i64 (0 : Int)],
                  V.lit false])) ∧
          ((!inB steps (0 : Int) (3000 : Int)) = false →
            (((True ∧ steps = steps) ∧
                  ((24 : Nat) = (24 : Nat) ∧ nilN = nilN) ∧
                    ((0 : Nat) = (0 : Nat) ∧ (0 : Nat) = (0 : Nat)) ∧
                      ((1 : Nat) = (1 : Nat) ∧ (0 : Nat) = (0 : Nat)) ∧
                        ((2 : Nat) = (2 : Nat) ∧ (0 : Nat) = (0 : Nat)) ∧ (True ∧ (1 : Int) = (1 : Int)) ∧ True) ∧
                ((True ∧
                      wr = wr ∧
                        (True ∧ ww = ww) ∧
                          (True ∧ wh = wh) ∧ wc = wc ∧ (True ∧ wx = wx) ∧ (True ∧ wy = wy) ∧ (True ∧ wd = wd) ∧ True) ∧
                    (True ∧
                        nilB = nilB ∧
                          (True ∧ (0 : Int) = (0 : Int)) ∧
                            (True ∧ (0 : Int) = (0 : Int)) ∧
                              nilB = nilB ∧
                                (True ∧ (0 : Int) = (0 : Int)) ∧
                                  (True ∧ (0 : Int) = (0 : Int)) ∧ (True ∧ (0 : Int) = (0 : Int)) ∧ True) ∧
                      (True ∧
                          wr = Wd.r { r := wr, w := ww, h := wh, c := wc, x := wx, y := wy, d := wd } ∧
                            (True ∧ ww = Wd.w { r := wr, w := ww, h := wh, c := wc, x := wx, y := wy, d := wd }) ∧
                              (True ∧ wh = Wd.h { r := wr, w := ww, h := wh, c := wc, x := wx, y := wy, d := wd }) ∧
                                wc = Wd.c { r := wr, w := ww, h := wh, c := wc, x := wx, y := wy, d := wd } ∧
                                  (True ∧ wx = Wd.x { r := wr, w := ww, h := wh, c := wc, x := wx, y := wy, d := wd }) ∧
                                    (True ∧
                                        wy = Wd.y { r := wr, w := ww, h := wh, c := wc, x := wx, y := wy, d := wd }) ∧
                                      (True ∧
                                          wd = Wd.d { r := wr, w := ww, h := wh, c := wc, x := wx, y := wy, d := wd }) ∧
                                        True) ∧
                        True) ∧
                  True) ∧
              At
                  (ledInv (stepBy (24 : Nat)) steps { r := wr, w := ww, h := wh, c := wc, x := wx, y := wy, d := wd }
                    { s := steps, k := (1 : Int),
                      v := { r := wr, w := ww, h := wh, c := wc, x := wx, y := wy, d := wd } }) ∧
                ∀ (a : Led),
                  ledInv (stepBy (24 : Nat)) steps { r := wr, w := ww, h := wh, c := wc, x := wx, y := wy, d := wd } a →
                    (decide (Led.k a ≤ Led.s a) = true →
                        At (goodB (Led.v a) = true) ∧
                          ((Wd.r (stepW (Led.v a)) == wr &&
                                  (Wd.w (stepW (Led.v a)) == ww &&
                                    (Wd.h (stepW (Led.v a)) == wh &&
                                      (Wd.c (stepW (Led.v a)) == wc &&
                                        (Wd.x (stepW (Led.v a)) == wx &&
                                          (Wd.y (stepW (Led.v a)) == wy &&
                                            (Wd.d (stepW (Led.v a)) == wd && true))))))) =
                                true →
                              At (Led.k a ≠ (0 : Int)) ∧
                                (((True ∧
                                        IntKind.wrap IntKind.i64
                                            (Led.k a +
                                              Int.tmod (IntKind.wrap IntKind.i64 (Led.s a - Led.k a)) (Led.k a)) =
                                          IntKind.wrap IntKind.i64
                                            (Led.k a +
                                              Int.tmod (IntKind.wrap IntKind.i64 (Led.s a - Led.k a)) (Led.k a))) ∧
                                      ((24 : Nat) = (24 : Nat) ∧ nilN = nilN) ∧
                                        ((0 : Nat) = (0 : Nat) ∧ (0 : Nat) = (0 : Nat)) ∧
                                          ((1 : Nat) = (1 : Nat) ∧ (0 : Nat) = (0 : Nat)) ∧
                                            ((2 : Nat) = (2 : Nat) ∧ (0 : Nat) = (0 : Nat)) ∧
                                              (True ∧
                                                  IntKind.wrap IntKind.i64 (Led.k a + (1 : Int)) =
                                                    IntKind.wrap IntKind.i64 (Led.k a + (1 : Int))) ∧
                                                True) ∧
                                    ((True ∧
                                          wr = wr ∧
                                            (True ∧ ww = ww) ∧
                                              (True ∧ wh = wh) ∧
                                                wc = wc ∧
                                                  (True ∧ wx = wx) ∧ (True ∧ wy = wy) ∧ (True ∧ wd = wd) ∧ True) ∧
                                        (True ∧
                                            nilB = nilB ∧
                                              (True ∧ (0 : Int) = (0 : Int)) ∧
                                                (True ∧ (0 : Int) = (0 : Int)) ∧
                                                  nilB = nilB ∧
                                                    (True ∧ (0 : Int) = (0 : Int)) ∧
                                                      (True ∧ (0 : Int) = (0 : Int)) ∧
                                                        (True ∧ (0 : Int) = (0 : Int)) ∧ True) ∧
                                          (True ∧
                                              Wd.r (stepW (Led.v a)) = Wd.r (stepW (Led.v a)) ∧
                                                (True ∧ Wd.w (stepW (Led.v a)) = Wd.w (stepW (Led.v a))) ∧
                                                  (True ∧ Wd.h (stepW (Led.v a)) = Wd.h (stepW (Led.v a))) ∧
                                                    Wd.c (stepW (Led.v a)) = Wd.c (stepW (Led.v a)) ∧
                                                      (True ∧ Wd.x (stepW (Led.v a)) = Wd.x (stepW (Led.v a))) ∧
                                                        (True ∧ Wd.y (stepW (Led.v a)) = Wd.y (stepW (Led.v a))) ∧
                                                          (True ∧ Wd.d (stepW (Led.v a)) = Wd.d (stepW (Led.v a))) ∧
                                                            True) ∧
                                            True) ∧
                                      True) ∧
                                  At
                                    (ledInv (stepBy (24 : Nat)) steps
                                        { r := wr, w := ww, h := wh, c := wc, x := wx, y := wy, d := wd }
                                        {
                                          s :=
                                            IntKind.wrap IntKind.i64
                                              (Led.k a +
                                                Int.tmod (IntKind.wrap IntKind.i64 (Led.s a - Led.k a)) (Led.k a)),
                                          k := IntKind.wrap IntKind.i64 (Led.k a + (1 : Int)), v := stepW (Led.v a) } ∧
                                      Int.toNat
                                          (IntKind.wrap IntKind.i64
                                                (Led.k a +
                                                  Int.tmod (IntKind.wrap IntKind.i64 (Led.s a - Led.k a)) (Led.k a)) -
                                              IntKind.wrap IntKind.i64 (Led.k a + (1 : Int)) +
                                            (1 : Int)) <
                                        Int.toNat (Led.s a - Led.k a + (1 : Int)))) ∧
                            ((Wd.r (stepW (Led.v a)) == wr &&
                                  (Wd.w (stepW (Led.v a)) == ww &&
                                    (Wd.h (stepW (Led.v a)) == wh &&
                                      (Wd.c (stepW (Led.v a)) == wc &&
                                        (Wd.x (stepW (Led.v a)) == wx &&
                                          (Wd.y (stepW (Led.v a)) == wy &&
                                            (Wd.d (stepW (Led.v a)) == wd && true))))))) =
                                false →
                              (((True ∧ Led.s a = Led.s a) ∧
                                    ((24 : Nat) = (24 : Nat) ∧ nilN = nilN) ∧
                                      ((0 : Nat) = (0 : Nat) ∧ (0 : Nat) = (0 : Nat)) ∧
                                        ((1 : Nat) = (1 : Nat) ∧ (0 : Nat) = (0 : Nat)) ∧
                                          ((2 : Nat) = (2 : Nat) ∧ (0 : Nat) = (0 : Nat)) ∧
                                            (True ∧
                                                IntKind.wrap IntKind.i64 (Led.k a + (1 : Int)) =
                                                  IntKind.wrap IntKind.i64 (Led.k a + (1 : Int))) ∧
                                              True) ∧
                                  ((True ∧
                                        wr = wr ∧
                                          (True ∧ ww = ww) ∧
                                            (True ∧ wh = wh) ∧
                                              wc = wc ∧ (True ∧ wx = wx) ∧ (True ∧ wy = wy) ∧ (True ∧ wd = wd) ∧ True) ∧
                                      (True ∧
                                          nilB = nilB ∧
                                            (True ∧ (0 : Int) = (0 : Int)) ∧
                                              (True ∧ (0 : Int) = (0 : Int)) ∧
                                                nilB = nilB ∧
                                                  (True ∧ (0 : Int) = (0 : Int)) ∧
                                                    (True ∧ (0 : Int) = (0 : Int)) ∧
                                                      (True ∧ (0 : Int) = (0 : Int)) ∧ True) ∧
                                        (True ∧
                                            Wd.r (stepW (Led.v a)) = Wd.r (stepW (Led.v a)) ∧
                                              (True ∧ Wd.w (stepW (Led.v a)) = Wd.w (stepW (Led.v a))) ∧
                                                (True ∧ Wd.h (stepW (Led.v a)) = Wd.h (stepW (Led.v a))) ∧
                                                  Wd.c (stepW (Led.v a)) = Wd.c (stepW (Led.v a)) ∧
                                                    (True ∧ Wd.x (stepW (Led.v a)) = Wd.x (stepW (Led.v a))) ∧
                                                      (True ∧ Wd.y (stepW (Led.v a)) = Wd.y (stepW (Led.v a))) ∧
                                                        (True ∧ Wd.d (stepW (Led.v a)) = Wd.d (stepW (Led.v a))) ∧
                                                          True) ∧
                                          True) ∧
                                    True) ∧
                                At
                                  (ledInv (stepBy (24 : Nat)) steps
                                      { r := wr, w := ww, h := wh, c := wc, x := wx, y := wy, d := wd }
                                      { s := Led.s a, k := IntKind.wrap IntKind.i64 (Led.k a + (1 : Int)),
                                        v := stepW (Led.v a) } ∧
                                    Int.toNat (Led.s a - IntKind.wrap IntKind.i64 (Led.k a + (1 : Int)) + (1 : Int)) <
                                      Int.toNat (Led.s a - Led.k a + (1 : Int))))) ∧
                      (decide (Led.k a ≤ Led.s a) = false →
                        K
                          (V.tup
                            [V.agg
                                [V.str (Wd.r (Led.v a)), V.int IntKind.i64 (Wd.w (Led.v a)),
                                  V.int IntKind.i64 (Wd.h (Led.v a)), V.str (Wd.c (Led.v a)),
                                  V.int IntKind.i64 (Wd.x (Led.v a)), V.int IntKind.i64 (Wd.y (Led.v a)),
                                  V.int IntKind.i64 (Wd.d (Led.v a))],
                              V.lit true]))))

def VC_impl_WorldBefore (wr : List UInt8) (ww : Int) (wh : Int) (wc : List UInt8) (wx : Int) (wy : Int) (wd : Int) (steps : Int) (K : V → Prop) : Prop :=
  At True ∧
  ((!goodB { r := wr, w := ww, h := wh, c := wc, x := wx, y := wy, d := wd }) = true →
      K
        (V.tup
          [V.agg
              [V.str (Array.toList #[]), V.int IntKind.i64 (0 : Int), V.int IntKind.i64 (0 : Int),
                V.str (Array.toList #[]), V.int IntKind.i64 (0 : Int), V.int IntKind.i64 (0 : Int),
                V.int IntKind.i64 (0 : Int)],
            V.lit false])) ∧
    ((!goodB { r := wr, w := ww, h := wh, c := wc, x := wx, y := wy, d := wd }) = false →
      At True ∧
        ((!inB steps (0 : Int) (3000 : Int)) = true →
            K
              (V.tup
                [V.agg
                    [V.str (Array.toList #[]), V.int IntKind.i64 (0 : Int), V.int IntKind.i64 (0 : Int),
                      V.str (Array.toList #[]), V.int IntKind.i64 (0 : Int), V.int IntKind.i64 (0 : Int),
                      V.int IntKind.i64 (0 : Int)],
                  V.lit false])) ∧
          ((!inB steps (0 : Int) (3000 : Int)) = false →
            (((True ∧ steps = steps) ∧
                  ((26 : Nat) = (26 : Nat) ∧ nilN = nilN) ∧
                    ((0 : Nat) = (0 : Nat) ∧ (0 : Nat) = (0 : Nat)) ∧
                      ((1 : Nat) = (1 : Nat) ∧ (0 : Nat) = (0 : Nat)) ∧
                        ((2 : Nat) = (2 : Nat) ∧ (0 : Nat) = (0 : Nat)) ∧ (True ∧ (1 : Int) = (1 : Int)) ∧ True) ∧
                ((True ∧
                      wr = wr ∧
                        (True ∧ ww = ww) ∧
                          (True ∧ wh = wh) ∧ wc = wc ∧ (True ∧ wx = wx) ∧ (True ∧ wy = wy) ∧ (True ∧ wd = wd) ∧ True) ∧
                    (True ∧
                        nilB = nilB ∧
                          (True ∧ (0 : Int) = (0 : Int)) ∧
                            (True ∧ (0 : Int) = (0 : Int)) ∧
                              nilB = nilB ∧
                                (True ∧ (0 : Int) = (0 : Int)) ∧
                                  (True ∧ (0 : Int) = (0 : Int)) ∧ (True ∧ (0 : Int) = (0 : Int)) ∧ True) ∧
                      (True ∧
                          wr = Wd.r { r := wr, w := ww, h := wh, c := wc, x := wx, y := wy, d := wd } ∧
                            (True ∧ ww = Wd.w { r := wr, w := ww, h := wh, c := wc, x := wx, y := wy, d := wd }) ∧
                              (True ∧ wh = Wd.h { r := wr, w := ww, h := wh, c := wc, x := wx, y := wy, d := wd }) ∧
                                wc = Wd.c { r := wr, w := ww, h := wh, c := wc, x := wx, y := wy, d := wd } ∧
                                  (True ∧ wx = Wd.x { r := wr, w := ww, h := wh, c := wc, x := wx, y := wy, d := wd }) ∧
                                    (True ∧
                                        wy = Wd.y { r := wr, w := ww, h := wh, c := wc, x := wx, y := wy, d := wd }) ∧
                                      (True ∧
                                          wd = Wd.d { r := wr, w := ww, h := wh, c := wc, x := wx, y := wy, d := wd }) ∧
                                        True) ∧
                        True) ∧
                  True) ∧
              At
                  (ledInv (stepBy (26 : Nat)) steps { r := wr, w := ww, h := wh, c := wc, x := wx, y := wy, d := wd }
                    { s := steps, k := (1 : Int),
                      v := { r := wr, w := ww, h := wh, c := wc, x := wx, y := wy, d := wd } }) ∧
                ∀ (a : Led),
                  ledInv (stepBy (26 : Nat)) steps { r := wr, w := ww, h := wh, c := wc, x := wx, y := wy, d := wd } a →
                    (decide (Led.k a ≤ Led.s a) = true →
                        At (goodB (Led.v a) = true) ∧
                          ((Wd.r (backW (Led.v a)) == wr &&
                                  (Wd.w (backW (Led.v a)) == ww &&
                                    (Wd.h (backW (Led.v a)) == wh &&
                                      (Wd.c (backW (Led.v a)) == wc &&
                                        (Wd.x (backW (Led.v a)) == wx &&
                                          (Wd.y (backW (Led.v a)) == wy &&
                                            (Wd.d (backW (Led.v a)) == wd && true))))))) =
                                true →
                              At (Led.k a ≠ (0 : Int)) ∧
                                (((True ∧
                                        IntKind.wrap IntKind.i64
                                            (Led.k a +
                                              Int.tmod (IntKind.wrap IntKind.i64 (Led.s a - Led.k a)) (Led.k a)) =
                                          IntKind.wrap IntKind.i64
                                            (Led.k a +
                                              Int.tmod (IntKind.wrap IntKind.i64 (Led.s a - Led.k a)) (Led.k a))) ∧
                                      ((26 : Nat) = (26 : Nat) ∧ nilN = nilN) ∧
                                        ((0 : Nat) = (0 : Nat) ∧ (0 : Nat) = (0 : Nat)) ∧
                                          ((1 : Nat) = (1 : Nat) ∧ (0 : Nat) = (0 : Nat)) ∧
                                            ((2 : Nat) = (2 : Nat) ∧ (0 : Nat) = (0 : Nat)) ∧
                                              (True ∧
                                                  IntKind.wrap IntKind.i64 (Led.k a + (1 : Int)) =
                                                    IntKind.wrap IntKind.i64 (Led.k a + (1 : Int))) ∧
                                                True) ∧
                                    ((True ∧
                                          wr = wr ∧
                                            (True ∧ ww = ww) ∧
                                              (True ∧ wh = wh) ∧
                                                wc = wc ∧
                                                  (True ∧ wx = wx) ∧ (True ∧ wy = wy) ∧ (True ∧ wd = wd) ∧ True) ∧
                                        (True ∧
                                            nilB = nilB ∧
                                              (True ∧ (0 : Int) = (0 : Int)) ∧
                                                (True ∧ (0 : Int) = (0 : Int)) ∧
                                                  nilB = nilB ∧
                                                    (True ∧ (0 : Int) = (0 : Int)) ∧
                                                      (True ∧ (0 : Int) = (0 : Int)) ∧
                                                        (True ∧ (0 : Int) = (0 : Int)) ∧ True) ∧
                                          (True ∧
                                              Wd.r (backW (Led.v a)) = Wd.r (backW (Led.v a)) ∧
                                                (True ∧ Wd.w (backW (Led.v a)) = Wd.w (backW (Led.v a))) ∧
                                                  (True ∧ Wd.h (backW (Led.v a)) = Wd.h (backW (Led.v a))) ∧
                                                    Wd.c (backW (Led.v a)) = Wd.c (backW (Led.v a)) ∧
                                                      (True ∧ Wd.x (backW (Led.v a)) = Wd.x (backW (Led.v a))) ∧
                                                        (True ∧ Wd.y (backW (Led.v a)) = Wd.y (backW (Led.v a))) ∧
                                                          (True ∧ Wd.d (backW (Led.v a)) = Wd.d (backW (Led.v a))) ∧
                                                            True) ∧
                                            True) ∧
                                      True) ∧
                                  At
                                    (ledInv (stepBy (26 : Nat)) steps
                                        { r := wr, w := ww, h := wh, c := wc, x := wx, y := wy, d := wd }
                                        {
                                          s :=
                                            IntKind.wrap IntKind.i64
                                              (Led.k a +
                                                Int.tmod (IntKind.wrap IntKind.i64 (Led.s a - Led.k a)) (Led.k a)),
                                          k := IntKind.wrap IntKind.i64 (Led.k a + (1 : Int)), v := backW (Led.v a) } ∧
                                      Int.toNat
                                          (IntKind.wrap IntKind.i64
                                                (Led.k a +
                                                  Int.tmod (IntKind.wrap IntKind.i64 (Led.s a - Led.k a)) (Led.k a)) -
                                              IntKind.wrap IntKind.i64 (Led.k a + (1 : Int)) +
                                            (1 : Int)) <
                                        Int.toNat (Led.s a - Led.k a + (1 : Int)))) ∧
                            ((Wd.r (backW (Led.v a)) == wr &&
                                  (Wd.w (backW (Led.v a)) == ww &&
                                    (Wd.h (backW (Led.v a)) == wh &&
                                      (Wd.c (backW (Led.v a)) == wc &&
                                        (Wd.x (backW (Led.v a)) == wx &&
                                          (Wd.y (backW (Led.v a)) == wy &&
                                            (Wd.d (backW (Led.v a)) == wd && true))))))) =
                                false →
                              (((True ∧ Led.s a = Led.s a) ∧
                                    ((26 : Nat) = (26 : Nat) ∧ nilN = nilN) ∧
                                      ((0 : Nat) = (0 : Nat) ∧ (0 : Nat) = (0 : Nat)) ∧
                                        ((1 : Nat) = (1 : Nat) ∧ (0 : Nat) = (0 : Nat)) ∧
                                          ((2 : Nat) = (2 : Nat) ∧ (0 : Nat) = (0 : Nat)) ∧
                                            (True ∧
                                                IntKind.wrap IntKind.i64 (Led.k a + (1 : Int)) =
                                                  IntKind.wrap IntKind.i64 (Led.k a + (1 : Int))) ∧
                                              True) ∧
                                  ((True ∧
                                        wr = wr ∧
                                          (True ∧ ww = ww) ∧
                                            (True ∧ wh = wh) ∧
                                              wc = wc ∧ (True ∧ wx = wx) ∧ (True ∧ wy = wy) ∧ (True ∧ wd = wd) ∧ True) ∧
                                      (True ∧
                                          nilB = nilB ∧
                                            (True ∧ (0 : Int) = (0 : Int)) ∧
                                              (True ∧ (0 : Int) = (0 : Int)) ∧
                                                nilB = nilB ∧
                                                  (True ∧ (0 : Int) = (0 : Int)) ∧
                                                    (True ∧ (0 : Int) = (0 : Int)) ∧
                                                      (True ∧ (0 : Int) = (0 : Int)) ∧ True) ∧
                                        (True ∧
                                            Wd.r (backW (Led.v a)) = Wd.r (backW (Led.v a)) ∧
                                              (True ∧ Wd.w (backW (Led.v a)) = Wd.w (backW (Led.v a))) ∧
                                                (True ∧ Wd.h (backW (Led.v a)) = Wd.h (backW (Led.v a))) ∧
                                                  Wd.c (backW (Led.v a)) = Wd.c (backW (Led.v a)) ∧
                                                    (True ∧ Wd.x (backW (Led.v a)) = Wd.x (backW (Led.v a))) ∧
                                                      (True ∧ Wd.y (backW (Led.v a)) = Wd.y (backW (Led.v a))) ∧
                                                        (True ∧ Wd.d (backW (Led.v a)) = Wd.d (backW (Led.v a))) ∧
                                                          True) ∧
                                          True) ∧
                                    True) ∧
                                At
                                  (ledInv (stepBy (26 : Nat)) steps
                                      { r := wr, w := ww, h := wh, c := wc, x := wx, y := wy, d := wd }
                                      { s := Led.s a, k := IntKind.wrap IntKind.i64 (Led.k a + (1 : Int)),
                                        v := backW (Led.v a) } ∧
                                    Int.toNat (Led.s a - IntKind.wrap IntKind.i64 (Led.k a + (1 : Int)) + (1 : Int)) <
                                      Int.toNat (Led.s a - Led.k a + (1 : Int))))) ∧
                      (decide (Led.k a ≤ Led.s a) = false →
                        K
                          (V.tup
                            [V.agg
                                [V.str (Wd.r (Led.v a)), V.int IntKind.i64 (Wd.w (Led.v a)),
                                  V.int IntKind.i64 (Wd.h (Led.v a)), V.str (Wd.c (Led.v a)),
                                  V.int IntKind.i64 (Wd.x (Led.v a)), V.int IntKind.i64 (Wd.y (Led.v a)),
                                  V.int IntKind.i64 (Wd.d (Led.v a))],
                              V.lit true]))))

def VC_spec_StepWorld (wr : List UInt8) (ww : Int) (wh : Int) (wc : List UInt8) (wx : Int) (wy : Int) (wd : Int) (K : V → Prop) : Prop :=
  At True ∧
  ((!goodB { r := wr, w := ww, h := wh, c := wc, x := wx, y := wy, d := wd }) = true →
      K
        (V.tup
          [V.agg
              [V.str (Array.toList #[]), V.int IntKind.i64 (0 : Int), V.int IntKind.i64 (0 : Int),
                V.str (Array.toList #[]), V.int IntKind.i64 (0 : Int), V.int IntKind.i64 (0 : Int),
                V.int IntKind.i64 (0 : Int)],
            V.lit false])) ∧
    ((!goodB { r := wr, w := ww, h := wh, c := wc, x := wx, y := wy, d := wd }) = false →
      At (goodB { r := wr, w := ww, h := wh, c := wc, x := wx, y := wy, d := wd } = true) ∧
        K
          (V.tup
            [V.agg
                [V.str (Wd.r (stepW { r := wr, w := ww, h := wh, c := wc, x := wx, y := wy, d := wd })),
                  V.int IntKind.i64 (Wd.w (stepW { r := wr, w := ww, h := wh, c := wc, x := wx, y := wy, d := wd })),
                  V.int IntKind.i64 (Wd.h (stepW { r := wr, w := ww, h := wh, c := wc, x := wx, y := wy, d := wd })),
                  V.str (Wd.c (stepW { r := wr, w := ww, h := wh, c := wc, x := wx, y := wy, d := wd })),
                  V.int IntKind.i64 (Wd.x (stepW { r := wr, w := ww, h := wh, c := wc, x := wx, y := wy, d := wd })),
                  V.int IntKind.i64 (Wd.y (stepW { r := wr, w := ww, h := wh, c := wc, x := wx, y := wy, d := wd })),
                  V.int IntKind.i64 (Wd.d (stepW { r := wr, w := ww, h := wh, c := wc, x := wx, y := wy, d := wd }))],
              V.lit true]))

def VC_impl_StepWorld (wr : List UInt8) (ww : Int) (wh : Int) (wc : List UInt8) (wx : Int) (wy : Int) (wd : Int) (K : V → Prop) : Prop :=
  At True ∧
  K
    (V.tup
      [V.agg
          [V.str
              (Wd.r
                (bif
                    goodB { r := wr, w := ww, h := wh, c := wc, x := wx, y := wy, d := wd } &&
                      inB (1 : Int) (0 : Int) (3000 : Int) then
                  iterW stepW (Int.toNat (1 : Int)) { r := wr, w := ww, h := wh, c := wc, x := wx, y := wy, d := wd }
                else zeroWd)),
            V.int IntKind.i64
              (Wd.w
                (bif
                    goodB { r := wr, w := ww, h := wh, c := wc, x := wx, y := wy, d := wd } &&
                      inB (1 : Int) (0 : Int) (3000 : Int) then
                  iterW stepW (Int.toNat (1 : Int)) { r := wr, w := ww, h := wh, c := wc, x := wx, y := wy, d := wd }
                else zeroWd)),
            V.int IntKind.i64
              (Wd.h
                (bif
                    goodB { r := wr, w := ww, h := wh, c := wc, x := wx, y := wy, d := wd } &&
                      inB (1 : Int) (0 : Int) (3000 : Int) then
                  iterW stepW (Int.toNat (1 : Int)) { r := wr, w := ww, h := wh, c := wc, x := wx, y := wy, d := wd }
                else zeroWd)),
            V.str
              (Wd.c
                (bif
                    goodB { r := wr, w := ww, h := wh, c := wc, x := wx, y := wy, d := wd } &&
                      inB (1 : Int) (0 : Int) (3000 : Int) then
                  iterW stepW (Int.toNat (1 : Int)) { r := wr, w := ww, h := wh, c := wc, x := wx, y := wy, d := wd }
                else zeroWd)),
            V.int IntKind.i64
              (Wd.x
                (bif
                    goodB { r := wr, w := ww, h := wh, c := wc, x := wx, y := wy, d := wd } &&
                      inB (1 : Int) (0 : Int) (3000 : Int) then
                  iterW stepW (Int.toNat (1 : Int)) { r := wr, w := ww, h := wh, c := wc, x := wx, y := wy, d := wd }
                else zeroWd)),
            V.int IntKind.i64
              (Wd.y
                (bif
                    goodB { r := wr, w := ww, h := wh, c := wc, x := wx, y := wy, d := wd } &&
                      inB (1 : Int) (0 : Int) (3000 : Int) then
                  iterW stepW (Int.toNat (1 : Int)) { r := wr, w := ww, h := wh, c := wc, x := wx, y := wy, d := wd }
                else zeroWd)),
            V.int IntKind.i64
              (Wd.d
                (bif
                    goodB { r := wr, w := ww, h := wh, c := wc, x := wx, y := wy, d := wd } &&
                      inB (1 : Int) (0 : Int) (3000 : Int) then
                  iterW stepW (Int.toNat (1 : Int)) { r := wr, w := ww, h := wh, c := wc, x := wx, y := wy, d := wd }
                else zeroWd))],
        V.bool
          (goodB { r := wr, w := ww, h := wh, c := wc, x := wx, y := wy, d := wd } &&
            inB (1 : Int) (0 : Int) (3000 : Int))])

def VC_spec_StepBack (wr : List UInt8) (ww : Int) (wh : Int) (wc : List UInt8) (wx : Int) (wy : Int) (wd : Int) (K : V → Prop) : Prop :=
  At True ∧
  ((!goodB { r := wr, w := ww, h := wh, c := wc, x := wx, y := wy, d := wd }) = true →
      K
        (V.tup
          [V.agg
              [V.str (Array.toList #[]), V.int IntKind.i64 (0 : Int), V.int IntKind.i64 (0 : Int),
                V.str (Array.toList #[]), V.int IntKind.i64 (0 : Int), V.int IntKind.i64 (0 : Int),
                V.int IntKind.i64 (0 : Int)],
            V.lit false])) ∧
    ((!goodB { r := wr, w := ww, h := wh, c := wc, x := wx, y := wy, d := wd }) = false →
      At (goodB { r := wr, w := ww, h := wh, c := wc, x := wx, y := wy, d := wd } = true) ∧
        K
          (V.tup
            [V.agg
                [V.str (Wd.r (backW { r := wr, w := ww, h := wh, c := wc, x := wx, y := wy, d := wd })),
                  V.int IntKind.i64 (Wd.w (backW { r := wr, w := ww, h := wh, c := wc, x := wx, y := wy, d := wd })),
                  V.int IntKind.i64 (Wd.h (backW { r := wr, w := ww, h := wh, c := wc, x := wx, y := wy, d := wd })),
                  V.str (Wd.c (backW { r := wr, w := ww, h := wh, c := wc, x := wx, y := wy, d := wd })),
                  V.int IntKind.i64 (Wd.x (backW { r := wr, w := ww, h := wh, c := wc, x := wx, y := wy, d := wd })),
                  V.int IntKind.i64 (Wd.y (backW { r := wr, w := ww, h := wh, c := wc, x := wx, y := wy, d := wd })),
                  V.int IntKind.i64 (Wd.d (backW { r := wr, w := ww, h := wh, c := wc, x := wx, y := wy, d := wd }))],
              V.lit true]))

def VC_impl_StepBack (wr : List UInt8) (ww : Int) (wh : Int) (wc : List UInt8) (wx : Int) (wy : Int) (wd : Int) (K : V → Prop) : Prop :=
  At True ∧
  K
    (V.tup
      [V.agg
          [V.str
              (Wd.r
                (bif
                    goodB { r := wr, w := ww, h := wh, c := wc, x := wx, y := wy, d := wd } &&
                      inB (1 : Int) (0 : Int) (3000 : Int) then
                  iterW backW (Int.toNat (1 : Int)) { r := wr, w := ww, h := wh, c := wc, x := wx, y := wy, d := wd }
                else zeroWd)),
            V.int IntKind.i64
              (Wd.w
                (bif
                    goodB { r := wr, w := ww, h := wh, c := wc, x := wx, y := wy, d := wd } &&
                      inB (1 : Int) (0 : Int) (3000 : Int) then
                  iterW backW (Int.toNat (1 : Int)) { r := wr, w := ww, h := wh, c := wc, x := wx, y := wy, d := wd }
                else zeroWd)),
            V.int IntKind.i64
              (Wd.h
                (bif
                    goodB { r := wr, w := ww, h := wh, c := wc, x := wx, y := wy, d := wd } &&
                      inB (1 : Int) (0 : Int) (3000 : Int) then
                  iterW backW (Int.toNat (1 : Int)) { r := wr, w := ww, h := wh, c := wc, x := wx, y := wy, d := wd }
                else zeroWd)),
            V.str
              (Wd.c
                (bif
                    goodB { r := wr, w := ww, h := wh, c := wc, x := wx, y := wy, d := wd } &&
                      inB (1 : Int) (0 : Int) (3000 : Int) then
                  iterW backW (Int.toNat (1 : Int)) { r := wr, w := ww, h := wh, c := wc, x := wx, y := wy, d := wd }
                else zeroWd)),
            V.int IntKind.i64
              (Wd.x
                (bif
                    goodB { r := wr, w := ww, h := wh, c := wc, x := wx, y := wy, d := wd } &&
                      inB (1 : Int) (0 : Int) (3000 : Int) then
                  iterW backW (Int.toNat (1 : Int)) { r := wr, w := ww, h := wh, c := wc, x := wx, y := wy, d := wd }
                else zeroWd)),
            V.int IntKind.i64
              (Wd.y
                (bif
                    goodB { r := wr, w := ww, h := wh, c := wc, x := wx, y := wy, d := wd } &&
                      inB (1 : Int) (0 : Int) (3000 : Int) then
                  iterW backW (Int.toNat (1 : Int)) { r := wr, w := ww, h := wh, c := wc, x := wx, y := wy, d := wd }
                else zeroWd)),
            V.int IntKind.i64
              (Wd.d
                (bif
                    goodB { r := wr, w := ww, h := wh, c := wc, x := wx, y := wy, d := wd } &&
                      inB (1 : Int) (0 : Int) (3000 : Int) then
                  iterW backW (Int.toNat (1 : Int)) { r := wr, w := ww, h := wh, c := wc, x := wx, y := wy, d := wd }
                else zeroWd))],
        V.bool
          (goodB { r := wr, w := ww, h := wh, c := wc, x := wx, y := wy, d := wd } &&
            inB (1 : Int) (0 : Int) (3000 : Int))])

end Go.Vi
