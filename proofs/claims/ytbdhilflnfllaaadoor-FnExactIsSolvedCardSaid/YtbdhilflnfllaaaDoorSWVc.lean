/- The conditions, reckoned out by program: texts alone. -/
import Derived.Test.YtbdhilflnfllaaaDoorSWDefs
namespace Go.Vi
set_option linter.unusedVariables false
def VC_spec_l1Mod (n : Int) (m : Int) (K : V → Prop) : Prop :=
  At (m ≠ (0 : Int)) ∧
  At (m ≠ (0 : Int)) ∧ K (V.int IntKind.i64 (Int.tmod (IntKind.wrap IntKind.i64 (Int.tmod n m + m)) m))

def VC_spec_woTurn (b : Int) (K : V → Prop) : Prop :=
  ((b == (82 : Int)) = true → K (V.int IntKind.i64 (1 : Int))) ∧
  ((b == (82 : Int)) = false →
    ((b == (85 : Int)) = true → K (V.int IntKind.i64 (2 : Int))) ∧
      ((b == (85 : Int)) = false →
        ((b == (76 : Int)) = true → K (V.int IntKind.i64 (3 : Int))) ∧
          ((b == (76 : Int)) = false → K (V.int IntKind.i64 (0 : Int)))))

def VC_impl_quarters (b : Int) (K : V → Prop) : Prop :=
  ((b == (82 : Int)) = true → K (V.int IntKind.i64 (1 : Int))) ∧
  ((b == (82 : Int)) = false →
    ((b == (85 : Int)) = true → K (V.int IntKind.i64 (2 : Int))) ∧
      ((b == (85 : Int)) = false →
        ((b == (76 : Int)) = true → K (V.int IntKind.i64 (3 : Int))) ∧
          ((b == (76 : Int)) = false → K (V.int IntKind.i64 (0 : Int)))))

def VC_impl_direction (d : Int) (K : V → Prop) : Prop :=
  ((d == (0 : Int)) = true → K (V.tup [V.int IntKind.i64 (0 : Int), V.int IntKind.i64 (-1 : Int)])) ∧
  ((d == (0 : Int)) = false →
    ((d == (1 : Int)) = true → K (V.tup [V.int IntKind.i64 (1 : Int), V.int IntKind.i64 (0 : Int)])) ∧
      ((d == (1 : Int)) = false →
        ((d == (2 : Int)) = true → K (V.tup [V.int IntKind.i64 (0 : Int), V.int IntKind.i64 (1 : Int)])) ∧
          ((d == (2 : Int)) = false → K (V.tup [V.int IntKind.i64 (-1 : Int), V.int IntKind.i64 (0 : Int)]))))

def VC_impl_board_sign (wr : List UInt8) (ww : Int) (wh : Int) (wc : List UInt8) (wx : Int) (wy : Int) (wd : Int) (K : V → Prop) : Prop :=
  True ∧
  At
      (goodB { r := wr, w := ww, h := wh, c := wc, x := wx, y := wy, d := wd } = true ∧
        hasB { r := wr, w := ww, h := wh, c := wc, x := wx, y := wy, d := wd } wx wy = true) ∧
    At
        ((0 : Int) ≤ colAt { r := wr, w := ww, h := wh, c := wc, x := wx, y := wy, d := wd } wx wy ∧
          colAt { r := wr, w := ww, h := wh, c := wc, x := wx, y := wy, d := wd } wx wy < (↑(List.length wr) : Int)) ∧
      K
        (V.int IntKind.u8
          (↑(UInt8.toNat
                (List.getD wr
                  (Int.toNat (colAt { r := wr, w := ww, h := wh, c := wc, x := wx, y := wy, d := wd } wx wy))
                  (0 : UInt8))) :
            Int))

def VC_impl_board_painted (wr : List UInt8) (ww : Int) (wh : Int) (wc : List UInt8) (wx : Int) (wy : Int) (wd : Int) (x : Int) (y : Int) (k : Int) (K : V → Prop) : Prop :=
  True ∧
  At
      ((0 : Int) ≤ IntKind.wrap IntKind.i64 (IntKind.wrap IntKind.i64 (y * ww) + x) ∧
        IntKind.wrap IntKind.i64 (IntKind.wrap IntKind.i64 (y * ww) + x) ≤ (↑(List.length wc) : Int)) ∧
    At ((0 : Int) ≤ k ∧ k ≤ (9 : Int)) ∧
      At
          (List.length (List.take (Int.toNat (IntKind.wrap IntKind.i64 (IntKind.wrap IntKind.i64 (y * ww) + x))) wc) +
              List.length (num1 k) ≤
            (9223372036854775807 : Nat)) ∧
        At
            ((0 : Int) ≤
                IntKind.wrap IntKind.i64
                  (IntKind.wrap IntKind.i64 (IntKind.wrap IntKind.i64 (y * ww) + x) + (1 : Int)) ∧
              IntKind.wrap IntKind.i64 (IntKind.wrap IntKind.i64 (IntKind.wrap IntKind.i64 (y * ww) + x) + (1 : Int)) ≤
                (↑(List.length wc) : Int)) ∧
          At
              (List.length
                    (List.take (Int.toNat (IntKind.wrap IntKind.i64 (IntKind.wrap IntKind.i64 (y * ww) + x))) wc ++
                      num1 k) +
                  List.length
                    (List.drop
                      (Int.toNat
                        (IntKind.wrap IntKind.i64
                          (IntKind.wrap IntKind.i64 (IntKind.wrap IntKind.i64 (y * ww) + x) + (1 : Int))))
                      wc) ≤
                (9223372036854775807 : Nat)) ∧
            K
              (V.agg
                [V.str wr, V.int IntKind.i64 ww, V.int IntKind.i64 wh,
                  V.str
                    (List.take (Int.toNat (IntKind.wrap IntKind.i64 (IntKind.wrap IntKind.i64 (y * ww) + x))) wc ++
                        num1 k ++
                      List.drop
                        (Int.toNat
                          (IntKind.wrap IntKind.i64
                            (IntKind.wrap IntKind.i64 (IntKind.wrap IntKind.i64 (y * ww) + x) + (1 : Int))))
                        wc),
                  V.int IntKind.i64 wx, V.int IntKind.i64 wy, V.int IntKind.i64 wd])

def VC_impl_board_turned (wr : List UInt8) (ww : Int) (wh : Int) (wc : List UInt8) (wx : Int) (wy : Int) (wd : Int) (q : Int) (K : V → Prop) : Prop :=
  At ((4 : Int) ≠ (0 : Int)) ∧
  K
    (V.agg
      [V.str wr, V.int IntKind.i64 ww, V.int IntKind.i64 wh, V.str wc, V.int IntKind.i64 wx, V.int IntKind.i64 wy,
        V.int IntKind.i64 (Int.tmod (IntKind.wrap IntKind.i64 (wd + q)) (4 : Int))])

def VC_impl_board_moved (wr : List UInt8) (ww : Int) (wh : Int) (wc : List UInt8) (wx : Int) (wy : Int) (wd : Int) (k : Int) (K : V → Prop) : Prop :=
  At True ∧
  At (ww ≠ (0 : Int)) ∧
    At (wh ≠ (0 : Int)) ∧
      K
        (V.agg
          [V.str wr, V.int IntKind.i64 ww, V.int IntKind.i64 wh, V.str wc,
            V.int IntKind.i64
              (Int.tmod
                (IntKind.wrap IntKind.i64 (IntKind.wrap IntKind.i64 (wx + IntKind.wrap IntKind.i64 (k * dirX wd)) + ww))
                ww),
            V.int IntKind.i64
              (Int.tmod
                (IntKind.wrap IntKind.i64 (IntKind.wrap IntKind.i64 (wy + IntKind.wrap IntKind.i64 (k * dirY wd)) + wh))
                wh),
            V.int IntKind.i64 wd])

def VC_spec_woPaint (x : Int) (y : Int) (k : Int) (wr : List UInt8) (ww : Int) (wh : Int) (wc : List UInt8) (wx : Int) (wy : Int) (wd : Int) (e : TypeId) (K : V → List Blk → Prop) : Prop :=
  True ∧
  At
      ((0 : Int) ≤ IntKind.wrap IntKind.i64 (IntKind.wrap IntKind.i64 (y * ww) + x) ∧
        IntKind.wrap IntKind.i64 (IntKind.wrap IntKind.i64 (y * ww) + x) ≤ (↑(List.length wc) : Int)) ∧
    At ((0 : Int) ≤ k ∧ k ≤ (9 : Int)) ∧
      At
          (List.length (List.take (Int.toNat (IntKind.wrap IntKind.i64 (IntKind.wrap IntKind.i64 (y * ww) + x))) wc) +
              List.length (num1 k) ≤
            (9223372036854775807 : Nat)) ∧
        At
            ((0 : Int) ≤
                IntKind.wrap IntKind.i64
                  (IntKind.wrap IntKind.i64 (IntKind.wrap IntKind.i64 (y * ww) + x) + (1 : Int)) ∧
              IntKind.wrap IntKind.i64 (IntKind.wrap IntKind.i64 (IntKind.wrap IntKind.i64 (y * ww) + x) + (1 : Int)) ≤
                (↑(List.length wc) : Int)) ∧
          At
              (List.length
                    (List.take (Int.toNat (IntKind.wrap IntKind.i64 (IntKind.wrap IntKind.i64 (y * ww) + x))) wc ++
                      num1 k) +
                  List.length
                    (List.drop
                      (Int.toNat
                        (IntKind.wrap IntKind.i64
                          (IntKind.wrap IntKind.i64 (IntKind.wrap IntKind.i64 (y * ww) + x) + (1 : Int))))
                      wc) ≤
                (9223372036854775807 : Nat)) ∧
            K (V.tup [])
              [{
                  cs :=
                    Cells.vals
                      [V.str wr, V.int IntKind.i64 ww, V.int IntKind.i64 wh,
                        V.str
                          (List.take (Int.toNat (IntKind.wrap IntKind.i64 (IntKind.wrap IntKind.i64 (y * ww) + x)))
                                wc ++
                              num1 k ++
                            List.drop
                              (Int.toNat
                                (IntKind.wrap IntKind.i64
                                  (IntKind.wrap IntKind.i64 (IntKind.wrap IntKind.i64 (y * ww) + x) + (1 : Int))))
                              wc),
                        V.int IntKind.i64 wx, V.int IntKind.i64 wy, V.int IntKind.i64 wd],
                  elem := e, kind := Kind.box }]

def VC_spec_woGo (k : Int) (wr : List UInt8) (ww : Int) (wh : Int) (wc : List UInt8) (wx : Int) (wy : Int) (wd : Int) (e : TypeId) (K : V → List Blk → Prop) : Prop :=
  ((wd == (0 : Int)) = true →
    True ∧
      At
          ((1 : Int) ≤ wh ∧
            wh ≤ (1000 : Int) ∧
              (-1000000 : Int) ≤ IntKind.wrap IntKind.i64 (wy - k) ∧
                IntKind.wrap IntKind.i64 (wy - k) ≤ (1000000 : Int)) ∧
        K (V.tup [])
          [{
              cs :=
                Cells.vals
                  [V.str wr, V.int IntKind.i64 ww, V.int IntKind.i64 wh, V.str wc, V.int IntKind.i64 wx,
                    V.int IntKind.i64 (IntKind.wrap IntKind.i64 (wy - k) % wh), V.int IntKind.i64 wd],
              elem := e, kind := Kind.box }]) ∧
  ((wd == (0 : Int)) = false →
    ((wd == (1 : Int)) = true →
        True ∧
          At
              ((1 : Int) ≤ ww ∧
                ww ≤ (1000 : Int) ∧
                  (-1000000 : Int) ≤ IntKind.wrap IntKind.i64 (wx + k) ∧
                    IntKind.wrap IntKind.i64 (wx + k) ≤ (1000000 : Int)) ∧
            K (V.tup [])
              [{
                  cs :=
                    Cells.vals
                      [V.str wr, V.int IntKind.i64 ww, V.int IntKind.i64 wh, V.str wc,
                        V.int IntKind.i64 (IntKind.wrap IntKind.i64 (wx + k) % ww), V.int IntKind.i64 wy,
                        V.int IntKind.i64 wd],
                  elem := e, kind := Kind.box }]) ∧
      ((wd == (1 : Int)) = false →
        ((wd == (2 : Int)) = true →
            True ∧
              At
                  ((1 : Int) ≤ wh ∧
                    wh ≤ (1000 : Int) ∧
                      (-1000000 : Int) ≤ IntKind.wrap IntKind.i64 (wy + k) ∧
                        IntKind.wrap IntKind.i64 (wy + k) ≤ (1000000 : Int)) ∧
                K (V.tup [])
                  [{
                      cs :=
                        Cells.vals
                          [V.str wr, V.int IntKind.i64 ww, V.int IntKind.i64 wh, V.str wc, V.int IntKind.i64 wx,
                            V.int IntKind.i64 (IntKind.wrap IntKind.i64 (wy + k) % wh), V.int IntKind.i64 wd],
                      elem := e, kind := Kind.box }]) ∧
          ((wd == (2 : Int)) = false →
            True ∧
              At
                  ((1 : Int) ≤ ww ∧
                    ww ≤ (1000 : Int) ∧
                      (-1000000 : Int) ≤ IntKind.wrap IntKind.i64 (wx - k) ∧
                        IntKind.wrap IntKind.i64 (wx - k) ≤ (1000000 : Int)) ∧
                K (V.tup [])
                  [{
                      cs :=
                        Cells.vals
                          [V.str wr, V.int IntKind.i64 ww, V.int IntKind.i64 wh, V.str wc,
                            V.int IntKind.i64 (IntKind.wrap IntKind.i64 (wx - k) % ww), V.int IntKind.i64 wy,
                            V.int IntKind.i64 wd],
                      elem := e, kind := Kind.box }])))

def VC_spec_woStep (wr : List UInt8) (ww : Int) (wh : Int) (wc : List UInt8) (wx : Int) (wy : Int) (wd : Int) (K : V → Prop) : Prop := At (goodB { r := wr, w := ww, h := wh, c := wc, x := wx, y := wy, d := wd } 
  = true ∧ hasB { r := wr, w := ww, h := wh, c := wc, x := wx, y := wy, d := wd } wx wy = true) ∧ True ∧ At ((0 : Int) ≤ colAt { r := wr, w := ww, h := wh, c := wc, x := wx, y := wy, d := wd } 
  wx wy ∧ colAt { r := wr, w := ww, h := wh, c := wc, x := wx, y := wy, d := wd } wx wy < (↑(List.length wr) : Int)) ∧ At True ∧ At ((4 : Int) ≠ (0 : Int)) ∧ True ∧ At ((↑(List.length 
  wr) : Int) ≠ (0 : Int)) ∧ At (goodB { r := wr, w := ww, h := wh, c := wc, x := wx, y := wy, d := Int.tmod (IntKind.wrap IntKind.i64 (wd + turnI (↑(UInt8.toNat (List.getD wr (Int.toNat (colAt { r := wr, w := ww, h := wh, c := wc, x := wx, y := wy, d := wd } wx wy)) (0 : UInt8))) : Int))) (4 : Int) } 
  = true ∧ hasB { r := wr, w := ww, h := wh, c := wc, x := wx, y := wy, d := Int.tmod (IntKind.wrap IntKind.i64 (wd + turnI (↑(UInt8.toNat (List.getD wr (Int.toNat (colAt { r := wr, w := ww, h := wh, c := wc, x := wx, y := wy, d := wd } wx wy)) (0 : UInt8))) : Int))) (4 : Int) } 
  wx wy = true ∧ (0 : Int) ≤ Int.tmod (IntKind.wrap IntKind.i64 (colAt { r := wr, w := ww, h := wh, c := wc, x := wx, y := wy, d := wd } wx wy + (1 : Int))) (↑(List.length wr) : Int) 
  ∧ Int.tmod (IntKind.wrap IntKind.i64 (colAt { r := wr, w := ww, h := wh, c := wc, x := wx, y := wy, d := wd } wx wy + (1 : Int))) (↑(List.length wr) : Int) ≤ (9 : Int)) ∧ At (boxB (pntW 
  { r := wr, w := ww, h := wh, c := wc, x := wx, y := wy, d := Int.tmod (IntKind.wrap IntKind.i64 (wd + turnI (↑(UInt8.toNat (List.getD wr (Int.toNat (colAt { r := wr, w := ww, h := wh, c := wc, x := wx, y := wy, d := wd } wx wy)) (0 : UInt8))) : Int))) (4 : Int) } 
  wx wy (Int.tmod (IntKind.wrap IntKind.i64 (colAt { r := wr, w := ww, h := wh, c := wc, x := wx, y := wy, d := wd } wx wy + (1 : Int))) (↑(List.length wr) : Int))) = true ∧ ((1 : Int) 
  = (1 : Int) ∨ (1 : Int) = (-1 : Int))) ∧ K (V.agg [V.str (Wd.r (movW (pntW { r := wr, w := ww, h := wh, c := wc, x := wx, y := wy, d := Int.tmod (IntKind.wrap IntKind.i64 (wd + turnI (↑(UInt8.toNat (List.getD wr (Int.toNat (colAt { r := wr, w := ww, h := wh, c := wc, x := wx, y := wy, d := wd } wx wy)) (0 : UInt8))) : Int))) (4 : Int) } 
  wx wy (Int.tmod (IntKind.wrap IntKind.i64 (colAt { r := wr, w := ww, h := wh, c := wc, x := wx, y := wy, d := wd } wx wy + (1 : Int))) (↑(List.length wr) : Int))) (1 : Int))), V.int 
  IntKind.i64 (Wd.w (movW (pntW { r := wr, w := ww, h := wh, c := wc, x := wx, y := wy, d := Int.tmod (IntKind.wrap IntKind.i64 (wd + turnI (↑(UInt8.toNat (List.getD wr (Int.toNat (colAt { r := wr, w := ww, h := wh, c := wc, x := wx, y := wy, d := wd } wx wy)) (0 : UInt8))) : Int))) (4 : Int) } 
  wx wy (Int.tmod (IntKind.wrap IntKind.i64 (colAt { r := wr, w := ww, h := wh, c := wc, x := wx, y := wy, d := wd } wx wy + (1 : Int))) (↑(List.length wr) : Int))) (1 : Int))), V.int 
  IntKind.i64 (Wd.h (movW (pntW { r := wr, w := ww, h := wh, c := wc, x := wx, y := wy, d := Int.tmod (IntKind.wrap IntKind.i64 (wd + turnI (↑(UInt8.toNat (List.getD wr (Int.toNat (colAt { r := wr, w := ww, h := wh, c := wc, x := wx, y := wy, d := wd } wx wy)) (0 : UInt8))) : Int))) (4 : Int) } 
  wx wy (Int.tmod (IntKind.wrap IntKind.i64 (colAt { r := wr, w := ww, h := wh, c := wc, x := wx, y := wy, d := wd } wx wy + (1 : Int))) (↑(List.length wr) : Int))) (1 : Int))), V.str 
  (Wd.c (movW (pntW { r := wr, w := ww, h := wh, c := wc, x := wx, y := wy, d := Int.tmod (IntKind.wrap IntKind.i64 (wd + turnI (↑(UInt8.toNat (List.getD wr (Int.toNat (colAt { r := wr, w := ww, h := wh, c := wc, x := wx, y := wy, d := wd } wx wy)) (0 : UInt8))) : Int))) (4 : Int) } 
  wx wy (Int.tmod (IntKind.wrap IntKind.i64 (colAt { r := wr, w := ww, h := wh, c := wc, x := wx, y := wy, d := wd } wx wy + (1 : Int))) (↑(List.length wr) : Int))) (1 : Int))), V.int 
  IntKind.i64 (Wd.x (movW (pntW { r := wr, w := ww, h := wh, c := wc, x := wx, y := wy, d := Int.tmod (IntKind.wrap IntKind.i64 (wd + turnI (↑(UInt8.toNat (List.getD wr (Int.toNat (colAt { r := wr, w := ww, h := wh, c := wc, x := wx, y := wy, d := wd } wx wy)) (0 : UInt8))) : Int))) (4 : Int) } 
  wx wy (Int.tmod (IntKind.wrap IntKind.i64 (colAt { r := wr, w := ww, h := wh, c := wc, x := wx, y := wy, d := wd } wx wy + (1 : Int))) (↑(List.length wr) : Int))) (1 : Int))), V.int 
  IntKind.i64 (Wd.y (movW (pntW { r := wr, w := ww, h := wh, c := wc, x := wx, y := wy, d := Int.tmod (IntKind.wrap IntKind.i64 (wd + turnI (↑(UInt8.toNat (List.getD wr (Int.toNat (colAt { r := wr, w := ww, h := wh, c := wc, x := wx, y := wy, d := wd } wx wy)) (0 : UInt8))) : Int))) (4 : Int) } 
  wx wy (Int.tmod (IntKind.wrap IntKind.i64 (colAt { r := wr, w := ww, h := wh, c := wc, x := wx, y := wy, d := wd } wx wy + (1 : Int))) (↑(List.length wr) : Int))) (1 : Int))), V.int 
  IntKind.i64 (Wd.d (movW (pntW { r := wr, w := ww, h := wh, c := wc, x := wx, y := wy, d := Int.tmod (IntKind.wrap IntKind.i64 (wd + turnI (↑(UInt8.toNat (List.getD wr (Int.toNat (colAt { r := wr, w := ww, h := wh, c := wc, x := wx, y := wy, d := wd } wx wy)) (0 : UInt8))) : Int))) (4 : Int) } 
  wx wy (Int.tmod (IntKind.wrap IntKind.i64 (colAt { r := wr, w := ww, h := wh, c := wc, x := wx, y := wy, d := wd } wx wy + (1 : Int))) (↑(List.length wr) : Int))) (1 : Int)))])

def VC_impl_board_forth (wr : List UInt8) (ww : Int) (wh : Int) (wc : List UInt8) (wx : Int) (wy : Int) (wd : Int) (K : V → Prop) : Prop := At (goodB { r := wr, w := ww, h := wh, c := wc, x := wx, y := wy, d := wd } 
  = true ∧ hasB { r := wr, w := ww, h := wh, c := wc, x := wx, y := wy, d := wd } wx wy = true) ∧ At ((↑(List.length wr) : Int) ≠ (0 : Int)) ∧ True ∧ At (goodB { r := wr, w := ww, h := wh, c := wc, x := wx, y := wy, d := wd } 
  = true) ∧ At True ∧ At ((0 : Int) ≤ wd ∧ wd ≤ (3 : Int) ∧ (0 : Int) ≤ turnI (signAt { r := wr, w := ww, h := wh, c := wc, x := wx, y := wy, d := wd } (colAt { r := wr, w := ww, h := wh, c := wc, x := wx, y := wy, d := wd } 
  wx wy)) ∧ turnI (signAt { r := wr, w := ww, h := wh, c := wc, x := wx, y := wy, d := wd } (colAt { r := wr, w := ww, h := wh, c := wc, x := wx, y := wy, d := wd } wx wy)) ≤ (4 : Int)) 
  ∧ At (goodB (trnW { r := wr, w := ww, h := wh, c := wc, x := wx, y := wy, d := wd } (turnI (signAt { r := wr, w := ww, h := wh, c := wc, x := wx, y := wy, d := wd } (colAt { r := wr, w := ww, h := wh, c := wc, x := wx, y := wy, d := wd } 
  wx wy)))) = true ∧ hasB (trnW { r := wr, w := ww, h := wh, c := wc, x := wx, y := wy, d := wd } (turnI (signAt { r := wr, w := ww, h := wh, c := wc, x := wx, y := wy, d := wd } (colAt 
  { r := wr, w := ww, h := wh, c := wc, x := wx, y := wy, d := wd } wx wy)))) wx wy = true ∧ (0 : Int) ≤ Int.tmod (IntKind.wrap IntKind.i64 (colAt { r := wr, w := ww, h := wh, c := wc, x := wx, y := wy, d := wd } 
  wx wy + (1 : Int))) (↑(List.length wr) : Int) ∧ Int.tmod (IntKind.wrap IntKind.i64 (colAt { r := wr, w := ww, h := wh, c := wc, x := wx, y := wy, d := wd } wx wy + (1 : Int))) (↑(List.length 
  wr) : Int) ≤ (9 : Int)) ∧ At (boxB (pntW (trnW { r := wr, w := ww, h := wh, c := wc, x := wx, y := wy, d := wd } (turnI (signAt { r := wr, w := ww, h := wh, c := wc, x := wx, y := wy, d := wd } 
  (colAt { r := wr, w := ww, h := wh, c := wc, x := wx, y := wy, d := wd } wx wy)))) wx wy (Int.tmod (IntKind.wrap IntKind.i64 (colAt { r := wr, w := ww, h := wh, c := wc, x := wx, y := wy, d := wd } 
  wx wy + (1 : Int))) (↑(List.length wr) : Int))) = true ∧ ((1 : Int) = (1 : Int) ∨ (1 : Int) = (-1 : Int))) ∧ K (V.agg [V.str (Wd.r (movW (pntW (trnW { r := wr, w := ww, h := wh, c := wc, x := wx, y := wy, d := wd } 
  (turnI (signAt { r := wr, w := ww, h := wh, c := wc, x := wx, y := wy, d := wd } (colAt { r := wr, w := ww, h := wh, c := wc, x := wx, y := wy, d := wd } wx wy)))) wx wy (Int.tmod (IntKind.wrap 
  IntKind.i64 (colAt { r := wr, w := ww, h := wh, c := wc, x := wx, y := wy, d := wd } wx wy + (1 : Int))) (↑(List.length wr) : Int))) (1 : Int))), V.int IntKind.i64 (Wd.w (movW (pntW 
  (trnW { r := wr, w := ww, h := wh, c := wc, x := wx, y := wy, d := wd } (turnI (signAt { r := wr, w := ww, h := wh, c := wc, x := wx, y := wy, d := wd } (colAt { r := wr, w := ww, h := wh, c := wc, x := wx, y := wy, d := wd } 
  wx wy)))) wx wy (Int.tmod (IntKind.wrap IntKind.i64 (colAt { r := wr, w := ww, h := wh, c := wc, x := wx, y := wy, d := wd } wx wy + (1 : Int))) (↑(List.length wr) : Int))) (1 : Int))), 
  V.int IntKind.i64 (Wd.h (movW (pntW (trnW { r := wr, w := ww, h := wh, c := wc, x := wx, y := wy, d := wd } (turnI (signAt { r := wr, w := ww, h := wh, c := wc, x := wx, y := wy, d := wd } 
  (colAt { r := wr, w := ww, h := wh, c := wc, x := wx, y := wy, d := wd } wx wy)))) wx wy (Int.tmod (IntKind.wrap IntKind.i64 (colAt { r := wr, w := ww, h := wh, c := wc, x := wx, y := wy, d := wd } 
  wx wy + (1 : Int))) (↑(List.length wr) : Int))) (1 : Int))), V.str (Wd.c (movW (pntW (trnW { r := wr, w := ww, h := wh, c := wc, x := wx, y := wy, d := wd } (turnI (signAt { r := wr, w := ww, h := wh, c := wc, x := wx, y := wy, d := wd } 
  (colAt { r := wr, w := ww, h := wh, c := wc, x := wx, y := wy, d := wd } wx wy)))) wx wy (Int.tmod (IntKind.wrap IntKind.i64 (colAt { r := wr, w := ww, h := wh, c := wc, x := wx, y := wy, d := wd } 
  wx wy + (1 : Int))) (↑(List.length wr) : Int))) (1 : Int))), V.int IntKind.i64 (Wd.x (movW (pntW (trnW { r := wr, w := ww, h := wh, c := wc, x := wx, y := wy, d := wd } (turnI (signAt 
  { r := wr, w := ww, h := wh, c := wc, x := wx, y := wy, d := wd } (colAt { r := wr, w := ww, h := wh, c := wc, x := wx, y := wy, d := wd } wx wy)))) wx wy (Int.tmod (IntKind.wrap IntKind.i64 
  (colAt { r := wr, w := ww, h := wh, c := wc, x := wx, y := wy, d := wd } wx wy + (1 : Int))) (↑(List.length wr) : Int))) (1 : Int))), V.int IntKind.i64 (Wd.y (movW (pntW (trnW { r := wr, w := ww, h := wh, c := wc, x := wx, y := wy, d := wd } 
  (turnI (signAt { r := wr, w := ww, h := wh, c := wc, x := wx, y := wy, d := wd } (colAt { r := wr, w := ww, h := wh, c := wc, x := wx, y := wy, d := wd } wx wy)))) wx wy (Int.tmod (IntKind.wrap 
  IntKind.i64 (colAt { r := wr, w := ww, h := wh, c := wc, x := wx, y := wy, d := wd } wx wy + (1 : Int))) (↑(List.length wr) : Int))) (1 : Int))), V.int IntKind.i64 (Wd.d (movW (pntW 
  (trnW { r := wr, w := ww, h := wh, c := wc, x := wx, y := wy, d := wd } (turnI (signAt { r := wr, w := ww, h := wh, c := wc, x := wx, y := wy, d := wd } (colAt { r := wr, w := ww, h := wh, c := wc, x := wx, y := wy, d := wd } 
  wx wy)))) wx wy (Int.tmod (IntKind.wrap IntKind.i64 (colAt { r := wr, w := ww, h := wh, c := wc, x := wx, y := wy, d := wd } wx wy + (1 : Int))) (↑(List.length wr) : Int))) (1 : Int)))])

end Go.Vi
