/- The conditions, reckoned out by program: texts alone. -/
import Derived.Test.YteleacldecambaaN2Defs
namespace Go.Vi
set_option linter.unusedVariables false
def VC_spec_ShiftWorld (wr : List UInt8) (ww : Int) (wh : Int) (wc : List UInt8) (wx : Int) (wy : Int) (wd : Int) (right : Int) (down : Int) (K : V → Prop) : Prop :=
  At True ∧
  (goodB { r := wr, w := ww, h := wh, c := wc, x := wx, y := wy, d := wd } = true →
      At True ∧
        (inB right (0 : Int) (IntKind.wrap IntKind.i64 (ww - (1 : Int))) = true →
            At True ∧
              ((!inB down (0 : Int) (IntKind.wrap IntKind.i64 (wh - (1 : Int)))) = true →
                  K
                    (V.tup
                      [V.agg
                          [V.str (Array.toList #[]), V.int IntKind.i64 (0 : Int), V.int IntKind.i64 (0 : Int),
                            V.str (Array.toList #[]), V.int IntKind.i64 (0 : Int), V.int IntKind.i64 (0 : Int),
                            V.int IntKind.i64 (0 : Int)],
                        V.lit false])) ∧
                ((!inB down (0 : Int) (IntKind.wrap IntKind.i64 (wh - (1 : Int)))) = false →
                  At
                      (mapPre { r := wr, w := ww, h := wh, c := wc, x := wx, y := wy, d := wd } ww wh (1 : Int)
                        (0 : Int) right (0 : Int) (1 : Int) down) ∧
                    K
                      (V.tup
                        [V.agg
                            [V.str
                                (Wd.r
                                  (mapW (plA (1 : Int) (0 : Int) right (0 : Int) (1 : Int) down ww wh)
                                    { r := wr, w := ww, h := wh, c := wc, x := wx, y := wy, d := wd } ww wh)),
                              V.int IntKind.i64
                                (Wd.w
                                  (mapW (plA (1 : Int) (0 : Int) right (0 : Int) (1 : Int) down ww wh)
                                    { r := wr, w := ww, h := wh, c := wc, x := wx, y := wy, d := wd } ww wh)),
                              V.int IntKind.i64
                                (Wd.h
                                  (mapW (plA (1 : Int) (0 : Int) right (0 : Int) (1 : Int) down ww wh)
                                    { r := wr, w := ww, h := wh, c := wc, x := wx, y := wy, d := wd } ww wh)),
                              V.str
                                (Wd.c
                                  (mapW (plA (1 : Int) (0 : Int) right (0 : Int) (1 : Int) down ww wh)
                                    { r := wr, w := ww, h := wh, c := wc, x := wx, y := wy, d := wd } ww wh)),
                              V.int IntKind.i64
                                (Wd.x
                                  (mapW (plA (1 : Int) (0 : Int) right (0 : Int) (1 : Int) down ww wh)
                                    { r := wr, w := ww, h := wh, c := wc, x := wx, y := wy, d := wd } ww wh)),
                              V.int IntKind.i64
                                (Wd.y
                                  (mapW (plA (1 : Int) (0 : Int) right (0 : Int) (1 : Int) down ww wh)
                                    { r := wr, w := ww, h := wh, c := wc, x := wx, y := wy, d := wd } ww wh)),
                              V.int IntKind.i64
                                (Wd.d
                                  (mapW (plA (1 : Int) (0 : Int) right (0 : Int) (1 : Int) down ww wh)
                                    { r := wr, w := ww, h := wh, c := wc, x := wx, y := wy, d := wd } ww wh))],
                          V.lit true]))) ∧
          (inB right (0 : Int) (IntKind.wrap IntKind.i64 (ww - (1 : Int))) = false →
            K
              (V.tup
                [V.agg
                    [V.str (Array.toList #[]), V.int IntKind.i64 (0 : Int), V.int IntKind.i64 (0 : Int),
                      V.str (Array.toList #[]), V.int IntKind.i64 (0 : Int), V.int IntKind.i64 (0 : Int),
                      V.int IntKind.i64 (0 : Int)],
                  V.lit false]))) ∧
    (goodB { r := wr, w := ww, h := wh, c := wc, x := wx, y := wy, d := wd } = false →
      K
        (V.tup
          [V.agg
              [V.str (Array.toList #[]), V.int IntKind.i64 (0 : Int), V.int IntKind.i64 (0 : Int),
                V.str (Array.toList #[]), V.int IntKind.i64 (0 : Int), V.int IntKind.i64 (0 : Int),
                V.int IntKind.i64 (0 : Int)],
            V.lit false]))

def VC_impl_ShiftWorld_1 (x : Int) (y : Int) (right : Int) (down : Int) (wr : List UInt8) (ww : Int) (wh : Int) (wc : List UInt8) (wx : Int) (wy : Int) (wd : Int) (K : V → List Blk → Prop) : Prop :=
  True ∧
  At (ww ≠ (0 : Int)) ∧
    At (wh ≠ (0 : Int)) ∧
      K
        (V.tup
          [V.int IntKind.i64 (Int.tmod (IntKind.wrap IntKind.i64 (x + right)) ww),
            V.int IntKind.i64 (Int.tmod (IntKind.wrap IntKind.i64 (y + down)) wh)])
        [{ cs := Cells.vals [V.int IntKind.i64 right], elem := 3, kind := Kind.box },
          {
            cs :=
              Cells.vals
                [V.str wr, V.int IntKind.i64 ww, V.int IntKind.i64 wh, V.str wc, V.int IntKind.i64 wx,
                  V.int IntKind.i64 wy, V.int IntKind.i64 wd],
            elem := 25, kind := Kind.box },
          { cs := Cells.vals [V.int IntKind.i64 down], elem := 3, kind := Kind.box }]

def VC_impl_ShiftWorld (wr : List UInt8) (ww : Int) (wh : Int) (wc : List UInt8) (wx : Int) (wy : Int) (wd : Int) (right : Int) (down : Int) (K : V → Prop) : Prop :=
  At True ∧
  ((!goodB { r := wr, w := ww, h := wh, c := wc, x := wx, y := wy, d := wd }) = true →
      K
        (V.tup
          [V.agg
              [V.str (Array.toList #[]), V.int IntKind.i64 (0 : Int), V.int IntKind.i64 (0 : Int),
                V.str (Array.toList #[]), V.int IntKind.i64 (0 : Int), V.int IntKind.i64 (0 : Int),
                V.int IntKind.i64 (0 : Int)],
            V.lit false])) ∧
    ((!goodB { r := wr, w := ww, h := wh, c := wc, x := wx, y := wy, d := wd }) = false →
      At True ∧
        (inB right (0 : Int) (IntKind.wrap IntKind.i64 (ww - (1 : Int))) = true →
            At True ∧
              ((!inB down (0 : Int) (IntKind.wrap IntKind.i64 (wh - (1 : Int)))) = true →
                  K
                    (V.tup
                      [V.agg
                          [V.str (Array.toList #[]), V.int IntKind.i64 (0 : Int), V.int IntKind.i64 (0 : Int),
                            V.str (Array.toList #[]), V.int IntKind.i64 (0 : Int), V.int IntKind.i64 (0 : Int),
                            V.int IntKind.i64 (0 : Int)],
                        V.lit false])) ∧
                ((!inB down (0 : Int) (IntKind.wrap IntKind.i64 (wh - (1 : Int)))) = false →
                  At
                      ((0 : Int) ≤ (↑(List.length wc) : Int) ∧
                        (↑(List.length wc) : Int) ≤ (↑(List.length wc) : Int) ∧
                          (↑(List.length wc) : Int) ≤ (1000000000 : Int)) ∧
                    ((wc = wc ∧
                          (True ∧ ww = ww) ∧
                            (True ∧ ww = ww) ∧
                              ((46 : Nat) = (46 : Nat) ∧
                                  [(0 : Nat), (1 : Nat), (2 : Nat)] = [(0 : Nat), (1 : Nat), (2 : Nat)]) ∧
                                ((3 : Nat) = (3 : Nat) ∧
                                    Int.toNat (↑(List.length wc) : Int) = Int.toNat (↑(List.length wc) : Int)) ∧
                                  (True ∧ (↑(Int.toNat (↑(List.length wc) : Int)) : Int) = (↑(List.length wc) : Int)) ∧
                                    (True ∧ (0 : Int) = (0 : Int)) ∧ True) ∧
                        ((True ∧ (True ∧ right = right) ∧ True) ∧
                            (True ∧
                                wr = wr ∧
                                  (True ∧ ww = ww) ∧
                                    (True ∧ wh = wh) ∧
                                      wc = wc ∧ (True ∧ wx = wx) ∧ (True ∧ wy = wy) ∧ (True ∧ wd = wd) ∧ True) ∧
                              (True ∧ (True ∧ down = down) ∧ True) ∧
                                (True ∧
                                    List.replicate (Int.toNat (↑(List.length wc) : Int)) (0 : UInt8) =
                                      rlF (plA (1 : Int) (0 : Int) right (0 : Int) (1 : Int) down ww wh) ww ww wc
                                        (List.replicate (List.length wc) (0 : UInt8)) (Int.toNat (0 : Int))) ∧
                                  True) ∧
                          True) ∧
                      At (relInv wc (0 : Int)) ∧
                        ∀ (a : Int),
                          relInv wc a →
                            (decide (a < (↑(List.length wc) : Int)) = true →
                                True ∧
                                  At (ww ≠ (0 : Int)) ∧
                                    At (ww ≠ (0 : Int)) ∧
                                      At
                                          (goodB { r := wr, w := ww, h := wh, c := wc, x := wx, y := wy, d := wd } =
                                              true ∧
                                            (0 : Int) ≤ Int.tmod a ww ∧
                                              Int.tmod a ww ≤ (9 : Int) ∧
                                                (0 : Int) ≤ IntKind.wrap IntKind.i64 (Int.tdiv a ww) ∧
                                                  IntKind.wrap IntKind.i64 (Int.tdiv a ww) ≤ (9 : Int) ∧
                                                    (0 : Int) ≤ right ∧
                                                      right ≤ (9 : Int) ∧ (0 : Int) ≤ down ∧ down ≤ (9 : Int)) ∧
                                        At ((0 : Int) ≤ a ∧ a < (↑(List.length wc) : Int)) ∧
                                          At
                                              ((0 : Int) ≤
                                                  IntKind.wrap IntKind.i64
                                                    (IntKind.wrap IntKind.i64
                                                        ((IntKind.wrap IntKind.i64 (Int.tdiv a ww) + down) % wh * ww) +
                                                      (Int.tmod a ww + right) % ww) ∧
                                                IntKind.wrap IntKind.i64
                                                    (IntKind.wrap IntKind.i64
                                                        ((IntKind.wrap IntKind.i64 (Int.tdiv a ww) + down) % wh * ww) +
                                                      (Int.tmod a ww + right) % ww) <
                                                  (↑(Int.toNat (↑(List.length wc) : Int)) : Int)) ∧
                                            At
                                                (Int.toNat
                                                      (IntKind.wrap IntKind.i64
                                                        (IntKind.wrap IntKind.i64
                                                            ((IntKind.wrap IntKind.i64 (Int.tdiv a ww) + down) % wh *
                                                              ww) +
                                                          (Int.tmod a ww + right) % ww)) <
                                                    List.length
                                                      (rlF
                                                        (plA (1 : Int) (0 : Int) right (0 : Int) (1 : Int) down ww wh)
                                                        ww ww wc (List.replicate (List.length wc) (0 : UInt8))
                                                        (Int.toNat a)) ∧
                                                  (0 : Int) ≤
                                                      (↑(UInt8.toNat (List.getD wc (Int.toNat a) (0 : UInt8))) : Int) ∧
                                                    (↑(UInt8.toNat (List.getD wc (Int.toNat a) (0 : UInt8))) : Int) <
                                                      (256 : Int)) ∧
                                              ((wc = wc ∧
                                                    (True ∧ ww = ww) ∧
                                                      (True ∧ ww = ww) ∧
                                                        ((46 : Nat) = (46 : Nat) ∧
                                                            [(0 : Nat), (1 : Nat), (2 : Nat)] =
                                                              [(0 : Nat), (1 : Nat), (2 : Nat)]) ∧
                                                          ((3 : Nat) = (3 : Nat) ∧
                                                              Int.toNat (↑(List.length wc) : Int) =
                                                                Int.toNat (↑(List.length wc) : Int)) ∧
                                                            (True ∧
                                                                (↑(List.length wc) : Int) = (↑(List.length wc) : Int)) ∧
                                                              (True ∧
                                                                  IntKind.wrap IntKind.i64 (a + (1 : Int)) =
                                                                    IntKind.wrap IntKind.i64 (a + (1 : Int))) ∧
                                                                True) ∧
                                                  ((True ∧ (True ∧ right = right) ∧ True) ∧
                                                      (True ∧
                                                          wr = wr ∧
                                                            (True ∧ ww = ww) ∧
                                                              (True ∧ wh = wh) ∧
                                                                wc = wc ∧
                                                                  (True ∧ wx = wx) ∧
                                                                    (True ∧ wy = wy) ∧ (True ∧ wd = wd) ∧ True) ∧
                                                        (True ∧ (True ∧ down = down) ∧ True) ∧
                                                          (True ∧
                                                              List.set
                                                                  (rlF
                                                                    (plA (1 : Int) (0 : Int) right (0 : Int) (1 : Int)
                                                                      down ww wh)
                                                                    ww ww wc
                                                                    (List.replicate (List.length wc) (0 : UInt8))
                                                                    (Int.toNat a))
                                                                  (Int.toNat
                                                                    (IntKind.wrap IntKind.i64
                                                                      (IntKind.wrap IntKind.i64
                                                                          ((IntKind.wrap IntKind.i64 (Int.tdiv a ww) +
                                                                                down) %
                                                                              wh *
                                                                            ww) +
                                                                        (Int.tmod a ww + right) % ww)))
                                                                  (UInt8.ofNat
                                                                    (Int.toNat
                                                                      (↑(UInt8.toNat
                                                                            (List.getD wc (Int.toNat a) (0 : UInt8))) :
                                                                        Int))) =
                                                                rlF
                                                                  (plA (1 : Int) (0 : Int) right (0 : Int) (1 : Int)
                                                                    down ww wh)
                                                                  ww ww wc (List.replicate (List.length wc) (0 : UInt8))
                                                                  (Int.toNat
                                                                    (IntKind.wrap IntKind.i64 (a + (1 : Int))))) ∧
                                                            True) ∧
                                                    True) ∧
                                                At
                                                  (relInv wc (IntKind.wrap IntKind.i64 (a + (1 : Int))) ∧
                                                    Int.toNat
                                                        ((↑(List.length wc) : Int) -
                                                          IntKind.wrap IntKind.i64 (a + (1 : Int))) <
                                                      Int.toNat ((↑(List.length wc) : Int) - a))) ∧
                              (decide (a < (↑(List.length wc) : Int)) = false →
                                At
                                    (Int.toNat (↑(List.length wc) : Int) ≤
                                      List.length
                                        (rlF (plA (1 : Int) (0 : Int) right (0 : Int) (1 : Int) down ww wh) ww ww wc
                                          (List.replicate (List.length wc) (0 : UInt8)) (Int.toNat a))) ∧
                                  At
                                      (goodB { r := wr, w := ww, h := wh, c := wc, x := wx, y := wy, d := wd } = true ∧
                                        (0 : Int) ≤ wx ∧
                                          wx ≤ (9 : Int) ∧
                                            (0 : Int) ≤ wy ∧
                                              wy ≤ (9 : Int) ∧
                                                (0 : Int) ≤ right ∧
                                                  right ≤ (9 : Int) ∧ (0 : Int) ≤ down ∧ down ≤ (9 : Int)) ∧
                                    K
                                      (V.tup
                                        [V.agg
                                            [V.str wr, V.int IntKind.i64 ww, V.int IntKind.i64 wh,
                                              V.str
                                                (List.take (Int.toNat (↑(List.length wc) : Int))
                                                  (rlF (plA (1 : Int) (0 : Int) right (0 : Int) (1 : Int) down ww wh) ww
                                                    ww wc (List.replicate (List.length wc) (0 : UInt8)) (Int.toNat a))),
                                              V.int IntKind.i64 ((wx + right) % ww),
                                              V.int IntKind.i64 ((wy + down) % wh), V.int IntKind.i64 wd],
                                          V.lit true])))) ∧
          (inB right (0 : Int) (IntKind.wrap IntKind.i64 (ww - (1 : Int))) = false →
            K
              (V.tup
                [V.agg
                    [V.str (Array.toList #[]), V.int IntKind.i64 (0 : Int), V.int IntKind.i64 (0 : Int),
                      V.str (Array.toList #[]), V.int IntKind.i64 (0 : Int), V.int IntKind.i64 (0 : Int),
                      V.int IntKind.i64 (0 : Int)],
                  V.lit false])))

end Go.Vi
