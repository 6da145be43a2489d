/- The conditions, reckoned out by program: texts alone. -/
import Derived.Test.YtlechboepjmmhabDoorQ1Defs
namespace Go.Vi
set_option linter.unusedVariables false
def VC_laws_toWorld (wr : List UInt8) (ww : Int) (wh : Int) (wc : List UInt8) (wx : Int) (wy : Int) (wd : Int) (K : V → Prop) : Prop :=
  K
  (V.agg
    [V.str wr, V.int IntKind.i64 ww, V.int IntKind.i64 wh, V.str wc, V.int IntKind.i64 wx, V.int IntKind.i64 wy,
      V.int IntKind.i64 wd])

def VC_spec_loPeriod (wr : List UInt8) (ww : Int) (wh : Int) (wc : List UInt8) (wx : Int) (wy : Int) (wd : Int) (K : V → Prop) : Prop :=
  ((((0 : Nat) = (0 : Nat) ∧ (0 : Nat) = (0 : Nat)) ∧
      ((1 : Nat) = (1 : Nat) ∧ (0 : Nat) = (0 : Nat)) ∧ (True ∧ (1 : Int) = (1 : Int)) ∧ True) ∧
    ((True ∧
          wr = wr ∧
            (True ∧ ww = ww) ∧
              (True ∧ wh = wh) ∧ wc = wc ∧ (True ∧ wx = wx) ∧ (True ∧ wy = wy) ∧ (True ∧ wd = wd) ∧ True) ∧
        (True ∧
            wr = Wd.r { r := wr, w := ww, h := wh, c := wc, x := wx, y := wy, d := wd } ∧
              (True ∧ ww = Wd.w { r := wr, w := ww, h := wh, c := wc, x := wx, y := wy, d := wd }) ∧
                (True ∧ wh = Wd.h { r := wr, w := ww, h := wh, c := wc, x := wx, y := wy, d := wd }) ∧
                  wc = Wd.c { r := wr, w := ww, h := wh, c := wc, x := wx, y := wy, d := wd } ∧
                    (True ∧ wx = Wd.x { r := wr, w := ww, h := wh, c := wc, x := wx, y := wy, d := wd }) ∧
                      (True ∧ wy = Wd.y { r := wr, w := ww, h := wh, c := wc, x := wx, y := wy, d := wd }) ∧
                        (True ∧ wd = Wd.d { r := wr, w := ww, h := wh, c := wc, x := wx, y := wy, d := wd }) ∧ True) ∧
          True) ∧
      True) ∧
  At
      (nowInv (pPer { r := wr, w := ww, h := wh, c := wc, x := wx, y := wy, d := wd })
        { r := wr, w := ww, h := wh, c := wc, x := wx, y := wy, d := wd }
        ((1 : Int), { r := wr, w := ww, h := wh, c := wc, x := wx, y := wy, d := wd })) ∧
    ∀ (a : Int × Wd),
      nowInv (pPer { r := wr, w := ww, h := wh, c := wc, x := wx, y := wy, d := wd })
          { r := wr, w := ww, h := wh, c := wc, x := wx, y := wy, d := wd } a →
        (decide (Prod.fst a ≤ (4000 : Int)) = true →
            At (goodB (Prod.snd a) = true) ∧
              ((Wd.r (stepW (Prod.snd a)) == wr &&
                      (Wd.w (stepW (Prod.snd a)) == ww &&
                        (Wd.h (stepW (Prod.snd a)) == wh &&
                          (Wd.c (stepW (Prod.snd a)) == wc &&
                            (Wd.x (stepW (Prod.snd a)) == wx &&
                              (Wd.y (stepW (Prod.snd a)) == wy && (Wd.d (stepW (Prod.snd a)) == wd && true))))))) =
                    true →
                  K (V.int IntKind.i64 (Prod.fst a))) ∧
                ((Wd.r (stepW (Prod.snd a)) == wr &&
                      (Wd.w (stepW (Prod.snd a)) == ww &&
                        (Wd.h (stepW (Prod.snd a)) == wh &&
                          (Wd.c (stepW (Prod.snd a)) == wc &&
                            (Wd.x (stepW (Prod.snd a)) == wx &&
                              (Wd.y (stepW (Prod.snd a)) == wy && (Wd.d (stepW (Prod.snd a)) == wd && true))))))) =
                    false →
                  ((((0 : Nat) = (0 : Nat) ∧ (0 : Nat) = (0 : Nat)) ∧
                        ((1 : Nat) = (1 : Nat) ∧ (0 : Nat) = (0 : Nat)) ∧
                          (True ∧
                              IntKind.wrap IntKind.i64 (Prod.fst a + (1 : Int)) =
                                IntKind.wrap IntKind.i64 (Prod.fst a + (1 : Int))) ∧
                            True) ∧
                      ((True ∧
                            wr = wr ∧
                              (True ∧ ww = ww) ∧
                                (True ∧ wh = wh) ∧
                                  wc = wc ∧ (True ∧ wx = wx) ∧ (True ∧ wy = wy) ∧ (True ∧ wd = wd) ∧ True) ∧
                          (True ∧
                              Wd.r (stepW (Prod.snd a)) = Wd.r (stepW (Prod.snd a)) ∧
                                (True ∧ Wd.w (stepW (Prod.snd a)) = Wd.w (stepW (Prod.snd a))) ∧
                                  (True ∧ Wd.h (stepW (Prod.snd a)) = Wd.h (stepW (Prod.snd a))) ∧
                                    Wd.c (stepW (Prod.snd a)) = Wd.c (stepW (Prod.snd a)) ∧
                                      (True ∧ Wd.x (stepW (Prod.snd a)) = Wd.x (stepW (Prod.snd a))) ∧
                                        (True ∧ Wd.y (stepW (Prod.snd a)) = Wd.y (stepW (Prod.snd a))) ∧
                                          (True ∧ Wd.d (stepW (Prod.snd a)) = Wd.d (stepW (Prod.snd a))) ∧ True) ∧
                            True) ∧
                        True) ∧
                    At
                      (nowInv (pPer { r := wr, w := ww, h := wh, c := wc, x := wx, y := wy, d := wd })
                          { r := wr, w := ww, h := wh, c := wc, x := wx, y := wy, d := wd }
                          (IntKind.wrap IntKind.i64 (Prod.fst a + (1 : Int)), stepW (Prod.snd a)) ∧
                        Int.toNat ((4001 : Int) - IntKind.wrap IntKind.i64 (Prod.fst a + (1 : Int))) <
                          Int.toNat ((4001 : Int) - Prod.fst a)))) ∧
          (decide (Prod.fst a ≤ (4000 : Int)) = false → K (V.int IntKind.i64 (0 : Int)))

def VC_impl_PeriodOf_1 (wr : List UInt8) (ww : Int) (wh : Int) (wc : List UInt8) (wx : Int) (wy : Int) (wd : Int) (zr : List UInt8) (zw : Int) (zh : Int) (zc : List UInt8) (zx : Int) (zy : Int) (zd : Int) (K : V → List Blk → Prop) : Prop :=
  K (V.bool (wr == zr && (ww == zw && (wh == zh && (wc == zc && (wx == zx && (wy == zy && (wd == zd && true))))))))
  [{
      cs :=
        Cells.vals
          [V.str zr, V.int IntKind.i64 zw, V.int IntKind.i64 zh, V.str zc, V.int IntKind.i64 zx, V.int IntKind.i64 zy,
            V.int IntKind.i64 zd],
      elem := (27 : Nat), kind := Kind.box },
    {
      cs :=
        Cells.vals
          [V.str wr, V.int IntKind.i64 ww, V.int IntKind.i64 wh, V.str wc, V.int IntKind.i64 wx, V.int IntKind.i64 wy,
            V.int IntKind.i64 wd],
      elem := (27 : Nat), kind := Kind.box }]

def VC_spec_PeriodOf (wr : List UInt8) (ww : Int) (wh : Int) (wc : List UInt8) (wx : Int) (wy : Int) (wd : Int) (K : V → Prop) : Prop :=
  At True ∧
  ((!goodB { r := wr, w := ww, h := wh, c := wc, x := wx, y := wy, d := wd }) = true →
      K (V.tup [V.int IntKind.i64 (0 : Int), V.lit false])) ∧
    ((!goodB { r := wr, w := ww, h := wh, c := wc, x := wx, y := wy, d := wd }) = false →
      At (goodB { r := wr, w := ww, h := wh, c := wc, x := wx, y := wy, d := wd } = true) ∧
        K
          (V.tup
            [V.int IntKind.i64
                (optI
                  (untilW (goodB { r := wr, w := ww, h := wh, c := wc, x := wx, y := wy, d := wd })
                    (pPer { r := wr, w := ww, h := wh, c := wc, x := wx, y := wy, d := wd }) (1 : Int)
                    { r := wr, w := ww, h := wh, c := wc, x := wx, y := wy, d := wd })),
              V.bool
                (decide
                  (optI
                      (untilW (goodB { r := wr, w := ww, h := wh, c := wc, x := wx, y := wy, d := wd })
                        (pPer { r := wr, w := ww, h := wh, c := wc, x := wx, y := wy, d := wd }) (1 : Int)
                        { r := wr, w := ww, h := wh, c := wc, x := wx, y := wy, d := wd }) >
                    (0 : Int)))]))

def VC_impl_PeriodOf (wr : List UInt8) (ww : Int) (wh : Int) (wc : List UInt8) (wx : Int) (wy : Int) (wd : Int) (K : V → Prop) : Prop :=
  At True ∧
  ((!goodB { r := wr, w := ww, h := wh, c := wc, x := wx, y := wy, d := wd }) = true →
      K (V.tup [V.int IntKind.i64 (0 : Int), V.lit false])) ∧
    ((!goodB { r := wr, w := ww, h := wh, c := wc, x := wx, y := wy, d := wd }) = false →
      (((True ∧ (1 : Int) = (1 : Int)) ∧
            ((45 : Nat) = (45 : Nat) ∧ [(0 : Nat)] = [(0 : Nat)]) ∧
              ((1 : Nat) = (1 : Nat) ∧ (0 : Nat) = (0 : Nat)) ∧
                ((2 : Nat) = (2 : Nat) ∧ (0 : Nat) = (0 : Nat)) ∧ (True ∧ (0 : Int) = (0 : Int)) ∧ True) ∧
          ((True ∧
                wr = wr ∧
                  (True ∧ ww = ww) ∧
                    (True ∧ wh = wh) ∧ wc = wc ∧ (True ∧ wx = wx) ∧ (True ∧ wy = wy) ∧ (True ∧ wd = wd) ∧ True) ∧
              (True ∧
                  wr = wr ∧
                    (True ∧ ww = ww) ∧
                      (True ∧ wh = wh) ∧ wc = wc ∧ (True ∧ wx = wx) ∧ (True ∧ wy = wy) ∧ (True ∧ wd = wd) ∧ True) ∧
                (True ∧
                    wr = Wd.r { r := wr, w := ww, h := wh, c := wc, x := wx, y := wy, d := wd } ∧
                      (True ∧ ww = Wd.w { r := wr, w := ww, h := wh, c := wc, x := wx, y := wy, d := wd }) ∧
                        (True ∧ wh = Wd.h { r := wr, w := ww, h := wh, c := wc, x := wx, y := wy, d := wd }) ∧
                          wc = Wd.c { r := wr, w := ww, h := wh, c := wc, x := wx, y := wy, d := wd } ∧
                            (True ∧ wx = Wd.x { r := wr, w := ww, h := wh, c := wc, x := wx, y := wy, d := wd }) ∧
                              (True ∧ wy = Wd.y { r := wr, w := ww, h := wh, c := wc, x := wx, y := wy, d := wd }) ∧
                                (True ∧ wd = Wd.d { r := wr, w := ww, h := wh, c := wc, x := wx, y := wy, d := wd }) ∧
                                  True) ∧
                  True) ∧
            True) ∧
        At
            (untInv (lookBy (45 : Nat) { r := wr, w := ww, h := wh, c := wc, x := wx, y := wy, d := wd }) (1 : Int)
              { r := wr, w := ww, h := wh, c := wc, x := wx, y := wy, d := wd }
              ((0 : Int), { r := wr, w := ww, h := wh, c := wc, x := wx, y := wy, d := wd })) ∧
          ∀ (a : Int × Wd),
            untInv (lookBy (45 : Nat) { r := wr, w := ww, h := wh, c := wc, x := wx, y := wy, d := wd }) (1 : Int)
                { r := wr, w := ww, h := wh, c := wc, x := wx, y := wy, d := wd } a →
              (decide (Prod.fst a ≤ (4000 : Int)) = true →
                  (decide (Prod.fst a ≥ (1 : Int)) = true →
                      At True ∧
                        (pPer { r := wr, w := ww, h := wh, c := wc, x := wx, y := wy, d := wd } (Prod.snd a) = true →
                            K (V.tup [V.int IntKind.i64 (Prod.fst a), V.lit true])) ∧
                          (pPer { r := wr, w := ww, h := wh, c := wc, x := wx, y := wy, d := wd } (Prod.snd a) = false →
                            At (goodB (Prod.snd a) = true) ∧
                              (((True ∧ (1 : Int) = (1 : Int)) ∧
                                    ((45 : Nat) = (45 : Nat) ∧ [(0 : Nat)] = [(0 : Nat)]) ∧
                                      ((1 : Nat) = (1 : Nat) ∧ (0 : Nat) = (0 : Nat)) ∧
                                        ((2 : Nat) = (2 : Nat) ∧ (0 : Nat) = (0 : Nat)) ∧
                                          (True ∧
                                              IntKind.wrap IntKind.i64 (Prod.fst a + (1 : Int)) =
                                                IntKind.wrap IntKind.i64 (Prod.fst a + (1 : Int))) ∧
                                            True) ∧
                                  ((True ∧
                                        wr = wr ∧
                                          (True ∧ ww = ww) ∧
                                            (True ∧ wh = wh) ∧
                                              wc = wc ∧ (True ∧ wx = wx) ∧ (True ∧ wy = wy) ∧ (True ∧ wd = wd) ∧ True) ∧
                                      (True ∧
                                          wr = wr ∧
                                            (True ∧ ww = ww) ∧
                                              (True ∧ wh = wh) ∧
                                                wc = wc ∧
                                                  (True ∧ wx = wx) ∧ (True ∧ wy = wy) ∧ (True ∧ wd = wd) ∧ True) ∧
                                        (True ∧
                                            Wd.r (stepW (Prod.snd a)) = Wd.r (stepW (Prod.snd a)) ∧
                                              (True ∧ Wd.w (stepW (Prod.snd a)) = Wd.w (stepW (Prod.snd a))) ∧
                                                (True ∧ Wd.h (stepW (Prod.snd a)) = Wd.h (stepW (Prod.snd a))) ∧
                                                  Wd.c (stepW (Prod.snd a)) = Wd.c (stepW (Prod.snd a)) ∧
                                                    (True ∧ Wd.x (stepW (Prod.snd a)) = Wd.x (stepW (Prod.snd a))) ∧
                                                      (True ∧ Wd.y (stepW (Prod.snd a)) = Wd.y (stepW (Prod.snd a))) ∧
                                                        (True ∧ Wd.d (stepW (Prod.snd a)) = Wd.d (stepW (Prod.snd a))) ∧
                                                          True) ∧
                                          True) ∧
                                    True) ∧
                                At
                                  (untInv
                                      (lookBy (45 : Nat)
                                        { r := wr, w := ww, h := wh, c := wc, x := wx, y := wy, d := wd })
                                      (1 : Int) { r := wr, w := ww, h := wh, c := wc, x := wx, y := wy, d := wd }
                                      (IntKind.wrap IntKind.i64 (Prod.fst a + (1 : Int)), stepW (Prod.snd a)) ∧
                                    Int.toNat ((4001 : Int) - IntKind.wrap IntKind.i64 (Prod.fst a + (1 : Int))) <
                                      Int.toNat ((4001 : Int) - Prod.fst a)))) ∧
                    (decide (Prod.fst a ≥ (1 : Int)) = false →
                      At (goodB (Prod.snd a) = true) ∧
                        (((True ∧ (1 : Int) = (1 : Int)) ∧
                              ((45 : Nat) = (45 : Nat) ∧ [(0 : Nat)] = [(0 : Nat)]) ∧
                                ((1 : Nat) = (1 : Nat) ∧ (0 : Nat) = (0 : Nat)) ∧
                                  ((2 : Nat) = (2 : Nat) ∧ (0 : Nat) = (0 : Nat)) ∧
                                    (True ∧
                                        IntKind.wrap IntKind.i64 (Prod.fst a + (1 : Int)) =
                                          IntKind.wrap IntKind.i64 (Prod.fst a + (1 : Int))) ∧
                                      True) ∧
                            ((True ∧
                                  wr = wr ∧
                                    (True ∧ ww = ww) ∧
                                      (True ∧ wh = wh) ∧
                                        wc = wc ∧ (True ∧ wx = wx) ∧ (True ∧ wy = wy) ∧ (True ∧ wd = wd) ∧ True) ∧
                                (True ∧
                                    wr = wr ∧
                                      (True ∧ ww = ww) ∧
                                        (True ∧ wh = wh) ∧
                                          wc = wc ∧ (True ∧ wx = wx) ∧ (True ∧ wy = wy) ∧ (True ∧ wd = wd) ∧ True) ∧
                                  (True ∧
                                      Wd.r (stepW (Prod.snd a)) = Wd.r (stepW (Prod.snd a)) ∧
                                        (True ∧ Wd.w (stepW (Prod.snd a)) = Wd.w (stepW (Prod.snd a))) ∧
                                          (True ∧ Wd.h (stepW (Prod.snd a)) = Wd.h (stepW (Prod.snd a))) ∧
                                            Wd.c (stepW (Prod.snd a)) = Wd.c (stepW (Prod.snd a)) ∧
                                              (True ∧ Wd.x (stepW (Prod.snd a)) = Wd.x (stepW (Prod.snd a))) ∧
                                                (True ∧ Wd.y (stepW (Prod.snd a)) = Wd.y (stepW (Prod.snd a))) ∧
                                                  (True ∧ Wd.d (stepW (Prod.snd a)) = Wd.d (stepW (Prod.snd a))) ∧
                                                    True) ∧
                                    True) ∧
                              True) ∧
                          At
                            (untInv
                                (lookBy (45 : Nat) { r := wr, w := ww, h := wh, c := wc, x := wx, y := wy, d := wd })
                                (1 : Int) { r := wr, w := ww, h := wh, c := wc, x := wx, y := wy, d := wd }
                                (IntKind.wrap IntKind.i64 (Prod.fst a + (1 : Int)), stepW (Prod.snd a)) ∧
                              Int.toNat ((4001 : Int) - IntKind.wrap IntKind.i64 (Prod.fst a + (1 : Int))) <
                                Int.toNat ((4001 : Int) - Prod.fst a)))) ∧
                (decide (Prod.fst a ≤ (4000 : Int)) = false → K (V.tup [V.int IntKind.i64 (0 : Int), V.lit false])))

def VC_impl_AntPeriod_1 (wr : List UInt8) (ww : Int) (wh : Int) (wc : List UInt8) (wx : Int) (wy : Int) (wd : Int) (zr : List UInt8) (zw : Int) (zh : Int) (zc : List UInt8) (zx : Int) (zy : Int) (zd : Int) (K : V → List Blk → Prop) : Prop :=
  ((wx == zx) = true →
    ((wy == zy) = true →
        K (V.bool (wd == zd))
          [{
              cs :=
                Cells.vals
                  [V.str zr, V.int IntKind.i64 zw, V.int IntKind.i64 zh, V.str zc, V.int IntKind.i64 zx,
                    V.int IntKind.i64 zy, V.int IntKind.i64 zd],
              elem := (27 : Nat), kind := Kind.box },
            {
              cs :=
                Cells.vals
                  [V.str wr, V.int IntKind.i64 ww, V.int IntKind.i64 wh, V.str wc, V.int IntKind.i64 wx,
                    V.int IntKind.i64 wy, V.int IntKind.i64 wd],
              elem := (27 : Nat), kind := Kind.box }]) ∧
      ((wy == zy) = false →
        K (V.lit false)
          [{
              cs :=
                Cells.vals
                  [V.str zr, V.int IntKind.i64 zw, V.int IntKind.i64 zh, V.str zc, V.int IntKind.i64 zx,
                    V.int IntKind.i64 zy, V.int IntKind.i64 zd],
              elem := (27 : Nat), kind := Kind.box },
            {
              cs :=
                Cells.vals
                  [V.str wr, V.int IntKind.i64 ww, V.int IntKind.i64 wh, V.str wc, V.int IntKind.i64 wx,
                    V.int IntKind.i64 wy, V.int IntKind.i64 wd],
              elem := (27 : Nat), kind := Kind.box }])) ∧
  ((wx == zx) = false →
    K (V.lit false)
      [{
          cs :=
            Cells.vals
              [V.str zr, V.int IntKind.i64 zw, V.int IntKind.i64 zh, V.str zc, V.int IntKind.i64 zx,
                V.int IntKind.i64 zy, V.int IntKind.i64 zd],
          elem := (27 : Nat), kind := Kind.box },
        {
          cs :=
            Cells.vals
              [V.str wr, V.int IntKind.i64 ww, V.int IntKind.i64 wh, V.str wc, V.int IntKind.i64 wx,
                V.int IntKind.i64 wy, V.int IntKind.i64 wd],
          elem := (27 : Nat), kind := Kind.box }])

def VC_impl_FirstReturn_1 (wr : List UInt8) (ww : Int) (wh : Int) (wc : List UInt8) (wx : Int) (wy : Int) (wd : Int) (zr : List UInt8) (zw : Int) (zh : Int) (zc : List UInt8) (zx : Int) (zy : Int) (zd : Int) (K : V → List Blk → Prop) : Prop :=
  ((wx == zx) = true →
    K (V.bool (wy == zy))
      [{
          cs :=
            Cells.vals
              [V.str zr, V.int IntKind.i64 zw, V.int IntKind.i64 zh, V.str zc, V.int IntKind.i64 zx,
                V.int IntKind.i64 zy, V.int IntKind.i64 zd],
          elem := (27 : Nat), kind := Kind.box },
        {
          cs :=
            Cells.vals
              [V.str wr, V.int IntKind.i64 ww, V.int IntKind.i64 wh, V.str wc, V.int IntKind.i64 wx,
                V.int IntKind.i64 wy, V.int IntKind.i64 wd],
          elem := (27 : Nat), kind := Kind.box }]) ∧
  ((wx == zx) = false →
    K (V.lit false)
      [{
          cs :=
            Cells.vals
              [V.str zr, V.int IntKind.i64 zw, V.int IntKind.i64 zh, V.str zc, V.int IntKind.i64 zx,
                V.int IntKind.i64 zy, V.int IntKind.i64 zd],
          elem := (27 : Nat), kind := Kind.box },
        {
          cs :=
            Cells.vals
              [V.str wr, V.int IntKind.i64 ww, V.int IntKind.i64 wh, V.str wc, V.int IntKind.i64 wx,
                V.int IntKind.i64 wy, V.int IntKind.i64 wd],
          elem := (27 : Nat), kind := Kind.box }])

def VC_impl_StepsBetween_1 (wr : List UInt8) (ww : Int) (wh : Int) (wc : List UInt8) (wx : Int) (wy : Int) (wd : Int) (zr : List UInt8) (zw : Int) (zh : Int) (zc : List UInt8) (zx : Int) (zy : Int) (zd : Int) (K : V → List Blk → Prop) : Prop :=
  K (V.bool (wr == zr && (ww == zw && (wh == zh && (wc == zc && (wx == zx && (wy == zy && (wd == zd && true))))))))
  [{
      cs :=
        Cells.vals
          [V.str zr, V.int IntKind.i64 zw, V.int IntKind.i64 zh, V.str zc, V.int IntKind.i64 zx, V.int IntKind.i64 zy,
            V.int IntKind.i64 zd],
      elem := (27 : Nat), kind := Kind.box },
    {
      cs :=
        Cells.vals
          [V.str wr, V.int IntKind.i64 ww, V.int IntKind.i64 wh, V.str wc, V.int IntKind.i64 wx, V.int IntKind.i64 wy,
            V.int IntKind.i64 wd],
      elem := (27 : Nat), kind := Kind.box }]

def VC_spec_AntPeriod (wr : List UInt8) (ww : Int) (wh : Int) (wc : List UInt8) (wx : Int) (wy : Int) (wd : Int) (K : V → Prop) : Prop :=
  At True ∧
  ((!goodB { r := wr, w := ww, h := wh, c := wc, x := wx, y := wy, d := wd }) = true →
      K (V.tup [V.int IntKind.i64 (0 : Int), V.lit false])) ∧
    ((!goodB { r := wr, w := ww, h := wh, c := wc, x := wx, y := wy, d := wd }) = false →
      ((((0 : Nat) = (0 : Nat) ∧ (0 : Nat) = (0 : Nat)) ∧
            ((1 : Nat) = (1 : Nat) ∧ (0 : Nat) = (0 : Nat)) ∧ (True ∧ (1 : Int) = (1 : Int)) ∧ True) ∧
          ((True ∧
                wr = wr ∧
                  (True ∧ ww = ww) ∧
                    (True ∧ wh = wh) ∧ wc = wc ∧ (True ∧ wx = wx) ∧ (True ∧ wy = wy) ∧ (True ∧ wd = wd) ∧ True) ∧
              (True ∧
                  wr = Wd.r { r := wr, w := ww, h := wh, c := wc, x := wx, y := wy, d := wd } ∧
                    (True ∧ ww = Wd.w { r := wr, w := ww, h := wh, c := wc, x := wx, y := wy, d := wd }) ∧
                      (True ∧ wh = Wd.h { r := wr, w := ww, h := wh, c := wc, x := wx, y := wy, d := wd }) ∧
                        wc = Wd.c { r := wr, w := ww, h := wh, c := wc, x := wx, y := wy, d := wd } ∧
                          (True ∧ wx = Wd.x { r := wr, w := ww, h := wh, c := wc, x := wx, y := wy, d := wd }) ∧
                            (True ∧ wy = Wd.y { r := wr, w := ww, h := wh, c := wc, x := wx, y := wy, d := wd }) ∧
                              (True ∧ wd = Wd.d { r := wr, w := ww, h := wh, c := wc, x := wx, y := wy, d := wd }) ∧
                                True) ∧
                True) ∧
            True) ∧
        At
            (nowInv (pAnt { r := wr, w := ww, h := wh, c := wc, x := wx, y := wy, d := wd })
              { r := wr, w := ww, h := wh, c := wc, x := wx, y := wy, d := wd }
              ((1 : Int), { r := wr, w := ww, h := wh, c := wc, x := wx, y := wy, d := wd })) ∧
          ∀ (a : Int × Wd),
            nowInv (pAnt { r := wr, w := ww, h := wh, c := wc, x := wx, y := wy, d := wd })
                { r := wr, w := ww, h := wh, c := wc, x := wx, y := wy, d := wd } a →
              (decide (Prod.fst a ≤ (4000 : Int)) = true →
                  At (goodB (Prod.snd a) = true) ∧
                    ((Wd.x (stepW (Prod.snd a)) == wx) = true →
                        ((Wd.y (stepW (Prod.snd a)) == wy) = true →
                            ((Wd.d (stepW (Prod.snd a)) == wd) = true →
                                K (V.tup [V.int IntKind.i64 (Prod.fst a), V.lit true])) ∧
                              ((Wd.d (stepW (Prod.snd a)) == wd) = false →
                                ((((0 : Nat) = (0 : Nat) ∧ (0 : Nat) = (0 : Nat)) ∧
                                      ((1 : Nat) = (1 : Nat) ∧ (0 : Nat) = (0 : Nat)) ∧
                                        (True ∧
                                            IntKind.wrap IntKind.i64 (Prod.fst a + (1 : Int)) =
                                              IntKind.wrap IntKind.i64 (Prod.fst a + (1 : Int))) ∧
                                          True) ∧
                                    ((True ∧
                                          wr = wr ∧
                                            (True ∧ ww = ww) ∧
                                              (True ∧ wh = wh) ∧
                                                wc = wc ∧
                                                  (True ∧ wx = wx) ∧ (True ∧ wy = wy) ∧ (True ∧ wd = wd) ∧ True) ∧
                                        (True ∧
                                            Wd.r (stepW (Prod.snd a)) = Wd.r (stepW (Prod.snd a)) ∧
                                              (True ∧ Wd.w (stepW (Prod.snd a)) = Wd.w (stepW (Prod.snd a))) ∧
                                                (True ∧ Wd.h (stepW (Prod.snd a)) = Wd.h (stepW (Prod.snd a))) ∧
                                                  Wd.c (stepW (Prod.snd a)) = Wd.c (stepW (Prod.snd a)) ∧
                                                    (True ∧ Wd.x (stepW (Prod.snd a)) = Wd.x (stepW (Prod.snd a))) ∧
                                                      (True ∧ Wd.y (stepW (Prod.snd a)) = Wd.y (stepW (Prod.snd a))) ∧
                                                        (True ∧ Wd.d (stepW (Prod.snd a)) = Wd.d (stepW (Prod.snd a))) ∧
                                                          True) ∧
                                          True) ∧
                                      True) ∧
                                  At
                                    (nowInv (pAnt { r := wr, w := ww, h := wh, c := wc, x := wx, y := wy, d := wd })
                                        { r := wr, w := ww, h := wh, c := wc, x := wx, y := wy, d := wd }
                                        (IntKind.wrap IntKind.i64 (Prod.fst a + (1 : Int)), stepW (Prod.snd a)) ∧
                                      Int.toNat ((4001 : Int) - IntKind.wrap IntKind.i64 (Prod.fst a + (1 : Int))) <
                                        Int.toNat ((4001 : Int) - Prod.fst a)))) ∧
                          ((Wd.y (stepW (Prod.snd a)) == wy) = false →
                            ((((0 : Nat) = (0 : Nat) ∧ (0 : Nat) = (0 : Nat)) ∧
                                  ((1 : Nat) = (1 : Nat) ∧ (0 : Nat) = (0 : Nat)) ∧
                                    (True ∧
                                        IntKind.wrap IntKind.i64 (Prod.fst a + (1 : Int)) =
                                          IntKind.wrap IntKind.i64 (Prod.fst a + (1 : Int))) ∧
                                      True) ∧
                                ((True ∧
                                      wr = wr ∧
                                        (True ∧ ww = ww) ∧
                                          (True ∧ wh = wh) ∧
                                            wc = wc ∧ (True ∧ wx = wx) ∧ (True ∧ wy = wy) ∧ (True ∧ wd = wd) ∧ True) ∧
                                    (True ∧
                                        Wd.r (stepW (Prod.snd a)) = Wd.r (stepW (Prod.snd a)) ∧
                                          (True ∧ Wd.w (stepW (Prod.snd a)) = Wd.w (stepW (Prod.snd a))) ∧
                                            (True ∧ Wd.h (stepW (Prod.snd a)) = Wd.h (stepW (Prod.snd a))) ∧
                                              Wd.c (stepW (Prod.snd a)) = Wd.c (stepW (Prod.snd a)) ∧
                                                (True ∧ Wd.x (stepW (Prod.snd a)) = Wd.x (stepW (Prod.snd a))) ∧
                                                  (True ∧ Wd.y (stepW (Prod.snd a)) = Wd.y (stepW (Prod.snd a))) ∧
                                                    (True ∧ Wd.d (stepW (Prod.snd a)) = Wd.d (stepW (Prod.snd a))) ∧
                                                      True) ∧
                                      True) ∧
                                  True) ∧
                              At
                                (nowInv (pAnt { r := wr, w := ww, h := wh, c := wc, x := wx, y := wy, d := wd })
                                    { r := wr, w := ww, h := wh, c := wc, x := wx, y := wy, d := wd }
                                    (IntKind.wrap IntKind.i64 (Prod.fst a + (1 : Int)), stepW (Prod.snd a)) ∧
                                  Int.toNat ((4001 : Int) - IntKind.wrap IntKind.i64 (Prod.fst a + (1 : Int))) <
                                    Int.toNat ((4001 : Int) - Prod.fst a)))) ∧
                      ((Wd.x (stepW (Prod.snd a)) == wx) = false →
                        ((((0 : Nat) = (0 : Nat) ∧ (0 : Nat) = (0 : Nat)) ∧
                              ((1 : Nat) = (1 : Nat) ∧ (0 : Nat) = (0 : Nat)) ∧
                                (True ∧
                                    IntKind.wrap IntKind.i64 (Prod.fst a + (1 : Int)) =
                                      IntKind.wrap IntKind.i64 (Prod.fst a + (1 : Int))) ∧
                                  True) ∧
                            ((True ∧
                                  wr = wr ∧
                                    (True ∧ ww = ww) ∧
                                      (True ∧ wh = wh) ∧
                                        wc = wc ∧ (True ∧ wx = wx) ∧ (True ∧ wy = wy) ∧ (True ∧ wd = wd) ∧ True) ∧
                                (True ∧
                                    Wd.r (stepW (Prod.snd a)) = Wd.r (stepW (Prod.snd a)) ∧
                                      (True ∧ Wd.w (stepW (Prod.snd a)) = Wd.w (stepW (Prod.snd a))) ∧
                                        (True ∧ Wd.h (stepW (Prod.snd a)) = Wd.h (stepW (Prod.snd a))) ∧
                                          Wd.c (stepW (Prod.snd a)) = Wd.c (stepW (Prod.snd a)) ∧
                                            (True ∧ Wd.x (stepW (Prod.snd a)) = Wd.x (stepW (Prod.snd a))) ∧
                                              (True ∧ Wd.y (stepW (Prod.snd a)) = Wd.y (stepW (Prod.snd a))) ∧
                                                (True ∧ Wd.d (stepW (Prod.snd a)) = Wd.d (stepW (Prod.snd a))) ∧ True) ∧
                                  True) ∧
                              True) ∧
                          At
                            (nowInv (pAnt { r := wr, w := ww, h := wh, c := wc, x := wx, y := wy, d := wd })
                                { r := wr, w := ww, h := wh, c := wc, x := wx, y := wy, d := wd }
                                (IntKind.wrap IntKind.i64 (Prod.fst a + (1 : Int)), stepW (Prod.snd a)) ∧
                              Int.toNat ((4001 : Int) - IntKind.wrap IntKind.i64 (Prod.fst a + (1 : Int))) <
                                Int.toNat ((4001 : Int) - Prod.fst a)))) ∧
                (decide (Prod.fst a ≤ (4000 : Int)) = false → K (V.tup [V.int IntKind.i64 (0 : Int), V.lit false])))

def VC_impl_AntPeriod (wr : List UInt8) (ww : Int) (wh : Int) (wc : List UInt8) (wx : Int) (wy : Int) (wd : Int) (K : V → Prop) : Prop :=
  At True ∧
  ((!goodB { r := wr, w := ww, h := wh, c := wc, x := wx, y := wy, d := wd }) = true →
      K (V.tup [V.int IntKind.i64 (0 : Int), V.lit false])) ∧
    ((!goodB { r := wr, w := ww, h := wh, c := wc, x := wx, y := wy, d := wd }) = false →
      (((True ∧ (1 : Int) = (1 : Int)) ∧
            ((47 : Nat) = (47 : Nat) ∧ [(0 : Nat)] = [(0 : Nat)]) ∧
              ((1 : Nat) = (1 : Nat) ∧ (0 : Nat) = (0 : Nat)) ∧
                ((2 : Nat) = (2 : Nat) ∧ (0 : Nat) = (0 : Nat)) ∧ (True ∧ (0 : Int) = (0 : Int)) ∧ True) ∧
          ((True ∧
                wr = wr ∧
                  (True ∧ ww = ww) ∧
                    (True ∧ wh = wh) ∧ wc = wc ∧ (True ∧ wx = wx) ∧ (True ∧ wy = wy) ∧ (True ∧ wd = wd) ∧ True) ∧
              (True ∧
                  wr = wr ∧
                    (True ∧ ww = ww) ∧
                      (True ∧ wh = wh) ∧ wc = wc ∧ (True ∧ wx = wx) ∧ (True ∧ wy = wy) ∧ (True ∧ wd = wd) ∧ True) ∧
                (True ∧
                    wr = Wd.r { r := wr, w := ww, h := wh, c := wc, x := wx, y := wy, d := wd } ∧
                      (True ∧ ww = Wd.w { r := wr, w := ww, h := wh, c := wc, x := wx, y := wy, d := wd }) ∧
                        (True ∧ wh = Wd.h { r := wr, w := ww, h := wh, c := wc, x := wx, y := wy, d := wd }) ∧
                          wc = Wd.c { r := wr, w := ww, h := wh, c := wc, x := wx, y := wy, d := wd } ∧
                            (True ∧ wx = Wd.x { r := wr, w := ww, h := wh, c := wc, x := wx, y := wy, d := wd }) ∧
                              (True ∧ wy = Wd.y { r := wr, w := ww, h := wh, c := wc, x := wx, y := wy, d := wd }) ∧
                                (True ∧ wd = Wd.d { r := wr, w := ww, h := wh, c := wc, x := wx, y := wy, d := wd }) ∧
                                  True) ∧
                  True) ∧
            True) ∧
        At
            (untInv (lookBy (47 : Nat) { r := wr, w := ww, h := wh, c := wc, x := wx, y := wy, d := wd }) (1 : Int)
              { r := wr, w := ww, h := wh, c := wc, x := wx, y := wy, d := wd }
              ((0 : Int), { r := wr, w := ww, h := wh, c := wc, x := wx, y := wy, d := wd })) ∧
          ∀ (a : Int × Wd),
            untInv (lookBy (47 : Nat) { r := wr, w := ww, h := wh, c := wc, x := wx, y := wy, d := wd }) (1 : Int)
                { r := wr, w := ww, h := wh, c := wc, x := wx, y := wy, d := wd } a →
              (decide (Prod.fst a ≤ (4000 : Int)) = true →
                  (decide (Prod.fst a ≥ (1 : Int)) = true →
                      At True ∧
                        (pAnt { r := wr, w := ww, h := wh, c := wc, x := wx, y := wy, d := wd } (Prod.snd a) = true →
                            K (V.tup [V.int IntKind.i64 (Prod.fst a), V.lit true])) ∧
                          (pAnt { r := wr, w := ww, h := wh, c := wc, x := wx, y := wy, d := wd } (Prod.snd a) = false →
                            At (goodB (Prod.snd a) = true) ∧
                              (((True ∧ (1 : Int) = (1 : Int)) ∧
                                    ((47 : Nat) = (47 : Nat) ∧ [(0 : Nat)] = [(0 : Nat)]) ∧
                                      ((1 : Nat) = (1 : Nat) ∧ (0 : Nat) = (0 : Nat)) ∧
                                        ((2 : Nat) = (2 : Nat) ∧ (0 : Nat) = (0 : Nat)) ∧
                                          (True ∧
                                              IntKind.wrap IntKind.i64 (Prod.fst a + (1 : Int)) =
                                                IntKind.wrap IntKind.i64 (Prod.fst a + (1 : Int))) ∧
                                            True) ∧
                                  ((True ∧
                                        wr = wr ∧
                                          (True ∧ ww = ww) ∧
                                            (True ∧ wh = wh) ∧
                                              wc = wc ∧ (True ∧ wx = wx) ∧ (True ∧ wy = wy) ∧ (True ∧ wd = wd) ∧ True) ∧
                                      (True ∧
                                          wr = wr ∧
                                            (True ∧ ww = ww) ∧
                                              (True ∧ wh = wh) ∧
                                                wc = wc ∧
                                                  (True ∧ wx = wx) ∧ (True ∧ wy = wy) ∧ (True ∧ wd = wd) ∧ True) ∧
                                        (True ∧
                                            Wd.r (stepW (Prod.snd a)) = Wd.r (stepW (Prod.snd a)) ∧
                                              (True ∧ Wd.w (stepW (Prod.snd a)) = Wd.w (stepW (Prod.snd a))) ∧
                                                (True ∧ Wd.h (stepW (Prod.snd a)) = Wd.h (stepW (Prod.snd a))) ∧
                                                  Wd.c (stepW (Prod.snd a)) = Wd.c (stepW (Prod.snd a)) ∧
                                                    (True ∧ Wd.x (stepW (Prod.snd a)) = Wd.x (stepW (Prod.snd a))) ∧
                                                      (True ∧ Wd.y (stepW (Prod.snd a)) = Wd.y (stepW (Prod.snd a))) ∧
                                                        (True ∧ Wd.d (stepW (Prod.snd a)) = Wd.d (stepW (Prod.snd a))) ∧
                                                          True) ∧
                                          True) ∧
                                    True) ∧
                                At
                                  (untInv
                                      (lookBy (47 : Nat)
                                        { r := wr, w := ww, h := wh, c := wc, x := wx, y := wy, d := wd })
                                      (1 : Int) { r := wr, w := ww, h := wh, c := wc, x := wx, y := wy, d := wd }
                                      (IntKind.wrap IntKind.i64 (Prod.fst a + (1 : Int)), stepW (Prod.snd a)) ∧
                                    Int.toNat ((4001 : Int) - IntKind.wrap IntKind.i64 (Prod.fst a + (1 : Int))) <
                                      Int.toNat ((4001 : Int) - Prod.fst a)))) ∧
                    (decide (Prod.fst a ≥ (1 : Int)) = false →
                      At (goodB (Prod.snd a) = true) ∧
                        (((True ∧ (1 : Int) = (1 : Int)) ∧
                              ((47 : Nat) = (47 : Nat) ∧ [(0 : Nat)] = [(0 : Nat)]) ∧
                                ((1 : Nat) = (1 : Nat) ∧ (0 : Nat) = (0 : Nat)) ∧
                                  ((2 : Nat) = (2 : Nat) ∧ (0 : Nat) = (0 : Nat)) ∧
                                    (True ∧
                                        IntKind.wrap IntKind.i64 (Prod.fst a + (1 : Int)) =
                                          IntKind.wrap IntKind.i64 (Prod.fst a + (1 : Int))) ∧
                                      True) ∧
                            ((True ∧
                                  wr = wr ∧
                                    (True ∧ ww = ww) ∧
                                      (True ∧ wh = wh) ∧
                                        wc = wc ∧ (True ∧ wx = wx) ∧ (True ∧ wy = wy) ∧ (True ∧ wd = wd) ∧ True) ∧
                                (True ∧
                                    wr = wr ∧
                                      (True ∧ ww = ww) ∧
                                        (True ∧ wh = wh) ∧
                                          wc = wc ∧ (True ∧ wx = wx) ∧ (True ∧ wy = wy) ∧ (True ∧ wd = wd) ∧ True) ∧
                                  (True ∧
                                      Wd.r (stepW (Prod.snd a)) = Wd.r (stepW (Prod.snd a)) ∧
                                        (True ∧ Wd.w (stepW (Prod.snd a)) = Wd.w (stepW (Prod.snd a))) ∧
                                          (True ∧ Wd.h (stepW (Prod.snd a)) = Wd.h (stepW (Prod.snd a))) ∧
                                            Wd.c (stepW (Prod.snd a)) = Wd.c (stepW (Prod.snd a)) ∧
                                              (True ∧ Wd.x (stepW (Prod.snd a)) = Wd.x (stepW (Prod.snd a))) ∧
                                                (True ∧ Wd.y (stepW (Prod.snd a)) = Wd.y (stepW (Prod.snd a))) ∧
                                                  (True ∧ Wd.d (stepW (Prod.snd a)) = Wd.d (stepW (Prod.snd a))) ∧
                                                    True) ∧
                                    True) ∧
                              True) ∧
                          At
                            (untInv
                                (lookBy (47 : Nat) { r := wr, w := ww, h := wh, c := wc, x := wx, y := wy, d := wd })
                                (1 : Int) { r := wr, w := ww, h := wh, c := wc, x := wx, y := wy, d := wd }
                                (IntKind.wrap IntKind.i64 (Prod.fst a + (1 : Int)), stepW (Prod.snd a)) ∧
                              Int.toNat ((4001 : Int) - IntKind.wrap IntKind.i64 (Prod.fst a + (1 : Int))) <
                                Int.toNat ((4001 : Int) - Prod.fst a)))) ∧
                (decide (Prod.fst a ≤ (4000 : Int)) = false → K (V.tup [V.int IntKind.i64 (0 : Int), V.lit false])))

def VC_spec_FirstReturn (wr : List UInt8) (ww : Int) (wh : Int) (wc : List UInt8) (wx : Int) (wy : Int) (wd : Int) (K : V → Prop) : Prop :=
  At True ∧
  ((!goodB { r := wr, w := ww, h := wh, c := wc, x := wx, y := wy, d := wd }) = true →
      K (V.tup [V.int IntKind.i64 (0 : Int), V.lit false])) ∧
    ((!goodB { r := wr, w := ww, h := wh, c := wc, x := wx, y := wy, d := wd }) = false →
      ((((0 : Nat) = (0 : Nat) ∧ (0 : Nat) = (0 : Nat)) ∧
            ((1 : Nat) = (1 : Nat) ∧ (0 : Nat) = (0 : Nat)) ∧ (True ∧ (1 : Int) = (1 : Int)) ∧ True) ∧
          ((True ∧
                wr = wr ∧
                  (True ∧ ww = ww) ∧
                    (True ∧ wh = wh) ∧ wc = wc ∧ (True ∧ wx = wx) ∧ (True ∧ wy = wy) ∧ (True ∧ wd = wd) ∧ True) ∧
              (True ∧
                  wr = Wd.r { r := wr, w := ww, h := wh, c := wc, x := wx, y := wy, d := wd } ∧
                    (True ∧ ww = Wd.w { r := wr, w := ww, h := wh, c := wc, x := wx, y := wy, d := wd }) ∧
                      (True ∧ wh = Wd.h { r := wr, w := ww, h := wh, c := wc, x := wx, y := wy, d := wd }) ∧
                        wc = Wd.c { r := wr, w := ww, h := wh, c := wc, x := wx, y := wy, d := wd } ∧
                          (True ∧ wx = Wd.x { r := wr, w := ww, h := wh, c := wc, x := wx, y := wy, d := wd }) ∧
                            (True ∧ wy = Wd.y { r := wr, w := ww, h := wh, c := wc, x := wx, y := wy, d := wd }) ∧
                              (True ∧ wd = Wd.d { r := wr, w := ww, h := wh, c := wc, x := wx, y := wy, d := wd }) ∧
                                True) ∧
                True) ∧
            True) ∧
        At
            (nowInv (pRet { r := wr, w := ww, h := wh, c := wc, x := wx, y := wy, d := wd })
              { r := wr, w := ww, h := wh, c := wc, x := wx, y := wy, d := wd }
              ((1 : Int), { r := wr, w := ww, h := wh, c := wc, x := wx, y := wy, d := wd })) ∧
          ∀ (a : Int × Wd),
            nowInv (pRet { r := wr, w := ww, h := wh, c := wc, x := wx, y := wy, d := wd })
                { r := wr, w := ww, h := wh, c := wc, x := wx, y := wy, d := wd } a →
              (decide (Prod.fst a ≤ (4000 : Int)) = true →
                  At (goodB (Prod.snd a) = true) ∧
                    ((Wd.x (stepW (Prod.snd a)) == wx) = true →
                        ((Wd.y (stepW (Prod.snd a)) == wy) = true →
                            K (V.tup [V.int IntKind.i64 (Prod.fst a), V.lit true])) ∧
                          ((Wd.y (stepW (Prod.snd a)) == wy) = false →
                            ((((0 : Nat) = (0 : Nat) ∧ (0 : Nat) = (0 : Nat)) ∧
                                  ((1 : Nat) = (1 : Nat) ∧ (0 : Nat) = (0 : Nat)) ∧
                                    (True ∧
                                        IntKind.wrap IntKind.i64 (Prod.fst a + (1 : Int)) =
                                          IntKind.wrap IntKind.i64 (Prod.fst a + (1 : Int))) ∧
                                      True) ∧
                                ((True ∧
                                      wr = wr ∧
                                        (True ∧ ww = ww) ∧
                                          (True ∧ wh = wh) ∧
                                            wc = wc ∧ (True ∧ wx = wx) ∧ (True ∧ wy = wy) ∧ (True ∧ wd = wd) ∧ True) ∧
                                    (True ∧
                                        Wd.r (stepW (Prod.snd a)) = Wd.r (stepW (Prod.snd a)) ∧
                                          (True ∧ Wd.w (stepW (Prod.snd a)) = Wd.w (stepW (Prod.snd a))) ∧
                                            (True ∧ Wd.h (stepW (Prod.snd a)) = Wd.h (stepW (Prod.snd a))) ∧
                                              Wd.c (stepW (Prod.snd a)) = Wd.c (stepW (Prod.snd a)) ∧
                                                (True ∧ Wd.x (stepW (Prod.snd a)) = Wd.x (stepW (Prod.snd a))) ∧
                                                  (True ∧ Wd.y (stepW (Prod.snd a)) = Wd.y (stepW (Prod.snd a))) ∧
                                                    (True ∧ Wd.d (stepW (Prod.snd a)) = Wd.d (stepW (Prod.snd a))) ∧
                                                      True) ∧
                                      True) ∧
                                  True) ∧
                              At
                                (nowInv (pRet { r := wr, w := ww, h := wh, c := wc, x := wx, y := wy, d := wd })
                                    { r := wr, w := ww, h := wh, c := wc, x := wx, y := wy, d := wd }
                                    (IntKind.wrap IntKind.i64 (Prod.fst a + (1 : Int)), stepW (Prod.snd a)) ∧
                                  Int.toNat ((4001 : Int) - IntKind.wrap IntKind.i64 (Prod.fst a + (1 : Int))) <
                                    Int.toNat ((4001 : Int) - Prod.fst a)))) ∧
                      ((Wd.x (stepW (Prod.snd a)) == wx) = false →
                        ((((0 : Nat) = (0 : Nat) ∧ (0 : Nat) = (0 : Nat)) ∧
                              ((1 : Nat) = (1 : Nat) ∧ (0 : Nat) = (0 : Nat)) ∧
                                (True ∧
                                    IntKind.wrap IntKind.i64 (Prod.fst a + (1 : Int)) =
                                      IntKind.wrap IntKind.i64 (Prod.fst a + (1 : Int))) ∧
                                  True) ∧
                            ((True ∧
                                  wr = wr ∧
                                    (True ∧ ww = ww) ∧
                                      (True ∧ wh = wh) ∧
                                        wc = wc ∧ (True ∧ wx = wx) ∧ (True ∧ wy = wy) ∧ (True ∧ wd = wd) ∧ True) ∧
                                (True ∧
                                    Wd.r (stepW (Prod.snd a)) = Wd.r (stepW (Prod.snd a)) ∧
                                      (True ∧ Wd.w (stepW (Prod.snd a)) = Wd.w (stepW (Prod.snd a))) ∧
                                        (True ∧ Wd.h (stepW (Prod.snd a)) = Wd.h (stepW (Prod.snd a))) ∧
                                          Wd.c (stepW (Prod.snd a)) = Wd.c (stepW (Prod.snd a)) ∧
                                            (True ∧ Wd.x (stepW (Prod.snd a)) = Wd.x (stepW (Prod.snd a))) ∧
                                              (True ∧ Wd.y (stepW (Prod.snd a)) = Wd.y (stepW (Prod.snd a))) ∧
                                                (True ∧ Wd.d (stepW (Prod.snd a)) = Wd.d (stepW (Prod.snd a))) ∧ True) ∧
                                  True) ∧
                              True) ∧
                          At
                            (nowInv (pRet { r := wr, w := ww, h := wh, c := wc, x := wx, y := wy, d := wd })
                                { r := wr, w := ww, h := wh, c := wc, x := wx, y := wy, d := wd }
                                (IntKind.wrap IntKind.i64 (Prod.fst a + (1 : Int)), stepW (Prod.snd a)) ∧
                              Int.toNat ((4001 : Int) - IntKind.wrap IntKind.i64 (Prod.fst a + (1 : Int))) <
                                Int.toNat ((4001 : Int) - Prod.fst a)))) ∧
                (decide (Prod.fst a ≤ (4000 : Int)) = false → K (V.tup [V.int IntKind.i64 (0 : Int), V.lit false])))

def VC_impl_FirstReturn (wr : List UInt8) (ww : Int) (wh : Int) (wc : List UInt8) (wx : Int) (wy : Int) (wd : Int) (K : V → Prop) : Prop :=
  At True ∧
  ((!goodB { r := wr, w := ww, h := wh, c := wc, x := wx, y := wy, d := wd }) = true →
      K (V.tup [V.int IntKind.i64 (0 : Int), V.lit false])) ∧
    ((!goodB { r := wr, w := ww, h := wh, c := wc, x := wx, y := wy, d := wd }) = false →
      (((True ∧ (1 : Int) = (1 : Int)) ∧
            ((48 : Nat) = (48 : Nat) ∧ [(0 : Nat)] = [(0 : Nat)]) ∧
              ((1 : Nat) = (1 : Nat) ∧ (0 : Nat) = (0 : Nat)) ∧
                ((2 : Nat) = (2 : Nat) ∧ (0 : Nat) = (0 : Nat)) ∧ (True ∧ (0 : Int) = (0 : Int)) ∧ True) ∧
          ((True ∧
                wr = wr ∧
                  (True ∧ ww = ww) ∧
                    (True ∧ wh = wh) ∧ wc = wc ∧ (True ∧ wx = wx) ∧ (True ∧ wy = wy) ∧ (True ∧ wd = wd) ∧ True) ∧
              (True ∧
                  wr = wr ∧
                    (True ∧ ww = ww) ∧
                      (True ∧ wh = wh) ∧ wc = wc ∧ (True ∧ wx = wx) ∧ (True ∧ wy = wy) ∧ (True ∧ wd = wd) ∧ True) ∧
                (True ∧
                    wr = Wd.r { r := wr, w := ww, h := wh, c := wc, x := wx, y := wy, d := wd } ∧
                      (True ∧ ww = Wd.w { r := wr, w := ww, h := wh, c := wc, x := wx, y := wy, d := wd }) ∧
                        (True ∧ wh = Wd.h { r := wr, w := ww, h := wh, c := wc, x := wx, y := wy, d := wd }) ∧
                          wc = Wd.c { r := wr, w := ww, h := wh, c := wc, x := wx, y := wy, d := wd } ∧
                            (True ∧ wx = Wd.x { r := wr, w := ww, h := wh, c := wc, x := wx, y := wy, d := wd }) ∧
                              (True ∧ wy = Wd.y { r := wr, w := ww, h := wh, c := wc, x := wx, y := wy, d := wd }) ∧
                                (True ∧ wd = Wd.d { r := wr, w := ww, h := wh, c := wc, x := wx, y := wy, d := wd }) ∧
                                  True) ∧
                  True) ∧
            True) ∧
        At
            (untInv (lookBy (48 : Nat) { r := wr, w := ww, h := wh, c := wc, x := wx, y := wy, d := wd }) (1 : Int)
              { r := wr, w := ww, h := wh, c := wc, x := wx, y := wy, d := wd }
              ((0 : Int), { r := wr, w := ww, h := wh, c := wc, x := wx, y := wy, d := wd })) ∧
          ∀ (a : Int × Wd),
            untInv (lookBy (48 : Nat) { r := wr, w := ww, h := wh, c := wc, x := wx, y := wy, d := wd }) (1 : Int)
                { r := wr, w := ww, h := wh, c := wc, x := wx, y := wy, d := wd } a →
              (decide (Prod.fst a ≤ (4000 : Int)) = true →
                  (decide (Prod.fst a ≥ (1 : Int)) = true →
                      At True ∧
                        (pRet { r := wr, w := ww, h := wh, c := wc, x := wx, y := wy, d := wd } (Prod.snd a) = true →
                            K (V.tup [V.int IntKind.i64 (Prod.fst a), V.lit true])) ∧
                          (pRet { r := wr, w := ww, h := wh, c := wc, x := wx, y := wy, d := wd } (Prod.snd a) = false →
                            At (goodB (Prod.snd a) = true) ∧
                              (((True ∧ (1 : Int) = (1 : Int)) ∧
                                    ((48 : Nat) = (48 : Nat) ∧ [(0 : Nat)] = [(0 : Nat)]) ∧
                                      ((1 : Nat) = (1 : Nat) ∧ (0 : Nat) = (0 : Nat)) ∧
                                        ((2 : Nat) = (2 : Nat) ∧ (0 : Nat) = (0 : Nat)) ∧
                                          (True ∧
                                              IntKind.wrap IntKind.i64 (Prod.fst a + (1 : Int)) =
                                                IntKind.wrap IntKind.i64 (Prod.fst a + (1 : Int))) ∧
                                            True) ∧
                                  ((True ∧
                                        wr = wr ∧
                                          (True ∧ ww = ww) ∧
                                            (True ∧ wh = wh) ∧
                                              wc = wc ∧ (True ∧ wx = wx) ∧ (True ∧ wy = wy) ∧ (True ∧ wd = wd) ∧ True) ∧
                                      (True ∧
                                          wr = wr ∧
                                            (True ∧ ww = ww) ∧
                                              (True ∧ wh = wh) ∧
                                                wc = wc ∧
                                                  (True ∧ wx = wx) ∧ (True ∧ wy = wy) ∧ (True ∧ wd = wd) ∧ True) ∧
                                        (True ∧
                                            Wd.r (stepW (Prod.snd a)) = Wd.r (stepW (Prod.snd a)) ∧
                                              (True ∧ Wd.w (stepW (Prod.snd a)) = Wd.w (stepW (Prod.snd a))) ∧
                                                (True ∧ Wd.h (stepW (Prod.snd a)) = Wd.h (stepW (Prod.snd a))) ∧
                                                  Wd.c (stepW (Prod.snd a)) = Wd.c (stepW (Prod.snd a)) ∧
                                                    (True ∧ Wd.x (stepW (Prod.snd a)) = Wd.x (stepW (Prod.snd a))) ∧
                                                      (True ∧ Wd.y (stepW (Prod.snd a)) = Wd.y (stepW (Prod.snd a))) ∧
                                                        (True ∧ Wd.d (stepW (Prod.snd a)) = Wd.d (stepW (Prod.snd a))) ∧
                                                          True) ∧
                                          True) ∧
                                    True) ∧
                                At
                                  (untInv
                                      (lookBy (48 : Nat)
                                        { r := wr, w := ww, h := wh, c := wc, x := wx, y := wy, d := wd })
                                      (1 : Int) { r := wr, w := ww, h := wh, c := wc, x := wx, y := wy, d := wd }
                                      (IntKind.wrap IntKind.i64 (Prod.fst a + (1 : Int)), stepW (Prod.snd a)) ∧
                                    Int.toNat ((4001 : Int) - IntKind.wrap IntKind.i64 (Prod.fst a + (1 : Int))) <
                                      Int.toNat ((4001 : Int) - Prod.fst a)))) ∧
                    (decide (Prod.fst a ≥ (1 : Int)) = false →
                      At (goodB (Prod.snd a) = true) ∧
                        (((True ∧ (1 : Int) = (1 : Int)) ∧
                              ((48 : Nat) = (48 : Nat) ∧ [(0 : Nat)] = [(0 : Nat)]) ∧
                                ((1 : Nat) = (1 : Nat) ∧ (0 : Nat) = (0 : Nat)) ∧
                                  ((2 : Nat) = (2 : Nat) ∧ (0 : Nat) = (0 : Nat)) ∧
                                    (True ∧
                                        IntKind.wrap IntKind.i64 (Prod.fst a + (1 : Int)) =
                                          IntKind.wrap IntKind.i64 (Prod.fst a + (1 : Int))) ∧
                                      True) ∧
                            ((True ∧
                                  wr = wr ∧
                                    (True ∧ ww = ww) ∧
                                      (True ∧ wh = wh) ∧
                                        wc = wc ∧ (True ∧ wx = wx) ∧ (True ∧ wy = wy) ∧ (True ∧ wd = wd) ∧ True) ∧
                                (True ∧
                                    wr = wr ∧
                                      (True ∧ ww = ww) ∧
                                        (True ∧ wh = wh) ∧
                                          wc = wc ∧ (True ∧ wx = wx) ∧ (True ∧ wy = wy) ∧ (True ∧ wd = wd) ∧ True) ∧
                                  (True ∧
                                      Wd.r (stepW (Prod.snd a)) = Wd.r (stepW (Prod.snd a)) ∧
                                        (True ∧ Wd.w (stepW (Prod.snd a)) = Wd.w (stepW (Prod.snd a))) ∧
                                          (True ∧ Wd.h (stepW (Prod.snd a)) = Wd.h (stepW (Prod.snd a))) ∧
                                            Wd.c (stepW (Prod.snd a)) = Wd.c (stepW (Prod.snd a)) ∧
                                              (True ∧ Wd.x (stepW (Prod.snd a)) = Wd.x (stepW (Prod.snd a))) ∧
                                                (True ∧ Wd.y (stepW (Prod.snd a)) = Wd.y (stepW (Prod.snd a))) ∧
                                                  (True ∧ Wd.d (stepW (Prod.snd a)) = Wd.d (stepW (Prod.snd a))) ∧
                                                    True) ∧
                                    True) ∧
                              True) ∧
                          At
                            (untInv
                                (lookBy (48 : Nat) { r := wr, w := ww, h := wh, c := wc, x := wx, y := wy, d := wd })
                                (1 : Int) { r := wr, w := ww, h := wh, c := wc, x := wx, y := wy, d := wd }
                                (IntKind.wrap IntKind.i64 (Prod.fst a + (1 : Int)), stepW (Prod.snd a)) ∧
                              Int.toNat ((4001 : Int) - IntKind.wrap IntKind.i64 (Prod.fst a + (1 : Int))) <
                                Int.toNat ((4001 : Int) - Prod.fst a)))) ∧
                (decide (Prod.fst a ≤ (4000 : Int)) = false → K (V.tup [V.int IntKind.i64 (0 : Int), V.lit false])))

def VC_spec_StepsBetween (wr : List UInt8) (ww : Int) (wh : Int) (wc : List UInt8) (wx : Int) (wy : Int) (wd : Int) (vr : List UInt8) (vw : Int) (vh : Int) (vc : List UInt8) (vx : Int) (vy : Int) (vd : Int) (K : V → Prop) : Prop :=
  At True ∧
  ((!goodB { r := wr, w := ww, h := wh, c := wc, x := wx, y := wy, d := wd }) = true →
      K (V.tup [V.int IntKind.i64 (0 : Int), V.lit false])) ∧
    ((!goodB { r := wr, w := ww, h := wh, c := wc, x := wx, y := wy, d := wd }) = false →
      At True ∧
        ((!goodB { r := vr, w := vw, h := vh, c := vc, x := vx, y := vy, d := vd }) = true →
            K (V.tup [V.int IntKind.i64 (0 : Int), V.lit false])) ∧
          ((!goodB { r := vr, w := vw, h := vh, c := vc, x := vx, y := vy, d := vd }) = false →
            ((((0 : Nat) = (0 : Nat) ∧ (0 : Nat) = (0 : Nat)) ∧
                  ((1 : Nat) = (1 : Nat) ∧ (0 : Nat) = (0 : Nat)) ∧ (True ∧ (0 : Int) = (0 : Int)) ∧ True) ∧
                ((True ∧
                      wr = Wd.r { r := wr, w := ww, h := wh, c := wc, x := wx, y := wy, d := wd } ∧
                        (True ∧ ww = Wd.w { r := wr, w := ww, h := wh, c := wc, x := wx, y := wy, d := wd }) ∧
                          (True ∧ wh = Wd.h { r := wr, w := ww, h := wh, c := wc, x := wx, y := wy, d := wd }) ∧
                            wc = Wd.c { r := wr, w := ww, h := wh, c := wc, x := wx, y := wy, d := wd } ∧
                              (True ∧ wx = Wd.x { r := wr, w := ww, h := wh, c := wc, x := wx, y := wy, d := wd }) ∧
                                (True ∧ wy = Wd.y { r := wr, w := ww, h := wh, c := wc, x := wx, y := wy, d := wd }) ∧
                                  (True ∧ wd = Wd.d { r := wr, w := ww, h := wh, c := wc, x := wx, y := wy, d := wd }) ∧
                                    True) ∧
                    (True ∧
                        vr = vr ∧
                          (True ∧ vw = vw) ∧
                            (True ∧ vh = vh) ∧
                              vc = vc ∧ (True ∧ vx = vx) ∧ (True ∧ vy = vy) ∧ (True ∧ vd = vd) ∧ True) ∧
                      True) ∧
                  True) ∧
              At
                  (untInv (pPer { r := vr, w := vw, h := vh, c := vc, x := vx, y := vy, d := vd }) (0 : Int)
                    { r := wr, w := ww, h := wh, c := wc, x := wx, y := wy, d := wd }
                    ((0 : Int), { r := wr, w := ww, h := wh, c := wc, x := wx, y := wy, d := wd })) ∧
                ∀ (a : Int × Wd),
                  untInv (pPer { r := vr, w := vw, h := vh, c := vc, x := vx, y := vy, d := vd }) (0 : Int)
                      { r := wr, w := ww, h := wh, c := wc, x := wx, y := wy, d := wd } a →
                    (decide (Prod.fst a ≤ (4000 : Int)) = true →
                        ((Wd.r (Prod.snd a) == vr &&
                                (Wd.w (Prod.snd a) == vw &&
                                  (Wd.h (Prod.snd a) == vh &&
                                    (Wd.c (Prod.snd a) == vc &&
                                      (Wd.x (Prod.snd a) == vx &&
                                        (Wd.y (Prod.snd a) == vy && (Wd.d (Prod.snd a) == vd && true))))))) =
                              true →
                            K (V.tup [V.int IntKind.i64 (Prod.fst a), V.lit true])) ∧
                          ((Wd.r (Prod.snd a) == vr &&
                                (Wd.w (Prod.snd a) == vw &&
                                  (Wd.h (Prod.snd a) == vh &&
                                    (Wd.c (Prod.snd a) == vc &&
                                      (Wd.x (Prod.snd a) == vx &&
                                        (Wd.y (Prod.snd a) == vy && (Wd.d (Prod.snd a) == vd && true))))))) =
                              false →
                            At (goodB (Prod.snd a) = true) ∧
                              ((((0 : Nat) = (0 : Nat) ∧ (0 : Nat) = (0 : Nat)) ∧
                                    ((1 : Nat) = (1 : Nat) ∧ (0 : Nat) = (0 : Nat)) ∧
                                      (True ∧
                                          IntKind.wrap IntKind.i64 (Prod.fst a + (1 : Int)) =
                                            IntKind.wrap IntKind.i64 (Prod.fst a + (1 : Int))) ∧
                                        True) ∧
                                  ((True ∧
                                        Wd.r (stepW (Prod.snd a)) = Wd.r (stepW (Prod.snd a)) ∧
                                          (True ∧ Wd.w (stepW (Prod.snd a)) = Wd.w (stepW (Prod.snd a))) ∧
                                            (True ∧ Wd.h (stepW (Prod.snd a)) = Wd.h (stepW (Prod.snd a))) ∧
                                              Wd.c (stepW (Prod.snd a)) = Wd.c (stepW (Prod.snd a)) ∧
                                                (True ∧ Wd.x (stepW (Prod.snd a)) = Wd.x (stepW (Prod.snd a))) ∧
                                                  (True ∧ Wd.y (stepW (Prod.snd a)) = Wd.y (stepW (Prod.snd a))) ∧
                                                    (True ∧ Wd.d (stepW (Prod.snd a)) = Wd.d (stepW (Prod.snd a))) ∧
                                                      True) ∧
                                      (True ∧
                                          vr = vr ∧
                                            (True ∧ vw = vw) ∧
                                              (True ∧ vh = vh) ∧
                                                vc = vc ∧
                                                  (True ∧ vx = vx) ∧ (True ∧ vy = vy) ∧ (True ∧ vd = vd) ∧ True) ∧
                                        True) ∧
                                    True) ∧
                                At
                                  (untInv (pPer { r := vr, w := vw, h := vh, c := vc, x := vx, y := vy, d := vd })
                                      (0 : Int) { r := wr, w := ww, h := wh, c := wc, x := wx, y := wy, d := wd }
                                      (IntKind.wrap IntKind.i64 (Prod.fst a + (1 : Int)), stepW (Prod.snd a)) ∧
                                    Int.toNat ((4001 : Int) - IntKind.wrap IntKind.i64 (Prod.fst a + (1 : Int))) <
                                      Int.toNat ((4001 : Int) - Prod.fst a)))) ∧
                      (decide (Prod.fst a ≤ (4000 : Int)) = false →
                        K (V.tup [V.int IntKind.i64 (0 : Int), V.lit false]))))

def VC_impl_StepsBetween (wr : List UInt8) (ww : Int) (wh : Int) (wc : List UInt8) (wx : Int) (wy : Int) (wd : Int) (vr : List UInt8) (vw : Int) (vh : Int) (vc : List UInt8) (vx : Int) (vy : Int) (vd : Int) (K : V → Prop) : Prop :=
  At True ∧
  ((!goodB { r := vr, w := vw, h := vh, c := vc, x := vx, y := vy, d := vd }) = true →
      K (V.tup [V.int IntKind.i64 (0 : Int), V.lit false])) ∧
    ((!goodB { r := vr, w := vw, h := vh, c := vc, x := vx, y := vy, d := vd }) = false →
      At True ∧
        ((!goodB { r := wr, w := ww, h := wh, c := wc, x := wx, y := wy, d := wd }) = true →
            K (V.tup [V.int IntKind.i64 (0 : Int), V.lit false])) ∧
          ((!goodB { r := wr, w := ww, h := wh, c := wc, x := wx, y := wy, d := wd }) = false →
            (((True ∧ (0 : Int) = (0 : Int)) ∧
                  ((50 : Nat) = (50 : Nat) ∧ [(0 : Nat)] = [(0 : Nat)]) ∧
                    ((1 : Nat) = (1 : Nat) ∧ (0 : Nat) = (0 : Nat)) ∧
                      ((2 : Nat) = (2 : Nat) ∧ (0 : Nat) = (0 : Nat)) ∧ (True ∧ (0 : Int) = (0 : Int)) ∧ True) ∧
                ((True ∧
                      vr = vr ∧
                        (True ∧ vw = vw) ∧
                          (True ∧ vh = vh) ∧ vc = vc ∧ (True ∧ vx = vx) ∧ (True ∧ vy = vy) ∧ (True ∧ vd = vd) ∧ True) ∧
                    (True ∧
                        wr = wr ∧
                          (True ∧ ww = ww) ∧
                            (True ∧ wh = wh) ∧
                              wc = wc ∧ (True ∧ wx = wx) ∧ (True ∧ wy = wy) ∧ (True ∧ wd = wd) ∧ True) ∧
                      (True ∧
                          wr = Wd.r { r := wr, w := ww, h := wh, c := wc, x := wx, y := wy, d := wd } ∧
                            (True ∧ ww = Wd.w { r := wr, w := ww, h := wh, c := wc, x := wx, y := wy, d := wd }) ∧
                              (True ∧ wh = Wd.h { r := wr, w := ww, h := wh, c := wc, x := wx, y := wy, d := wd }) ∧
                                wc = Wd.c { r := wr, w := ww, h := wh, c := wc, x := wx, y := wy, d := wd } ∧
                                  (True ∧ wx = Wd.x { r := wr, w := ww, h := wh, c := wc, x := wx, y := wy, d := wd }) ∧
                                    (True ∧
                                        wy = Wd.y { r := wr, w := ww, h := wh, c := wc, x := wx, y := wy, d := wd }) ∧
                                      (True ∧
                                          wd = Wd.d { r := wr, w := ww, h := wh, c := wc, x := wx, y := wy, d := wd }) ∧
                                        True) ∧
                        True) ∧
                  True) ∧
              At
                  (untInv (lookBy (50 : Nat) { r := vr, w := vw, h := vh, c := vc, x := vx, y := vy, d := vd })
                    (0 : Int) { r := wr, w := ww, h := wh, c := wc, x := wx, y := wy, d := wd }
                    ((0 : Int), { r := wr, w := ww, h := wh, c := wc, x := wx, y := wy, d := wd })) ∧
                ∀ (a : Int × Wd),
                  untInv (lookBy (50 : Nat) { r := vr, w := vw, h := vh, c := vc, x := vx, y := vy, d := vd }) (0 : Int)
                      { r := wr, w := ww, h := wh, c := wc, x := wx, y := wy, d := wd } a →
                    (decide (Prod.fst a ≤ (4000 : Int)) = true →
                        (decide (Prod.fst a ≥ (0 : Int)) = true →
                            At True ∧
                              (pPer { r := vr, w := vw, h := vh, c := vc, x := vx, y := vy, d := vd } (Prod.snd a) =
                                    true →
                                  K (V.tup [V.int IntKind.i64 (Prod.fst a), V.lit true])) ∧
                                (pPer { r := vr, w := vw, h := vh, c := vc, x := vx, y := vy, d := vd } (Prod.snd a) =
                                    false →
                                  At (goodB (Prod.snd a) = true) ∧
                                    (((True ∧ (0 : Int) = (0 : Int)) ∧
                                          ((50 : Nat) = (50 : Nat) ∧ [(0 : Nat)] = [(0 : Nat)]) ∧
                                            ((1 : Nat) = (1 : Nat) ∧ (0 : Nat) = (0 : Nat)) ∧
                                              ((2 : Nat) = (2 : Nat) ∧ (0 : Nat) = (0 : Nat)) ∧
                                                (True ∧
                                                    IntKind.wrap IntKind.i64 (Prod.fst a + (1 : Int)) =
                                                      IntKind.wrap IntKind.i64 (Prod.fst a + (1 : Int))) ∧
                                                  True) ∧
                                        ((True ∧
                                              vr = vr ∧
                                                (True ∧ vw = vw) ∧
                                                  (True ∧ vh = vh) ∧
                                                    vc = vc ∧
                                                      (True ∧ vx = vx) ∧ (True ∧ vy = vy) ∧ (True ∧ vd = vd) ∧ True) ∧
                                            (True ∧
                                                wr = wr ∧
                                                  (True ∧ ww = ww) ∧
                                                    (True ∧ wh = wh) ∧
                                                      wc = wc ∧
                                                        (True ∧ wx = wx) ∧ (True ∧ wy = wy) ∧ (True ∧ wd = wd) ∧ True) ∧
                                              (True ∧
                                                  Wd.r (stepW (Prod.snd a)) = Wd.r (stepW (Prod.snd a)) ∧
                                                    (True ∧ Wd.w (stepW (Prod.snd a)) = Wd.w (stepW (Prod.snd a))) ∧
                                                      (True ∧ Wd.h (stepW (Prod.snd a)) = Wd.h (stepW (Prod.snd a))) ∧
                                                        Wd.c (stepW (Prod.snd a)) = Wd.c (stepW (Prod.snd a)) ∧
                                                          (True ∧
                                                              Wd.x (stepW (Prod.snd a)) = Wd.x (stepW (Prod.snd a))) ∧
                                                            (True ∧
                                                                Wd.y (stepW (Prod.snd a)) = Wd.y (stepW (Prod.snd a))) ∧
                                                              (True ∧
                                                                  Wd.d (stepW (Prod.snd a)) =
                                                                    Wd.d (stepW (Prod.snd a))) ∧
                                                                True) ∧
                                                True) ∧
                                          True) ∧
                                      At
                                        (untInv
                                            (lookBy (50 : Nat)
                                              { r := vr, w := vw, h := vh, c := vc, x := vx, y := vy, d := vd })
                                            (0 : Int) { r := wr, w := ww, h := wh, c := wc, x := wx, y := wy, d := wd }
                                            (IntKind.wrap IntKind.i64 (Prod.fst a + (1 : Int)), stepW (Prod.snd a)) ∧
                                          Int.toNat ((4001 : Int) - IntKind.wrap IntKind.i64 (Prod.fst a + (1 : Int))) <
                                            Int.toNat ((4001 : Int) - Prod.fst a)))) ∧
                          (decide (Prod.fst a ≥ (0 : Int)) = false →
                            At (goodB (Prod.snd a) = true) ∧
                              (((True ∧ (0 : Int) = (0 : Int)) ∧
                                    ((50 : Nat) = (50 : Nat) ∧ [(0 : Nat)] = [(0 : Nat)]) ∧
                                      ((1 : Nat) = (1 : Nat) ∧ (0 : Nat) = (0 : Nat)) ∧
                                        ((2 : Nat) = (2 : Nat) ∧ (0 : Nat) = (0 : Nat)) ∧
                                          (True ∧
                                              IntKind.wrap IntKind.i64 (Prod.fst a + (1 : Int)) =
                                                IntKind.wrap IntKind.i64 (Prod.fst a + (1 : Int))) ∧
                                            True) ∧
                                  ((True ∧
                                        vr = vr ∧
                                          (True ∧ vw = vw) ∧
                                            (True ∧ vh = vh) ∧
                                              vc = vc ∧ (True ∧ vx = vx) ∧ (True ∧ vy = vy) ∧ (True ∧ vd = vd) ∧ True) ∧
                                      (True ∧
                                          wr = wr ∧
                                            (True ∧ ww = ww) ∧
                                              (True ∧ wh = wh) ∧
                                                wc = wc ∧
                                                  (True ∧ wx = wx) ∧ (True ∧ wy = wy) ∧ (True ∧ wd = wd) ∧ True) ∧
                                        (True ∧
                                            Wd.r (stepW (Prod.snd a)) = Wd.r (stepW (Prod.snd a)) ∧
                                              (True ∧ Wd.w (stepW (Prod.snd a)) = Wd.w (stepW (Prod.snd a))) ∧
                                                (True ∧ Wd.h (stepW (Prod.snd a)) = Wd.h (stepW (Prod.snd a))) ∧
                                                  Wd.c (stepW (Prod.snd a)) = Wd.c (stepW (Prod.snd a)) ∧
                                                    (True ∧ Wd.x (stepW (Prod.snd a)) = Wd.x (stepW (Prod.snd a))) ∧
                                                      (True ∧ Wd.y (stepW (Prod.snd a)) = Wd.y (stepW (Prod.snd a))) ∧
                                                        (True ∧ Wd.d (stepW (Prod.snd a)) = Wd.d (stepW (Prod.snd a))) ∧
                                                          True) ∧
                                          True) ∧
                                    True) ∧
                                At
                                  (untInv
                                      (lookBy (50 : Nat)
                                        { r := vr, w := vw, h := vh, c := vc, x := vx, y := vy, d := vd })
                                      (0 : Int) { r := wr, w := ww, h := wh, c := wc, x := wx, y := wy, d := wd }
                                      (IntKind.wrap IntKind.i64 (Prod.fst a + (1 : Int)), stepW (Prod.snd a)) ∧
                                    Int.toNat ((4001 : Int) - IntKind.wrap IntKind.i64 (Prod.fst a + (1 : Int))) <
                                      Int.toNat ((4001 : Int) - Prod.fst a)))) ∧
                      (decide (Prod.fst a ≤ (4000 : Int)) = false →
                        K (V.tup [V.int IntKind.i64 (0 : Int), V.lit false]))))

end Go.Vi
