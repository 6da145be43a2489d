/- The conditions, reckoned out by program: texts alone. -/
import Derived.Test.YtioppaofihbmpabDoorWCDefs
namespace Go.Vi
set_option linter.unusedVariables false
def VC_spec_wmLife (mw : Int) (mh : Int) (mr : List UInt8) (mn : List UInt8) (mx : Int) (my : Int) (md : Int) (t : List UInt8) (K : V → List Blk → Prop) : Prop :=
  (True ∧
    (t = t ∧
        ((0 : Nat) = (0 : Nat) ∧ (0 : Nat) = (0 : Nat)) ∧
          ((1 : Nat) = (1 : Nat) ∧ (0 : Nat) = (0 : Nat)) ∧
            nilB = mealsW t { w := mw, h := mh, r := mr, n := mn, x := mx, y := my, d := md } ((1 : Nat) - (1 : Nat)) ∧
              ((2 : Nat) = (2 : Nat) ∧ (1 : Nat) = (1 : Nat)) ∧ True) ∧
      ((True ∧
            (True ∧
                mw =
                  Wo.w
                    (iterW t ((1 : Nat) - (1 : Nat))
                      { w := mw, h := mh, r := mr, n := mn, x := mx, y := my, d := md })) ∧
              (True ∧
                  mh =
                    Wo.h
                      (iterW t ((1 : Nat) - (1 : Nat))
                        { w := mw, h := mh, r := mr, n := mn, x := mx, y := my, d := md })) ∧
                mr =
                    Wo.r
                      (iterW t ((1 : Nat) - (1 : Nat))
                        { w := mw, h := mh, r := mr, n := mn, x := mx, y := my, d := md }) ∧
                  mn =
                      Wo.n
                        (iterW t ((1 : Nat) - (1 : Nat))
                          { w := mw, h := mh, r := mr, n := mn, x := mx, y := my, d := md }) ∧
                    (True ∧
                        mx =
                          Wo.x
                            (iterW t ((1 : Nat) - (1 : Nat))
                              { w := mw, h := mh, r := mr, n := mn, x := mx, y := my, d := md })) ∧
                      (True ∧
                          my =
                            Wo.y
                              (iterW t ((1 : Nat) - (1 : Nat))
                                { w := mw, h := mh, r := mr, n := mn, x := mx, y := my, d := md })) ∧
                        (True ∧
                            md =
                              Wo.d
                                (iterW t ((1 : Nat) - (1 : Nat))
                                  { w := mw, h := mh, r := mr, n := mn, x := mx, y := my, d := md })) ∧
                          True) ∧
          (True ∧
              (True ∧ (0 : Int) = (0 : Int)) ∧
                (True ∧ (0 : Int) = (0 : Int)) ∧
                  nilB = nilB ∧
                    nilB = nilB ∧
                      (True ∧ (0 : Int) = (0 : Int)) ∧
                        (True ∧ (0 : Int) = (0 : Int)) ∧ (True ∧ (0 : Int) = (0 : Int)) ∧ True) ∧
            (True ∧
                IntKind.i64 = IntKind.i64 ∧
                  [IntKind.wrap IntKind.i64 (IntKind.wrap IntKind.i64 (my * mw) + mx)] =
                    trackW t { w := mw, h := mh, r := mr, n := mn, x := mx, y := my, d := md }
                      ((1 : Nat) - (1 : Nat))) ∧
              True) ∧
        True) ∧
  At (lfInv t { w := mw, h := mh, r := mr, n := mn, x := mx, y := my, d := md } ((1 : Nat) - (1 : Nat))) ∧
    ∀ (a : Nat),
      lfInv t { w := mw, h := mh, r := mr, n := mn, x := mx, y := my, d := md } a →
        At (womB (iterW t a { w := mw, h := mh, r := mr, n := mn, x := mx, y := my, d := md }) = true ∧ tasB t = true) ∧
          ((eatS (iterW t a { w := mw, h := mh, r := mr, n := mn, x := mx, y := my, d := md }) t == Array.toList #[]) =
                true →
              K
                (V.tup
                  [V.agg
                      [V.int IntKind.i64
                          (Wo.w (nxtW t (iterW t a { w := mw, h := mh, r := mr, n := mn, x := mx, y := my, d := md }))),
                        V.int IntKind.i64
                          (Wo.h (nxtW t (iterW t a { w := mw, h := mh, r := mr, n := mn, x := mx, y := my, d := md }))),
                        V.str
                          (Wo.r (nxtW t (iterW t a { w := mw, h := mh, r := mr, n := mn, x := mx, y := my, d := md }))),
                        V.str
                          (Wo.n (nxtW t (iterW t a { w := mw, h := mh, r := mr, n := mn, x := mx, y := my, d := md }))),
                        V.int IntKind.i64
                          (Wo.x (nxtW t (iterW t a { w := mw, h := mh, r := mr, n := mn, x := mx, y := my, d := md }))),
                        V.int IntKind.i64
                          (Wo.y (nxtW t (iterW t a { w := mw, h := mh, r := mr, n := mn, x := mx, y := my, d := md }))),
                        V.int IntKind.i64
                          (Wo.d
                            (nxtW t (iterW t a { w := mw, h := mh, r := mr, n := mn, x := mx, y := my, d := md })))],
                    V.str (mealsW t { w := mw, h := mh, r := mr, n := mn, x := mx, y := my, d := md } a),
                    V.row (2 : Nat) (a + (1 : Nat))])
                [{
                    cs :=
                      Cells.vals
                        [V.int IntKind.i64
                            (Wo.w
                              (nxtW t (iterW t a { w := mw, h := mh, r := mr, n := mn, x := mx, y := my, d := md }))),
                          V.int IntKind.i64
                            (Wo.h
                              (nxtW t (iterW t a { w := mw, h := mh, r := mr, n := mn, x := mx, y := my, d := md }))),
                          V.str
                            (Wo.r
                              (nxtW t (iterW t a { w := mw, h := mh, r := mr, n := mn, x := mx, y := my, d := md }))),
                          V.str
                            (Wo.n
                              (nxtW t (iterW t a { w := mw, h := mh, r := mr, n := mn, x := mx, y := my, d := md }))),
                          V.int IntKind.i64
                            (Wo.x
                              (nxtW t (iterW t a { w := mw, h := mh, r := mr, n := mn, x := mx, y := my, d := md }))),
                          V.int IntKind.i64
                            (Wo.y
                              (nxtW t (iterW t a { w := mw, h := mh, r := mr, n := mn, x := mx, y := my, d := md }))),
                          V.int IntKind.i64
                            (Wo.d
                              (nxtW t (iterW t a { w := mw, h := mh, r := mr, n := mn, x := mx, y := my, d := md })))],
                    elem := 28, kind := Kind.box },
                  {
                    cs :=
                      Cells.vals
                        [V.int IntKind.i64
                            (Wo.w
                              (nxtW t (iterW t a { w := mw, h := mh, r := mr, n := mn, x := mx, y := my, d := md }))),
                          V.int IntKind.i64
                            (Wo.h
                              (nxtW t (iterW t a { w := mw, h := mh, r := mr, n := mn, x := mx, y := my, d := md }))),
                          V.str
                            (Wo.r
                              (nxtW t (iterW t a { w := mw, h := mh, r := mr, n := mn, x := mx, y := my, d := md }))),
                          V.str
                            (Wo.n
                              (nxtW t (iterW t a { w := mw, h := mh, r := mr, n := mn, x := mx, y := my, d := md }))),
                          V.int IntKind.i64
                            (Wo.x
                              (nxtW t (iterW t a { w := mw, h := mh, r := mr, n := mn, x := mx, y := my, d := md }))),
                          V.int IntKind.i64
                            (Wo.y
                              (nxtW t (iterW t a { w := mw, h := mh, r := mr, n := mn, x := mx, y := my, d := md }))),
                          V.int IntKind.i64
                            (Wo.d
                              (nxtW t (iterW t a { w := mw, h := mh, r := mr, n := mn, x := mx, y := my, d := md })))],
                    elem := 28, kind := Kind.box },
                  {
                    cs :=
                      Cells.ints IntKind.i64
                        (trackW t { w := mw, h := mh, r := mr, n := mn, x := mx, y := my, d := md } a),
                    elem := 3, kind := Kind.row }]) ∧
            ((eatS (iterW t a { w := mw, h := mh, r := mr, n := mn, x := mx, y := my, d := md }) t ==
                  Array.toList #[]) =
                false →
              At
                  (List.length (mealsW t { w := mw, h := mh, r := mr, n := mn, x := mx, y := my, d := md } a) +
                      List.length
                        (eatS (iterW t a { w := mw, h := mh, r := mr, n := mn, x := mx, y := my, d := md }) t) ≤
                    (9223372036854775807 : Nat)) ∧
                At
                    ((List.length (trackW t { w := mw, h := mh, r := mr, n := mn, x := mx, y := my, d := md } a) =
                          (a + (1 : Nat)) * (1 : Nat) ∧
                        (1 : Nat) * (1 : Nat) ≤
                          List.length
                            [IntKind.wrap IntKind.i64
                                (IntKind.wrap IntKind.i64
                                    (Wo.y
                                        (nxtW t
                                          (iterW t a
                                            { w := mw, h := mh, r := mr, n := mn, x := mx, y := my, d := md })) *
                                      Wo.w
                                        (nxtW t
                                          (iterW t a
                                            { w := mw, h := mh, r := mr, n := mn, x := mx, y := my, d := md }))) +
                                  Wo.x
                                    (nxtW t
                                      (iterW t a
                                        { w := mw, h := mh, r := mr, n := mn, x := mx, y := my, d := md })))]) ∧
                      (0 : Nat) < (1 : Nat) ∧ a + (1 : Nat) + (1 : Nat) ≤ (1000000000 : Nat)) ∧
                  (True ∧
                      (t = t ∧
                          ((0 : Nat) = (0 : Nat) ∧ (0 : Nat) = (0 : Nat)) ∧
                            ((1 : Nat) = (1 : Nat) ∧ (0 : Nat) = (0 : Nat)) ∧
                              mealsW t { w := mw, h := mh, r := mr, n := mn, x := mx, y := my, d := md } a ++
                                    eatS (iterW t a { w := mw, h := mh, r := mr, n := mn, x := mx, y := my, d := md })
                                      t =
                                  mealsW t { w := mw, h := mh, r := mr, n := mn, x := mx, y := my, d := md }
                                    (a + (1 : Nat) + (1 : Nat) - (1 : Nat)) ∧
                                ((2 : Nat) = (2 : Nat) ∧
                                    a + (1 : Nat) + (1 : Nat) = a + (1 : Nat) + (1 : Nat) - (1 : Nat) + (1 : Nat)) ∧
                                  True) ∧
                        ((True ∧
                              (True ∧
                                  Wo.w
                                      (nxtW t
                                        (iterW t a { w := mw, h := mh, r := mr, n := mn, x := mx, y := my, d := md })) =
                                    Wo.w
                                      (iterW t (a + (1 : Nat) + (1 : Nat) - (1 : Nat))
                                        { w := mw, h := mh, r := mr, n := mn, x := mx, y := my, d := md })) ∧
                                (True ∧
                                    Wo.h
                                        (nxtW t
                                          (iterW t a
                                            { w := mw, h := mh, r := mr, n := mn, x := mx, y := my, d := md })) =
                                      Wo.h
                                        (iterW t (a + (1 : Nat) + (1 : Nat) - (1 : Nat))
                                          { w := mw, h := mh, r := mr, n := mn, x := mx, y := my, d := md })) ∧
                                  Wo.r
                                        (nxtW t
                                          (iterW t a
                                            { w := mw, h := mh, r := mr, n := mn, x := mx, y := my, d := md })) =
                                      Wo.r
                                        (iterW t (a + (1 : Nat) + (1 : Nat) - (1 : Nat))
                                          { w := mw, h := mh, r := mr, n := mn, x := mx, y := my, d := md }) ∧
                                    Wo.n
                                          (nxtW t
                                            (iterW t a
                                              { w := mw, h := mh, r := mr, n := mn, x := mx, y := my, d := md })) =
                                        Wo.n
                                          (iterW t (a + (1 : Nat) + (1 : Nat) - (1 : Nat))
                                            { w := mw, h := mh, r := mr, n := mn, x := mx, y := my, d := md }) ∧
                                      (True ∧
                                          Wo.x
                                              (nxtW t
                                                (iterW t a
                                                  { w := mw, h := mh, r := mr, n := mn, x := mx, y := my, d := md })) =
                                            Wo.x
                                              (iterW t (a + (1 : Nat) + (1 : Nat) - (1 : Nat))
                                                { w := mw, h := mh, r := mr, n := mn, x := mx, y := my, d := md })) ∧
                                        (True ∧
                                            Wo.y
                                                (nxtW t
                                                  (iterW t a
                                                    { w := mw, h := mh, r := mr, n := mn, x := mx, y := my,
                                                      d := md })) =
                                              Wo.y
                                                (iterW t (a + (1 : Nat) + (1 : Nat) - (1 : Nat))
                                                  { w := mw, h := mh, r := mr, n := mn, x := mx, y := my, d := md })) ∧
                                          (True ∧
                                              Wo.d
                                                  (nxtW t
                                                    (iterW t a
                                                      { w := mw, h := mh, r := mr, n := mn, x := mx, y := my,
                                                        d := md })) =
                                                Wo.d
                                                  (iterW t (a + (1 : Nat) + (1 : Nat) - (1 : Nat))
                                                    { w := mw, h := mh, r := mr, n := mn, x := mx, y := my,
                                                      d := md })) ∧
                                            True) ∧
                            (True ∧
                                (True ∧ (0 : Int) = (0 : Int)) ∧
                                  (True ∧ (0 : Int) = (0 : Int)) ∧
                                    nilB = nilB ∧
                                      nilB = nilB ∧
                                        (True ∧ (0 : Int) = (0 : Int)) ∧
                                          (True ∧ (0 : Int) = (0 : Int)) ∧ (True ∧ (0 : Int) = (0 : Int)) ∧ True) ∧
                              (True ∧
                                  IntKind.i64 = IntKind.i64 ∧
                                    trackW t { w := mw, h := mh, r := mr, n := mn, x := mx, y := my, d := md } a ++
                                        List.take ((1 : Nat) * (1 : Nat))
                                          [IntKind.wrap IntKind.i64
                                              (IntKind.wrap IntKind.i64
                                                  (Wo.y
                                                      (nxtW t
                                                        (iterW t a
                                                          { w := mw, h := mh, r := mr, n := mn, x := mx, y := my,
                                                            d := md })) *
                                                    Wo.w
                                                      (nxtW t
                                                        (iterW t a
                                                          { w := mw, h := mh, r := mr, n := mn, x := mx, y := my,
                                                            d := md }))) +
                                                Wo.x
                                                  (nxtW t
                                                    (iterW t a
                                                      { w := mw, h := mh, r := mr, n := mn, x := mx, y := my,
                                                        d := md })))] =
                                      trackW t { w := mw, h := mh, r := mr, n := mn, x := mx, y := my, d := md }
                                        (a + (1 : Nat) + (1 : Nat) - (1 : Nat))) ∧
                                True) ∧
                          True) ∧
                    At
                      (lfInv t { w := mw, h := mh, r := mr, n := mn, x := mx, y := my, d := md }
                          (a + (1 : Nat) + (1 : Nat) - (1 : Nat)) ∧
                        onesW
                            (iterW t (a + (1 : Nat) + (1 : Nat) - (1 : Nat))
                              { w := mw, h := mh, r := mr, n := mn, x := mx, y := my, d := md }) <
                          onesW (iterW t a { w := mw, h := mh, r := mr, n := mn, x := mx, y := my, d := md })))

def VC_impl_lived (mw : Int) (mh : Int) (mr : List UInt8) (mn : List UInt8) (mx : Int) (my : Int) (md : Int) (t : List UInt8) (g0 : List UInt8) (g1 : List UInt8) (g2 : List UInt8) (g3 
  : List UInt8) (g4 : List UInt8) (g5 : List UInt8) (K : V → List Blk → Prop) : Prop := At True ∧ ((!womB { w := mw, h := mh, r := mr, n := mn, x := mx, y := my, d := md }) = true → K 
  (V.tup [V.agg [V.raw (Value.slice none (0 : Nat) (0 : Nat)), V.raw (Value.slice none (0 : Nat) (0 : Nat)), V.int IntKind.i64 (0 : Int), V.int IntKind.i64 (0 : Int), V.str (Array.toList 
  #[]), V.str (Array.toList #[]), V.int IntKind.i64 (0 : Int), V.int IntKind.i64 (0 : Int), V.int IntKind.i64 (0 : Int)], V.lit false]) [{ cs := Cells.vals [V.str g0, V.str g1, V.str g2, V.str g3, V.str g4, V.str g5], elem := 9, kind := Kind.gl 0 }, 
  { cs := Cells.vals [V.int IntKind.i64 mw, V.int IntKind.i64 mh, V.str mr, V.str mn, V.int IntKind.i64 mx, V.int IntKind.i64 my, V.int IntKind.i64 md], elem := 28, kind := Kind.box }, 
  { cs := Cells.vals [V.raw (Value.slice none (0 : Nat) (0 : Nat)), V.raw (Value.slice none (0 : Nat) (0 : Nat)), V.int IntKind.i64 (0 : Int), V.int IntKind.i64 (0 : Int), V.str (Array.toList #[]), V.str (Array.toList #[]), V.int IntKind.i64 (0 : Int), V.int IntKind.i64 (0 : Int), V.int IntKind.i64 (0 : Int)], elem := 85, kind := Kind.box }]) 
  ∧ ((!womB { w := mw, h := mh, r := mr, n := mn, x := mx, y := my, d := md }) = false → At (isTs g0 g1 g2 g3 g4 g5) ∧ ((!tasB t) = true → K (V.tup [V.agg [V.raw (Value.slice none (0 
  : Nat) (0 : Nat)), V.raw (Value.slice none (0 : Nat) (0 : Nat)), V.int IntKind.i64 (0 : Int), V.int IntKind.i64 (0 : Int), V.str (Array.toList #[]), V.str (Array.toList #[]), V.int 
  IntKind.i64 (0 : Int), V.int IntKind.i64 (0 : Int), V.int IntKind.i64 (0 : Int)], V.lit false]) [{ cs := Cells.vals [V.str g0, V.str g1, V.str g2, V.str g3, V.str g4, V.str g5], elem := 9, kind := Kind.gl 0 }, 
  { cs := Cells.vals [V.int IntKind.i64 mw, V.int IntKind.i64 mh, V.str mr, V.str mn, V.int IntKind.i64 mx, V.int IntKind.i64 my, V.int IntKind.i64 md], elem := 28, kind := Kind.box }, 
  { cs := Cells.vals [V.raw (Value.slice none (0 : Nat) (0 : Nat)), V.raw (Value.slice none (0 : Nat) (0 : Nat)), V.int IntKind.i64 (0 : Int), V.int IntKind.i64 (0 : Int), V.str (Array.toList #[]), V.str (Array.toList #[]), V.int IntKind.i64 (0 : Int), V.int IntKind.i64 (0 : Int), V.int IntKind.i64 (0 : Int)], elem := 85, kind := Kind.box }]) 
  ∧ ((!tasB t) = false → At (womB { w := mw, h := mh, r := mr, n := mn, x := mx, y := my, d := md } = true) ∧ At (boxC (crOf { w := mw, h := mh, r := mr, n := mn, x := mx, y := my, d := md }) 
  = true) ∧ (True ∧ (t = t ∧ ((1 : Nat) = (1 : Nat) ∧ (0 : Nat) = (0 : Nat)) ∧ ((2 : Nat) = (2 : Nat) ∧ (0 : Nat) = (0 : Nat)) ∧ ((3 : Nat) = (3 : Nat) ∧ (0 : Nat) = (0 : Nat)) ∧ True) 
  ∧ ((True ∧ g0 = g0 ∧ g1 = g1 ∧ g2 = g2 ∧ g3 = g3 ∧ g4 = g4 ∧ g5 = g5 ∧ True) ∧ (True ∧ Value.slice none (0 : Nat) (0 : Nat) = Value.slice none (0 : Nat) (0 : Nat) ∧ Value.slice none 
  (0 : Nat) (0 : Nat) = Value.slice none (0 : Nat) (0 : Nat) ∧ (True ∧ (0 : Int) = (0 : Int)) ∧ (True ∧ (0 : Int) = (0 : Int)) ∧ nilB = nilB ∧ nilB = nilB ∧ (True ∧ (0 : Int) = (0 : Int)) 
  ∧ (True ∧ (0 : Int) = (0 : Int)) ∧ (True ∧ (0 : Int) = (0 : Int)) ∧ True) ∧ (True ∧ Cr.r (crOf { w := mw, h := mh, r := mr, n := mn, x := mx, y := my, d := md }) = Cr.r (crOf (iterW 
  t ((1 : Nat) - (1 : Nat)) { w := mw, h := mh, r := mr, n := mn, x := mx, y := my, d := md })) ∧ (True ∧ Cr.w (crOf { w := mw, h := mh, r := mr, n := mn, x := mx, y := my, d := md }) 
  = Cr.w (crOf (iterW t ((1 : Nat) - (1 : Nat)) { w := mw, h := mh, r := mr, n := mn, x := mx, y := my, d := md }))) ∧ (True ∧ Cr.h (crOf { w := mw, h := mh, r := mr, n := mn, x := mx, y := my, d := md }) 
  = Cr.h (crOf (iterW t ((1 : Nat) - (1 : Nat)) { w := mw, h := mh, r := mr, n := mn, x := mx, y := my, d := md }))) ∧ Cr.c (crOf { w := mw, h := mh, r := mr, n := mn, x := mx, y := my, d := md }) 
  = Cr.c (crOf (iterW t ((1 : Nat) - (1 : Nat)) { w := mw, h := mh, r := mr, n := mn, x := mx, y := my, d := md })) ∧ (True ∧ Cr.x (crOf { w := mw, h := mh, r := mr, n := mn, x := mx, y := my, d := md }) 
  = Cr.x (crOf (iterW t ((1 : Nat) - (1 : Nat)) { w := mw, h := mh, r := mr, n := mn, x := mx, y := my, d := md }))) ∧ (True ∧ Cr.y (crOf { w := mw, h := mh, r := mr, n := mn, x := mx, y := my, d := md }) 
  = Cr.y (crOf (iterW t ((1 : Nat) - (1 : Nat)) { w := mw, h := mh, r := mr, n := mn, x := mx, y := my, d := md }))) ∧ (True ∧ Cr.d (crOf { w := mw, h := mh, r := mr, n := mn, x := mx, y := my, d := md }) 
  = Cr.d (crOf (iterW t ((1 : Nat) - (1 : Nat)) { w := mw, h := mh, r := mr, n := mn, x := mx, y := my, d := md }))) ∧ Cr.l (crOf { w := mw, h := mh, r := mr, n := mn, x := mx, y := my, d := md }) 
  = Cr.l (crOf (iterW t ((1 : Nat) - (1 : Nat)) { w := mw, h := mh, r := mr, n := mn, x := mx, y := my, d := md })) ∧ True) ∧ (True ∧ ((4 : Nat) = (4 : Nat) ∧ (0 : Nat) = (0 : Nat)) ∧ 
  ((5 : Nat) = (5 : Nat) ∧ (1 : Nat) = (1 : Nat)) ∧ (True ∧ (0 : Int) = (0 : Int)) ∧ (True ∧ (0 : Int) = (0 : Int)) ∧ nilB = nilB ∧ nilB = nilB ∧ (True ∧ (0 : Int) = (0 : Int)) ∧ (True 
  ∧ (0 : Int) = (0 : Int)) ∧ (True ∧ (0 : Int) = (0 : Int)) ∧ True) ∧ (True ∧ IntKind.i32 = IntKind.i32 ∧ nilI = runesW t { w := mw, h := mh, r := mr, n := mn, x := mx, y := my, d := md } 
  ((1 : Nat) - (1 : Nat))) ∧ (True ∧ IntKind.i64 = IntKind.i64 ∧ [Cr.y (crOf { w := mw, h := mh, r := mr, n := mn, x := mx, y := my, d := md }) * Cr.w (crOf { w := mw, h := mh, r := mr, n := mn, x := mx, y := my, d := md }) 
  + Cr.x (crOf { w := mw, h := mh, r := mr, n := mn, x := mx, y := my, d := md })] = trackW t { w := mw, h := mh, r := mr, n := mn, x := mx, y := my, d := md } ((1 : Nat) - (1 : Nat))) 
  ∧ True) ∧ True) ∧ At (lfInv t { w := mw, h := mh, r := mr, n := mn, x := mx, y := my, d := md } ((1 : Nat) - (1 : Nat))) ∧ ∀ (a : Nat), lfInv t { w := mw, h := mh, r := mr, n := mn, x := mx, y := my, d := md } 
  a → At (crB (crOf (iterW t a { w := mw, h := mh, r := mr, n := mn, x := mx, y := my, d := md })) = true ∧ tasB t = true) ∧ ((!goB (crOf (iterW t a { w := mw, h := mh, r := mr, n := mn, x := mx, y := my, d := md })) 
  t) = true → At (crB (crOf (iterW t a { w := mw, h := mh, r := mr, n := mn, x := mx, y := my, d := md })) = true) ∧ K (V.tup [V.agg [V.row (4 : Nat) a, V.row (5 : Nat) (a + (1 : Nat)), 
  V.int IntKind.i64 (Wo.w (wormC (crOf (iterW t a { w := mw, h := mh, r := mr, n := mn, x := mx, y := my, d := md })))), V.int IntKind.i64 (Wo.h (wormC (crOf (iterW t a { w := mw, h := mh, r := mr, n := mn, x := mx, y := my, d := md })))), 
  V.str (Wo.r (wormC (crOf (iterW t a { w := mw, h := mh, r := mr, n := mn, x := mx, y := my, d := md })))), V.str (Wo.n (wormC (crOf (iterW t a { w := mw, h := mh, r := mr, n := mn, x := mx, y := my, d := md })))), 
  V.int IntKind.i64 (Wo.x (wormC (crOf (iterW t a { w := mw, h := mh, r := mr, n := mn, x := mx, y := my, d := md })))), V.int IntKind.i64 (Wo.y (wormC (crOf (iterW t a { w := mw, h := mh, r := mr, n := mn, x := mx, y := my, d := md })))), 
  V.int IntKind.i64 (Wo.d (wormC (crOf (iterW t a { w := mw, h := mh, r := mr, n := mn, x := mx, y := my, d := md }))))], V.lit true]) [{ cs := Cells.vals [V.str g0, V.str g1, V.str g2, V.str g3, V.str g4, V.str g5], elem := 9, kind := Kind.gl 0 }, 
  { cs := Cells.vals [V.row (4 : Nat) a, V.row (5 : Nat) (a + (1 : Nat)), V.int IntKind.i64 (Wo.w (wormC (crOf (iterW t a { w := mw, h := mh, r := mr, n := mn, x := mx, y := my, d := md })))), V.int IntKind.i64 (Wo.h (wormC (crOf (iterW t a { w := mw, h := mh, r := mr, n := mn, x := mx, y := my, d := md })))), V.str (Wo.r (wormC (crOf (iterW t a { w := mw, h := mh, r := mr, n := mn, x := mx, y := my, d := md })))), V.str (Wo.n (wormC (crOf (iterW t a { w := mw, h := mh, r := mr, n := mn, x := mx, y := my, d := md })))), V.int IntKind.i64 (Wo.x (wormC (crOf (iterW t a { w := mw, h := mh, r := mr, n := mn, x := mx, y := my, d := md })))), V.int IntKind.i64 (Wo.y (wormC (crOf (iterW t a { w := mw, h := mh, r := mr, n := mn, x := mx, y := my, d := md })))), V.int IntKind.i64 (Wo.d (wormC (crOf (iterW t a { w := mw, h := mh, r := mr, n := mn, x := mx, y := my, d := md }))))], elem := 85, kind := Kind.box }, 
  { cs := Cells.vals [V.str (Cr.r (crOf (iterW t a { w := mw, h := mh, r := mr, n := mn, x := mx, y := my, d := md }))), V.int IntKind.i64 (Cr.w (crOf (iterW t a { w := mw, h := mh, r := mr, n := mn, x := mx, y := my, d := md }))), V.int IntKind.i64 (Cr.h (crOf (iterW t a { w := mw, h := mh, r := mr, n := mn, x := mx, y := my, d := md }))), V.str (Cr.c (crOf (iterW t a { w := mw, h := mh, r := mr, n := mn, x := mx, y := my, d := md }))), V.int IntKind.i64 (Cr.x (crOf (iterW t a { w := mw, h := mh, r := mr, n := mn, x := mx, y := my, d := md }))), V.int IntKind.i64 (Cr.y (crOf (iterW t a { w := mw, h := mh, r := mr, n := mn, x := mx, y := my, d := md }))), V.int IntKind.i64 (Cr.d (crOf (iterW t a { w := mw, h := mh, r := mr, n := mn, x := mx, y := my, d := md }))), V.str (Cr.l (crOf (iterW t a { w := mw, h := mh, r := mr, n := mn, x := mx, y := my, d := md })))], elem := 61, kind := Kind.box }, 
  { cs := Cells.vals [V.row (4 : Nat) a, V.row (5 : Nat) (a + (1 : Nat)), V.int IntKind.i64 (Wo.w (wormC (crOf (iterW t a { w := mw, h := mh, r := mr, n := mn, x := mx, y := my, d := md })))), V.int IntKind.i64 (Wo.h (wormC (crOf (iterW t a { w := mw, h := mh, r := mr, n := mn, x := mx, y := my, d := md })))), V.str (Wo.r (wormC (crOf (iterW t a { w := mw, h := mh, r := mr, n := mn, x := mx, y := my, d := md })))), V.str (Wo.n (wormC (crOf (iterW t a { w := mw, h := mh, r := mr, n := mn, x := mx, y := my, d := md })))), V.int IntKind.i64 (Wo.x (wormC (crOf (iterW t a { w := mw, h := mh, r := mr, n := mn, x := mx, y := my, d := md })))), V.int IntKind.i64 (Wo.y (wormC (crOf (iterW t a { w := mw, h := mh, r := mr, n := mn, x := mx, y := my, d := md })))), V.int IntKind.i64 (Wo.d (wormC (crOf (iterW t a { w := mw, h := mh, r := mr, n := mn, x := mx, y := my, d := md }))))], elem := 85, kind := Kind.box }, 
  { cs := Cells.ints IntKind.i32 (runesW t { w := mw, h := mh, r := mr, n := mn, x := mx, y := my, d := md } a), elem := 21, kind := Kind.row }, { cs := Cells.ints IntKind.i64 (trackW t { w := mw, h := mh, r := mr, n := mn, x := mx, y := my, d := md } a), elem := 3, kind := Kind.row }, 
  { cs := Cells.vals [V.str (Cr.r (goR (crOf (iterW t a { w := mw, h := mh, r := mr, n := mn, x := mx, y := my, d := md })) t)), V.int IntKind.i64 (Cr.w (goR (crOf (iterW t a { w := mw, h := mh, r := mr, n := mn, x := mx, y := my, d := md })) t)), V.int IntKind.i64 (Cr.h (goR (crOf (iterW t a { w := mw, h := mh, r := mr, n := mn, x := mx, y := my, d := md })) t)), V.str (Cr.c (goR (crOf (iterW t a { w := mw, h := mh, r := mr, n := mn, x := mx, y := my, d := md })) t)), V.int IntKind.i64 (Cr.x (goR (crOf (iterW t a { w := mw, h := mh, r := mr, n := mn, x := mx, y := my, d := md })) t)), V.int IntKind.i64 (Cr.y (goR (crOf (iterW t a { w := mw, h := mh, r := mr, n := mn, x := mx, y := my, d := md })) t)), V.int IntKind.i64 (Cr.d (goR (crOf (iterW t a { w := mw, h := mh, r := mr, n := mn, x := mx, y := my, d := md })) t)), V.str (Cr.l (goR (crOf (iterW t a { w := mw, h := mh, r := mr, n := mn, x := mx, y := my, d := md })) t))], elem := 61, kind := Kind.box }]) 
  ∧ ((!goB (crOf (iterW t a { w := mw, h := mh, r := mr, n := mn, x := mx, y := my, d := md })) t) = false → At ((List.length (runesW t { w := mw, h := mh, r := mr, n := mn, x := mx, y := my, d := md } 
  a) = a * (1 : Nat) ∧ (1 : Nat) * (1 : Nat) ≤ List.length [goS (crOf (iterW t a { w := mw, h := mh, r := mr, n := mn, x := mx, y := my, d := md })) t]) ∧ (0 : Nat) < (1 : Nat) ∧ a + 
  (1 : Nat) ≤ (1000000000 : Nat)) ∧ (((At (boxC (goR (crOf (iterW t a { w := mw, h := mh, r := mr, n := mn, x := mx, y := my, d := md })) t) = true) ∧ ((At ((List.length (trackW t { w := mw, h := mh, r := mr, n := mn, x := mx, y := my, d := md } 
  a) = (a + (1 : Nat)) * (1 : Nat) ∧ (1 : Nat) * (1 : Nat) ≤ List.length [Cr.y (goR (crOf (iterW t a { w := mw, h := mh, r := mr, n := mn, x := mx, y := my, d := md })) t) * Cr.w (goR 
  (crOf (iterW t a { w := mw, h := mh, r := mr, n := mn, x := mx, y := my, d := md })) t) + Cr.x (goR (crOf (iterW t a { w := mw, h := mh, r := mr, n := mn, x := mx, y := my, d := md })) 
  t)]) ∧ (0 : Nat) < (1 : Nat) ∧ a + (1 : Nat) + (1 : Nat) ≤ (1000000000 : Nat)) ∧ ((True ∧ (t = t ∧ ((1 : Nat) = (1 : Nat) ∧ (0 : Nat) = (0 : Nat)) ∧ ((2 : Nat) = (2 : Nat) ∧ (0 : Nat) 
  = (0 : Nat)) ∧ ((3 : Nat) = (3 : Nat) ∧ (0 : Nat) = (0 : Nat)) ∧ True) ∧ ((True ∧ g0 = g0 ∧ g1 = g1 ∧ g2 = g2 ∧ g3 = g3 ∧ g4 = g4 ∧ g5 = g5 ∧ True) ∧ (True ∧ Value.slice none (0 : Nat) 
  (0 : Nat) = Value.slice none (0 : Nat) (0 : Nat) ∧ Value.slice none (0 : Nat) (0 : Nat) = Value.slice none (0 : Nat) (0 : Nat) ∧ (True ∧ (0 : Int) = (0 : Int)) ∧ (True ∧ (0 : Int) = 
  (0 : Int)) ∧ nilB = nilB ∧ nilB = nilB ∧ (True ∧ (0 : Int) = (0 : Int)) ∧ (True ∧ (0 : Int) = (0 : Int)) ∧ (True ∧ (0 : Int) = (0 : Int)) ∧ True) ∧ (True ∧ Cr.r (goR (crOf (iterW t 
  a { w := mw, h := mh, r := mr, n := mn, x := mx, y := my, d := md })) t) = Cr.r (crOf (iterW t (a + (1 : Nat) + (1 : Nat) - (1 : Nat)) { w := mw, h := mh, r := mr, n := mn, x := mx, y := my, d := md })) 
  ∧ (True ∧ Cr.w (goR (crOf (iterW t a { w := mw, h := mh, r := mr, n := mn, x := mx, y := my, d := md })) t) = Cr.w (crOf (iterW t (a + (1 : Nat) + (1 : Nat) - (1 : Nat)) { w := mw, h := mh, r := mr, n := mn, x := mx, y := my, d := md }))) 
  ∧ (True ∧ Cr.h (goR (crOf (iterW t a { w := mw, h := mh, r := mr, n := mn, x := mx, y := my, d := md })) t) = Cr.h (crOf (iterW t (a + (1 : Nat) + (1 : Nat) - (1 : Nat)) { w := mw, h := mh, r := mr, n := mn, x := mx, y := my, d := md }))) 
  ∧ Cr.c (goR (crOf (iterW t a { w := mw, h := mh, r := mr, n := mn, x := mx, y := my, d := md })) t) = Cr.c (crOf (iterW t (a + (1 : Nat) + (1 : Nat) - (1 : Nat)) { w := mw, h := mh, r := mr, n := mn, x := mx, y := my, d := md })) 
  ∧ (True ∧ Cr.x (goR (crOf (iterW t a { w := mw, h := mh, r := mr, n := mn, x := mx, y := my, d := md })) t) = Cr.x (crOf (iterW t (a + (1 : Nat) + (1 : Nat) - (1 : Nat)) { w := mw, h := mh, r := mr, n := mn, x := mx, y := my, d := md }))) 
  ∧ (True ∧ Cr.y (goR (crOf (iterW t a { w := mw, h := mh, r := mr, n := mn, x := mx, y := my, d := md })) t) = Cr.y (crOf (iterW t (a + (1 : Nat) + (1 : Nat) - (1 : Nat)) { w := mw, h := mh, r := mr, n := mn, x := mx, y := my, d := md }))) 
  ∧ (True ∧ Cr.d (goR (crOf (iterW t a { w := mw, h := mh, r := mr, n := mn, x := mx, y := my, d := md })) t) = Cr.d (crOf (iterW t (a + (1 : Nat) + (1 : Nat) - (1 : Nat)) { w := mw, h := mh, r := mr, n := mn, x := mx, y := my, d := md }))) 
  ∧ Cr.l (goR (crOf (iterW t a { w := mw, h := mh, r := mr, n := mn, x := mx, y := my, d := md })) t) = Cr.l (crOf (iterW t (a + (1 : Nat) + (1 : Nat) - (1 : Nat)) { w := mw, h := mh, r := mr, n := mn, x := mx, y := my, d := md })) 
  ∧ True) ∧ (True ∧ ((4 : Nat) = (4 : Nat) ∧ a + (1 : Nat) = a + (1 : Nat) + (1 : Nat) - (1 : Nat)) ∧ ((5 : Nat) = (5 : Nat) ∧ a + (1 : Nat) + (1 : Nat) = a + (1 : Nat) + (1 : Nat) - 
  (1 : Nat) + (1 : Nat)) ∧ (True ∧ (0 : Int) = (0 : Int)) ∧ (True ∧ (0 : Int) = (0 : Int)) ∧ nilB = nilB ∧ nilB = nilB ∧ (True ∧ (0 : Int) = (0 : Int)) ∧ (True ∧ (0 : Int) = (0 : Int)) 
  ∧ (True ∧ (0 : Int) = (0 : Int)) ∧ True) ∧ (True ∧ IntKind.i32 = IntKind.i32 ∧ runesW t { w := mw, h := mh, r := mr, n := mn, x := mx, y := my, d := md } a ++ List.take ((1 : Nat) * 
  (1 : Nat)) [goS (crOf (iterW t a { w := mw, h := mh, r := mr, n := mn, x := mx, y := my, d := md })) t] = runesW t { w := mw, h := mh, r := mr, n := mn, x := mx, y := my, d := md } 
  (a + (1 : Nat) + (1 : Nat) - (1 : Nat))) ∧ (True ∧ IntKind.i64 = IntKind.i64 ∧ trackW t { w := mw, h := mh, r := mr, n := mn, x := mx, y := my, d := md } a ++ List.take ((1 : Nat) * 
  (1 : Nat)) [Cr.y (goR (crOf (iterW t a { w := mw, h := mh, r := mr, n := mn, x := mx, y := my, d := md })) t) * Cr.w (goR (crOf (iterW t a { w := mw, h := mh, r := mr, n := mn, x := mx, y := my, d := md })) 
  t) + Cr.x (goR (crOf (iterW t a { w := mw, h := mh, r := mr, n := mn, x := mx, y := my, d := md })) t)] = trackW t { w := mw, h := mh, r := mr, n := mn, x := mx, y := my, d := md } 
  (a + (1 : Nat) + (1 : Nat) - (1 : Nat))) ∧ True) ∧ True) ∧ At (lfInv t { w := mw, h := mh, r := mr, n := mn, x := mx, y := my, d := md } (a + (1 : Nat) + (1 : Nat) - (1 : Nat)) ∧ onesW 
  (iterW t (a + (1 : Nat) + (1 : Nat) - (1 : Nat)) { w := mw, h := mh, r := mr, n := mn, x := mx, y := my, d := md }) < onesW (iterW t a { w := mw, h := mh, r := mr, n := mn, x := mx, y := my, d := md }))) 
  ∧ True) ∧ True) ∧ True) ∧ True) ∧ True) ∧ (((At (boxC (goR (crOf (iterW t a { w := mw, h := mh, r := mr, n := mn, x := mx, y := my, d := md })) t) = true) ∧ ((At ((List.length (trackW 
  t { w := mw, h := mh, r := mr, n := mn, x := mx, y := my, d := md } a) = (a + (1 : Nat)) * (1 : Nat) ∧ (1 : Nat) * (1 : Nat) ≤ List.length [Cr.y (goR (crOf (iterW t a { w := mw, h := mh, r := mr, n := mn, x := mx, y := my, d := md })) 
  t) * Cr.w (goR (crOf (iterW t a { w := mw, h := mh, r := mr, n := mn, x := mx, y := my, d := md })) t) + Cr.x (goR (crOf (iterW t a { w := mw, h := mh, r := mr, n := mn, x := mx, y := my, d := md })) 
  t)]) ∧ (0 : Nat) < (1 : Nat) ∧ a + (1 : Nat) + (1 : Nat) ≤ (1000000000 : Nat)) ∧ ((True ∧ (t = t ∧ ((1 : Nat) = (1 : Nat) ∧ (0 : Nat) = (0 : Nat)) ∧ ((2 : Nat) = (2 : Nat) ∧ (0 : Nat) 
  = (0 : Nat)) ∧ ((3 : Nat) = (3 : Nat) ∧ (0 : Nat) = (0 : Nat)) ∧ True) ∧ ((True ∧ g0 = g0 ∧ g1 = g1 ∧ g2 = g2 ∧ g3 = g3 ∧ g4 = g4 ∧ g5 = g5 ∧ True) ∧ (True ∧ Value.slice none (0 : Nat) 
  (0 : Nat) = Value.slice none (0 : Nat) (0 : Nat) ∧ Value.slice none (0 : Nat) (0 : Nat) = Value.slice none (0 : Nat) (0 : Nat) ∧ (True ∧ (0 : Int) = (0 : Int)) ∧ (True ∧ (0 : Int) = 
  (0 : Int)) ∧ nilB = nilB ∧ nilB = nilB ∧ (True ∧ (0 : Int) = (0 : Int)) ∧ (True ∧ (0 : Int) = (0 : Int)) ∧ (True ∧ (0 : Int) = (0 : Int)) ∧ True) ∧ (True ∧ Cr.r (goR (crOf (iterW t 
  a { w := mw, h := mh, r := mr, n := mn, x := mx, y := my, d := md })) t) = Cr.r (crOf (iterW t (a + (1 : Nat) + (1 : Nat) - (1 : Nat)) { w := mw, h := mh, r := mr, n := mn, x := mx, y := my, d := md })) 
  ∧ (True ∧ Cr.w (goR (crOf (iterW t a { w := mw, h := mh, r := mr, n := mn, x := mx, y := my, d := md })) t) = Cr.w (crOf (iterW t (a + (1 : Nat) + (1 : Nat) - (1 : Nat)) { w := mw, h := mh, r := mr, n := mn, x := mx, y := my, d := md }))) 
  ∧ (True ∧ Cr.h (goR (crOf (iterW t a { w := mw, h := mh, r := mr, n := mn, x := mx, y := my, d := md })) t) = Cr.h (crOf (iterW t (a + (1 : Nat) + (1 : Nat) - (1 : Nat)) { w := mw, h := mh, r := mr, n := mn, x := mx, y := my, d := md }))) 
  ∧ Cr.c (goR (crOf (iterW t a { w := mw, h := mh, r := mr, n := mn, x := mx, y := my, d := md })) t) = Cr.c (crOf (iterW t (a + (1 : Nat) + (1 : Nat) - (1 : Nat)) { w := mw, h := mh, r := mr, n := mn, x := mx, y := my, d := md })) 
  ∧ (True ∧ Cr.x (goR (crOf (iterW t a { w := mw, h := mh, r := mr, n := mn, x := mx, y := my, d := md })) t) = Cr.x (crOf (iterW t (a + (1 : Nat) + (1 : Nat) - (1 : Nat)) { w := mw, h := mh, r := mr, n := mn, x := mx, y := my, d := md }))) 
  ∧ (True ∧ Cr.y (goR (crOf (iterW t a { w := mw, h := mh, r := mr, n := mn, x := mx, y := my, d := md })) t) = Cr.y (crOf (iterW t (a + (1 : Nat) + (1 : Nat) - (1 : Nat)) { w := mw, h := mh, r := mr, n := mn, x := mx, y := my, d := md }))) 
  ∧ (True ∧ Cr.d (goR (crOf (iterW t a { w := mw, h := mh, r := mr, n := mn, x := mx, y := my, d := md })) t) = Cr.d (crOf (iterW t (a + (1 : Nat) + (1 : Nat) - (1 : Nat)) { w := mw, h := mh, r := mr, n := mn, x := mx, y := my, d := md }))) 
  ∧ Cr.l (goR (crOf (iterW t a { w := mw, h := mh, r := mr, n := mn, x := mx, y := my, d := md })) t) = Cr.l (crOf (iterW t (a + (1 : Nat) + (1 : Nat) - (1 : Nat)) { w := mw, h := mh, r := mr, n := mn, x := mx, y := my, d := md })) 
  ∧ True) ∧ (True ∧ ((4 : Nat) = (4 : Nat) ∧ a + (1 : Nat) = a + (1 : Nat) + (1 : Nat) - (1 : Nat)) ∧ ((5 : Nat) = (5 : Nat) ∧ a + (1 : Nat) + (1 : Nat) = a + (1 : Nat) + (1 : Nat) - 
  (1 : Nat) + (1 : Nat)) ∧ (True ∧ (0 : Int) = (0 : Int)) ∧ (True ∧ (0 : Int) = (0 : Int)) ∧ nilB = nilB ∧ nilB = nilB ∧ (True ∧ (0 : Int) = (0 : Int)) ∧ (True ∧ (0 : Int) = (0 : Int)) 
  ∧ (True ∧ (0 : Int) = (0 : Int)) ∧ True) ∧ (True ∧ IntKind.i32 = IntKind.i32 ∧ runesW t { w := mw, h := mh, r := mr, n := mn, x := mx, y := my, d := md } a ++ List.take ((1 : Nat) * 
  (1 : Nat)) [goS (crOf (iterW t a { w := mw, h := mh, r := mr, n := mn, x := mx, y := my, d := md })) t] = runesW t { w := mw, h := mh, r := mr, n := mn, x := mx, y := my, d := md } 
  (a + (1 : Nat) + (1 : Nat) - (1 : Nat))) ∧ (True ∧ IntKind.i64 = IntKind.i64 ∧ trackW t { w := mw, h := mh, r := mr, n := mn, x := mx, y := my, d := md } a ++ List.take ((1 : Nat) * 
  (1 : Nat)) [Cr.y (goR (crOf (iterW t a { w := mw, h := mh, r := mr, n := mn, x := mx, y := my, d := md })) t) * Cr.w (goR (crOf (iterW t a { w := mw, h := mh, r := mr, n := mn, x := mx, y := my, d := md })) 
  t) + Cr.x (goR (crOf (iterW t a { w := mw, h := mh, r := mr, n := mn, x := mx, y := my, d := md })) t)] = trackW t { w := mw, h := mh, r := mr, n := mn, x := mx, y := my, d := md } 
  (a + (1 : Nat) + (1 : Nat) - (1 : Nat))) ∧ True) ∧ True) ∧ At (lfInv t { w := mw, h := mh, r := mr, n := mn, x := mx, y := my, d := md } (a + (1 : Nat) + (1 : Nat) - (1 : Nat)) ∧ onesW 
  (iterW t (a + (1 : Nat) + (1 : Nat) - (1 : Nat)) { w := mw, h := mh, r := mr, n := mn, x := mx, y := my, d := md }) < onesW (iterW t a { w := mw, h := mh, r := mr, n := mn, x := mx, y := my, d := md }))) 
  ∧ True) ∧ True) ∧ True) ∧ True) ∧ (At (boxC (goR (crOf (iterW t a { w := mw, h := mh, r := mr, n := mn, x := mx, y := my, d := md })) t) = true) ∧ (((At ((List.length (trackW t { w := mw, h := mh, r := mr, n := mn, x := mx, y := my, d := md } 
  a) = (a + (1 : Nat)) * (1 : Nat) ∧ (1 : Nat) * (1 : Nat) ≤ List.length [Cr.y (goR (crOf (iterW t a { w := mw, h := mh, r := mr, n := mn, x := mx, y := my, d := md })) t) * Cr.w (goR 
  (crOf (iterW t a { w := mw, h := mh, r := mr, n := mn, x := mx, y := my, d := md })) t) + Cr.x (goR (crOf (iterW t a { w := mw, h := mh, r := mr, n := mn, x := mx, y := my, d := md })) 
  t)]) ∧ (0 : Nat) < (1 : Nat) ∧ a + (1 : Nat) + (1 : Nat) ≤ (1000000000 : Nat)) ∧ ((True ∧ (t = t ∧ ((1 : Nat) = (1 : Nat) ∧ (0 : Nat) = (0 : Nat)) ∧ ((2 : Nat) = (2 : Nat) ∧ (0 : Nat) 
  = (0 : Nat)) ∧ ((3 : Nat) = (3 : Nat) ∧ (0 : Nat) = (0 : Nat)) ∧ True) ∧ ((True ∧ g0 = g0 ∧ g1 = g1 ∧ g2 = g2 ∧ g3 = g3 ∧ g4 = g4 ∧ g5 = g5 ∧ True) ∧ (True ∧ Value.slice none (0 : Nat) 
  (0 : Nat) = Value.slice none (0 : Nat) (0 : Nat) ∧ Value.slice none (0 : Nat) (0 : Nat) = Value.slice none (0 : Nat) (0 : Nat) ∧ (True ∧ (0 : Int) = (0 : Int)) ∧ (True ∧ (0 : Int) = 
  (0 : Int)) ∧ nilB = nilB ∧ nilB = nilB ∧ (True ∧ (0 : Int) = (0 : Int)) ∧ (True ∧ (0 : Int) = (0 : Int)) ∧ (True ∧ (0 : Int) = (0 : Int)) ∧ True) ∧ (True ∧ Cr.r (goR (crOf (iterW t 
  a { w := mw, h := mh, r := mr, n := mn, x := mx, y := my, d := md })) t) = Cr.r (crOf (iterW t (a + (1 : Nat) + (1 : Nat) - (1 : Nat)) { w := mw, h := mh, r := mr, n := mn, x := mx, y := my, d := md })) 
  ∧ (True ∧ Cr.w (goR (crOf (iterW t a { w := mw, h := mh, r := mr, n := mn, x := mx, y := my, d := md })) t) = Cr.w (crOf (iterW t (a + (1 : Nat) + (1 : Nat) - (1 : Nat)) { w := mw, h := mh, r := mr, n := mn, x := mx, y := my, d := md }))) 
  ∧ (True ∧ Cr.h (goR (crOf (iterW t a { w := mw, h := mh, r := mr, n := mn, x := mx, y := my, d := md })) t) = Cr.h (crOf (iterW t (a + (1 : Nat) + (1 : Nat) - (1 : Nat)) { w := mw, h := mh, r := mr, n := mn, x := mx, y := my, d := md }))) 
  ∧ Cr.c (goR (crOf (iterW t a { w := mw, h := mh, r := mr, n := mn, x := mx, y := my, d := md })) t) = Cr.c (crOf (iterW t (a + (1 : Nat) + (1 : Nat) - (1 : Nat)) { w := mw, h := mh, r := mr, n := mn, x := mx, y := my, d := md })) 
  ∧ (True ∧ Cr.x (goR (crOf (iterW t a { w := mw, h := mh, r := mr, n := mn, x := mx, y := my, d := md })) t) = Cr.x (crOf (iterW t (a + (1 : Nat) + (1 : Nat) - (1 : Nat)) { w := mw, h := mh, r := mr, n := mn, x := mx, y := my, d := md }))) 
  ∧ (True ∧ Cr.y (goR (crOf (iterW t a { w := mw, h := mh, r := mr, n := mn, x := mx, y := my, d := md })) t) = Cr.y (crOf (iterW t (a + (1 : Nat) + (1 : Nat) - (1 : Nat)) { w := mw, h := mh, r := mr, n := mn, x := mx, y := my, d := md }))) 
  ∧ (True ∧ Cr.d (goR (crOf (iterW t a { w := mw, h := mh, r := mr, n := mn, x := mx, y := my, d := md })) t) = Cr.d (crOf (iterW t (a + (1 : Nat) + (1 : Nat) - (1 : Nat)) { w := mw, h := mh, r := mr, n := mn, x := mx, y := my, d := md }))) 
  ∧ Cr.l (goR (crOf (iterW t a { w := mw, h := mh, r := mr, n := mn, x := mx, y := my, d := md })) t) = Cr.l (crOf (iterW t (a + (1 : Nat) + (1 : Nat) - (1 : Nat)) { w := mw, h := mh, r := mr, n := mn, x := mx, y := my, d := md })) 
  ∧ True) ∧ (True ∧ ((4 : Nat) = (4 : Nat) ∧ a + (1 : Nat) = a + (1 : Nat) + (1 : Nat) - (1 : Nat)) ∧ ((5 : Nat) = (5 : Nat) ∧ a + (1 : Nat) + (1 : Nat) = a + (1 : Nat) + (1 : Nat) - 
  (1 : Nat) + (1 : Nat)) ∧ (True ∧ (0 : Int) = (0 : Int)) ∧ (True ∧ (0 : Int) = (0 : Int)) ∧ nilB = nilB ∧ nilB = nilB ∧ (True ∧ (0 : Int) = (0 : Int)) ∧ (True ∧ (0 : Int) = (0 : Int)) 
  ∧ (True ∧ (0 : Int) = (0 : Int)) ∧ True) ∧ (True ∧ IntKind.i32 = IntKind.i32 ∧ runesW t { w := mw, h := mh, r := mr, n := mn, x := mx, y := my, d := md } a ++ List.take ((1 : Nat) * 
  (1 : Nat)) [goS (crOf (iterW t a { w := mw, h := mh, r := mr, n := mn, x := mx, y := my, d := md })) t] = runesW t { w := mw, h := mh, r := mr, n := mn, x := mx, y := my, d := md } 
  (a + (1 : Nat) + (1 : Nat) - (1 : Nat))) ∧ (True ∧ IntKind.i64 = IntKind.i64 ∧ trackW t { w := mw, h := mh, r := mr, n := mn, x := mx, y := my, d := md } a ++ List.take ((1 : Nat) * 
  (1 : Nat)) [Cr.y (goR (crOf (iterW t a { w := mw, h := mh, r := mr, n := mn, x := mx, y := my, d := md })) t) * Cr.w (goR (crOf (iterW t a { w := mw, h := mh, r := mr, n := mn, x := mx, y := my, d := md })) 
  t) + Cr.x (goR (crOf (iterW t a { w := mw, h := mh, r := mr, n := mn, x := mx, y := my, d := md })) t)] = trackW t { w := mw, h := mh, r := mr, n := mn, x := mx, y := my, d := md } 
  (a + (1 : Nat) + (1 : Nat) - (1 : Nat))) ∧ True) ∧ True) ∧ At (lfInv t { w := mw, h := mh, r := mr, n := mn, x := mx, y := my, d := md } (a + (1 : Nat) + (1 : Nat) - (1 : Nat)) ∧ onesW 
  (iterW t (a + (1 : Nat) + (1 : Nat) - (1 : Nat)) { w := mw, h := mh, r := mr, n := mn, x := mx, y := my, d := md }) < onesW (iterW t a { w := mw, h := mh, r := mr, n := mn, x := mx, y := my, d := md }))) 
  ∧ True) ∧ True) ∧ True) ∧ ((At ((List.length (trackW t { w := mw, h := mh, r := mr, n := mn, x := mx, y := my, d := md } a) = (a + (1 : Nat)) * (1 : Nat) ∧ (1 : Nat) * (1 : Nat) ≤ List.length 
  [Cr.y (goR (crOf (iterW t a { w := mw, h := mh, r := mr, n := mn, x := mx, y := my, d := md })) t) * Cr.w (goR (crOf (iterW t a { w := mw, h := mh, r := mr, n := mn, x := mx, y := my, d := md })) 
  t) + Cr.x (goR (crOf (iterW t a { w := mw, h := mh, r := mr, n := mn, x := mx, y := my, d := md })) t)]) ∧ (0 : Nat) < (1 : Nat) ∧ a + (1 : Nat) + (1 : Nat) ≤ (1000000000 : Nat)) ∧ 
  ((True ∧ (t = t ∧ ((1 : Nat) = (1 : Nat) ∧ (0 : Nat) = (0 : Nat)) ∧ ((2 : Nat) = (2 : Nat) ∧ (0 : Nat) = (0 : Nat)) ∧ ((3 : Nat) = (3 : Nat) ∧ (0 : Nat) = (0 : Nat)) ∧ True) ∧ ((True 
  ∧ g0 = g0 ∧ g1 = g1 ∧ g2 = g2 ∧ g3 = g3 ∧ g4 = g4 ∧ g5 = g5 ∧ True) ∧ (True ∧ Value.slice none (0 : Nat) (0 : Nat) = Value.slice none (0 : Nat) (0 : Nat) ∧ Value.slice none (0 : Nat) 
  (0 : Nat) = Value.slice none (0 : Nat) (0 : Nat) ∧ (True ∧ (0 : Int) = (0 : Int)) ∧ (True ∧ (0 : Int) = (0 : Int)) ∧ nilB = nilB ∧ nilB = nilB ∧ (True ∧ (0 : Int) = (0 : Int)) ∧ (True 
  ∧ (0 : Int) = (0 : Int)) ∧ (True ∧ (0 : Int) = (0 : Int)) ∧ True) ∧ (True ∧ Cr.r (goR (crOf (iterW t a { w := mw, h := mh, r := mr, n := mn, x := mx, y := my, d := md })) t) = Cr.r 
  (crOf (iterW t (a + (1 : Nat) + (1 : Nat) - (1 : Nat)) { w := mw, h := mh, r := mr, n := mn, x := mx, y := my, d := md })) ∧ (True ∧ Cr.w (goR (crOf (iterW t a { w := mw, h := mh, r := mr, n := mn, x := mx, y := my, d := md })) 
  t) = Cr.w (crOf (iterW t (a + (1 : Nat) + (1 : Nat) - (1 : Nat)) { w := mw, h := mh, r := mr, n := mn, x := mx, y := my, d := md }))) ∧ (True ∧ Cr.h (goR (crOf (iterW t a { w := mw, h := mh, r := mr, n := mn, x := mx, y := my, d := md })) 
  t) = Cr.h (crOf (iterW t (a + (1 : Nat) + (1 : Nat) - (1 : Nat)) { w := mw, h := mh, r := mr, n := mn, x := mx, y := my, d := md }))) ∧ Cr.c (goR (crOf (iterW t a { w := mw, h := mh, r := mr, n := mn, x := mx, y := my, d := md })) 
  t) = Cr.c (crOf (iterW t (a + (1 : Nat) + (1 : Nat) - (1 : Nat)) { w := mw, h := mh, r := mr, n := mn, x := mx, y := my, d := md })) ∧ (True ∧ Cr.x (goR (crOf (iterW t a { w := mw, h := mh, r := mr, n := mn, x := mx, y := my, d := md })) 
  t) = Cr.x (crOf (iterW t (a + (1 : Nat) + (1 : Nat) - (1 : Nat)) { w := mw, h := mh, r := mr, n := mn, x := mx, y := my, d := md }))) ∧ (True ∧ Cr.y (goR (crOf (iterW t a { w := mw, h := mh, r := mr, n := mn, x := mx, y := my, d := md })) 
  t) = Cr.y (crOf (iterW t (a + (1 : Nat) + (1 : Nat) - (1 : Nat)) { w := mw, h := mh, r := mr, n := mn, x := mx, y := my, d := md }))) ∧ (True ∧ Cr.d (goR (crOf (iterW t a { w := mw, h := mh, r := mr, n := mn, x := mx, y := my, d := md })) 
  t) = Cr.d (crOf (iterW t (a + (1 : Nat) + (1 : Nat) - (1 : Nat)) { w := mw, h := mh, r := mr, n := mn, x := mx, y := my, d := md }))) ∧ Cr.l (goR (crOf (iterW t a { w := mw, h := mh, r := mr, n := mn, x := mx, y := my, d := md })) 
  t) = Cr.l (crOf (iterW t (a + (1 : Nat) + (1 : Nat) - (1 : Nat)) { w := mw, h := mh, r := mr, n := mn, x := mx, y := my, d := md })) ∧ True) ∧ (True ∧ ((4 : Nat) = (4 : Nat) ∧ a + (1 
  : Nat) = a + (1 : Nat) + (1 : Nat) - (1 : Nat)) ∧ ((5 : Nat) = (5 : Nat) ∧ a + (1 : Nat) + (1 : Nat) = a + (1 : Nat) + (1 : Nat) - (1 : Nat) + (1 : Nat)) ∧ (True ∧ (0 : Int) = (0 : 
  Int)) ∧ (True ∧ (0 : Int) = (0 : Int)) ∧ nilB = nilB ∧ nilB = nilB ∧ (True ∧ (0 : Int) = (0 : Int)) ∧ (True ∧ (0 : Int) = (0 : Int)) ∧ (True ∧ (0 : Int) = (0 : Int)) ∧ True) ∧ (True 
  ∧ IntKind.i32 = IntKind.i32 ∧ runesW t { w := mw, h := mh, r := mr, n := mn, x := mx, y := my, d := md } a ++ List.take ((1 : Nat) * (1 : Nat)) [goS (crOf (iterW t a { w := mw, h := mh, r := mr, n := mn, x := mx, y := my, d := md })) 
  t] = runesW t { w := mw, h := mh, r := mr, n := mn, x := mx, y := my, d := md } (a + (1 : Nat) + (1 : Nat) - (1 : Nat))) ∧ (True ∧ IntKind.i64 = IntKind.i64 ∧ trackW t { w := mw, h := mh, r := mr, n := mn, x := mx, y := my, d := md } 
  a ++ List.take ((1 : Nat) * (1 : Nat)) [Cr.y (goR (crOf (iterW t a { w := mw, h := mh, r := mr, n := mn, x := mx, y := my, d := md })) t) * Cr.w (goR (crOf (iterW t a { w := mw, h := mh, r := mr, n := mn, x := mx, y := my, d := md })) 
  t) + Cr.x (goR (crOf (iterW t a { w := mw, h := mh, r := mr, n := mn, x := mx, y := my, d := md })) t)] = trackW t { w := mw, h := mh, r := mr, n := mn, x := mx, y := my, d := md } 
  (a + (1 : Nat) + (1 : Nat) - (1 : Nat))) ∧ True) ∧ True) ∧ At (lfInv t { w := mw, h := mh, r := mr, n := mn, x := mx, y := my, d := md } (a + (1 : Nat) + (1 : Nat) - (1 : Nat)) ∧ onesW 
  (iterW t (a + (1 : Nat) + (1 : Nat) - (1 : Nat)) { w := mw, h := mh, r := mr, n := mn, x := mx, y := my, d := md }) < onesW (iterW t a { w := mw, h := mh, r := mr, n := mn, x := mx, y := my, d := md }))) 
  ∧ True) ∧ True) ∧ True) ∧ True) ∧ True)))

def VC_spec_LifeOf (mw : Int) (mh : Int) (mr : List UInt8) (mn : List UInt8) (mx : Int) (my : Int) (md : Int) (t : List UInt8) (K : V → Prop) : Prop :=
  At True ∧
  ((!(womB { w := mw, h := mh, r := mr, n := mn, x := mx, y := my, d := md } && tasB t)) = true →
      K (V.tup [V.int IntKind.i64 (0 : Int), V.lit false])) ∧
    ((!(womB { w := mw, h := mh, r := mr, n := mn, x := mx, y := my, d := md } && tasB t)) = false →
      At (womB { w := mw, h := mh, r := mr, n := mn, x := mx, y := my, d := md } = true ∧ tasB t = true) ∧
        K
          (V.tup
            [V.int IntKind.i64
                (↑(List.length
                      (mealsW t { w := mw, h := mh, r := mr, n := mn, x := mx, y := my, d := md }
                        (lifK t { w := mw, h := mh, r := mr, n := mn, x := mx, y := my, d := md }))) :
                  Int),
              V.lit true]))

def VC_impl_LifeOf (mw : Int) (mh : Int) (mr : List UInt8) (mn : List UInt8) (mx : Int) (my : Int) (md : Int) (t : List UInt8) (g0 : List UInt8) (g1 : List UInt8) (g2 : List UInt8) (g3 : List UInt8) (g4 : List UInt8) (g5 : List UInt8) (K : V → List Blk → Prop) : Prop :=
  At (isTs g0 g1 g2 g3 g4 g5) ∧
  K
    (V.tup
      [V.int IntKind.i64
          (↑(List.length (mlR t { w := mw, h := mh, r := mr, n := mn, x := mx, y := my, d := md })) : Int),
        V.bool (askB t { w := mw, h := mh, r := mr, n := mn, x := mx, y := my, d := md })])
    [{ cs := Cells.vals [V.str g0, V.str g1, V.str g2, V.str g3, V.str g4, V.str g5], elem := 9,
        kind := Kind.gl 0 },
      {
        cs :=
          Cells.vals
            [V.int IntKind.i64 mw, V.int IntKind.i64 mh, V.str mr, V.str mn, V.int IntKind.i64 mx, V.int IntKind.i64 my,
              V.int IntKind.i64 md],
        elem := 28, kind := Kind.box },
      { cs := Cells.ints IntKind.i32 (mlR t { w := mw, h := mh, r := mr, n := mn, x := mx, y := my, d := md }),
        elem := 21, kind := Kind.row },
      { cs := Cells.ints IntKind.i64 (tkR t { w := mw, h := mh, r := mr, n := mn, x := mx, y := my, d := md }),
        elem := 3, kind := Kind.row },
      {
        cs :=
          Cells.vals
            [V.row (2 : Nat) (List.length (mlR t { w := mw, h := mh, r := mr, n := mn, x := mx, y := my, d := md })),
              V.row (3 : Nat) (List.length (tkR t { w := mw, h := mh, r := mr, n := mn, x := mx, y := my, d := md })),
              V.int IntKind.i64 (Wo.w (dthW t { w := mw, h := mh, r := mr, n := mn, x := mx, y := my, d := md })),
              V.int IntKind.i64 (Wo.h (dthW t { w := mw, h := mh, r := mr, n := mn, x := mx, y := my, d := md })),
              V.str (Wo.r (dthW t { w := mw, h := mh, r := mr, n := mn, x := mx, y := my, d := md })),
              V.str (Wo.n (dthW t { w := mw, h := mh, r := mr, n := mn, x := mx, y := my, d := md })),
              V.int IntKind.i64 (Wo.x (dthW t { w := mw, h := mh, r := mr, n := mn, x := mx, y := my, d := md })),
              V.int IntKind.i64 (Wo.y (dthW t { w := mw, h := mh, r := mr, n := mn, x := mx, y := my, d := md })),
              V.int IntKind.i64 (Wo.d (dthW t { w := mw, h := mh, r := mr, n := mn, x := mx, y := my, d := md }))],
        elem := 85, kind := Kind.box }]

def VC_spec_DeathOf (mw : Int) (mh : Int) (mr : List UInt8) (mn : List UInt8) (mx : Int) (my : Int) (md : Int) (t : List UInt8) (K : V → Prop) : Prop :=
  At True ∧
  ((!(womB { w := mw, h := mh, r := mr, n := mn, x := mx, y := my, d := md } && tasB t)) = true →
      K
        (V.tup
          [V.agg
              [V.int IntKind.i64 (0 : Int), V.int IntKind.i64 (0 : Int), V.str (Array.toList #[]),
                V.str (Array.toList #[]), V.int IntKind.i64 (0 : Int), V.int IntKind.i64 (0 : Int),
                V.int IntKind.i64 (0 : Int)],
            V.lit false])) ∧
    ((!(womB { w := mw, h := mh, r := mr, n := mn, x := mx, y := my, d := md } && tasB t)) = false →
      At (womB { w := mw, h := mh, r := mr, n := mn, x := mx, y := my, d := md } = true ∧ tasB t = true) ∧
        K
          (V.tup
            [V.agg
                [V.int IntKind.i64
                    (Wo.w
                      (iterW t (lifK t { w := mw, h := mh, r := mr, n := mn, x := mx, y := my, d := md })
                        { w := mw, h := mh, r := mr, n := mn, x := mx, y := my, d := md })),
                  V.int IntKind.i64
                    (Wo.h
                      (iterW t (lifK t { w := mw, h := mh, r := mr, n := mn, x := mx, y := my, d := md })
                        { w := mw, h := mh, r := mr, n := mn, x := mx, y := my, d := md })),
                  V.str
                    (Wo.r
                      (iterW t (lifK t { w := mw, h := mh, r := mr, n := mn, x := mx, y := my, d := md })
                        { w := mw, h := mh, r := mr, n := mn, x := mx, y := my, d := md })),
                  V.str
                    (Wo.n
                      (iterW t (lifK t { w := mw, h := mh, r := mr, n := mn, x := mx, y := my, d := md })
                        { w := mw, h := mh, r := mr, n := mn, x := mx, y := my, d := md })),
                  V.int IntKind.i64
                    (Wo.x
                      (iterW t (lifK t { w := mw, h := mh, r := mr, n := mn, x := mx, y := my, d := md })
                        { w := mw, h := mh, r := mr, n := mn, x := mx, y := my, d := md })),
                  V.int IntKind.i64
                    (Wo.y
                      (iterW t (lifK t { w := mw, h := mh, r := mr, n := mn, x := mx, y := my, d := md })
                        { w := mw, h := mh, r := mr, n := mn, x := mx, y := my, d := md })),
                  V.int IntKind.i64
                    (Wo.d
                      (iterW t (lifK t { w := mw, h := mh, r := mr, n := mn, x := mx, y := my, d := md })
                        { w := mw, h := mh, r := mr, n := mn, x := mx, y := my, d := md }))],
              V.lit true]))

def VC_impl_DeathOf (mw : Int) (mh : Int) (mr : List UInt8) (mn : List UInt8) (mx : Int) (my : Int) (md : Int) (t : List UInt8) (g0 : List UInt8) (g1 : List UInt8) (g2 : List UInt8) (g3 : List UInt8) (g4 : List UInt8) (g5 : List UInt8) (K : V → List Blk → Prop) : Prop :=
  At (isTs g0 g1 g2 g3 g4 g5) ∧
  K
    (V.tup
      [V.agg
          [V.int IntKind.i64 (Wo.w (dthW t { w := mw, h := mh, r := mr, n := mn, x := mx, y := my, d := md })),
            V.int IntKind.i64 (Wo.h (dthW t { w := mw, h := mh, r := mr, n := mn, x := mx, y := my, d := md })),
            V.str (Wo.r (dthW t { w := mw, h := mh, r := mr, n := mn, x := mx, y := my, d := md })),
            V.str (Wo.n (dthW t { w := mw, h := mh, r := mr, n := mn, x := mx, y := my, d := md })),
            V.int IntKind.i64 (Wo.x (dthW t { w := mw, h := mh, r := mr, n := mn, x := mx, y := my, d := md })),
            V.int IntKind.i64 (Wo.y (dthW t { w := mw, h := mh, r := mr, n := mn, x := mx, y := my, d := md })),
            V.int IntKind.i64 (Wo.d (dthW t { w := mw, h := mh, r := mr, n := mn, x := mx, y := my, d := md }))],
        V.bool (askB t { w := mw, h := mh, r := mr, n := mn, x := mx, y := my, d := md })])
    [{ cs := Cells.vals [V.str g0, V.str g1, V.str g2, V.str g3, V.str g4, V.str g5], elem := 9,
        kind := Kind.gl 0 },
      {
        cs :=
          Cells.vals
            [V.int IntKind.i64 mw, V.int IntKind.i64 mh, V.str mr, V.str mn, V.int IntKind.i64 mx, V.int IntKind.i64 my,
              V.int IntKind.i64 md],
        elem := 28, kind := Kind.box },
      {
        cs :=
          Cells.vals
            [V.int IntKind.i64 (Wo.w (dthW t { w := mw, h := mh, r := mr, n := mn, x := mx, y := my, d := md })),
              V.int IntKind.i64 (Wo.h (dthW t { w := mw, h := mh, r := mr, n := mn, x := mx, y := my, d := md })),
              V.str (Wo.r (dthW t { w := mw, h := mh, r := mr, n := mn, x := mx, y := my, d := md })),
              V.str (Wo.n (dthW t { w := mw, h := mh, r := mr, n := mn, x := mx, y := my, d := md })),
              V.int IntKind.i64 (Wo.x (dthW t { w := mw, h := mh, r := mr, n := mn, x := mx, y := my, d := md })),
              V.int IntKind.i64 (Wo.y (dthW t { w := mw, h := mh, r := mr, n := mn, x := mx, y := my, d := md })),
              V.int IntKind.i64 (Wo.d (dthW t { w := mw, h := mh, r := mr, n := mn, x := mx, y := my, d := md }))],
        elem := 28, kind := Kind.box },
      { cs := Cells.ints IntKind.i32 (mlR t { w := mw, h := mh, r := mr, n := mn, x := mx, y := my, d := md }),
        elem := 21, kind := Kind.row },
      { cs := Cells.ints IntKind.i64 (tkR t { w := mw, h := mh, r := mr, n := mn, x := mx, y := my, d := md }),
        elem := 3, kind := Kind.row },
      {
        cs :=
          Cells.vals
            [V.row (3 : Nat) (List.length (mlR t { w := mw, h := mh, r := mr, n := mn, x := mx, y := my, d := md })),
              V.row (4 : Nat) (List.length (tkR t { w := mw, h := mh, r := mr, n := mn, x := mx, y := my, d := md })),
              V.int IntKind.i64 (Wo.w (dthW t { w := mw, h := mh, r := mr, n := mn, x := mx, y := my, d := md })),
              V.int IntKind.i64 (Wo.h (dthW t { w := mw, h := mh, r := mr, n := mn, x := mx, y := my, d := md })),
              V.str (Wo.r (dthW t { w := mw, h := mh, r := mr, n := mn, x := mx, y := my, d := md })),
              V.str (Wo.n (dthW t { w := mw, h := mh, r := mr, n := mn, x := mx, y := my, d := md })),
              V.int IntKind.i64 (Wo.x (dthW t { w := mw, h := mh, r := mr, n := mn, x := mx, y := my, d := md })),
              V.int IntKind.i64 (Wo.y (dthW t { w := mw, h := mh, r := mr, n := mn, x := mx, y := my, d := md })),
              V.int IntKind.i64 (Wo.d (dthW t { w := mw, h := mh, r := mr, n := mn, x := mx, y := my, d := md }))],
        elem := 85, kind := Kind.box }]

def VC_spec_MealsOfWorm (mw : Int) (mh : Int) (mr : List UInt8) (mn : List UInt8) (mx : Int) (my : Int) (md : Int) (t : List UInt8) (K : V → Prop) : Prop :=
  At True ∧
  ((!(womB { w := mw, h := mh, r := mr, n := mn, x := mx, y := my, d := md } && tasB t)) = true →
      K (V.tup [V.str (Array.toList #[]), V.lit false])) ∧
    ((!(womB { w := mw, h := mh, r := mr, n := mn, x := mx, y := my, d := md } && tasB t)) = false →
      At (womB { w := mw, h := mh, r := mr, n := mn, x := mx, y := my, d := md } = true ∧ tasB t = true) ∧
        K
          (V.tup
            [V.str
                (mealsW t { w := mw, h := mh, r := mr, n := mn, x := mx, y := my, d := md }
                  (lifK t { w := mw, h := mh, r := mr, n := mn, x := mx, y := my, d := md })),
              V.lit true]))

def VC_impl_MealsOfWorm (mw : Int) (mh : Int) (mr : List UInt8) (mn : List UInt8) (mx : Int) (my : Int) (md : Int) (t : List UInt8) (g0 : List UInt8) (g1 : List UInt8) (g2 : List UInt8) (g3 : List UInt8) (g4 : List UInt8) (g5 : List UInt8) (K : V → List Blk → Prop) : Prop :=
  At (isTs g0 g1 g2 g3 g4 g5) ∧
  At
      (List.length (mlR t { w := mw, h := mh, r := mr, n := mn, x := mx, y := my, d := md }) ≤
          List.length (mlR t { w := mw, h := mh, r := mr, n := mn, x := mx, y := my, d := md }) ∧
        ∀ (x : Int),
          x ∈ mlR t { w := mw, h := mh, r := mr, n := mn, x := mx, y := my, d := md } →
            (0 : Int) ≤ x ∧ x < (128 : Int)) ∧
    K
      (V.tup
        [V.str
            (List.map (fun (x : Int) ↦ UInt8.ofNat (Int.toNat x))
              (List.take (List.length (mlR t { w := mw, h := mh, r := mr, n := mn, x := mx, y := my, d := md }))
                (mlR t { w := mw, h := mh, r := mr, n := mn, x := mx, y := my, d := md }))),
          V.bool (askB t { w := mw, h := mh, r := mr, n := mn, x := mx, y := my, d := md })])
      [{ cs := Cells.vals [V.str g0, V.str g1, V.str g2, V.str g3, V.str g4, V.str g5], elem := 9,
          kind := Kind.gl 0 },
        {
          cs :=
            Cells.vals
              [V.int IntKind.i64 mw, V.int IntKind.i64 mh, V.str mr, V.str mn, V.int IntKind.i64 mx,
                V.int IntKind.i64 my, V.int IntKind.i64 md],
          elem := 28, kind := Kind.box },
        { cs := Cells.ints IntKind.i32 (mlR t { w := mw, h := mh, r := mr, n := mn, x := mx, y := my, d := md }),
          elem := 21, kind := Kind.row },
        { cs := Cells.ints IntKind.i64 (tkR t { w := mw, h := mh, r := mr, n := mn, x := mx, y := my, d := md }),
          elem := 3, kind := Kind.row },
        {
          cs :=
            Cells.vals
              [V.row (2 : Nat) (List.length (mlR t { w := mw, h := mh, r := mr, n := mn, x := mx, y := my, d := md })),
                V.row (3 : Nat) (List.length (tkR t { w := mw, h := mh, r := mr, n := mn, x := mx, y := my, d := md })),
                V.int IntKind.i64 (Wo.w (dthW t { w := mw, h := mh, r := mr, n := mn, x := mx, y := my, d := md })),
                V.int IntKind.i64 (Wo.h (dthW t { w := mw, h := mh, r := mr, n := mn, x := mx, y := my, d := md })),
                V.str (Wo.r (dthW t { w := mw, h := mh, r := mr, n := mn, x := mx, y := my, d := md })),
                V.str (Wo.n (dthW t { w := mw, h := mh, r := mr, n := mn, x := mx, y := my, d := md })),
                V.int IntKind.i64 (Wo.x (dthW t { w := mw, h := mh, r := mr, n := mn, x := mx, y := my, d := md })),
                V.int IntKind.i64 (Wo.y (dthW t { w := mw, h := mh, r := mr, n := mn, x := mx, y := my, d := md })),
                V.int IntKind.i64 (Wo.d (dthW t { w := mw, h := mh, r := mr, n := mn, x := mx, y := my, d := md }))],
          elem := 85, kind := Kind.box }]

def VC_spec_TrackOfWorm (mw : Int) (mh : Int) (mr : List UInt8) (mn : List UInt8) (mx : Int) (my : Int) (md : Int) (t : List UInt8) (K : V → List Blk → Prop) : Prop :=
  At True ∧
  ((!(womB { w := mw, h := mh, r := mr, n := mn, x := mx, y := my, d := md } && tasB t)) = true →
      K (V.tup [V.raw (Value.slice none (0 : Nat) (0 : Nat)), V.lit false])
        [{
            cs :=
              Cells.vals
                [V.int IntKind.i64 mw, V.int IntKind.i64 mh, V.str mr, V.str mn, V.int IntKind.i64 mx,
                  V.int IntKind.i64 my, V.int IntKind.i64 md],
            elem := 28, kind := Kind.box }]) ∧
    ((!(womB { w := mw, h := mh, r := mr, n := mn, x := mx, y := my, d := md } && tasB t)) = false →
      At (womB { w := mw, h := mh, r := mr, n := mn, x := mx, y := my, d := md } = true ∧ tasB t = true) ∧
        K
          (V.tup
            [V.row (1 : Nat) (lifK t { w := mw, h := mh, r := mr, n := mn, x := mx, y := my, d := md } + (1 : Nat)),
              V.lit true])
          [{
              cs :=
                Cells.vals
                  [V.int IntKind.i64 mw, V.int IntKind.i64 mh, V.str mr, V.str mn, V.int IntKind.i64 mx,
                    V.int IntKind.i64 my, V.int IntKind.i64 md],
              elem := 28, kind := Kind.box },
            {
              cs :=
                Cells.ints IntKind.i64
                  (trackW t { w := mw, h := mh, r := mr, n := mn, x := mx, y := my, d := md }
                    (lifK t { w := mw, h := mh, r := mr, n := mn, x := mx, y := my, d := md })),
              elem := 3, kind := Kind.row },
            {
              cs :=
                Cells.vals
                  [V.int IntKind.i64
                      (Wo.w
                        (iterW t (lifK t { w := mw, h := mh, r := mr, n := mn, x := mx, y := my, d := md })
                          { w := mw, h := mh, r := mr, n := mn, x := mx, y := my, d := md })),
                    V.int IntKind.i64
                      (Wo.h
                        (iterW t (lifK t { w := mw, h := mh, r := mr, n := mn, x := mx, y := my, d := md })
                          { w := mw, h := mh, r := mr, n := mn, x := mx, y := my, d := md })),
                    V.str
                      (Wo.r
                        (iterW t (lifK t { w := mw, h := mh, r := mr, n := mn, x := mx, y := my, d := md })
                          { w := mw, h := mh, r := mr, n := mn, x := mx, y := my, d := md })),
                    V.str
                      (Wo.n
                        (iterW t (lifK t { w := mw, h := mh, r := mr, n := mn, x := mx, y := my, d := md })
                          { w := mw, h := mh, r := mr, n := mn, x := mx, y := my, d := md })),
                    V.int IntKind.i64
                      (Wo.x
                        (iterW t (lifK t { w := mw, h := mh, r := mr, n := mn, x := mx, y := my, d := md })
                          { w := mw, h := mh, r := mr, n := mn, x := mx, y := my, d := md })),
                    V.int IntKind.i64
                      (Wo.y
                        (iterW t (lifK t { w := mw, h := mh, r := mr, n := mn, x := mx, y := my, d := md })
                          { w := mw, h := mh, r := mr, n := mn, x := mx, y := my, d := md })),
                    V.int IntKind.i64
                      (Wo.d
                        (iterW t (lifK t { w := mw, h := mh, r := mr, n := mn, x := mx, y := my, d := md })
                          { w := mw, h := mh, r := mr, n := mn, x := mx, y := my, d := md }))],
              elem := 28, kind := Kind.box }])

def VC_impl_TrackOfWorm (mw : Int) (mh : Int) (mr : List UInt8) (mn : List UInt8) (mx : Int) (my : Int) (md : Int) (t : List UInt8) (g0 : List UInt8) (g1 : List UInt8) (g2 : List UInt8) (g3 : List UInt8) (g4 : List UInt8) (g5 : List UInt8) (K : V → List Blk → Prop) : Prop :=
  At (isTs g0 g1 g2 g3 g4 g5) ∧
  K
    (V.tup
      [V.row (3 : Nat) (List.length (tkR t { w := mw, h := mh, r := mr, n := mn, x := mx, y := my, d := md })),
        V.bool (askB t { w := mw, h := mh, r := mr, n := mn, x := mx, y := my, d := md })])
    [{ cs := Cells.vals [V.str g0, V.str g1, V.str g2, V.str g3, V.str g4, V.str g5], elem := 9,
        kind := Kind.gl 0 },
      {
        cs :=
          Cells.vals
            [V.int IntKind.i64 mw, V.int IntKind.i64 mh, V.str mr, V.str mn, V.int IntKind.i64 mx, V.int IntKind.i64 my,
              V.int IntKind.i64 md],
        elem := 28, kind := Kind.box },
      { cs := Cells.ints IntKind.i32 (mlR t { w := mw, h := mh, r := mr, n := mn, x := mx, y := my, d := md }),
        elem := 21, kind := Kind.row },
      { cs := Cells.ints IntKind.i64 (tkR t { w := mw, h := mh, r := mr, n := mn, x := mx, y := my, d := md }),
        elem := 3, kind := Kind.row },
      {
        cs :=
          Cells.vals
            [V.row (2 : Nat) (List.length (mlR t { w := mw, h := mh, r := mr, n := mn, x := mx, y := my, d := md })),
              V.row (3 : Nat) (List.length (tkR t { w := mw, h := mh, r := mr, n := mn, x := mx, y := my, d := md })),
              V.int IntKind.i64 (Wo.w (dthW t { w := mw, h := mh, r := mr, n := mn, x := mx, y := my, d := md })),
              V.int IntKind.i64 (Wo.h (dthW t { w := mw, h := mh, r := mr, n := mn, x := mx, y := my, d := md })),
              V.str (Wo.r (dthW t { w := mw, h := mh, r := mr, n := mn, x := mx, y := my, d := md })),
              V.str (Wo.n (dthW t { w := mw, h := mh, r := mr, n := mn, x := mx, y := my, d := md })),
              V.int IntKind.i64 (Wo.x (dthW t { w := mw, h := mh, r := mr, n := mn, x := mx, y := my, d := md })),
              V.int IntKind.i64 (Wo.y (dthW t { w := mw, h := mh, r := mr, n := mn, x := mx, y := my, d := md })),
              V.int IntKind.i64 (Wo.d (dthW t { w := mw, h := mh, r := mr, n := mn, x := mx, y := my, d := md }))],
        elem := 85, kind := Kind.box }]

end Go.Vi
