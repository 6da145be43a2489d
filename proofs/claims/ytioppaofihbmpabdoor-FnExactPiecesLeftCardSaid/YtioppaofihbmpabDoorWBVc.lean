/- The conditions, reckoned out by program: texts alone. -/
import Derived.Test.YtioppaofihbmpabDoorWBDefs
namespace Go.Vi
set_option linter.unusedVariables false
def VC_spec_l1Mod (n : Int) (m : Int) (K : V → Prop) : Prop :=
  At (m ≠ (0 : Int)) ∧
  At (m ≠ (0 : Int)) ∧ K (V.int IntKind.i64 (Int.tmod (IntKind.wrap IntKind.i64 (Int.tmod n m + m)) m))

def VC_spec_woTurn (b : Int) (K : V → Prop) : Prop :=
  ((b == (82 : Int)) = true → K (V.int IntKind.i64 (1 : Int))) ∧
  ((b == (82 : Int)) = false →
    ((b == (85 : Int)) = true → K (V.int IntKind.i64 (2 : Int))) ∧
      ((b == (85 : Int)) = false →
        ((b == (76 : Int)) = true → K (V.int IntKind.i64 (3 : Int))) ∧
          ((b == (76 : Int)) = false → K (V.int IntKind.i64 (0 : Int)))))

def VC_impl_quarters (b : Int) (K : V → Prop) : Prop :=
  ((b == (82 : Int)) = true → K (V.int IntKind.i64 (1 : Int))) ∧
  ((b == (82 : Int)) = false →
    ((b == (85 : Int)) = true → K (V.int IntKind.i64 (2 : Int))) ∧
      ((b == (85 : Int)) = false →
        ((b == (76 : Int)) = true → K (V.int IntKind.i64 (3 : Int))) ∧
          ((b == (76 : Int)) = false → K (V.int IntKind.i64 (0 : Int)))))

def VC_impl_direction (d : Int) (K : V → Prop) : Prop :=
  ((d == (0 : Int)) = true → K (V.tup [V.int IntKind.i64 (0 : Int), V.int IntKind.i64 (-1 : Int)])) ∧
  ((d == (0 : Int)) = false →
    ((d == (1 : Int)) = true → K (V.tup [V.int IntKind.i64 (1 : Int), V.int IntKind.i64 (0 : Int)])) ∧
      ((d == (1 : Int)) = false →
        ((d == (2 : Int)) = true → K (V.tup [V.int IntKind.i64 (0 : Int), V.int IntKind.i64 (1 : Int)])) ∧
          ((d == (2 : Int)) = false → K (V.tup [V.int IntKind.i64 (-1 : Int), V.int IntKind.i64 (0 : Int)]))))

def VC_impl_board_turned (br : List UInt8) (bw : Int) (bh : Int) (bc : List UInt8) (bx : Int) (by_ : Int) (bd : Int) (q : Int) (K : V → Prop) : Prop :=
  At ((4 : Int) ≠ (0 : Int)) ∧
  K
    (V.agg
      [V.str br, V.int IntKind.i64 bw, V.int IntKind.i64 bh, V.str bc, V.int IntKind.i64 bx, V.int IntKind.i64 by_,
        V.int IntKind.i64 (Int.tmod (IntKind.wrap IntKind.i64 (bd + q)) (4 : Int))])

def VC_impl_board_moved (br : List UInt8) (bw : Int) (bh : Int) (bc : List UInt8) (bx : Int) (by_ : Int) (bd : Int) (k : Int) (K : V → Prop) : Prop :=
  At True ∧
  At (bw ≠ (0 : Int)) ∧
    At (bh ≠ (0 : Int)) ∧
      K
        (V.agg
          [V.str br, V.int IntKind.i64 bw, V.int IntKind.i64 bh, V.str bc,
            V.int IntKind.i64
              (Int.tmod
                (IntKind.wrap IntKind.i64 (IntKind.wrap IntKind.i64 (bx + IntKind.wrap IntKind.i64 (k * dirX bd)) + bw))
                bw),
            V.int IntKind.i64
              (Int.tmod
                (IntKind.wrap IntKind.i64
                  (IntKind.wrap IntKind.i64 (by_ + IntKind.wrap IntKind.i64 (k * dirY bd)) + bh))
                bh),
            V.int IntKind.i64 bd])

def VC_impl_crawler_nodes (cr : List UInt8) (cw : Int) (ch : Int) (cc : List UInt8) (cx : Int) (cy : Int) (cd : Int) (cl : List UInt8) (K : V → Prop) : Prop :=
  K (V.int IntKind.i64 (IntKind.wrap IntKind.i64 (cw * ch)))

def VC_impl_crawler_node (cr : List UInt8) (cw : Int) (ch : Int) (cc : List UInt8) (cx : Int) (cy : Int) (cd : Int) (cl : List UInt8) (K : V → Prop) : Prop :=
  K (V.int IntKind.i64 (IntKind.wrap IntKind.i64 (IntKind.wrap IntKind.i64 (cy * cw) + cx)))

def VC_impl_crawler_seenFrom (cr : List UInt8) (cw : Int) (ch : Int) (cc : List UInt8) (cx : Int) (cy : Int) (cd : Int) (cl : List UInt8) (k : Int) (q : Int) (K : V → Prop) : Prop :=
  (At (cw ≠ (0 : Int)) ∧
    At (cw ≠ (0 : Int)) ∧
      ((K
              (V.agg
                [V.str cr, V.int IntKind.i64 cw, V.int IntKind.i64 ch, V.str cc, V.int IntKind.i64 (Int.tmod k cw),
                  V.int IntKind.i64 (IntKind.wrap IntKind.i64 (Int.tdiv k cw)), V.int IntKind.i64 q, V.str cl]) ∧
            True) ∧
          True) ∧
        True) ∧
  (At (cw ≠ (0 : Int)) ∧
      At (cw ≠ (0 : Int)) ∧
        ((K
                (V.agg
                  [V.str cr, V.int IntKind.i64 cw, V.int IntKind.i64 ch, V.str cc, V.int IntKind.i64 (Int.tmod k cw),
                    V.int IntKind.i64 (IntKind.wrap IntKind.i64 (Int.tdiv k cw)), V.int IntKind.i64 q, V.str cl]) ∧
              True) ∧
            True) ∧
          True) ∧
    True

def VC_impl_crawler_heading (cr : List UInt8) (cw : Int) (ch : Int) (cc : List UInt8) (cx : Int) (cy : Int) (cd : Int) (cl : List UInt8) (q : Int) (K : V → Prop) : Prop :=
  At ((0 : Int) ≤ cd ∧ cd ≤ (3 : Int) ∧ (0 : Int) ≤ q ∧ q ≤ (4 : Int)) ∧
  K
    (V.agg
      [V.str (Cr.r (trnC { r := cr, w := cw, h := ch, c := cc, x := cx, y := cy, d := cd, l := [] } q)),
        V.int IntKind.i64 (Cr.w (trnC { r := cr, w := cw, h := ch, c := cc, x := cx, y := cy, d := cd, l := [] } q)),
        V.int IntKind.i64 (Cr.h (trnC { r := cr, w := cw, h := ch, c := cc, x := cx, y := cy, d := cd, l := [] } q)),
        V.str (Cr.c (trnC { r := cr, w := cw, h := ch, c := cc, x := cx, y := cy, d := cd, l := [] } q)),
        V.int IntKind.i64 (Cr.x (trnC { r := cr, w := cw, h := ch, c := cc, x := cx, y := cy, d := cd, l := [] } q)),
        V.int IntKind.i64 (Cr.y (trnC { r := cr, w := cw, h := ch, c := cc, x := cx, y := cy, d := cd, l := [] } q)),
        V.int IntKind.i64 (Cr.d (trnC { r := cr, w := cw, h := ch, c := cc, x := cx, y := cy, d := cd, l := [] } q)),
        V.str cl])

def VC_impl_crawler_crawled (cr : List UInt8) (cw : Int) (ch : Int) (cc : List UInt8) (cx : Int) (cy : Int) (cd : Int) (cl : List UInt8) (K : V → Prop) : Prop :=
  At (boxC { r := cr, w := cw, h := ch, c := cc, x := cx, y := cy, d := cd, l := [] } = true ∧ (1 : Int) = (1 : Int)) ∧
  K
    (V.agg
      [V.str (Cr.r (movC { r := cr, w := cw, h := ch, c := cc, x := cx, y := cy, d := cd, l := [] })),
        V.int IntKind.i64 (Cr.w (movC { r := cr, w := cw, h := ch, c := cc, x := cx, y := cy, d := cd, l := [] })),
        V.int IntKind.i64 (Cr.h (movC { r := cr, w := cw, h := ch, c := cc, x := cx, y := cy, d := cd, l := [] })),
        V.str (Cr.c (movC { r := cr, w := cw, h := ch, c := cc, x := cx, y := cy, d := cd, l := [] })),
        V.int IntKind.i64 (Cr.x (movC { r := cr, w := cw, h := ch, c := cc, x := cx, y := cy, d := cd, l := [] })),
        V.int IntKind.i64 (Cr.y (movC { r := cr, w := cw, h := ch, c := cc, x := cx, y := cy, d := cd, l := [] })),
        V.int IntKind.i64 (Cr.d (movC { r := cr, w := cw, h := ch, c := cc, x := cx, y := cy, d := cd, l := [] })),
        V.str cl])

def VC_impl_crawler_lineAhead (cr : List UInt8) (cw : Int) (ch : Int) (cc : List UInt8) (cx : Int) (cy : Int) (cd : Int) (cl : List UInt8) (K : V → Prop) : Prop :=
  ((cd == (0 : Int)) = true →
    At (boxC { r := cr, w := cw, h := ch, c := cc, x := cx, y := cy, d := cd, l := cl } = true) ∧
      At
          ((0 : Int) ≤ Cr.d (movC { r := cr, w := cw, h := ch, c := cc, x := cx, y := cy, d := cd, l := cl }) ∧
            Cr.d (movC { r := cr, w := cw, h := ch, c := cc, x := cx, y := cy, d := cd, l := cl }) ≤ (3 : Int) ∧
              (0 : Int) ≤ (2 : Int) ∧ (2 : Int) ≤ (4 : Int)) ∧
        ((Cr.d (trnC (movC { r := cr, w := cw, h := ch, c := cc, x := cx, y := cy, d := cd, l := cl }) (2 : Int)) ==
                (2 : Int)) =
              true →
            True ∧
              At
                  (boxC
                      (trnC (movC { r := cr, w := cw, h := ch, c := cc, x := cx, y := cy, d := cd, l := cl })
                        (2 : Int)) =
                    true) ∧
                At
                    (boxC
                        (trnC (movC { r := cr, w := cw, h := ch, c := cc, x := cx, y := cy, d := cd, l := cl })
                          (2 : Int)) =
                      true) ∧
                  K
                    (V.int IntKind.i64
                      (IntKind.wrap IntKind.i64
                        (Cr.w
                              (trnC (movC { r := cr, w := cw, h := ch, c := cc, x := cx, y := cy, d := cd, l := cl })
                                (2 : Int)) *
                            Cr.h
                              (trnC (movC { r := cr, w := cw, h := ch, c := cc, x := cx, y := cy, d := cd, l := cl })
                                (2 : Int)) +
                          (Cr.y
                                (trnC (movC { r := cr, w := cw, h := ch, c := cc, x := cx, y := cy, d := cd, l := cl })
                                  (2 : Int)) *
                              Cr.w
                                (trnC (movC { r := cr, w := cw, h := ch, c := cc, x := cx, y := cy, d := cd, l := cl })
                                  (2 : Int)) +
                            Cr.x
                              (trnC (movC { r := cr, w := cw, h := ch, c := cc, x := cx, y := cy, d := cd, l := cl })
                                (2 : Int))))))) ∧
          ((Cr.d (trnC (movC { r := cr, w := cw, h := ch, c := cc, x := cx, y := cy, d := cd, l := cl }) (2 : Int)) ==
                (2 : Int)) =
              false →
            At
                (boxC
                    (trnC (movC { r := cr, w := cw, h := ch, c := cc, x := cx, y := cy, d := cd, l := cl }) (2 : Int)) =
                  true) ∧
              K
                (V.int IntKind.i64
                  (Cr.y
                        (trnC (movC { r := cr, w := cw, h := ch, c := cc, x := cx, y := cy, d := cd, l := cl })
                          (2 : Int)) *
                      Cr.w
                        (trnC (movC { r := cr, w := cw, h := ch, c := cc, x := cx, y := cy, d := cd, l := cl })
                          (2 : Int)) +
                    Cr.x
                      (trnC (movC { r := cr, w := cw, h := ch, c := cc, x := cx, y := cy, d := cd, l := cl })
                        (2 : Int)))))) ∧
  ((cd == (0 : Int)) = false →
    ((cd == (3 : Int)) = true →
        At (boxC { r := cr, w := cw, h := ch, c := cc, x := cx, y := cy, d := cd, l := cl } = true) ∧
          At
              ((0 : Int) ≤ Cr.d (movC { r := cr, w := cw, h := ch, c := cc, x := cx, y := cy, d := cd, l := cl }) ∧
                Cr.d (movC { r := cr, w := cw, h := ch, c := cc, x := cx, y := cy, d := cd, l := cl }) ≤ (3 : Int) ∧
                  (0 : Int) ≤ (2 : Int) ∧ (2 : Int) ≤ (4 : Int)) ∧
            ((Cr.d (trnC (movC { r := cr, w := cw, h := ch, c := cc, x := cx, y := cy, d := cd, l := cl }) (2 : Int)) ==
                    (2 : Int)) =
                  true →
                True ∧
                  At
                      (boxC
                          (trnC (movC { r := cr, w := cw, h := ch, c := cc, x := cx, y := cy, d := cd, l := cl })
                            (2 : Int)) =
                        true) ∧
                    At
                        (boxC
                            (trnC (movC { r := cr, w := cw, h := ch, c := cc, x := cx, y := cy, d := cd, l := cl })
                              (2 : Int)) =
                          true) ∧
                      K
                        (V.int IntKind.i64
                          (IntKind.wrap IntKind.i64
                            (Cr.w
                                  (trnC
                                    (movC { r := cr, w := cw, h := ch, c := cc, x := cx, y := cy, d := cd, l := cl })
                                    (2 : Int)) *
                                Cr.h
                                  (trnC
                                    (movC { r := cr, w := cw, h := ch, c := cc, x := cx, y := cy, d := cd, l := cl })
                                    (2 : Int)) +
                              (Cr.y
                                    (trnC
                                      (movC { r := cr, w := cw, h := ch, c := cc, x := cx, y := cy, d := cd, l := cl })
                                      (2 : Int)) *
                                  Cr.w
                                    (trnC
                                      (movC { r := cr, w := cw, h := ch, c := cc, x := cx, y := cy, d := cd, l := cl })
                                      (2 : Int)) +
                                Cr.x
                                  (trnC
                                    (movC { r := cr, w := cw, h := ch, c := cc, x := cx, y := cy, d := cd, l := cl })
                                    (2 : Int))))))) ∧
              ((Cr.d
                      (trnC (movC { r := cr, w := cw, h := ch, c := cc, x := cx, y := cy, d := cd, l := cl })
                        (2 : Int)) ==
                    (2 : Int)) =
                  false →
                At
                    (boxC
                        (trnC (movC { r := cr, w := cw, h := ch, c := cc, x := cx, y := cy, d := cd, l := cl })
                          (2 : Int)) =
                      true) ∧
                  K
                    (V.int IntKind.i64
                      (Cr.y
                            (trnC (movC { r := cr, w := cw, h := ch, c := cc, x := cx, y := cy, d := cd, l := cl })
                              (2 : Int)) *
                          Cr.w
                            (trnC (movC { r := cr, w := cw, h := ch, c := cc, x := cx, y := cy, d := cd, l := cl })
                              (2 : Int)) +
                        Cr.x
                          (trnC (movC { r := cr, w := cw, h := ch, c := cc, x := cx, y := cy, d := cd, l := cl })
                            (2 : Int)))))) ∧
      ((cd == (3 : Int)) = false →
        ((cd == (2 : Int)) = true →
            True ∧
              At (boxC { r := cr, w := cw, h := ch, c := cc, x := cx, y := cy, d := cd, l := cl } = true) ∧
                At (boxC { r := cr, w := cw, h := ch, c := cc, x := cx, y := cy, d := cd, l := cl } = true) ∧
                  K (V.int IntKind.i64 (IntKind.wrap IntKind.i64 (cw * ch + (cy * cw + cx))))) ∧
          ((cd == (2 : Int)) = false →
            At (boxC { r := cr, w := cw, h := ch, c := cc, x := cx, y := cy, d := cd, l := cl } = true) ∧
              K (V.int IntKind.i64 (cy * cw + cx)))))

def VC_impl_crawler_hasLineAhead (cr : List UInt8) (cw : Int) (ch : Int) (cc : List UInt8) (cx : Int) (cy : Int) (cd : Int) (cl : List UInt8) (K : V → Prop) : Prop :=
  True ∧
  At
      (boxC { r := cr, w := cw, h := ch, c := cc, x := cx, y := cy, d := cd, l := cl } = true ∧
        (0 : Int) ≤ cd ∧ cd ≤ (3 : Int)) ∧
    At ((0 : Int) ≤ lnI cw ch cx cy cd ∧ lnI cw ch cx cy cd < (↑(List.length cl) : Int)) ∧
      K (V.bool ((↑(UInt8.toNat (List.getD cl (Int.toNat (lnI cw ch cx cy cd)) (0 : UInt8))) : Int) == (49 : Int)))

def VC_impl_crawler_withLineAhead (cr : List UInt8) (cw : Int) (ch : Int) (cc : List UInt8) (cx : Int) (cy : Int) (cd : Int) (cl : List UInt8) (s : List UInt8) (K : V → Prop) : Prop :=
  At
    (boxC { r := cr, w := cw, h := ch, c := cc, x := cx, y := cy, d := cd, l := cl } = true ∧
      (0 : Int) ≤ cd ∧ cd ≤ (3 : Int)) ∧
  True ∧
    At ((0 : Int) ≤ lnI cw ch cx cy cd ∧ lnI cw ch cx cy cd ≤ (↑(List.length cl) : Int)) ∧
      At (List.length (List.take (Int.toNat (lnI cw ch cx cy cd)) cl) + List.length s ≤ (9223372036854775807 : Nat)) ∧
        At
            ((0 : Int) ≤ IntKind.wrap IntKind.i64 (lnI cw ch cx cy cd + (1 : Int)) ∧
              IntKind.wrap IntKind.i64 (lnI cw ch cx cy cd + (1 : Int)) ≤ (↑(List.length cl) : Int)) ∧
          At
              (List.length (List.take (Int.toNat (lnI cw ch cx cy cd)) cl ++ s) +
                  List.length (List.drop (Int.toNat (IntKind.wrap IntKind.i64 (lnI cw ch cx cy cd + (1 : Int)))) cl) ≤
                (9223372036854775807 : Nat)) ∧
            K
              (V.agg
                [V.str cr, V.int IntKind.i64 cw, V.int IntKind.i64 ch, V.str cc, V.int IntKind.i64 cx,
                  V.int IntKind.i64 cy, V.int IntKind.i64 cd,
                  V.str
                    (List.take (Int.toNat (lnI cw ch cx cy cd)) cl ++ s ++
                      List.drop (Int.toNat (IntKind.wrap IntKind.i64 (lnI cw ch cx cy cd + (1 : Int)))) cl)])

def VC_impl_crawler_worm (cr : List UInt8) (cw : Int) (ch : Int) (cc : List UInt8) (cx : Int) (cy : Int) (cd : Int) (cl : List UInt8) (K : V → Prop) : Prop :=
  At (boxC { r := cr, w := cw, h := ch, c := cc, x := cx, y := cy, d := cd, l := cl } = true) ∧
  True ∧
    At ((0 : Int) ≤ cw * ch ∧ cw * ch ≤ (↑(List.length cl) : Int)) ∧
      At ((0 : Int) ≤ cw * ch ∧ cw * ch ≤ (↑(List.length cl) : Int)) ∧
        K
          (V.agg
            [V.int IntKind.i64 cw, V.int IntKind.i64 ch, V.str (List.take (Int.toNat (cw * ch)) cl),
              V.str (List.drop (Int.toNat (cw * ch)) cl), V.int IntKind.i64 cx, V.int IntKind.i64 cy,
              V.int IntKind.i64 cd])

def VC_impl_crawlerOf (mw : Int) (mh : Int) (mr : List UInt8) (mn : List UInt8) (mx : Int) (my : Int) (md : Int) (K : V → Prop) : Prop :=
  At (List.length mr + List.length mn ≤ (9223372036854775807 : Nat)) ∧
  K
    (V.agg
      [V.str (Array.toList #[]), V.int IntKind.i64 mw, V.int IntKind.i64 mh, V.str (Array.toList #[]),
        V.int IntKind.i64 mx, V.int IntKind.i64 my, V.int IntKind.i64 md, V.str (mr ++ mn)])

def VC_impl_crawler_linesAt (cr : List UInt8) (cw : Int) (ch : Int) (cc : List UInt8) (cx : Int) (cy : Int) (cd : Int) (cl : List UInt8) (k : Int) (K : V → Prop) : Prop :=
  (((True ∧ k = k) ∧
      ((0 : Nat) = (0 : Nat) ∧ (0 : Nat) = (0 : Nat)) ∧
        (True ∧
            (0 : Int) =
              cntA { r := cr, w := cw, h := ch, c := cc, x := cx, y := cy, d := cd, l := cl } k (Int.toNat (0 : Int))) ∧
          (True ∧ (0 : Int) = (0 : Int)) ∧ True) ∧
    ((True ∧
          cr = cr ∧
            (True ∧ cw = cw) ∧
              (True ∧ ch = ch) ∧ cc = cc ∧ (True ∧ cx = cx) ∧ (True ∧ cy = cy) ∧ (True ∧ cd = cd) ∧ cl = cl ∧ True) ∧
        True) ∧
      True) ∧
  At (fourInv (0 : Int)) ∧
    ∀ (a : Int),
      fourInv a →
        (decide (a < (4 : Int)) = true →
            At (inB cw (3 : Int) (6 : Int) = true ∧ (0 : Int) ≤ k ∧ k ≤ (1000 : Int)) ∧
              At (crB (seeC { r := cr, w := cw, h := ch, c := cc, x := cx, y := cy, d := cd, l := cl } k a) = true) ∧
                (hasA (seeC { r := cr, w := cw, h := ch, c := cc, x := cx, y := cy, d := cd, l := cl } k a) = true →
                    (((True ∧ k = k) ∧
                          ((0 : Nat) = (0 : Nat) ∧ (0 : Nat) = (0 : Nat)) ∧
                            (True ∧
                                IntKind.wrap IntKind.i64
                                    (cntA { r := cr, w := cw, h := ch, c := cc, x := cx, y := cy, d := cd, l := cl } k
                                        (Int.toNat a) +
                                      (1 : Int)) =
                                  cntA { r := cr, w := cw, h := ch, c := cc, x := cx, y := cy, d := cd, l := cl } k
                                    (Int.toNat (IntKind.wrap IntKind.i64 (a + (1 : Int))))) ∧
                              (True ∧
                                  IntKind.wrap IntKind.i64 (a + (1 : Int)) = IntKind.wrap IntKind.i64 (a + (1 : Int))) ∧
                                True) ∧
                        ((True ∧
                              cr = cr ∧
                                (True ∧ cw = cw) ∧
                                  (True ∧ ch = ch) ∧
                                    cc = cc ∧ (True ∧ cx = cx) ∧ (True ∧ cy = cy) ∧ (True ∧ cd = cd) ∧ cl = cl ∧ True) ∧
                            True) ∧
                          True) ∧
                      At
                        (fourInv (IntKind.wrap IntKind.i64 (a + (1 : Int))) ∧
                          Int.toNat ((4 : Int) - IntKind.wrap IntKind.i64 (a + (1 : Int))) <
                            Int.toNat ((4 : Int) - a))) ∧
                  (hasA (seeC { r := cr, w := cw, h := ch, c := cc, x := cx, y := cy, d := cd, l := cl } k a) = false →
                    (((True ∧ k = k) ∧
                          ((0 : Nat) = (0 : Nat) ∧ (0 : Nat) = (0 : Nat)) ∧
                            (True ∧
                                cntA { r := cr, w := cw, h := ch, c := cc, x := cx, y := cy, d := cd, l := cl } k
                                    (Int.toNat a) =
                                  cntA { r := cr, w := cw, h := ch, c := cc, x := cx, y := cy, d := cd, l := cl } k
                                    (Int.toNat (IntKind.wrap IntKind.i64 (a + (1 : Int))))) ∧
                              (True ∧
                                  IntKind.wrap IntKind.i64 (a + (1 : Int)) = IntKind.wrap IntKind.i64 (a + (1 : Int))) ∧
                                True) ∧
                        ((True ∧
                              cr = cr ∧
                                (True ∧ cw = cw) ∧
                                  (True ∧ ch = ch) ∧
                                    cc = cc ∧ (True ∧ cx = cx) ∧ (True ∧ cy = cy) ∧ (True ∧ cd = cd) ∧ cl = cl ∧ True) ∧
                            True) ∧
                          True) ∧
                      At
                        (fourInv (IntKind.wrap IntKind.i64 (a + (1 : Int))) ∧
                          Int.toNat ((4 : Int) - IntKind.wrap IntKind.i64 (a + (1 : Int))) <
                            Int.toNat ((4 : Int) - a)))) ∧
          (decide (a < (4 : Int)) = false →
            K
              (V.int IntKind.i64
                (cntA { r := cr, w := cw, h := ch, c := cc, x := cx, y := cy, d := cd, l := cl } k (Int.toNat a))))

def VC_impl_crawler_goOn (cr : List UInt8) (cw : Int) (ch : Int) (cc : List UInt8) (cx : Int) (cy : Int) (cd : Int) (cl : List UInt8) (t : List UInt8) (K : V → Prop) : Prop :=
  (True ∧
    (((0 : Nat) = (0 : Nat) ∧ (0 : Nat) = (0 : Nat)) ∧
        ((1 : Nat) = (1 : Nat) ∧ (0 : Nat) = (0 : Nat)) ∧ ((2 : Nat) = (2 : Nat) ∧ (0 : Nat) = (0 : Nat)) ∧ True) ∧
      ((True ∧
            cr = cr ∧
              (True ∧ cw = cw) ∧
                (True ∧ ch = ch) ∧ cc = cc ∧ (True ∧ cx = cx) ∧ (True ∧ cy = cy) ∧ (True ∧ cd = cd) ∧ cl = cl ∧ True) ∧
          (True ∧
              nilB = nilB ∧
                (True ∧ (0 : Int) = (0 : Int)) ∧
                  (True ∧ (0 : Int) = (0 : Int)) ∧
                    nilB = nilB ∧
                      (True ∧ (0 : Int) = (0 : Int)) ∧
                        (True ∧ (0 : Int) = (0 : Int)) ∧ (True ∧ (0 : Int) = (0 : Int)) ∧ nilB = nilB ∧ True) ∧
            (True ∧ [(V.gp (0 : Nat) (0 : Nat), V.str t)] = [(V.gp (0 : Nat) (0 : Nat), V.str t)]) ∧ True) ∧
        True) ∧
  At (goInv { r := cr, w := cw, h := ch, c := cc, x := cx, y := cy, d := cd, l := cl } t (0 : Nat)) ∧
    ∀ (a : Nat),
      goInv { r := cr, w := cw, h := ch, c := cc, x := cx, y := cy, d := cd, l := cl } t a →
        (a < List.length t →
            At (UInt8.toNat (List.getD t a (0 : UInt8)) < (128 : Nat)) ∧
              (At True ∧
                  At
                      ((0 : Int) ≤ cd ∧
                        cd ≤ (3 : Int) ∧
                          (0 : Int) ≤
                              turnI (IntKind.wrap IntKind.u8 (↑(UInt8.toNat (List.getD t a (0 : UInt8))) : Int)) ∧
                            turnI (IntKind.wrap IntKind.u8 (↑(UInt8.toNat (List.getD t a (0 : UInt8))) : Int)) ≤
                              (4 : Int)) ∧
                    ((At
                            (crB
                                (trnC { r := cr, w := cw, h := ch, c := cc, x := cx, y := cy, d := cd, l := cl }
                                  (turnI
                                    (IntKind.wrap IntKind.u8 (↑(UInt8.toNat (List.getD t a (0 : UInt8))) : Int)))) =
                              true) ∧
                          (hasA
                                  (trnC { r := cr, w := cw, h := ch, c := cc, x := cx, y := cy, d := cd, l := cl }
                                    (turnI
                                      (IntKind.wrap IntKind.u8 (↑(UInt8.toNat (List.getD t a (0 : UInt8))) : Int)))) =
                                true →
                              At
                                  (crB
                                        (trnC { r := cr, w := cw, h := ch, c := cc, x := cx, y := cy, d := cd, l := cl }
                                          (turnI
                                            (IntKind.wrap IntKind.u8
                                              (↑(UInt8.toNat (List.getD t a (0 : UInt8))) : Int)))) =
                                      true ∧
                                    List.length (Array.toList #[(48 : UInt8)]) = (1 : Nat)) ∧
                                At
                                    (boxC
                                        (setA
                                          (trnC
                                            { r := cr, w := cw, h := ch, c := cc, x := cx, y := cy, d := cd, l := cl }
                                            (turnI
                                              (IntKind.wrap IntKind.u8
                                                (↑(UInt8.toNat (List.getD t a (0 : UInt8))) : Int))))
                                          (Array.toList #[(48 : UInt8)])) =
                                      true) ∧
                                  K
                                    (V.tup
                                      [V.agg
                                          [V.str
                                              (Cr.r
                                                (movC
                                                  (setA
                                                    (trnC
                                                      { r := cr, w := cw, h := ch, c := cc, x := cx, y := cy, d := cd,
                                                        l := cl }
                                                      (turnI
                                                        (IntKind.wrap IntKind.u8
                                                          (↑(UInt8.toNat (List.getD t a (0 : UInt8))) : Int))))
                                                    (Array.toList #[(48 : UInt8)])))),
                                            V.int IntKind.i64
                                              (Cr.w
                                                (movC
                                                  (setA
                                                    (trnC
                                                      { r := cr, w := cw, h := ch, c := cc, x := cx, y := cy, d := cd,
                                                        l := cl }
                                                      (turnI
                                                        (IntKind.wrap IntKind.u8
                                                          (↑(UInt8.toNat (List.getD t a (0 : UInt8))) : Int))))
                                                    (Array.toList #[(48 : UInt8)])))),
                                            V.int IntKind.i64
                                              (Cr.h
                                                (movC
                                                  (setA
                                                    (trnC
                                                      { r := cr, w := cw, h := ch, c := cc, x := cx, y := cy, d := cd,
                                                        l := cl }
                                                      (turnI
                                                        (IntKind.wrap IntKind.u8
                                                          (↑(UInt8.toNat (List.getD t a (0 : UInt8))) : Int))))
                                                    (Array.toList #[(48 : UInt8)])))),
                                            V.str
                                              (Cr.c
                                                (movC
                                                  (setA
                                                    (trnC
                                                      { r := cr, w := cw, h := ch, c := cc, x := cx, y := cy, d := cd,
                                                        l := cl }
                                                      (turnI
                                                        (IntKind.wrap IntKind.u8
                                                          (↑(UInt8.toNat (List.getD t a (0 : UInt8))) : Int))))
                                                    (Array.toList #[(48 : UInt8)])))),
                                            V.int IntKind.i64
                                              (Cr.x
                                                (movC
                                                  (setA
                                                    (trnC
                                                      { r := cr, w := cw, h := ch, c := cc, x := cx, y := cy, d := cd,
                                                        l := cl }
                                                      (turnI
                                                        (IntKind.wrap IntKind.u8
                                                          (↑(UInt8.toNat (List.getD t a (0 : UInt8))) : Int))))
                                                    (Array.toList #[(48 : UInt8)])))),
                                            V.int IntKind.i64
                                              (Cr.y
                                                (movC
                                                  (setA
                                                    (trnC
                                                      { r := cr, w := cw, h := ch, c := cc, x := cx, y := cy, d := cd,
                                                        l := cl }
                                                      (turnI
                                                        (IntKind.wrap IntKind.u8
                                                          (↑(UInt8.toNat (List.getD t a (0 : UInt8))) : Int))))
                                                    (Array.toList #[(48 : UInt8)])))),
                                            V.int IntKind.i64
                                              (Cr.d
                                                (movC
                                                  (setA
                                                    (trnC
                                                      { r := cr, w := cw, h := ch, c := cc, x := cx, y := cy, d := cd,
                                                        l := cl }
                                                      (turnI
                                                        (IntKind.wrap IntKind.u8
                                                          (↑(UInt8.toNat (List.getD t a (0 : UInt8))) : Int))))
                                                    (Array.toList #[(48 : UInt8)])))),
                                            V.str
                                              (Cr.l
                                                (movC
                                                  (setA
                                                    (trnC
                                                      { r := cr, w := cw, h := ch, c := cc, x := cx, y := cy, d := cd,
                                                        l := cl }
                                                      (turnI
                                                        (IntKind.wrap IntKind.u8
                                                          (↑(UInt8.toNat (List.getD t a (0 : UInt8))) : Int))))
                                                    (Array.toList #[(48 : UInt8)]))))],
                                        V.int IntKind.i32 (↑(UInt8.toNat (List.getD t a (0 : UInt8))) : Int),
                                        V.lit true])) ∧
                            (hasA
                                  (trnC { r := cr, w := cw, h := ch, c := cc, x := cx, y := cy, d := cd, l := cl }
                                    (turnI
                                      (IntKind.wrap IntKind.u8 (↑(UInt8.toNat (List.getD t a (0 : UInt8))) : Int)))) =
                                false →
                              (True ∧
                                  (((0 : Nat) = (0 : Nat) ∧ (0 : Nat) = (0 : Nat)) ∧
                                      ((1 : Nat) = (1 : Nat) ∧ (0 : Nat) = (0 : Nat)) ∧
                                        ((2 : Nat) = (2 : Nat) ∧ (0 : Nat) = (0 : Nat)) ∧ True) ∧
                                    ((True ∧
                                          cr = cr ∧
                                            (True ∧ cw = cw) ∧
                                              (True ∧ ch = ch) ∧
                                                cc = cc ∧
                                                  (True ∧ cx = cx) ∧
                                                    (True ∧ cy = cy) ∧ (True ∧ cd = cd) ∧ cl = cl ∧ True) ∧
                                        (True ∧
                                            nilB = nilB ∧
                                              (True ∧ (0 : Int) = (0 : Int)) ∧
                                                (True ∧ (0 : Int) = (0 : Int)) ∧
                                                  nilB = nilB ∧
                                                    (True ∧ (0 : Int) = (0 : Int)) ∧
                                                      (True ∧ (0 : Int) = (0 : Int)) ∧
                                                        (True ∧ (0 : Int) = (0 : Int)) ∧ nilB = nilB ∧ True) ∧
                                          (True ∧
                                              [(V.gp (a + (1 : Nat)) (0 : Nat), V.str t)] =
                                                [(V.gp (a + (1 : Nat)) (0 : Nat), V.str t)]) ∧
                                            True) ∧
                                      True) ∧
                                At
                                  (goInv { r := cr, w := cw, h := ch, c := cc, x := cx, y := cy, d := cd, l := cl } t
                                      (a + (1 : Nat)) ∧
                                    List.length t - (a + (1 : Nat)) < List.length t - a))) ∧
                        True) ∧
                      True) ∧
                ((At True ∧
                      At
                          ((0 : Int) ≤ cd ∧
                            cd ≤ (3 : Int) ∧
                              (0 : Int) ≤
                                  turnI (IntKind.wrap IntKind.u8 (↑(UInt8.toNat (List.getD t a (0 : UInt8))) : Int)) ∧
                                turnI (IntKind.wrap IntKind.u8 (↑(UInt8.toNat (List.getD t a (0 : UInt8))) : Int)) ≤
                                  (4 : Int)) ∧
                        (At
                              (crB
                                  (trnC { r := cr, w := cw, h := ch, c := cc, x := cx, y := cy, d := cd, l := cl }
                                    (turnI
                                      (IntKind.wrap IntKind.u8 (↑(UInt8.toNat (List.getD t a (0 : UInt8))) : Int)))) =
                                true) ∧
                            (hasA
                                    (trnC { r := cr, w := cw, h := ch, c := cc, x := cx, y := cy, d := cd, l := cl }
                                      (turnI
                                        (IntKind.wrap IntKind.u8 (↑(UInt8.toNat (List.getD t a (0 : UInt8))) : Int)))) =
                                  true →
                                At
                                    (crB
                                          (trnC
                                            { r := cr, w := cw, h := ch, c := cc, x := cx, y := cy, d := cd, l := cl }
                                            (turnI
                                              (IntKind.wrap IntKind.u8
                                                (↑(UInt8.toNat (List.getD t a (0 : UInt8))) : Int)))) =
                                        true ∧
                                      List.length (Array.toList #[(48 : UInt8)]) = (1 : Nat)) ∧
                                  At
                                      (boxC
                                          (setA
                                            (trnC
                                              { r := cr, w := cw, h := ch, c := cc, x := cx, y := cy, d := cd, l := cl }
                                              (turnI
                                                (IntKind.wrap IntKind.u8
                                                  (↑(UInt8.toNat (List.getD t a (0 : UInt8))) : Int))))
                                            (Array.toList #[(48 : UInt8)])) =
                                        true) ∧
                                    K
                                      (V.tup
                                        [V.agg
                                            [V.str
                                                (Cr.r
                                                  (movC
                                                    (setA
                                                      (trnC
                                                        { r := cr, w := cw, h := ch, c := cc, x := cx, y := cy, d := cd,
                                                          l := cl }
                                                        (turnI
                                                          (IntKind.wrap IntKind.u8
                                                            (↑(UInt8.toNat (List.getD t a (0 : UInt8))) : Int))))
                                                      (Array.toList #[(48 : UInt8)])))),
                                              V.int IntKind.i64
                                                (Cr.w
                                                  (movC
                                                    (setA
                                                      (trnC
                                                        { r := cr, w := cw, h := ch, c := cc, x := cx, y := cy, d := cd,
                                                          l := cl }
                                                        (turnI
                                                          (IntKind.wrap IntKind.u8
                                                            (↑(UInt8.toNat (List.getD t a (0 : UInt8))) : Int))))
                                                      (Array.toList #[(48 : UInt8)])))),
                                              V.int IntKind.i64
                                                (Cr.h
                                                  (movC
                                                    (setA
                                                      (trnC
                                                        { r := cr, w := cw, h := ch, c := cc, x := cx, y := cy, d := cd,
                                                          l := cl }
                                                        (turnI
                                                          (IntKind.wrap IntKind.u8
                                                            (↑(UInt8.toNat (List.getD t a (0 : UInt8))) : Int))))
                                                      (Array.toList #[(48 : UInt8)])))),
                                              V.str
                                                (Cr.c
                                                  (movC
                                                    (setA
                                                      (trnC
                                                        { r := cr, w := cw, h := ch, c := cc, x := cx, y := cy, d := cd,
                                                          l := cl }
                                                        (turnI
                                                          (IntKind.wrap IntKind.u8
                                                            (↑(UInt8.toNat (List.getD t a (0 : UInt8))) : Int))))
                                                      (Array.toList #[(48 : UInt8)])))),
                                              V.int IntKind.i64
                                                (Cr.x
                                                  (movC
                                                    (setA
                                                      (trnC
                                                        { r := cr, w := cw, h := ch, c := cc, x := cx, y := cy, d := cd,
                                                          l := cl }
                                                        (turnI
                                                          (IntKind.wrap IntKind.u8
                                                            (↑(UInt8.toNat (List.getD t a (0 : UInt8))) : Int))))
                                                      (Array.toList #[(48 : UInt8)])))),
                                              V.int IntKind.i64
                                                (Cr.y
                                                  (movC
                                                    (setA
                                                      (trnC
                                                        { r := cr, w := cw, h := ch, c := cc, x := cx, y := cy, d := cd,
                                                          l := cl }
                                                        (turnI
                                                          (IntKind.wrap IntKind.u8
                                                            (↑(UInt8.toNat (List.getD t a (0 : UInt8))) : Int))))
                                                      (Array.toList #[(48 : UInt8)])))),
                                              V.int IntKind.i64
                                                (Cr.d
                                                  (movC
                                                    (setA
                                                      (trnC
                                                        { r := cr, w := cw, h := ch, c := cc, x := cx, y := cy, d := cd,
                                                          l := cl }
                                                        (turnI
                                                          (IntKind.wrap IntKind.u8
                                                            (↑(UInt8.toNat (List.getD t a (0 : UInt8))) : Int))))
                                                      (Array.toList #[(48 : UInt8)])))),
                                              V.str
                                                (Cr.l
                                                  (movC
                                                    (setA
                                                      (trnC
                                                        { r := cr, w := cw, h := ch, c := cc, x := cx, y := cy, d := cd,
                                                          l := cl }
                                                        (turnI
                                                          (IntKind.wrap IntKind.u8
                                                            (↑(UInt8.toNat (List.getD t a (0 : UInt8))) : Int))))
                                                      (Array.toList #[(48 : UInt8)]))))],
                                          V.int IntKind.i32 (↑(UInt8.toNat (List.getD t a (0 : UInt8))) : Int),
                                          V.lit true])) ∧
                              (hasA
                                    (trnC { r := cr, w := cw, h := ch, c := cc, x := cx, y := cy, d := cd, l := cl }
                                      (turnI
                                        (IntKind.wrap IntKind.u8 (↑(UInt8.toNat (List.getD t a (0 : UInt8))) : Int)))) =
                                  false →
                                (True ∧
                                    (((0 : Nat) = (0 : Nat) ∧ (0 : Nat) = (0 : Nat)) ∧
                                        ((1 : Nat) = (1 : Nat) ∧ (0 : Nat) = (0 : Nat)) ∧
                                          ((2 : Nat) = (2 : Nat) ∧ (0 : Nat) = (0 : Nat)) ∧ True) ∧
                                      ((True ∧
                                            cr = cr ∧
                                              (True ∧ cw = cw) ∧
                                                (True ∧ ch = ch) ∧
                                                  cc = cc ∧
                                                    (True ∧ cx = cx) ∧
                                                      (True ∧ cy = cy) ∧ (True ∧ cd = cd) ∧ cl = cl ∧ True) ∧
                                          (True ∧
                                              nilB = nilB ∧
                                                (True ∧ (0 : Int) = (0 : Int)) ∧
                                                  (True ∧ (0 : Int) = (0 : Int)) ∧
                                                    nilB = nilB ∧
                                                      (True ∧ (0 : Int) = (0 : Int)) ∧
                                                        (True ∧ (0 : Int) = (0 : Int)) ∧
                                                          (True ∧ (0 : Int) = (0 : Int)) ∧ nilB = nilB ∧ True) ∧
                                            (True ∧
                                                [(V.gp (a + (1 : Nat)) (0 : Nat), V.str t)] =
                                                  [(V.gp (a + (1 : Nat)) (0 : Nat), V.str t)]) ∧
                                              True) ∧
                                        True) ∧
                                  At
                                    (goInv { r := cr, w := cw, h := ch, c := cc, x := cx, y := cy, d := cd, l := cl } t
                                        (a + (1 : Nat)) ∧
                                      List.length t - (a + (1 : Nat)) < List.length t - a))) ∧
                          True) ∧
                    True) ∧
                  True) ∧
          (¬a < List.length t →
            K
              (V.tup
                [V.agg
                    [V.str (Array.toList #[]), V.int IntKind.i64 (0 : Int), V.int IntKind.i64 (0 : Int),
                      V.str (Array.toList #[]), V.int IntKind.i64 (0 : Int), V.int IntKind.i64 (0 : Int),
                      V.int IntKind.i64 (0 : Int), V.str (Array.toList #[])],
                  V.int IntKind.i32 (0 : Int), V.lit false]))

def VC_spec_wmLine (mw : Int) (mh : Int) (mr : List UInt8) (mn : List UInt8) (mx : Int) (my : Int) (md : Int) (x : Int) (y : Int) (q : Int) (K : V → Prop) : Prop :=
  ((q == (0 : Int)) = true →
    True ∧
      At
          ((1 : Int) ≤ mh ∧
            mh ≤ (1000 : Int) ∧
              (-1000000 : Int) ≤ IntKind.wrap IntKind.i64 (y - (1 : Int)) ∧
                IntKind.wrap IntKind.i64 (y - (1 : Int)) ≤ (1000000 : Int)) ∧
        K
          (V.tup
            [V.lit true,
              V.int IntKind.i64
                (IntKind.wrap IntKind.i64
                  (IntKind.wrap IntKind.i64 (IntKind.wrap IntKind.i64 (y - (1 : Int)) % mh * mw) + x))])) ∧
  ((q == (0 : Int)) = false →
    ((q == (1 : Int)) = true →
        True ∧
          K
            (V.tup
              [V.lit false, V.int IntKind.i64 (IntKind.wrap IntKind.i64 (IntKind.wrap IntKind.i64 (y * mw) + x))])) ∧
      ((q == (1 : Int)) = false →
        ((q == (2 : Int)) = true →
            True ∧
              K
                (V.tup
                  [V.lit true, V.int IntKind.i64 (IntKind.wrap IntKind.i64 (IntKind.wrap IntKind.i64 (y * mw) + x))])) ∧
          ((q == (2 : Int)) = false →
            True ∧
              At
                  ((1 : Int) ≤ mw ∧
                    mw ≤ (1000 : Int) ∧
                      (-1000000 : Int) ≤ IntKind.wrap IntKind.i64 (x - (1 : Int)) ∧
                        IntKind.wrap IntKind.i64 (x - (1 : Int)) ≤ (1000000 : Int)) ∧
                K
                  (V.tup
                    [V.lit false,
                      V.int IntKind.i64
                        (IntKind.wrap IntKind.i64
                          (IntKind.wrap IntKind.i64 (y * mw) + IntKind.wrap IntKind.i64 (x - (1 : Int)) % mw))]))))

def VC_spec_wmHas (mw : Int) (mh : Int) (mr : List UInt8) (mn : List UInt8) (mx : Int) (my : Int) (md : Int) (x : Int) (y : Int) (q : Int) (K : V → Prop) : Prop :=
  At
    (womB { w := mw, h := mh, r := mr, n := mn, x := mx, y := my, d := md } = true ∧
      inB x (0 : Int) (mw - (1 : Int)) = true ∧
        inB y (0 : Int) (mh - (1 : Int)) = true ∧ inB q (0 : Int) (3 : Int) = true) ∧
  (dnB q = true →
      At ((0 : Int) ≤ atI mw mh x y q ∧ atI mw mh x y q < (↑(List.length mn) : Int)) ∧
        K (V.bool ((↑(UInt8.toNat (List.getD mn (Int.toNat (atI mw mh x y q)) (0 : UInt8))) : Int) == (49 : Int)))) ∧
    (dnB q = false →
      At ((0 : Int) ≤ atI mw mh x y q ∧ atI mw mh x y q < (↑(List.length mr) : Int)) ∧
        K (V.bool ((↑(UInt8.toNat (List.getD mr (Int.toNat (atI mw mh x y q)) (0 : UInt8))) : Int) == (49 : Int))))

def VC_spec_wmAt (mw : Int) (mh : Int) (mr : List UInt8) (mn : List UInt8) (mx : Int) (my : Int) (md : Int) (x : Int) (y : Int) (K : V → Prop) : Prop :=
  (((True ∧ x = x) ∧
      (True ∧ y = y) ∧
        ((0 : Nat) = (0 : Nat) ∧ (0 : Nat) = (0 : Nat)) ∧
          (True ∧
              (0 : Int) =
                cntW { w := mw, h := mh, r := mr, n := mn, x := mx, y := my, d := md } x y (Int.toNat (0 : Int))) ∧
            (True ∧ (0 : Int) = (0 : Int)) ∧ True) ∧
    ((True ∧
          (True ∧ mw = mw) ∧
            (True ∧ mh = mh) ∧ mr = mr ∧ mn = mn ∧ (True ∧ mx = mx) ∧ (True ∧ my = my) ∧ (True ∧ md = md) ∧ True) ∧
        True) ∧
      True) ∧
  At (fourInv (0 : Int)) ∧
    ∀ (a : Int),
      fourInv a →
        (decide (a < (4 : Int)) = true →
            At
                (womB { w := mw, h := mh, r := mr, n := mn, x := mx, y := my, d := md } = true ∧
                  inB x (0 : Int) (mw - (1 : Int)) = true ∧
                    inB y (0 : Int) (mh - (1 : Int)) = true ∧ inB a (0 : Int) (3 : Int) = true) ∧
              (hasW { w := mw, h := mh, r := mr, n := mn, x := mx, y := my, d := md } x y a = true →
                  (((True ∧ x = x) ∧
                        (True ∧ y = y) ∧
                          ((0 : Nat) = (0 : Nat) ∧ (0 : Nat) = (0 : Nat)) ∧
                            (True ∧
                                IntKind.wrap IntKind.i64
                                    (cntW { w := mw, h := mh, r := mr, n := mn, x := mx, y := my, d := md } x y
                                        (Int.toNat a) +
                                      (1 : Int)) =
                                  cntW { w := mw, h := mh, r := mr, n := mn, x := mx, y := my, d := md } x y
                                    (Int.toNat (IntKind.wrap IntKind.i64 (a + (1 : Int))))) ∧
                              (True ∧
                                  IntKind.wrap IntKind.i64 (a + (1 : Int)) = IntKind.wrap IntKind.i64 (a + (1 : Int))) ∧
                                True) ∧
                      ((True ∧
                            (True ∧ mw = mw) ∧
                              (True ∧ mh = mh) ∧
                                mr = mr ∧ mn = mn ∧ (True ∧ mx = mx) ∧ (True ∧ my = my) ∧ (True ∧ md = md) ∧ True) ∧
                          True) ∧
                        True) ∧
                    At
                      (fourInv (IntKind.wrap IntKind.i64 (a + (1 : Int))) ∧
                        Int.toNat ((4 : Int) - IntKind.wrap IntKind.i64 (a + (1 : Int))) < Int.toNat ((4 : Int) - a))) ∧
                (hasW { w := mw, h := mh, r := mr, n := mn, x := mx, y := my, d := md } x y a = false →
                  (((True ∧ x = x) ∧
                        (True ∧ y = y) ∧
                          ((0 : Nat) = (0 : Nat) ∧ (0 : Nat) = (0 : Nat)) ∧
                            (True ∧
                                cntW { w := mw, h := mh, r := mr, n := mn, x := mx, y := my, d := md } x y
                                    (Int.toNat a) =
                                  cntW { w := mw, h := mh, r := mr, n := mn, x := mx, y := my, d := md } x y
                                    (Int.toNat (IntKind.wrap IntKind.i64 (a + (1 : Int))))) ∧
                              (True ∧
                                  IntKind.wrap IntKind.i64 (a + (1 : Int)) = IntKind.wrap IntKind.i64 (a + (1 : Int))) ∧
                                True) ∧
                      ((True ∧
                            (True ∧ mw = mw) ∧
                              (True ∧ mh = mh) ∧
                                mr = mr ∧ mn = mn ∧ (True ∧ mx = mx) ∧ (True ∧ my = my) ∧ (True ∧ md = md) ∧ True) ∧
                          True) ∧
                        True) ∧
                    At
                      (fourInv (IntKind.wrap IntKind.i64 (a + (1 : Int))) ∧
                        Int.toNat ((4 : Int) - IntKind.wrap IntKind.i64 (a + (1 : Int))) <
                          Int.toNat ((4 : Int) - a)))) ∧
          (decide (a < (4 : Int)) = false →
            K
              (V.int IntKind.i64
                (cntW { w := mw, h := mh, r := mr, n := mn, x := mx, y := my, d := md } x y (Int.toNat a))))

def VC_spec_wmSet (x : Int) (y : Int) (q : Int) (s : List UInt8) (mw : Int) (mh : Int) (mr : List UInt8) (mn : List UInt8) (mx : Int) (my : Int) (md : Int) (e : TypeId) (K : V → List Blk → Prop) : Prop :=
  At
    (womB { w := mw, h := mh, r := mr, n := mn, x := mx, y := my, d := md } = true ∧
      inB x (0 : Int) (mw - (1 : Int)) = true ∧
        inB y (0 : Int) (mh - (1 : Int)) = true ∧ inB q (0 : Int) (3 : Int) = true) ∧
  (dnB q = true →
      True ∧
        At ((0 : Int) ≤ atI mw mh x y q ∧ atI mw mh x y q ≤ (↑(List.length mn) : Int)) ∧
          At (List.length (List.take (Int.toNat (atI mw mh x y q)) mn) + List.length s ≤ (9223372036854775807 : Nat)) ∧
            At
                ((0 : Int) ≤ IntKind.wrap IntKind.i64 (atI mw mh x y q + (1 : Int)) ∧
                  IntKind.wrap IntKind.i64 (atI mw mh x y q + (1 : Int)) ≤ (↑(List.length mn) : Int)) ∧
              At
                  (List.length (List.take (Int.toNat (atI mw mh x y q)) mn ++ s) +
                      List.length (List.drop (Int.toNat (IntKind.wrap IntKind.i64 (atI mw mh x y q + (1 : Int)))) mn) ≤
                    (9223372036854775807 : Nat)) ∧
                K (V.tup [])
                  [{
                      cs :=
                        Cells.vals
                          [V.int IntKind.i64 mw, V.int IntKind.i64 mh, V.str mr,
                            V.str
                              (List.take (Int.toNat (atI mw mh x y q)) mn ++ s ++
                                List.drop (Int.toNat (IntKind.wrap IntKind.i64 (atI mw mh x y q + (1 : Int)))) mn),
                            V.int IntKind.i64 mx, V.int IntKind.i64 my, V.int IntKind.i64 md],
                      elem := e, kind := Kind.box }]) ∧
    (dnB q = false →
      True ∧
        At ((0 : Int) ≤ atI mw mh x y q ∧ atI mw mh x y q ≤ (↑(List.length mr) : Int)) ∧
          At (List.length (List.take (Int.toNat (atI mw mh x y q)) mr) + List.length s ≤ (9223372036854775807 : Nat)) ∧
            At
                ((0 : Int) ≤ IntKind.wrap IntKind.i64 (atI mw mh x y q + (1 : Int)) ∧
                  IntKind.wrap IntKind.i64 (atI mw mh x y q + (1 : Int)) ≤ (↑(List.length mr) : Int)) ∧
              At
                  (List.length (List.take (Int.toNat (atI mw mh x y q)) mr ++ s) +
                      List.length (List.drop (Int.toNat (IntKind.wrap IntKind.i64 (atI mw mh x y q + (1 : Int)))) mr) ≤
                    (9223372036854775807 : Nat)) ∧
                K (V.tup [])
                  [{
                      cs :=
                        Cells.vals
                          [V.int IntKind.i64 mw, V.int IntKind.i64 mh,
                            V.str
                              (List.take (Int.toNat (atI mw mh x y q)) mr ++ s ++
                                List.drop (Int.toNat (IntKind.wrap IntKind.i64 (atI mw mh x y q + (1 : Int)))) mr),
                            V.str mn, V.int IntKind.i64 mx, V.int IntKind.i64 my, V.int IntKind.i64 md],
                      elem := e, kind := Kind.box }])

def VC_spec_wmGo (q : Int) (k : Int) (mw : Int) (mh : Int) (mr : List UInt8) (mn : List UInt8) (mx : Int) (my : Int) (md : Int) (e : TypeId) (K : V → List Blk → Prop) : Prop :=
  ((q == (0 : Int)) = true →
    True ∧
      At
          ((1 : Int) ≤ mh ∧
            mh ≤ (1000 : Int) ∧
              (-1000000 : Int) ≤ IntKind.wrap IntKind.i64 (my - k) ∧
                IntKind.wrap IntKind.i64 (my - k) ≤ (1000000 : Int)) ∧
        K (V.tup [])
          [{
              cs :=
                Cells.vals
                  [V.int IntKind.i64 mw, V.int IntKind.i64 mh, V.str mr, V.str mn, V.int IntKind.i64 mx,
                    V.int IntKind.i64 (IntKind.wrap IntKind.i64 (my - k) % mh), V.int IntKind.i64 md],
              elem := e, kind := Kind.box }]) ∧
  ((q == (0 : Int)) = false →
    ((q == (1 : Int)) = true →
        True ∧
          At
              ((1 : Int) ≤ mw ∧
                mw ≤ (1000 : Int) ∧
                  (-1000000 : Int) ≤ IntKind.wrap IntKind.i64 (mx + k) ∧
                    IntKind.wrap IntKind.i64 (mx + k) ≤ (1000000 : Int)) ∧
            K (V.tup [])
              [{
                  cs :=
                    Cells.vals
                      [V.int IntKind.i64 mw, V.int IntKind.i64 mh, V.str mr, V.str mn,
                        V.int IntKind.i64 (IntKind.wrap IntKind.i64 (mx + k) % mw), V.int IntKind.i64 my,
                        V.int IntKind.i64 md],
                  elem := e, kind := Kind.box }]) ∧
      ((q == (1 : Int)) = false →
        ((q == (2 : Int)) = true →
            True ∧
              At
                  ((1 : Int) ≤ mh ∧
                    mh ≤ (1000 : Int) ∧
                      (-1000000 : Int) ≤ IntKind.wrap IntKind.i64 (my + k) ∧
                        IntKind.wrap IntKind.i64 (my + k) ≤ (1000000 : Int)) ∧
                K (V.tup [])
                  [{
                      cs :=
                        Cells.vals
                          [V.int IntKind.i64 mw, V.int IntKind.i64 mh, V.str mr, V.str mn, V.int IntKind.i64 mx,
                            V.int IntKind.i64 (IntKind.wrap IntKind.i64 (my + k) % mh), V.int IntKind.i64 md],
                      elem := e, kind := Kind.box }]) ∧
          ((q == (2 : Int)) = false →
            True ∧
              At
                  ((1 : Int) ≤ mw ∧
                    mw ≤ (1000 : Int) ∧
                      (-1000000 : Int) ≤ IntKind.wrap IntKind.i64 (mx - k) ∧
                        IntKind.wrap IntKind.i64 (mx - k) ≤ (1000000 : Int)) ∧
                K (V.tup [])
                  [{
                      cs :=
                        Cells.vals
                          [V.int IntKind.i64 mw, V.int IntKind.i64 mh, V.str mr, V.str mn,
                            V.int IntKind.i64 (IntKind.wrap IntKind.i64 (mx - k) % mw), V.int IntKind.i64 my,
                            V.int IntKind.i64 md],
                      elem := e, kind := Kind.box }])))

def VC_spec_wmEat (t : List UInt8) (mw : Int) (mh : Int) (mr : List UInt8) (mn : List UInt8) (mx : Int) (my : Int) (md : Int) (e : TypeId) (K : V → List Blk → Prop) : Prop := (True 
  ∧ (((0 : Nat) = (0 : Nat) ∧ (0 : Nat) = (0 : Nat)) ∧ t = t ∧ ((1 : Nat) = (1 : Nat) ∧ (0 : Nat) = (0 : Nat)) ∧ True) ∧ ((Bool.rec False True (Nat.beq e e && decide (Kind.box = Kind.box)) 
  ∧ (True ∧ mw = mw) ∧ (True ∧ mh = mh) ∧ mr = mr ∧ mn = mn ∧ (True ∧ mx = mx) ∧ (True ∧ my = my) ∧ (True ∧ md = md) ∧ True) ∧ (True ∧ [(V.gp (0 : Nat) (0 : Nat), V.str t)] = [(V.gp (0 
  : Nat) (0 : Nat), V.str t)]) ∧ True) ∧ True) ∧ At (etInv { w := mw, h := mh, r := mr, n := mn, x := mx, y := my, d := md } t (0 : Nat)) ∧ ∀ (a : Nat), etInv { w := mw, h := mh, r := mr, n := mn, x := mx, y := my, d := md } 
  t a → (a < List.length t → At (UInt8.toNat (List.getD t a (0 : UInt8)) < (128 : Nat)) ∧ True ∧ At ((0 : Int) ≤ (↑a : Int) ∧ (↑a : Int) < (↑(List.length t) : Int)) ∧ At True ∧ At ((4 
  : Int) ≠ (0 : Int)) ∧ True ∧ At (womB { w := mw, h := mh, r := mr, n := mn, x := mx, y := my, d := md } = true ∧ inB mx (0 : Int) (mw - (1 : Int)) = true ∧ inB my (0 : Int) (mh - (1 
  : Int)) = true ∧ inB (Int.tmod (IntKind.wrap IntKind.i64 (md + turnI (↑(UInt8.toNat (List.getD t (Int.toNat (↑a : Int)) (0 : UInt8))) : Int))) (4 : Int)) (0 : Int) (3 : Int) = true) 
  ∧ (hasW { w := mw, h := mh, r := mr, n := mn, x := mx, y := my, d := md } mx my (Int.tmod (IntKind.wrap IntKind.i64 (md + turnI (↑(UInt8.toNat (List.getD t (Int.toNat (↑a : Int)) (0 
  : UInt8))) : Int))) (4 : Int)) = true → True ∧ At (womB { w := mw, h := mh, r := mr, n := mn, x := mx, y := my, d := md } = true ∧ inB mx (0 : Int) (mw - (1 : Int)) = true ∧ inB my 
  (0 : Int) (mh - (1 : Int)) = true ∧ inB (Int.tmod (IntKind.wrap IntKind.i64 (md + turnI (↑(UInt8.toNat (List.getD t (Int.toNat (↑a : Int)) (0 : UInt8))) : Int))) (4 : Int)) (0 : Int) 
  (3 : Int) = true ∧ List.length (Array.toList #[(48 : UInt8)]) = (1 : Nat)) ∧ At (inB (Wo.w (setW { w := mw, h := mh, r := mr, n := mn, x := mx, y := my, d := md } mx my (Int.tmod (IntKind.wrap 
  IntKind.i64 (md + turnI (↑(UInt8.toNat (List.getD t (Int.toNat (↑a : Int)) (0 : UInt8))) : Int))) (4 : Int)) (Array.toList #[(48 : UInt8)]))) (3 : Int) (6 : Int) = true ∧ inB (Wo.h 
  (setW { w := mw, h := mh, r := mr, n := mn, x := mx, y := my, d := md } mx my (Int.tmod (IntKind.wrap IntKind.i64 (md + turnI (↑(UInt8.toNat (List.getD t (Int.toNat (↑a : Int)) (0 : 
  UInt8))) : Int))) (4 : Int)) (Array.toList #[(48 : UInt8)]))) (3 : Int) (6 : Int) = true ∧ inB (Wo.x (setW { w := mw, h := mh, r := mr, n := mn, x := mx, y := my, d := md } mx my (Int.tmod 
  (IntKind.wrap IntKind.i64 (md + turnI (↑(UInt8.toNat (List.getD t (Int.toNat (↑a : Int)) (0 : UInt8))) : Int))) (4 : Int)) (Array.toList #[(48 : UInt8)]))) (0 : Int) (Wo.w (setW { w := mw, h := mh, r := mr, n := mn, x := mx, y := my, d := md } 
  mx my (Int.tmod (IntKind.wrap IntKind.i64 (md + turnI (↑(UInt8.toNat (List.getD t (Int.toNat (↑a : Int)) (0 : UInt8))) : Int))) (4 : Int)) (Array.toList #[(48 : UInt8)])) - (1 : Int)) 
  = true ∧ inB (Wo.y (setW { w := mw, h := mh, r := mr, n := mn, x := mx, y := my, d := md } mx my (Int.tmod (IntKind.wrap IntKind.i64 (md + turnI (↑(UInt8.toNat (List.getD t (Int.toNat 
  (↑a : Int)) (0 : UInt8))) : Int))) (4 : Int)) (Array.toList #[(48 : UInt8)]))) (0 : Int) (Wo.h (setW { w := mw, h := mh, r := mr, n := mn, x := mx, y := my, d := md } mx my (Int.tmod 
  (IntKind.wrap IntKind.i64 (md + turnI (↑(UInt8.toNat (List.getD t (Int.toNat (↑a : Int)) (0 : UInt8))) : Int))) (4 : Int)) (Array.toList #[(48 : UInt8)])) - (1 : Int)) = true ∧ ((1 
  : Int) = (1 : Int) ∨ (1 : Int) = (-1 : Int))) ∧ At ((0 : Int) ≤ (↑a : Int) ∧ (↑a : Int) ≤ IntKind.wrap IntKind.i64 ((↑a : Int) + (1 : Int)) ∧ IntKind.wrap IntKind.i64 ((↑a : Int) + 
  (1 : Int)) ≤ (↑(List.length t) : Int)) ∧ K (V.str (List.drop (Int.toNat (↑a : Int)) (List.take (Int.toNat (IntKind.wrap IntKind.i64 ((↑a : Int) + (1 : Int)))) t))) [{ cs := Cells.vals [V.int IntKind.i64 (Wo.w (goW { w := Wo.w (setW { w := mw, h := mh, r := mr, n := mn, x := mx, y := my, d := md } mx my (Int.tmod (IntKind.wrap IntKind.i64 (md + turnI (↑(UInt8.toNat (List.getD t (Int.toNat (↑a : Int)) (0 : UInt8))) : Int))) (4 : Int)) (Array.toList #[(48 : UInt8)])), h := Wo.h (setW { w := mw, h := mh, r := mr, n := mn, x := mx, y := my, d := md } mx my (Int.tmod (IntKind.wrap IntKind.i64 (md + turnI (↑(UInt8.toNat (List.getD t (Int.toNat (↑a : Int)) (0 : UInt8))) : Int))) (4 : Int)) (Array.toList #[(48 : UInt8)])), r := Wo.r (setW { w := mw, h := mh, r := mr, n := mn, x := mx, y := my, d := md } mx my (Int.tmod (IntKind.wrap IntKind.i64 (md + turnI (↑(UInt8.toNat (List.getD t (Int.toNat (↑a : Int)) (0 : UInt8))) : Int))) (4 : Int)) (Array.toList #[(48 : UInt8)])), n := Wo.n (setW { w := mw, h := mh, r := mr, n := mn, x := mx, y := my, d := md } mx my (Int.tmod (IntKind.wrap IntKind.i64 (md + turnI (↑(UInt8.toNat (List.getD t (Int.toNat (↑a : Int)) (0 : UInt8))) : Int))) (4 : Int)) (Array.toList #[(48 : UInt8)])), x := Wo.x (setW { w := mw, h := mh, r := mr, n := mn, x := mx, y := my, d := md } mx my (Int.tmod (IntKind.wrap IntKind.i64 (md + turnI (↑(UInt8.toNat (List.getD t (Int.toNat (↑a : Int)) (0 : UInt8))) : Int))) (4 : Int)) (Array.toList #[(48 : UInt8)])), y := Wo.y (setW { w := mw, h := mh, r := mr, n := mn, x := mx, y := my, d := md } mx my (Int.tmod (IntKind.wrap IntKind.i64 (md + turnI (↑(UInt8.toNat (List.getD t (Int.toNat (↑a : Int)) (0 : UInt8))) : Int))) (4 : Int)) (Array.toList #[(48 : UInt8)])), d := Int.tmod (IntKind.wrap IntKind.i64 (md + turnI (↑(UInt8.toNat (List.getD t (Int.toNat (↑a : Int)) (0 : UInt8))) : Int))) (4 : Int) } (Int.tmod (IntKind.wrap IntKind.i64 (md + turnI (↑(UInt8.toNat (List.getD t (Int.toNat (↑a : Int)) (0 : UInt8))) : Int))) (4 : Int)) (1 : Int))), V.int IntKind.i64 (Wo.h (goW { w := Wo.w (setW { w := mw, h := mh, r := mr, n := mn, x := mx, y := my, d := md } mx my (Int.tmod (IntKind.wrap IntKind.i64 (md + turnI (↑(UInt8.toNat (List.getD t (Int.toNat (↑a : Int)) (0 : UInt8))) : Int))) (4 : Int)) (Array.toList #[(48 : UInt8)])), h := Wo.h (setW { w := mw, h := mh, r := mr, n := mn, x := mx, y := my, d := md } mx my (Int.tmod (IntKind.wrap IntKind.i64 (md + turnI (↑(UInt8.toNat (List.getD t (Int.toNat (↑a : Int)) (0 : UInt8))) : Int))) (4 : Int)) (Array.toList #[(48 : UInt8)])), r := Wo.r (setW { w := mw, h := mh, r := mr, n := mn, x := mx, y := my, d := md } mx my (Int.tmod (IntKind.wrap IntKind.i64 (md + turnI (↑(UInt8.toNat (List.getD t (Int.toNat (↑a : Int)) (0 : UInt8))) : Int))) (4 : Int)) (Array.toList #[(48 : UInt8)])), n := Wo.n (setW { w := mw, h := mh, r := mr, n := mn, x := mx, y := my, d := md } mx my (Int.tmod (IntKind.wrap IntKind.i64 (md + turnI (↑(UInt8.toNat (List.getD t (Int.toNat (↑a : Int)) (0 : UInt8))) : Int))) (4 : Int)) (Array.toList #[(48 : UInt8)])), x := Wo.x (setW { w := mw, h := mh, r := mr, n := mn, x := mx, y := my, d := md } mx my (Int.tmod (IntKind.wrap IntKind.i64 (md + turnI (↑(UInt8.toNat (List.getD t (Int.toNat (↑a : Int)) (0 : UInt8))) : Int))) (4 : Int)) (Array.toList #[(48 : UInt8)])), y := Wo.y (setW { w := mw, h := mh, r := mr, n := mn, x := mx, y := my, d := md } mx my (Int.tmod (IntKind.wrap IntKind.i64 (md + turnI (↑(UInt8.toNat (List.getD t (Int.toNat (↑a : Int)) (0 : UInt8))) : Int))) (4 : Int)) (Array.toList #[(48 : UInt8)])), d := Int.tmod (IntKind.wrap IntKind.i64 (md + turnI (↑(UInt8.toNat (List.getD t (Int.toNat (↑a : Int)) (0 : UInt8))) : Int))) (4 : Int) } (Int.tmod (IntKind.wrap IntKind.i64 (md + turnI (↑(UInt8.toNat (List.getD t (Int.toNat (↑a : Int)) (0 : UInt8))) : Int))) (4 : Int)) (1 : Int))), V.str (Wo.r (goW { w := Wo.w (setW { w := mw, h := mh, r := mr, n := mn, x := mx, y := my, d := md } mx my (Int.tmod (IntKind.wrap IntKind.i64 (md + turnI (↑(UInt8.toNat (List.getD t (Int.toNat (↑a : Int)) (0 : UInt8))) : Int))) (4 : Int)) (Array.toList #[(48 : UInt8)])), h := Wo.h (setW { w := mw, h := mh, r := mr, n := mn, x := mx, y := my, d := md } mx my (Int.tmod (IntKind.wrap IntKind.i64 (md + turnI (↑(UInt8.toNat (List.getD t (Int.toNat (↑a : Int)) (0 : UInt8))) : Int))) (4 : Int)) (Array.toList #[(48 : UInt8)])), r := Wo.r (setW { w := mw, h := mh, r := mr, n := mn, x := mx, y := my, d := md } mx my (Int.tmod (IntKind.wrap IntKind.i64 (md + turnI (↑(UInt8.toNat (List.getD t (Int.toNat (↑a : Int)) (0 : UInt8))) : Int))) (4 : Int)) (Array.toList #[(48 : UInt8)])), n := Wo.n (setW { w := mw, h := mh, r := mr, n := mn, x := mx, y := my, d := md } mx my (Int.tmod (IntKind.wrap IntKind.i64 (md + turnI (↑(UInt8.toNat (List.getD t (Int.toNat (↑a : Int)) (0 : UInt8))) : Int))) (4 : Int)) (Array.toList #[(48 : UInt8)])), x := Wo.x (setW { w := mw, h := mh, r := mr, n := mn, x := mx, y := my, d := md } mx my (Int.tmod (IntKind.wrap IntKind.i64 (md + turnI (↑(UInt8.toNat (List.getD t (Int.toNat (↑a : Int)) (0 : UInt8))) : Int))) (4 : Int)) (Array.toList #[(48 : UInt8)])), y := Wo.y (setW { w := mw, h := mh, r := mr, n := mn, x := mx, y := my, d := md } mx my (Int.tmod (IntKind.wrap IntKind.i64 (md + turnI (↑(UInt8.toNat (List.getD t (Int.toNat (↑a : Int)) (0 : UInt8))) : Int))) (4 : Int)) (Array.toList #[(48 : UInt8)])), d := Int.tmod (IntKind.wrap IntKind.i64 (md + turnI (↑(UInt8.toNat (List.getD t (Int.toNat (↑a : Int)) (0 : UInt8))) : Int))) (4 : Int) } (Int.tmod (IntKind.wrap IntKind.i64 (md + turnI (↑(UInt8.toNat (List.getD t (Int.toNat (↑a : Int)) (0 : UInt8))) : Int))) (4 : Int)) (1 : Int))), V.str (Wo.n (goW { w := Wo.w (setW { w := mw, h := mh, r := mr, n := mn, x := mx, y := my, d := md } mx my (Int.tmod (IntKind.wrap IntKind.i64 (md + turnI (↑(UInt8.toNat (List.getD t (Int.toNat (↑a : Int)) (0 : UInt8))) : Int))) (4 : Int)) (Array.toList #[(48 : UInt8)])), h := Wo.h (setW { w := mw, h := mh, r := mr, n := mn, x := mx, y := my, d := md } mx my (Int.tmod (IntKind.wrap IntKind.i64 (md + turnI (↑(UInt8.toNat (List.getD t (Int.toNat (↑a : Int)) (0 : UInt8))) : Int))) (4 : Int)) (Array.toList #[(48 : UInt8)])), r := Wo.r (setW { w := mw, h := mh, r := mr, n := mn, x := mx, y := my, d := md } mx my (Int.tmod (IntKind.wrap IntKind.i64 (md + turnI (↑(UInt8.toNat (List.getD t (Int.toNat (↑a : Int)) (0 : UInt8))) : Int))) (4 : Int)) (Array.toList #[(48 : UInt8)])), n := Wo.n (setW { w := mw, h := mh, r := mr, n := mn, x := mx, y := my, d := md } mx my (Int.tmod (IntKind.wrap IntKind.i64 (md + turnI (↑(UInt8.toNat (List.getD t (Int.toNat (↑a : Int)) (0 : UInt8))) : Int))) (4 : Int)) (Array.toList #[(48 : UInt8)])), x := Wo.x (setW { w := mw, h := mh, r := mr, n := mn, x := mx, y := my, d := md } mx my (Int.tmod (IntKind.wrap IntKind.i64 (md + turnI (↑(UInt8.toNat (List.getD t (Int.toNat (↑a : Int)) (0 : UInt8))) : Int))) (4 : Int)) (Array.toList #[(48 : UInt8)])), y := Wo.y (setW { w := mw, h := mh, r := mr, n := mn, x := mx, y := my, d := md } mx my (Int.tmod (IntKind.wrap IntKind.i64 (md + turnI (↑(UInt8.toNat (List.getD t (Int.toNat (↑a : Int)) (0 : UInt8))) : Int))) (4 : Int)) (Array.toList #[(48 : UInt8)])), d := Int.tmod (IntKind.wrap IntKind.i64 (md + turnI (↑(UInt8.toNat (List.getD t (Int.toNat (↑a : Int)) (0 : UInt8))) : Int))) (4 : Int) } (Int.tmod (IntKind.wrap IntKind.i64 (md + turnI (↑(UInt8.toNat (List.getD t (Int.toNat (↑a : Int)) (0 : UInt8))) : Int))) (4 : Int)) (1 : Int))), V.int IntKind.i64 (Wo.x (goW { w := Wo.w (setW { w := mw, h := mh, r := mr, n := mn, x := mx, y := my, d := md } mx my (Int.tmod (IntKind.wrap IntKind.i64 (md + turnI (↑(UInt8.toNat (List.getD t (Int.toNat (↑a : Int)) (0 : UInt8))) : Int))) (4 : Int)) (Array.toList #[(48 : UInt8)])), h := Wo.h (setW { w := mw, h := mh, r := mr, n := mn, x := mx, y := my, d := md } mx my (Int.tmod (IntKind.wrap IntKind.i64 (md + turnI (↑(UInt8.toNat (List.getD t (Int.toNat (↑a : Int)) (0 : UInt8))) : Int))) (4 : Int)) (Array.toList #[(48 : UInt8)])), r := Wo.r (setW { w := mw, h := mh, r := mr, n := mn, x := mx, y := my, d := md } mx my (Int.tmod (IntKind.wrap IntKind.i64 (md + turnI (↑(UInt8.toNat (List.getD t (Int.toNat (↑a : Int)) (0 : UInt8))) : Int))) (4 : Int)) (Array.toList #[(48 : UInt8)])), n := Wo.n (setW { w := mw, h := mh, r := mr, n := mn, x := mx, y := my, d := md } mx my (Int.tmod (IntKind.wrap IntKind.i64 (md + turnI (↑(UInt8.toNat (List.getD t (Int.toNat (↑a : Int)) (0 : UInt8))) : Int))) (4 : Int)) (Array.toList #[(48 : UInt8)])), x := Wo.x (setW { w := mw, h := mh, r := mr, n := mn, x := mx, y := my, d := md } mx my (Int.tmod (IntKind.wrap IntKind.i64 (md + turnI (↑(UInt8.toNat (List.getD t (Int.toNat (↑a : Int)) (0 : UInt8))) : Int))) (4 : Int)) (Array.toList #[(48 : UInt8)])), y := Wo.y (setW { w := mw, h := mh, r := mr, n := mn, x := mx, y := my, d := md } mx my (Int.tmod (IntKind.wrap IntKind.i64 (md + turnI (↑(UInt8.toNat (List.getD t (Int.toNat (↑a : Int)) (0 : UInt8))) : Int))) (4 : Int)) (Array.toList #[(48 : UInt8)])), d := Int.tmod (IntKind.wrap IntKind.i64 (md + turnI (↑(UInt8.toNat (List.getD t (Int.toNat (↑a : Int)) (0 : UInt8))) : Int))) (4 : Int) } (Int.tmod (IntKind.wrap IntKind.i64 (md + turnI (↑(UInt8.toNat (List.getD t (Int.toNat (↑a : Int)) (0 : UInt8))) : Int))) (4 : Int)) (1 : Int))), V.int IntKind.i64 (Wo.y (goW { w := Wo.w (setW { w := mw, h := mh, r := mr, n := mn, x := mx, y := my, d := md } mx my (Int.tmod (IntKind.wrap IntKind.i64 (md + turnI (↑(UInt8.toNat (List.getD t (Int.toNat (↑a : Int)) (0 : UInt8))) : Int))) (4 : Int)) (Array.toList #[(48 : UInt8)])), h := Wo.h (setW { w := mw, h := mh, r := mr, n := mn, x := mx, y := my, d := md } mx my (Int.tmod (IntKind.wrap IntKind.i64 (md + turnI (↑(UInt8.toNat (List.getD t (Int.toNat (↑a : Int)) (0 : UInt8))) : Int))) (4 : Int)) (Array.toList #[(48 : UInt8)])), r := Wo.r (setW { w := mw, h := mh, r := mr, n := mn, x := mx, y := my, d := md } mx my (Int.tmod (IntKind.wrap IntKind.i64 (md + turnI (↑(UInt8.toNat (List.getD t (Int.toNat (↑a : Int)) (0 : UInt8))) : Int))) (4 : Int)) (Array.toList #[(48 : UInt8)])), n := Wo.n (setW { w := mw, h := mh, r := mr, n := mn, x := mx, y := my, d := md } mx my (Int.tmod (IntKind.wrap IntKind.i64 (md + turnI (↑(UInt8.toNat (List.getD t (Int.toNat (↑a : Int)) (0 : UInt8))) : Int))) (4 : Int)) (Array.toList #[(48 : UInt8)])), x := Wo.x (setW { w := mw, h := mh, r := mr, n := mn, x := mx, y := my, d := md } mx my (Int.tmod (IntKind.wrap IntKind.i64 (md + turnI (↑(UInt8.toNat (List.getD t (Int.toNat (↑a : Int)) (0 : UInt8))) : Int))) (4 : Int)) (Array.toList #[(48 : UInt8)])), y := Wo.y (setW { w := mw, h := mh, r := mr, n := mn, x := mx, y := my, d := md } mx my (Int.tmod (IntKind.wrap IntKind.i64 (md + turnI (↑(UInt8.toNat (List.getD t (Int.toNat (↑a : Int)) (0 : UInt8))) : Int))) (4 : Int)) (Array.toList #[(48 : UInt8)])), d := Int.tmod (IntKind.wrap IntKind.i64 (md + turnI (↑(UInt8.toNat (List.getD t (Int.toNat (↑a : Int)) (0 : UInt8))) : Int))) (4 : Int) } (Int.tmod (IntKind.wrap IntKind.i64 (md + turnI (↑(UInt8.toNat (List.getD t (Int.toNat (↑a : Int)) (0 : UInt8))) : Int))) (4 : Int)) (1 : Int))), V.int IntKind.i64 (Wo.d (goW { w := Wo.w (setW { w := mw, h := mh, r := mr, n := mn, x := mx, y := my, d := md } mx my (Int.tmod (IntKind.wrap IntKind.i64 (md + turnI (↑(UInt8.toNat (List.getD t (Int.toNat (↑a : Int)) (0 : UInt8))) : Int))) (4 : Int)) (Array.toList #[(48 : UInt8)])), h := Wo.h (setW { w := mw, h := mh, r := mr, n := mn, x := mx, y := my, d := md } mx my (Int.tmod (IntKind.wrap IntKind.i64 (md + turnI (↑(UInt8.toNat (List.getD t (Int.toNat (↑a : Int)) (0 : UInt8))) : Int))) (4 : Int)) (Array.toList #[(48 : UInt8)])), r := Wo.r (setW { w := mw, h := mh, r := mr, n := mn, x := mx, y := my, d := md } mx my (Int.tmod (IntKind.wrap IntKind.i64 (md + turnI (↑(UInt8.toNat (List.getD t (Int.toNat (↑a : Int)) (0 : UInt8))) : Int))) (4 : Int)) (Array.toList #[(48 : UInt8)])), n := Wo.n (setW { w := mw, h := mh, r := mr, n := mn, x := mx, y := my, d := md } mx my (Int.tmod (IntKind.wrap IntKind.i64 (md + turnI (↑(UInt8.toNat (List.getD t (Int.toNat (↑a : Int)) (0 : UInt8))) : Int))) (4 : Int)) (Array.toList #[(48 : UInt8)])), x := Wo.x (setW { w := mw, h := mh, r := mr, n := mn, x := mx, y := my, d := md } mx my (Int.tmod (IntKind.wrap IntKind.i64 (md + turnI (↑(UInt8.toNat (List.getD t (Int.toNat (↑a : Int)) (0 : UInt8))) : Int))) (4 : Int)) (Array.toList #[(48 : UInt8)])), y := Wo.y (setW { w := mw, h := mh, r := mr, n := mn, x := mx, y := my, d := md } mx my (Int.tmod (IntKind.wrap IntKind.i64 (md + turnI (↑(UInt8.toNat (List.getD t (Int.toNat (↑a : Int)) (0 : UInt8))) : Int))) (4 : Int)) (Array.toList #[(48 : UInt8)])), d := Int.tmod (IntKind.wrap IntKind.i64 (md + turnI (↑(UInt8.toNat (List.getD t (Int.toNat (↑a : Int)) (0 : UInt8))) : Int))) (4 : Int) } (Int.tmod (IntKind.wrap IntKind.i64 (md + turnI (↑(UInt8.toNat (List.getD t (Int.toNat (↑a : Int)) (0 : UInt8))) : Int))) (4 : Int)) (1 : Int)))], elem := e, kind := Kind.box }, 
  { cs := Cells.map [(V.gp (a + (1 : Nat)) (0 : Nat), V.str t)], elem := 9, kind := Kind.map }]) ∧ (hasW { w := mw, h := mh, r := mr, n := mn, x := mx, y := my, d := md } mx my 
  (Int.tmod (IntKind.wrap IntKind.i64 (md + turnI (↑(UInt8.toNat (List.getD t (Int.toNat (↑a : Int)) (0 : UInt8))) : Int))) (4 : Int)) = false → (True ∧ (((0 : Nat) = (0 : Nat) ∧ (0 : 
  Nat) = (0 : Nat)) ∧ t = t ∧ ((1 : Nat) = (1 : Nat) ∧ (0 : Nat) = (0 : Nat)) ∧ True) ∧ ((Bool.rec False True (Nat.beq e e && decide (Kind.box = Kind.box)) ∧ (True ∧ mw = mw) ∧ (True 
  ∧ mh = mh) ∧ mr = mr ∧ mn = mn ∧ (True ∧ mx = mx) ∧ (True ∧ my = my) ∧ (True ∧ md = md) ∧ True) ∧ (True ∧ [(V.gp (a + (1 : Nat)) (0 : Nat), V.str t)] = [(V.gp (a + (1 : Nat)) (0 : Nat), 
  V.str t)]) ∧ True) ∧ True) ∧ At (etInv { w := mw, h := mh, r := mr, n := mn, x := mx, y := my, d := md } t (a + (1 : Nat)) ∧ List.length t - (a + (1 : Nat)) < List.length t - a))) ∧ 
  (¬a < List.length t → K (V.str (Array.toList #[])) [{ cs := Cells.vals [V.int IntKind.i64 mw, V.int IntKind.i64 mh, V.str mr, V.str mn, V.int IntKind.i64 mx, V.int IntKind.i64 my, V.int IntKind.i64 md], elem := e, kind := Kind.box }, 
  { cs := Cells.map [(V.gp a (0 : Nat), V.str t)], elem := 9, kind := Kind.map }])

def VC_spec_wmAsked (mw : Int) (mh : Int) (mr : List UInt8) (mn : List UInt8) (mx : Int) (my : Int) (md : Int) (t : List UInt8) (K : V → Prop) : Prop :=
  At True ∧
  (womB { w := mw, h := mh, r := mr, n := mn, x := mx, y := my, d := md } = true → At True ∧ K (V.bool (tasB t))) ∧
    (womB { w := mw, h := mh, r := mr, n := mn, x := mx, y := my, d := md } = false → K (V.lit false))

def VC_spec_LinesAt (mw : Int) (mh : Int) (mr : List UInt8) (mn : List UInt8) (mx : Int) (my : Int) (md : Int) (x : Int) (y : Int) (K : V → Prop) : Prop :=
  At True ∧
  ((!womB { w := mw, h := mh, r := mr, n := mn, x := mx, y := my, d := md }) = true →
      K (V.tup [V.int IntKind.i64 (0 : Int), V.lit false])) ∧
    ((!womB { w := mw, h := mh, r := mr, n := mn, x := mx, y := my, d := md }) = false →
      At True ∧
        ((!inB x (0 : Int) (IntKind.wrap IntKind.i64 (mw - (1 : Int)))) = true →
            K (V.tup [V.int IntKind.i64 (0 : Int), V.lit false])) ∧
          ((!inB x (0 : Int) (IntKind.wrap IntKind.i64 (mw - (1 : Int)))) = false →
            At True ∧
              ((!inB y (0 : Int) (IntKind.wrap IntKind.i64 (mh - (1 : Int)))) = true →
                  K (V.tup [V.int IntKind.i64 (0 : Int), V.lit false])) ∧
                ((!inB y (0 : Int) (IntKind.wrap IntKind.i64 (mh - (1 : Int)))) = false →
                  At
                      (womB { w := mw, h := mh, r := mr, n := mn, x := mx, y := my, d := md } = true ∧
                        inB x (0 : Int) (mw - (1 : Int)) = true ∧ inB y (0 : Int) (mh - (1 : Int)) = true) ∧
                    K
                      (V.tup
                        [V.int IntKind.i64
                            (cntW { w := mw, h := mh, r := mr, n := mn, x := mx, y := my, d := md } x y (4 : Nat)),
                          V.lit true]))))

def VC_impl_LinesAt (mw : Int) (mh : Int) (mr : List UInt8) (mn : List UInt8) (mx : Int) (my : Int) (md : Int) (x : Int) (y : Int) (K : V → Prop) : Prop :=
  At True ∧
  ((!womB { w := mw, h := mh, r := mr, n := mn, x := mx, y := my, d := md }) = true →
      K (V.tup [V.int IntKind.i64 (0 : Int), V.lit false])) ∧
    ((!womB { w := mw, h := mh, r := mr, n := mn, x := mx, y := my, d := md }) = false →
      At (inB mw (3 : Int) (6 : Int) = true ∧ inB mh (3 : Int) (6 : Int) = true) ∧
        ((!(inB x (0 : Int) (mw - (1 : Int)) && inB y (0 : Int) (mh - (1 : Int)))) = true →
            K (V.tup [V.int IntKind.i64 (0 : Int), V.lit false])) ∧
          ((!(inB x (0 : Int) (mw - (1 : Int)) && inB y (0 : Int) (mh - (1 : Int)))) = false →
            True ∧
              At (womB { w := mw, h := mh, r := mr, n := mn, x := mx, y := my, d := md } = true) ∧
                At
                    (crB (crOf { w := mw, h := mh, r := mr, n := mn, x := mx, y := my, d := md }) = true ∧
                      (0 : Int) ≤ IntKind.wrap IntKind.i64 (IntKind.wrap IntKind.i64 (y * mw) + x) ∧
                        IntKind.wrap IntKind.i64 (IntKind.wrap IntKind.i64 (y * mw) + x) <
                          Cr.w (crOf { w := mw, h := mh, r := mr, n := mn, x := mx, y := my, d := md }) *
                            Cr.h (crOf { w := mw, h := mh, r := mr, n := mn, x := mx, y := my, d := md })) ∧
                  K
                    (V.tup
                      [V.int IntKind.i64
                          (cntA (crOf { w := mw, h := mh, r := mr, n := mn, x := mx, y := my, d := md })
                            (IntKind.wrap IntKind.i64 (IntKind.wrap IntKind.i64 (y * mw) + x)) (4 : Nat)),
                        V.lit true])))

def VC_spec_EatLine (mw : Int) (mh : Int) (mr : List UInt8) (mn : List UInt8) (mx : Int) (my : Int) (md : Int) (t : List UInt8) (K : V → Prop) : Prop :=
  At True ∧
  ((!(womB { w := mw, h := mh, r := mr, n := mn, x := mx, y := my, d := md } && tasB t)) = true →
      K
        (V.tup
          [V.agg
              [V.int IntKind.i64 (0 : Int), V.int IntKind.i64 (0 : Int), V.str (Array.toList #[]),
                V.str (Array.toList #[]), V.int IntKind.i64 (0 : Int), V.int IntKind.i64 (0 : Int),
                V.int IntKind.i64 (0 : Int)],
            V.lit false])) ∧
    ((!(womB { w := mw, h := mh, r := mr, n := mn, x := mx, y := my, d := md } && tasB t)) = false →
      At (womB { w := mw, h := mh, r := mr, n := mn, x := mx, y := my, d := md } = true ∧ tasB t = true) ∧
        ((eatS { w := mw, h := mh, r := mr, n := mn, x := mx, y := my, d := md } t == Array.toList #[]) = true →
            K
              (V.tup
                [V.agg
                    [V.int IntKind.i64 (0 : Int), V.int IntKind.i64 (0 : Int), V.str (Array.toList #[]),
                      V.str (Array.toList #[]), V.int IntKind.i64 (0 : Int), V.int IntKind.i64 (0 : Int),
                      V.int IntKind.i64 (0 : Int)],
                  V.lit false])) ∧
          ((eatS { w := mw, h := mh, r := mr, n := mn, x := mx, y := my, d := md } t == Array.toList #[]) = false →
            K
              (V.tup
                [V.agg
                    [V.int IntKind.i64
                        (Wo.w (nxtW t { w := mw, h := mh, r := mr, n := mn, x := mx, y := my, d := md })),
                      V.int IntKind.i64
                        (Wo.h (nxtW t { w := mw, h := mh, r := mr, n := mn, x := mx, y := my, d := md })),
                      V.str (Wo.r (nxtW t { w := mw, h := mh, r := mr, n := mn, x := mx, y := my, d := md })),
                      V.str (Wo.n (nxtW t { w := mw, h := mh, r := mr, n := mn, x := mx, y := my, d := md })),
                      V.int IntKind.i64
                        (Wo.x (nxtW t { w := mw, h := mh, r := mr, n := mn, x := mx, y := my, d := md })),
                      V.int IntKind.i64
                        (Wo.y (nxtW t { w := mw, h := mh, r := mr, n := mn, x := mx, y := my, d := md })),
                      V.int IntKind.i64
                        (Wo.d (nxtW t { w := mw, h := mh, r := mr, n := mn, x := mx, y := my, d := md }))],
                  V.lit true])))

def VC_spec_WormAfter (mw : Int) (mh : Int) (mr : List UInt8) (mn : List UInt8) (mx : Int) (my : Int) (md : Int) (t : List UInt8) (k : Int) (K : V → Prop) : Prop :=
  At True ∧
  ((!(womB { w := mw, h := mh, r := mr, n := mn, x := mx, y := my, d := md } && tasB t)) = true →
      K
        (V.tup
          [V.agg
              [V.int IntKind.i64 (0 : Int), V.int IntKind.i64 (0 : Int), V.str (Array.toList #[]),
                V.str (Array.toList #[]), V.int IntKind.i64 (0 : Int), V.int IntKind.i64 (0 : Int),
                V.int IntKind.i64 (0 : Int)],
            V.lit false])) ∧
    ((!(womB { w := mw, h := mh, r := mr, n := mn, x := mx, y := my, d := md } && tasB t)) = false →
      At True ∧
        ((!inB k (0 : Int) (100 : Int)) = true →
            K
              (V.tup
                [V.agg
                    [V.int IntKind.i64 (0 : Int), V.int IntKind.i64 (0 : Int), V.str (Array.toList #[]),
                      V.str (Array.toList #[]), V.int IntKind.i64 (0 : Int), V.int IntKind.i64 (0 : Int),
                      V.int IntKind.i64 (0 : Int)],
                  V.lit false])) ∧
          ((!inB k (0 : Int) (100 : Int)) = false →
            (True ∧
                (t = t ∧
                    (True ∧ k = k) ∧
                      ((0 : Nat) = (0 : Nat) ∧ (0 : Nat) = (0 : Nat)) ∧
                        ((1 : Nat) = (1 : Nat) ∧ (0 : Nat) = (0 : Nat)) ∧ True) ∧
                  ((True ∧
                        (True ∧
                            mw =
                              Wo.w
                                (iterW t (Int.toNat (k - k))
                                  { w := mw, h := mh, r := mr, n := mn, x := mx, y := my, d := md })) ∧
                          (True ∧
                              mh =
                                Wo.h
                                  (iterW t (Int.toNat (k - k))
                                    { w := mw, h := mh, r := mr, n := mn, x := mx, y := my, d := md })) ∧
                            mr =
                                Wo.r
                                  (iterW t (Int.toNat (k - k))
                                    { w := mw, h := mh, r := mr, n := mn, x := mx, y := my, d := md }) ∧
                              mn =
                                  Wo.n
                                    (iterW t (Int.toNat (k - k))
                                      { w := mw, h := mh, r := mr, n := mn, x := mx, y := my, d := md }) ∧
                                (True ∧
                                    mx =
                                      Wo.x
                                        (iterW t (Int.toNat (k - k))
                                          { w := mw, h := mh, r := mr, n := mn, x := mx, y := my, d := md })) ∧
                                  (True ∧
                                      my =
                                        Wo.y
                                          (iterW t (Int.toNat (k - k))
                                            { w := mw, h := mh, r := mr, n := mn, x := mx, y := my, d := md })) ∧
                                    (True ∧
                                        md =
                                          Wo.d
                                            (iterW t (Int.toNat (k - k))
                                              { w := mw, h := mh, r := mr, n := mn, x := mx, y := my, d := md })) ∧
                                      True) ∧
                      (True ∧
                          (True ∧ (0 : Int) = (0 : Int)) ∧
                            (True ∧ (0 : Int) = (0 : Int)) ∧
                              nilB = nilB ∧
                                nilB = nilB ∧
                                  (True ∧ (0 : Int) = (0 : Int)) ∧
                                    (True ∧ (0 : Int) = (0 : Int)) ∧ (True ∧ (0 : Int) = (0 : Int)) ∧ True) ∧
                        True) ∧
                    True) ∧
              At (waInv { w := mw, h := mh, r := mr, n := mn, x := mx, y := my, d := md } t k k) ∧
                ∀ (a : Int),
                  waInv { w := mw, h := mh, r := mr, n := mn, x := mx, y := my, d := md } t k a →
                    (decide (a > (0 : Int)) = true →
                        At
                            (womB
                                  (iterW t (Int.toNat (k - a))
                                    { w := mw, h := mh, r := mr, n := mn, x := mx, y := my, d := md }) =
                                true ∧
                              tasB t = true) ∧
                          ((eatS
                                    (iterW t (Int.toNat (k - a))
                                      { w := mw, h := mh, r := mr, n := mn, x := mx, y := my, d := md })
                                    t ==
                                  Array.toList #[]) =
                                true →
                              K
                                (V.tup
                                  [V.agg
                                      [V.int IntKind.i64 (0 : Int), V.int IntKind.i64 (0 : Int),
                                        V.str (Array.toList #[]), V.str (Array.toList #[]), V.int IntKind.i64 (0 : Int),
                                        V.int IntKind.i64 (0 : Int), V.int IntKind.i64 (0 : Int)],
                                    V.lit false])) ∧
                            ((eatS
                                    (iterW t (Int.toNat (k - a))
                                      { w := mw, h := mh, r := mr, n := mn, x := mx, y := my, d := md })
                                    t ==
                                  Array.toList #[]) =
                                false →
                              (True ∧
                                  (t = t ∧
                                      (True ∧
                                          IntKind.wrap IntKind.i64 (a - (1 : Int)) =
                                            IntKind.wrap IntKind.i64 (a - (1 : Int))) ∧
                                        ((0 : Nat) = (0 : Nat) ∧ (0 : Nat) = (0 : Nat)) ∧
                                          ((1 : Nat) = (1 : Nat) ∧ (0 : Nat) = (0 : Nat)) ∧ True) ∧
                                    ((True ∧
                                          (True ∧
                                              Wo.w
                                                  (nxtW t
                                                    (iterW t (Int.toNat (k - a))
                                                      { w := mw, h := mh, r := mr, n := mn, x := mx, y := my,
                                                        d := md })) =
                                                Wo.w
                                                  (iterW t (Int.toNat (k - IntKind.wrap IntKind.i64 (a - (1 : Int))))
                                                    { w := mw, h := mh, r := mr, n := mn, x := mx, y := my,
                                                      d := md })) ∧
                                            (True ∧
                                                Wo.h
                                                    (nxtW t
                                                      (iterW t (Int.toNat (k - a))
                                                        { w := mw, h := mh, r := mr, n := mn, x := mx, y := my,
                                                          d := md })) =
                                                  Wo.h
                                                    (iterW t (Int.toNat (k - IntKind.wrap IntKind.i64 (a - (1 : Int))))
                                                      { w := mw, h := mh, r := mr, n := mn, x := mx, y := my,
                                                        d := md })) ∧
                                              Wo.r
                                                    (nxtW t
                                                      (iterW t (Int.toNat (k - a))
                                                        { w := mw, h := mh, r := mr, n := mn, x := mx, y := my,
                                                          d := md })) =
                                                  Wo.r
                                                    (iterW t (Int.toNat (k - IntKind.wrap IntKind.i64 (a - (1 : Int))))
                                                      { w := mw, h := mh, r := mr, n := mn, x := mx, y := my,
                                                        d := md }) ∧
                                                Wo.n
                                                      (nxtW t
                                                        (iterW t (Int.toNat (k - a))
                                                          { w := mw, h := mh, r := mr, n := mn, x := mx, y := my,
                                                            d := md })) =
                                                    Wo.n
                                                      (iterW t
                                                        (Int.toNat (k - IntKind.wrap IntKind.i64 (a - (1 : Int))))
                                                        { w := mw, h := mh, r := mr, n := mn, x := mx, y := my,
                                                          d := md }) ∧
                                                  (True ∧
                                                      Wo.x
                                                          (nxtW t
                                                            (iterW t (Int.toNat (k - a))
                                                              { w := mw, h := mh, r := mr, n := mn, x := mx, y := my,
                                                                d := md })) =
                                                        Wo.x
                                                          (iterW t
                                                            (Int.toNat (k - IntKind.wrap IntKind.i64 (a - (1 : Int))))
                                                            { w := mw, h := mh, r := mr, n := mn, x := mx, y := my,
                                                              d := md })) ∧
                                                    (True ∧
                                                        Wo.y
                                                            (nxtW t
                                                              (iterW t (Int.toNat (k - a))
                                                                { w := mw, h := mh, r := mr, n := mn, x := mx, y := my,
                                                                  d := md })) =
                                                          Wo.y
                                                            (iterW t
                                                              (Int.toNat (k - IntKind.wrap IntKind.i64 (a - (1 : Int))))
                                                              { w := mw, h := mh, r := mr, n := mn, x := mx, y := my,
                                                                d := md })) ∧
                                                      (True ∧
                                                          Wo.d
                                                              (nxtW t
                                                                (iterW t (Int.toNat (k - a))
                                                                  { w := mw, h := mh, r := mr, n := mn, x := mx,
                                                                    y := my, d := md })) =
                                                            Wo.d
                                                              (iterW t
                                                                (Int.toNat
                                                                  (k - IntKind.wrap IntKind.i64 (a - (1 : Int))))
                                                                { w := mw, h := mh, r := mr, n := mn, x := mx, y := my,
                                                                  d := md })) ∧
                                                        True) ∧
                                        (True ∧
                                            (True ∧ (0 : Int) = (0 : Int)) ∧
                                              (True ∧ (0 : Int) = (0 : Int)) ∧
                                                nilB = nilB ∧
                                                  nilB = nilB ∧
                                                    (True ∧ (0 : Int) = (0 : Int)) ∧
                                                      (True ∧ (0 : Int) = (0 : Int)) ∧
                                                        (True ∧ (0 : Int) = (0 : Int)) ∧ True) ∧
                                          True) ∧
                                      True) ∧
                                At
                                  (waInv { w := mw, h := mh, r := mr, n := mn, x := mx, y := my, d := md } t k
                                      (IntKind.wrap IntKind.i64 (a - (1 : Int))) ∧
                                    Int.toNat (IntKind.wrap IntKind.i64 (a - (1 : Int))) < Int.toNat a))) ∧
                      (decide (a > (0 : Int)) = false →
                        K
                          (V.tup
                            [V.agg
                                [V.int IntKind.i64
                                    (Wo.w
                                      (iterW t (Int.toNat (k - a))
                                        { w := mw, h := mh, r := mr, n := mn, x := mx, y := my, d := md })),
                                  V.int IntKind.i64
                                    (Wo.h
                                      (iterW t (Int.toNat (k - a))
                                        { w := mw, h := mh, r := mr, n := mn, x := mx, y := my, d := md })),
                                  V.str
                                    (Wo.r
                                      (iterW t (Int.toNat (k - a))
                                        { w := mw, h := mh, r := mr, n := mn, x := mx, y := my, d := md })),
                                  V.str
                                    (Wo.n
                                      (iterW t (Int.toNat (k - a))
                                        { w := mw, h := mh, r := mr, n := mn, x := mx, y := my, d := md })),
                                  V.int IntKind.i64
                                    (Wo.x
                                      (iterW t (Int.toNat (k - a))
                                        { w := mw, h := mh, r := mr, n := mn, x := mx, y := my, d := md })),
                                  V.int IntKind.i64
                                    (Wo.y
                                      (iterW t (Int.toNat (k - a))
                                        { w := mw, h := mh, r := mr, n := mn, x := mx, y := my, d := md })),
                                  V.int IntKind.i64
                                    (Wo.d
                                      (iterW t (Int.toNat (k - a))
                                        { w := mw, h := mh, r := mr, n := mn, x := mx, y := my, d := md }))],
                              V.lit true]))))

def VC_impl_WormAfter (mw : Int) (mh : Int) (mr : List UInt8) (mn : List UInt8) (mx : Int) (my : Int) (md : Int) (t : List UInt8) (k : Int) (g0 : List UInt8) (g1 : List UInt8) (g2 : 
  List UInt8) (g3 : List UInt8) (g4 : List UInt8) (g5 : List UInt8) (K : V → List Blk → Prop) : Prop := At True ∧ ((!womB { w := mw, h := mh, r := mr, n := mn, x := mx, y := my, d := md }) 
  = true → K (V.tup [V.agg [V.int IntKind.i64 (0 : Int), V.int IntKind.i64 (0 : Int), V.str (Array.toList #[]), V.str (Array.toList #[]), V.int IntKind.i64 (0 : Int), V.int IntKind.i64 
  (0 : Int), V.int IntKind.i64 (0 : Int)], V.lit false]) [{ cs := Cells.vals [V.str g0, V.str g1, V.str g2, V.str g3, V.str g4, V.str g5], elem := 9, kind := Kind.gl 0 }, 
  { cs := Cells.vals [V.int IntKind.i64 mw, V.int IntKind.i64 mh, V.str mr, V.str mn, V.int IntKind.i64 mx, V.int IntKind.i64 my, V.int IntKind.i64 md], elem := 28, kind := Kind.box }, 
  { cs := Cells.vals [V.int IntKind.i64 (0 : Int), V.int IntKind.i64 (0 : Int), V.str (Array.toList #[]), V.str (Array.toList #[]), V.int IntKind.i64 (0 : Int), V.int IntKind.i64 (0 : Int), V.int IntKind.i64 (0 : Int)], elem := 28, kind := Kind.box }]) 
  ∧ ((!womB { w := mw, h := mh, r := mr, n := mn, x := mx, y := my, d := md }) = false → At (isTs g0 g1 g2 g3 g4 g5) ∧ ((!tasB t) = true → K (V.tup [V.agg [V.int IntKind.i64 (0 : Int), 
  V.int IntKind.i64 (0 : Int), V.str (Array.toList #[]), V.str (Array.toList #[]), V.int IntKind.i64 (0 : Int), V.int IntKind.i64 (0 : Int), V.int IntKind.i64 (0 : Int)], V.lit false]) 
  [{ cs := Cells.vals [V.str g0, V.str g1, V.str g2, V.str g3, V.str g4, V.str g5], elem := 9, kind := Kind.gl 0 }, { cs := Cells.vals [V.int IntKind.i64 mw, V.int IntKind.i64 mh, V.str mr, V.str mn, V.int IntKind.i64 mx, V.int IntKind.i64 my, V.int IntKind.i64 md], elem := 28, kind := Kind.box }, 
  { cs := Cells.vals [V.int IntKind.i64 (0 : Int), V.int IntKind.i64 (0 : Int), V.str (Array.toList #[]), V.str (Array.toList #[]), V.int IntKind.i64 (0 : Int), V.int IntKind.i64 (0 : Int), V.int IntKind.i64 (0 : Int)], elem := 28, kind := Kind.box }]) 
  ∧ ((!tasB t) = false → At True ∧ ((!inB k (0 : Int) (100 : Int)) = true → K (V.tup [V.agg [V.int IntKind.i64 (0 : Int), V.int IntKind.i64 (0 : Int), V.str (Array.toList #[]), V.str 
  (Array.toList #[]), V.int IntKind.i64 (0 : Int), V.int IntKind.i64 (0 : Int), V.int IntKind.i64 (0 : Int)], V.lit false]) [{ cs := Cells.vals [V.str g0, V.str g1, V.str g2, V.str g3, V.str g4, V.str g5], elem := 9, kind := Kind.gl 0 }, 
  { cs := Cells.vals [V.int IntKind.i64 mw, V.int IntKind.i64 mh, V.str mr, V.str mn, V.int IntKind.i64 mx, V.int IntKind.i64 my, V.int IntKind.i64 md], elem := 28, kind := Kind.box }, 
  { cs := Cells.vals [V.int IntKind.i64 (0 : Int), V.int IntKind.i64 (0 : Int), V.str (Array.toList #[]), V.str (Array.toList #[]), V.int IntKind.i64 (0 : Int), V.int IntKind.i64 (0 : Int), V.int IntKind.i64 (0 : Int)], elem := 28, kind := Kind.box }]) 
  ∧ ((!inB k (0 : Int) (100 : Int)) = false → At (womB { w := mw, h := mh, r := mr, n := mn, x := mx, y := my, d := md } = true) ∧ (True ∧ (t = t ∧ ((1 : Nat) = (1 : Nat) ∧ (0 : Nat) 
  = (0 : Nat)) ∧ ((2 : Nat) = (2 : Nat) ∧ (0 : Nat) = (0 : Nat)) ∧ (True ∧ k = k) ∧ (True ∧ (0 : Int) = (0 : Int)) ∧ True) ∧ ((True ∧ g0 = g0 ∧ g1 = g1 ∧ g2 = g2 ∧ g3 = g3 ∧ g4 = g4 ∧ 
  g5 = g5 ∧ True) ∧ (True ∧ (True ∧ (0 : Int) = (0 : Int)) ∧ (True ∧ (0 : Int) = (0 : Int)) ∧ nilB = nilB ∧ nilB = nilB ∧ (True ∧ (0 : Int) = (0 : Int)) ∧ (True ∧ (0 : Int) = (0 : Int)) 
  ∧ (True ∧ (0 : Int) = (0 : Int)) ∧ True) ∧ (True ∧ Cr.r (crOf { w := mw, h := mh, r := mr, n := mn, x := mx, y := my, d := md }) = Cr.r (crOf (iterW t (Int.toNat (0 : Int)) { w := mw, h := mh, r := mr, n := mn, x := mx, y := my, d := md })) 
  ∧ (True ∧ Cr.w (crOf { w := mw, h := mh, r := mr, n := mn, x := mx, y := my, d := md }) = Cr.w (crOf (iterW t (Int.toNat (0 : Int)) { w := mw, h := mh, r := mr, n := mn, x := mx, y := my, d := md }))) 
  ∧ (True ∧ Cr.h (crOf { w := mw, h := mh, r := mr, n := mn, x := mx, y := my, d := md }) = Cr.h (crOf (iterW t (Int.toNat (0 : Int)) { w := mw, h := mh, r := mr, n := mn, x := mx, y := my, d := md }))) 
  ∧ Cr.c (crOf { w := mw, h := mh, r := mr, n := mn, x := mx, y := my, d := md }) = Cr.c (crOf (iterW t (Int.toNat (0 : Int)) { w := mw, h := mh, r := mr, n := mn, x := mx, y := my, d := md })) 
  ∧ (True ∧ Cr.x (crOf { w := mw, h := mh, r := mr, n := mn, x := mx, y := my, d := md }) = Cr.x (crOf (iterW t (Int.toNat (0 : Int)) { w := mw, h := mh, r := mr, n := mn, x := mx, y := my, d := md }))) 
  ∧ (True ∧ Cr.y (crOf { w := mw, h := mh, r := mr, n := mn, x := mx, y := my, d := md }) = Cr.y (crOf (iterW t (Int.toNat (0 : Int)) { w := mw, h := mh, r := mr, n := mn, x := mx, y := my, d := md }))) 
  ∧ (True ∧ Cr.d (crOf { w := mw, h := mh, r := mr, n := mn, x := mx, y := my, d := md }) = Cr.d (crOf (iterW t (Int.toNat (0 : Int)) { w := mw, h := mh, r := mr, n := mn, x := mx, y := my, d := md }))) 
  ∧ Cr.l (crOf { w := mw, h := mh, r := mr, n := mn, x := mx, y := my, d := md }) = Cr.l (crOf (iterW t (Int.toNat (0 : Int)) { w := mw, h := mh, r := mr, n := mn, x := mx, y := my, d := md })) 
  ∧ True) ∧ True) ∧ True) ∧ At (wiInv { w := mw, h := mh, r := mr, n := mn, x := mx, y := my, d := md } t k (0 : Int)) ∧ ∀ (a : Int), wiInv { w := mw, h := mh, r := mr, n := mn, x := mx, y := my, d := md } 
  t k a → (decide (a < k) = true → At (crB (crOf (iterW t (Int.toNat a) { w := mw, h := mh, r := mr, n := mn, x := mx, y := my, d := md })) = true ∧ tasB t = true) ∧ ((!goB (crOf (iterW 
  t (Int.toNat a) { w := mw, h := mh, r := mr, n := mn, x := mx, y := my, d := md })) t) = true → K (V.tup [V.agg [V.int IntKind.i64 (0 : Int), V.int IntKind.i64 (0 : Int), V.str (Array.toList 
  #[]), V.str (Array.toList #[]), V.int IntKind.i64 (0 : Int), V.int IntKind.i64 (0 : Int), V.int IntKind.i64 (0 : Int)], V.lit false]) [{ cs := Cells.vals [V.str g0, V.str g1, V.str g2, V.str g3, V.str g4, V.str g5], elem := 9, kind := Kind.gl 0 }, 
  { cs := Cells.vals [V.int IntKind.i64 (0 : Int), V.int IntKind.i64 (0 : Int), V.str (Array.toList #[]), V.str (Array.toList #[]), V.int IntKind.i64 (0 : Int), V.int IntKind.i64 (0 : Int), V.int IntKind.i64 (0 : Int)], elem := 28, kind := Kind.box }, 
  { cs := Cells.vals [V.str (Cr.r (crOf (iterW t (Int.toNat a) { w := mw, h := mh, r := mr, n := mn, x := mx, y := my, d := md }))), V.int IntKind.i64 (Cr.w (crOf (iterW t (Int.toNat a) { w := mw, h := mh, r := mr, n := mn, x := mx, y := my, d := md }))), V.int IntKind.i64 (Cr.h (crOf (iterW t (Int.toNat a) { w := mw, h := mh, r := mr, n := mn, x := mx, y := my, d := md }))), V.str (Cr.c (crOf (iterW t (Int.toNat a) { w := mw, h := mh, r := mr, n := mn, x := mx, y := my, d := md }))), V.int IntKind.i64 (Cr.x (crOf (iterW t (Int.toNat a) { w := mw, h := mh, r := mr, n := mn, x := mx, y := my, d := md }))), V.int IntKind.i64 (Cr.y (crOf (iterW t (Int.toNat a) { w := mw, h := mh, r := mr, n := mn, x := mx, y := my, d := md }))), V.int IntKind.i64 (Cr.d (crOf (iterW t (Int.toNat a) { w := mw, h := mh, r := mr, n := mn, x := mx, y := my, d := md }))), V.str (Cr.l (crOf (iterW t (Int.toNat a) { w := mw, h := mh, r := mr, n := mn, x := mx, y := my, d := md })))], elem := 61, kind := Kind.box }, 
  { cs := Cells.vals [V.str (Cr.r (goR (crOf (iterW t (Int.toNat a) { w := mw, h := mh, r := mr, n := mn, x := mx, y := my, d := md })) t)), V.int IntKind.i64 (Cr.w (goR (crOf (iterW t (Int.toNat a) { w := mw, h := mh, r := mr, n := mn, x := mx, y := my, d := md })) t)), V.int IntKind.i64 (Cr.h (goR (crOf (iterW t (Int.toNat a) { w := mw, h := mh, r := mr, n := mn, x := mx, y := my, d := md })) t)), V.str (Cr.c (goR (crOf (iterW t (Int.toNat a) { w := mw, h := mh, r := mr, n := mn, x := mx, y := my, d := md })) t)), V.int IntKind.i64 (Cr.x (goR (crOf (iterW t (Int.toNat a) { w := mw, h := mh, r := mr, n := mn, x := mx, y := my, d := md })) t)), V.int IntKind.i64 (Cr.y (goR (crOf (iterW t (Int.toNat a) { w := mw, h := mh, r := mr, n := mn, x := mx, y := my, d := md })) t)), V.int IntKind.i64 (Cr.d (goR (crOf (iterW t (Int.toNat a) { w := mw, h := mh, r := mr, n := mn, x := mx, y := my, d := md })) t)), V.str (Cr.l (goR (crOf (iterW t (Int.toNat a) { w := mw, h := mh, r := mr, n := mn, x := mx, y := my, d := md })) t))], elem := 61, kind := Kind.box }]) 
  ∧ ((!goB (crOf (iterW t (Int.toNat a) { w := mw, h := mh, r := mr, n := mn, x := mx, y := my, d := md })) t) = false → (True ∧ (t = t ∧ ((1 : Nat) = (1 : Nat) ∧ (0 : Nat) = (0 : Nat)) 
  ∧ ((2 : Nat) = (2 : Nat) ∧ (0 : Nat) = (0 : Nat)) ∧ (True ∧ k = k) ∧ (True ∧ IntKind.wrap IntKind.i64 (a + (1 : Int)) = IntKind.wrap IntKind.i64 (a + (1 : Int))) ∧ True) ∧ ((True ∧ 
  g0 = g0 ∧ g1 = g1 ∧ g2 = g2 ∧ g3 = g3 ∧ g4 = g4 ∧ g5 = g5 ∧ True) ∧ (True ∧ (True ∧ (0 : Int) = (0 : Int)) ∧ (True ∧ (0 : Int) = (0 : Int)) ∧ nilB = nilB ∧ nilB = nilB ∧ (True ∧ (0 
  : Int) = (0 : Int)) ∧ (True ∧ (0 : Int) = (0 : Int)) ∧ (True ∧ (0 : Int) = (0 : Int)) ∧ True) ∧ (True ∧ Cr.r (goR (crOf (iterW t (Int.toNat a) { w := mw, h := mh, r := mr, n := mn, x := mx, y := my, d := md })) 
  t) = Cr.r (crOf (iterW t (Int.toNat (IntKind.wrap IntKind.i64 (a + (1 : Int)))) { w := mw, h := mh, r := mr, n := mn, x := mx, y := my, d := md })) ∧ (True ∧ Cr.w (goR (crOf (iterW 
  t (Int.toNat a) { w := mw, h := mh, r := mr, n := mn, x := mx, y := my, d := md })) t) = Cr.w (crOf (iterW t (Int.toNat (IntKind.wrap IntKind.i64 (a + (1 : Int)))) { w := mw, h := mh, r := mr, n := mn, x := mx, y := my, d := md }))) 
  ∧ (True ∧ Cr.h (goR (crOf (iterW t (Int.toNat a) { w := mw, h := mh, r := mr, n := mn, x := mx, y := my, d := md })) t) = Cr.h (crOf (iterW t (Int.toNat (IntKind.wrap IntKind.i64 (a 
  + (1 : Int)))) { w := mw, h := mh, r := mr, n := mn, x := mx, y := my, d := md }))) ∧ Cr.c (goR (crOf (iterW t (Int.toNat a) { w := mw, h := mh, r := mr, n := mn, x := mx, y := my, d := md })) 
  t) = Cr.c (crOf (iterW t (Int.toNat (IntKind.wrap IntKind.i64 (a + (1 : Int)))) { w := mw, h := mh, r := mr, n := mn, x := mx, y := my, d := md })) ∧ (True ∧ Cr.x (goR (crOf (iterW 
  t (Int.toNat a) { w := mw, h := mh, r := mr, n := mn, x := mx, y := my, d := md })) t) = Cr.x (crOf (iterW t (Int.toNat (IntKind.wrap IntKind.i64 (a + (1 : Int)))) { w := mw, h := mh, r := mr, n := mn, x := mx, y := my, d := md }))) 
  ∧ (True ∧ Cr.y (goR (crOf (iterW t (Int.toNat a) { w := mw, h := mh, r := mr, n := mn, x := mx, y := my, d := md })) t) = Cr.y (crOf (iterW t (Int.toNat (IntKind.wrap IntKind.i64 (a 
  + (1 : Int)))) { w := mw, h := mh, r := mr, n := mn, x := mx, y := my, d := md }))) ∧ (True ∧ Cr.d (goR (crOf (iterW t (Int.toNat a) { w := mw, h := mh, r := mr, n := mn, x := mx, y := my, d := md })) 
  t) = Cr.d (crOf (iterW t (Int.toNat (IntKind.wrap IntKind.i64 (a + (1 : Int)))) { w := mw, h := mh, r := mr, n := mn, x := mx, y := my, d := md }))) ∧ Cr.l (goR (crOf (iterW t (Int.toNat 
  a) { w := mw, h := mh, r := mr, n := mn, x := mx, y := my, d := md })) t) = Cr.l (crOf (iterW t (Int.toNat (IntKind.wrap IntKind.i64 (a + (1 : Int)))) { w := mw, h := mh, r := mr, n := mn, x := mx, y := my, d := md })) 
  ∧ True) ∧ True) ∧ True) ∧ At (wiInv { w := mw, h := mh, r := mr, n := mn, x := mx, y := my, d := md } t k (IntKind.wrap IntKind.i64 (a + (1 : Int))) ∧ Int.toNat (k - IntKind.wrap IntKind.i64 
  (a + (1 : Int))) < Int.toNat (k - a)))) ∧ (decide (a < k) = false → At (crB (crOf (iterW t (Int.toNat a) { w := mw, h := mh, r := mr, n := mn, x := mx, y := my, d := md })) = true) 
  ∧ K (V.tup [V.agg [V.int IntKind.i64 (Wo.w (wormC (crOf (iterW t (Int.toNat a) { w := mw, h := mh, r := mr, n := mn, x := mx, y := my, d := md })))), V.int IntKind.i64 (Wo.h (wormC 
  (crOf (iterW t (Int.toNat a) { w := mw, h := mh, r := mr, n := mn, x := mx, y := my, d := md })))), V.str (Wo.r (wormC (crOf (iterW t (Int.toNat a) { w := mw, h := mh, r := mr, n := mn, x := mx, y := my, d := md })))), 
  V.str (Wo.n (wormC (crOf (iterW t (Int.toNat a) { w := mw, h := mh, r := mr, n := mn, x := mx, y := my, d := md })))), V.int IntKind.i64 (Wo.x (wormC (crOf (iterW t (Int.toNat a) { w := mw, h := mh, r := mr, n := mn, x := mx, y := my, d := md })))), 
  V.int IntKind.i64 (Wo.y (wormC (crOf (iterW t (Int.toNat a) { w := mw, h := mh, r := mr, n := mn, x := mx, y := my, d := md })))), V.int IntKind.i64 (Wo.d (wormC (crOf (iterW t (Int.toNat 
  a) { w := mw, h := mh, r := mr, n := mn, x := mx, y := my, d := md }))))], V.lit true]) [{ cs := Cells.vals [V.str g0, V.str g1, V.str g2, V.str g3, V.str g4, V.str g5], elem := 9, kind := Kind.gl 0 }, 
  { cs := Cells.vals [V.int IntKind.i64 (Wo.w (wormC (crOf (iterW t (Int.toNat a) { w := mw, h := mh, r := mr, n := mn, x := mx, y := my, d := md })))), V.int IntKind.i64 (Wo.h (wormC (crOf (iterW t (Int.toNat a) { w := mw, h := mh, r := mr, n := mn, x := mx, y := my, d := md })))), V.str (Wo.r (wormC (crOf (iterW t (Int.toNat a) { w := mw, h := mh, r := mr, n := mn, x := mx, y := my, d := md })))), V.str (Wo.n (wormC (crOf (iterW t (Int.toNat a) { w := mw, h := mh, r := mr, n := mn, x := mx, y := my, d := md })))), V.int IntKind.i64 (Wo.x (wormC (crOf (iterW t (Int.toNat a) { w := mw, h := mh, r := mr, n := mn, x := mx, y := my, d := md })))), V.int IntKind.i64 (Wo.y (wormC (crOf (iterW t (Int.toNat a) { w := mw, h := mh, r := mr, n := mn, x := mx, y := my, d := md })))), V.int IntKind.i64 (Wo.d (wormC (crOf (iterW t (Int.toNat a) { w := mw, h := mh, r := mr, n := mn, x := mx, y := my, d := md }))))], elem := 28, kind := Kind.box }, 
  { cs := Cells.vals [V.str (Cr.r (crOf (iterW t (Int.toNat a) { w := mw, h := mh, r := mr, n := mn, x := mx, y := my, d := md }))), V.int IntKind.i64 (Cr.w (crOf (iterW t (Int.toNat a) { w := mw, h := mh, r := mr, n := mn, x := mx, y := my, d := md }))), V.int IntKind.i64 (Cr.h (crOf (iterW t (Int.toNat a) { w := mw, h := mh, r := mr, n := mn, x := mx, y := my, d := md }))), V.str (Cr.c (crOf (iterW t (Int.toNat a) { w := mw, h := mh, r := mr, n := mn, x := mx, y := my, d := md }))), V.int IntKind.i64 (Cr.x (crOf (iterW t (Int.toNat a) { w := mw, h := mh, r := mr, n := mn, x := mx, y := my, d := md }))), V.int IntKind.i64 (Cr.y (crOf (iterW t (Int.toNat a) { w := mw, h := mh, r := mr, n := mn, x := mx, y := my, d := md }))), V.int IntKind.i64 (Cr.d (crOf (iterW t (Int.toNat a) { w := mw, h := mh, r := mr, n := mn, x := mx, y := my, d := md }))), V.str (Cr.l (crOf (iterW t (Int.toNat a) { w := mw, h := mh, r := mr, n := mn, x := mx, y := my, d := md })))], elem := 61, kind := Kind.box }]))))

def VC_impl_EatLine (mw : Int) (mh : Int) (mr : List UInt8) (mn : List UInt8) (mx : Int) (my : Int) (md : Int) (t : List UInt8) (g0 : List UInt8) (g1 : List UInt8) (g2 : List UInt8) (g3 : List UInt8) (g4 : List UInt8) (g5 : List UInt8) (K : V → List Blk → Prop) : Prop :=
  At (isTs g0 g1 g2 g3 g4 g5) ∧
  K
    (V.tup
      [V.agg
          [V.int IntKind.i64
              (Wo.w
                (bif aftB { w := mw, h := mh, r := mr, n := mn, x := mx, y := my, d := md } t (1 : Int) then
                  iterW t (Int.toNat (1 : Int)) { w := mw, h := mh, r := mr, n := mn, x := mx, y := my, d := md }
                else zeroWo)),
            V.int IntKind.i64
              (Wo.h
                (bif aftB { w := mw, h := mh, r := mr, n := mn, x := mx, y := my, d := md } t (1 : Int) then
                  iterW t (Int.toNat (1 : Int)) { w := mw, h := mh, r := mr, n := mn, x := mx, y := my, d := md }
                else zeroWo)),
            V.str
              (Wo.r
                (bif aftB { w := mw, h := mh, r := mr, n := mn, x := mx, y := my, d := md } t (1 : Int) then
                  iterW t (Int.toNat (1 : Int)) { w := mw, h := mh, r := mr, n := mn, x := mx, y := my, d := md }
                else zeroWo)),
            V.str
              (Wo.n
                (bif aftB { w := mw, h := mh, r := mr, n := mn, x := mx, y := my, d := md } t (1 : Int) then
                  iterW t (Int.toNat (1 : Int)) { w := mw, h := mh, r := mr, n := mn, x := mx, y := my, d := md }
                else zeroWo)),
            V.int IntKind.i64
              (Wo.x
                (bif aftB { w := mw, h := mh, r := mr, n := mn, x := mx, y := my, d := md } t (1 : Int) then
                  iterW t (Int.toNat (1 : Int)) { w := mw, h := mh, r := mr, n := mn, x := mx, y := my, d := md }
                else zeroWo)),
            V.int IntKind.i64
              (Wo.y
                (bif aftB { w := mw, h := mh, r := mr, n := mn, x := mx, y := my, d := md } t (1 : Int) then
                  iterW t (Int.toNat (1 : Int)) { w := mw, h := mh, r := mr, n := mn, x := mx, y := my, d := md }
                else zeroWo)),
            V.int IntKind.i64
              (Wo.d
                (bif aftB { w := mw, h := mh, r := mr, n := mn, x := mx, y := my, d := md } t (1 : Int) then
                  iterW t (Int.toNat (1 : Int)) { w := mw, h := mh, r := mr, n := mn, x := mx, y := my, d := md }
                else zeroWo))],
        V.bool (aftB { w := mw, h := mh, r := mr, n := mn, x := mx, y := my, d := md } t (1 : Int))])
    [{ cs := Cells.vals [V.str g0, V.str g1, V.str g2, V.str g3, V.str g4, V.str g5], elem := 9,
        kind := Kind.gl 0 },
      {
        cs :=
          Cells.vals
            [V.int IntKind.i64 mw, V.int IntKind.i64 mh, V.str mr, V.str mn, V.int IntKind.i64 mx, V.int IntKind.i64 my,
              V.int IntKind.i64 md],
        elem := 28, kind := Kind.box },
      {
        cs :=
          Cells.vals
            [V.int IntKind.i64
                (Wo.w
                  (bif aftB { w := mw, h := mh, r := mr, n := mn, x := mx, y := my, d := md } t (1 : Int) then
                    iterW t (Int.toNat (1 : Int)) { w := mw, h := mh, r := mr, n := mn, x := mx, y := my, d := md }
                  else zeroWo)),
              V.int IntKind.i64
                (Wo.h
                  (bif aftB { w := mw, h := mh, r := mr, n := mn, x := mx, y := my, d := md } t (1 : Int) then
                    iterW t (Int.toNat (1 : Int)) { w := mw, h := mh, r := mr, n := mn, x := mx, y := my, d := md }
                  else zeroWo)),
              V.str
                (Wo.r
                  (bif aftB { w := mw, h := mh, r := mr, n := mn, x := mx, y := my, d := md } t (1 : Int) then
                    iterW t (Int.toNat (1 : Int)) { w := mw, h := mh, r := mr, n := mn, x := mx, y := my, d := md }
                  else zeroWo)),
              V.str
                (Wo.n
                  (bif aftB { w := mw, h := mh, r := mr, n := mn, x := mx, y := my, d := md } t (1 : Int) then
                    iterW t (Int.toNat (1 : Int)) { w := mw, h := mh, r := mr, n := mn, x := mx, y := my, d := md }
                  else zeroWo)),
              V.int IntKind.i64
                (Wo.x
                  (bif aftB { w := mw, h := mh, r := mr, n := mn, x := mx, y := my, d := md } t (1 : Int) then
                    iterW t (Int.toNat (1 : Int)) { w := mw, h := mh, r := mr, n := mn, x := mx, y := my, d := md }
                  else zeroWo)),
              V.int IntKind.i64
                (Wo.y
                  (bif aftB { w := mw, h := mh, r := mr, n := mn, x := mx, y := my, d := md } t (1 : Int) then
                    iterW t (Int.toNat (1 : Int)) { w := mw, h := mh, r := mr, n := mn, x := mx, y := my, d := md }
                  else zeroWo)),
              V.int IntKind.i64
                (Wo.d
                  (bif aftB { w := mw, h := mh, r := mr, n := mn, x := mx, y := my, d := md } t (1 : Int) then
                    iterW t (Int.toNat (1 : Int)) { w := mw, h := mh, r := mr, n := mn, x := mx, y := my, d := md }
                  else zeroWo))],
        elem := 28, kind := Kind.box }]

def VC_spec_GiveBack (mw : Int) (mh : Int) (mr : List UInt8) (mn : List UInt8) (mx : Int) (my : Int) (md : Int) (q : Int) (K : V → Prop) : Prop :=
  At True ∧
  ((!womB { w := mw, h := mh, r := mr, n := mn, x := mx, y := my, d := md }) = true →
      K
        (V.tup
          [V.agg
              [V.int IntKind.i64 (0 : Int), V.int IntKind.i64 (0 : Int), V.str (Array.toList #[]),
                V.str (Array.toList #[]), V.int IntKind.i64 (0 : Int), V.int IntKind.i64 (0 : Int),
                V.int IntKind.i64 (0 : Int)],
            V.lit false])) ∧
    ((!womB { w := mw, h := mh, r := mr, n := mn, x := mx, y := my, d := md }) = false →
      At True ∧
        ((!inB q (0 : Int) (3 : Int)) = true →
            K
              (V.tup
                [V.agg
                    [V.int IntKind.i64 (0 : Int), V.int IntKind.i64 (0 : Int), V.str (Array.toList #[]),
                      V.str (Array.toList #[]), V.int IntKind.i64 (0 : Int), V.int IntKind.i64 (0 : Int),
                      V.int IntKind.i64 (0 : Int)],
                  V.lit false])) ∧
          ((!inB q (0 : Int) (3 : Int)) = false →
            At ((4 : Int) ≠ (0 : Int)) ∧
              ((q == Int.tmod (IntKind.wrap IntKind.i64 (md + (2 : Int))) (4 : Int)) = true →
                  K
                    (V.tup
                      [V.agg
                          [V.int IntKind.i64 (0 : Int), V.int IntKind.i64 (0 : Int), V.str (Array.toList #[]),
                            V.str (Array.toList #[]), V.int IntKind.i64 (0 : Int), V.int IntKind.i64 (0 : Int),
                            V.int IntKind.i64 (0 : Int)],
                        V.lit false])) ∧
                ((q == Int.tmod (IntKind.wrap IntKind.i64 (md + (2 : Int))) (4 : Int)) = false →
                  At ((4 : Int) ≠ (0 : Int)) ∧
                    At
                        (womB { w := mw, h := mh, r := mr, n := mn, x := mx, y := my, d := md } = true ∧
                          inB mx (0 : Int) (mw - (1 : Int)) = true ∧
                            inB my (0 : Int) (mh - (1 : Int)) = true ∧
                              inB (Int.tmod (IntKind.wrap IntKind.i64 (md + (2 : Int))) (4 : Int)) (0 : Int) (3 : Int) =
                                true) ∧
                      (hasW { w := mw, h := mh, r := mr, n := mn, x := mx, y := my, d := md } mx my
                              (Int.tmod (IntKind.wrap IntKind.i64 (md + (2 : Int))) (4 : Int)) =
                            true →
                          K
                            (V.tup
                              [V.agg
                                  [V.int IntKind.i64 (0 : Int), V.int IntKind.i64 (0 : Int), V.str (Array.toList #[]),
                                    V.str (Array.toList #[]), V.int IntKind.i64 (0 : Int), V.int IntKind.i64 (0 : Int),
                                    V.int IntKind.i64 (0 : Int)],
                                V.lit false])) ∧
                        (hasW { w := mw, h := mh, r := mr, n := mn, x := mx, y := my, d := md } mx my
                              (Int.tmod (IntKind.wrap IntKind.i64 (md + (2 : Int))) (4 : Int)) =
                            false →
                          At ((4 : Int) ≠ (0 : Int)) ∧
                            At
                                (womB { w := mw, h := mh, r := mr, n := mn, x := mx, y := my, d := md } = true ∧
                                  inB mx (0 : Int) (mw - (1 : Int)) = true ∧
                                    inB my (0 : Int) (mh - (1 : Int)) = true ∧
                                      inB (Int.tmod (IntKind.wrap IntKind.i64 (md + (2 : Int))) (4 : Int)) (0 : Int)
                                            (3 : Int) =
                                          true ∧
                                        List.length (Array.toList #[(49 : UInt8)]) = (1 : Nat)) ∧
                              At
                                  (inB
                                        (Wo.w
                                          (setW { w := mw, h := mh, r := mr, n := mn, x := mx, y := my, d := md } mx my
                                            (Int.tmod (IntKind.wrap IntKind.i64 (md + (2 : Int))) (4 : Int))
                                            (Array.toList #[(49 : UInt8)])))
                                        (3 : Int) (6 : Int) =
                                      true ∧
                                    inB
                                          (Wo.h
                                            (setW { w := mw, h := mh, r := mr, n := mn, x := mx, y := my, d := md } mx
                                              my (Int.tmod (IntKind.wrap IntKind.i64 (md + (2 : Int))) (4 : Int))
                                              (Array.toList #[(49 : UInt8)])))
                                          (3 : Int) (6 : Int) =
                                        true ∧
                                      inB
                                            (Wo.x
                                              (setW { w := mw, h := mh, r := mr, n := mn, x := mx, y := my, d := md } mx
                                                my (Int.tmod (IntKind.wrap IntKind.i64 (md + (2 : Int))) (4 : Int))
                                                (Array.toList #[(49 : UInt8)])))
                                            (0 : Int)
                                            (Wo.w
                                                (setW { w := mw, h := mh, r := mr, n := mn, x := mx, y := my, d := md }
                                                  mx my (Int.tmod (IntKind.wrap IntKind.i64 (md + (2 : Int))) (4 : Int))
                                                  (Array.toList #[(49 : UInt8)])) -
                                              (1 : Int)) =
                                          true ∧
                                        inB
                                              (Wo.y
                                                (setW { w := mw, h := mh, r := mr, n := mn, x := mx, y := my, d := md }
                                                  mx my (Int.tmod (IntKind.wrap IntKind.i64 (md + (2 : Int))) (4 : Int))
                                                  (Array.toList #[(49 : UInt8)])))
                                              (0 : Int)
                                              (Wo.h
                                                  (setW
                                                    { w := mw, h := mh, r := mr, n := mn, x := mx, y := my, d := md } mx
                                                    my (Int.tmod (IntKind.wrap IntKind.i64 (md + (2 : Int))) (4 : Int))
                                                    (Array.toList #[(49 : UInt8)])) -
                                                (1 : Int)) =
                                            true ∧
                                          ((-1 : Int) = (1 : Int) ∨ (-1 : Int) = (-1 : Int))) ∧
                                K
                                  (V.tup
                                    [V.agg
                                        [V.int IntKind.i64
                                            (Wo.w
                                              (goW
                                                (setW { w := mw, h := mh, r := mr, n := mn, x := mx, y := my, d := md }
                                                  mx my (Int.tmod (IntKind.wrap IntKind.i64 (md + (2 : Int))) (4 : Int))
                                                  (Array.toList #[(49 : UInt8)]))
                                                (Wo.d
                                                  (setW
                                                    { w := mw, h := mh, r := mr, n := mn, x := mx, y := my, d := md } mx
                                                    my (Int.tmod (IntKind.wrap IntKind.i64 (md + (2 : Int))) (4 : Int))
                                                    (Array.toList #[(49 : UInt8)])))
                                                (-1 : Int))),
                                          V.int IntKind.i64
                                            (Wo.h
                                              (goW
                                                (setW { w := mw, h := mh, r := mr, n := mn, x := mx, y := my, d := md }
                                                  mx my (Int.tmod (IntKind.wrap IntKind.i64 (md + (2 : Int))) (4 : Int))
                                                  (Array.toList #[(49 : UInt8)]))
                                                (Wo.d
                                                  (setW
                                                    { w := mw, h := mh, r := mr, n := mn, x := mx, y := my, d := md } mx
                                                    my (Int.tmod (IntKind.wrap IntKind.i64 (md + (2 : Int))) (4 : Int))
                                                    (Array.toList #[(49 : UInt8)])))
                                                (-1 : Int))),
                                          V.str
                                            (Wo.r
                                              (goW
                                                (setW { w := mw, h := mh, r := mr, n := mn, x := mx, y := my, d := md }
                                                  mx my (Int.tmod (IntKind.wrap IntKind.i64 (md + (2 : Int))) (4 : Int))
                                                  (Array.toList #[(49 : UInt8)]))
                                                (Wo.d
                                                  (setW
                                                    { w := mw, h := mh, r := mr, n := mn, x := mx, y := my, d := md } mx
                                                    my (Int.tmod (IntKind.wrap IntKind.i64 (md + (2 : Int))) (4 : Int))
                                                    (Array.toList #[(49 : UInt8)])))
                                                (-1 : Int))),
                                          V.str
                                            (Wo.n
                                              (goW
                                                (setW { w := mw, h := mh, r := mr, n := mn, x := mx, y := my, d := md }
                                                  mx my (Int.tmod (IntKind.wrap IntKind.i64 (md + (2 : Int))) (4 : Int))
                                                  (Array.toList #[(49 : UInt8)]))
                                                (Wo.d
                                                  (setW
                                                    { w := mw, h := mh, r := mr, n := mn, x := mx, y := my, d := md } mx
                                                    my (Int.tmod (IntKind.wrap IntKind.i64 (md + (2 : Int))) (4 : Int))
                                                    (Array.toList #[(49 : UInt8)])))
                                                (-1 : Int))),
                                          V.int IntKind.i64
                                            (Wo.x
                                              (goW
                                                (setW { w := mw, h := mh, r := mr, n := mn, x := mx, y := my, d := md }
                                                  mx my (Int.tmod (IntKind.wrap IntKind.i64 (md + (2 : Int))) (4 : Int))
                                                  (Array.toList #[(49 : UInt8)]))
                                                (Wo.d
                                                  (setW
                                                    { w := mw, h := mh, r := mr, n := mn, x := mx, y := my, d := md } mx
                                                    my (Int.tmod (IntKind.wrap IntKind.i64 (md + (2 : Int))) (4 : Int))
                                                    (Array.toList #[(49 : UInt8)])))
                                                (-1 : Int))),
                                          V.int IntKind.i64
                                            (Wo.y
                                              (goW
                                                (setW { w := mw, h := mh, r := mr, n := mn, x := mx, y := my, d := md }
                                                  mx my (Int.tmod (IntKind.wrap IntKind.i64 (md + (2 : Int))) (4 : Int))
                                                  (Array.toList #[(49 : UInt8)]))
                                                (Wo.d
                                                  (setW
                                                    { w := mw, h := mh, r := mr, n := mn, x := mx, y := my, d := md } mx
                                                    my (Int.tmod (IntKind.wrap IntKind.i64 (md + (2 : Int))) (4 : Int))
                                                    (Array.toList #[(49 : UInt8)])))
                                                (-1 : Int))),
                                          V.int IntKind.i64 q],
                                      V.lit true])))))

def VC_impl_GiveBack (mw : Int) (mh : Int) (mr : List UInt8) (mn : List UInt8) (mx : Int) (my : Int) (md : Int) (q : Int) (K : V → Prop) : Prop := At True ∧ ((!womB { w := mw, h := mh, r := mr, n := mn, x := mx, y := my, d := md }) 
  = true → K (V.tup [V.agg [V.int IntKind.i64 (0 : Int), V.int IntKind.i64 (0 : Int), V.str (Array.toList #[]), V.str (Array.toList #[]), V.int IntKind.i64 (0 : Int), V.int IntKind.i64 
  (0 : Int), V.int IntKind.i64 (0 : Int)], V.lit false])) ∧ ((!womB { w := mw, h := mh, r := mr, n := mn, x := mx, y := my, d := md }) = false → At True ∧ ((!inB q (0 : Int) (3 : Int)) 
  = true → K (V.tup [V.agg [V.int IntKind.i64 (0 : Int), V.int IntKind.i64 (0 : Int), V.str (Array.toList #[]), V.str (Array.toList #[]), V.int IntKind.i64 (0 : Int), V.int IntKind.i64 
  (0 : Int), V.int IntKind.i64 (0 : Int)], V.lit false])) ∧ ((!inB q (0 : Int) (3 : Int)) = false → At (womB { w := mw, h := mh, r := mr, n := mn, x := mx, y := my, d := md } = true) 
  ∧ At ((0 : Int) ≤ Cr.d (crOf { w := mw, h := mh, r := mr, n := mn, x := mx, y := my, d := md }) ∧ Cr.d (crOf { w := mw, h := mh, r := mr, n := mn, x := mx, y := my, d := md }) ≤ (3 
  : Int) ∧ (0 : Int) ≤ (2 : Int) ∧ (2 : Int) ≤ (4 : Int)) ∧ At (crB (trnC (crOf { w := mw, h := mh, r := mr, n := mn, x := mx, y := my, d := md }) (2 : Int)) = true) ∧ (hasA (trnC (crOf 
  { w := mw, h := mh, r := mr, n := mn, x := mx, y := my, d := md }) (2 : Int)) = true → K (V.tup [V.agg [V.int IntKind.i64 (0 : Int), V.int IntKind.i64 (0 : Int), V.str (Array.toList 
  #[]), V.str (Array.toList #[]), V.int IntKind.i64 (0 : Int), V.int IntKind.i64 (0 : Int), V.int IntKind.i64 (0 : Int)], V.lit false])) ∧ (hasA (trnC (crOf { w := mw, h := mh, r := mr, n := mn, x := mx, y := my, d := md }) 
  (2 : Int)) = false → ((Cr.d (trnC (crOf { w := mw, h := mh, r := mr, n := mn, x := mx, y := my, d := md }) (2 : Int)) == q) = true → K (V.tup [V.agg [V.int IntKind.i64 (0 : Int), V.int 
  IntKind.i64 (0 : Int), V.str (Array.toList #[]), V.str (Array.toList #[]), V.int IntKind.i64 (0 : Int), V.int IntKind.i64 (0 : Int), V.int IntKind.i64 (0 : Int)], V.lit false])) ∧ ((Cr.d 
  (trnC (crOf { w := mw, h := mh, r := mr, n := mn, x := mx, y := my, d := md }) (2 : Int)) == q) = false → At (crB (trnC (crOf { w := mw, h := mh, r := mr, n := mn, x := mx, y := my, d := md }) 
  (2 : Int)) = true ∧ List.length (Array.toList #[(49 : UInt8)]) = (1 : Nat)) ∧ At (boxC (setA (trnC (crOf { w := mw, h := mh, r := mr, n := mn, x := mx, y := my, d := md }) (2 : Int)) 
  (Array.toList #[(49 : UInt8)])) = true) ∧ At (crB { r := Cr.r (movC (setA (trnC (crOf { w := mw, h := mh, r := mr, n := mn, x := mx, y := my, d := md }) (2 : Int)) (Array.toList #[(49 : UInt8)]))), w := Cr.w (movC (setA (trnC (crOf { w := mw, h := mh, r := mr, n := mn, x := mx, y := my, d := md }) (2 : Int)) (Array.toList #[(49 : UInt8)]))), h := Cr.h (movC (setA (trnC (crOf { w := mw, h := mh, r := mr, n := mn, x := mx, y := my, d := md }) (2 : Int)) (Array.toList #[(49 : UInt8)]))), c := Cr.c (movC (setA (trnC (crOf { w := mw, h := mh, r := mr, n := mn, x := mx, y := my, d := md }) (2 : Int)) (Array.toList #[(49 : UInt8)]))), x := Cr.x (movC (setA (trnC (crOf { w := mw, h := mh, r := mr, n := mn, x := mx, y := my, d := md }) (2 : Int)) (Array.toList #[(49 : UInt8)]))), y := Cr.y (movC (setA (trnC (crOf { w := mw, h := mh, r := mr, n := mn, x := mx, y := my, d := md }) (2 : Int)) (Array.toList #[(49 : UInt8)]))), d := q, l := Cr.l (movC (setA (trnC (crOf { w := mw, h := mh, r := mr, n := mn, x := mx, y := my, d := md }) (2 : Int)) (Array.toList #[(49 : UInt8)]))) } 
  = true) ∧ K (V.tup [V.agg [V.int IntKind.i64 (Wo.w (wormC { r := Cr.r (movC (setA (trnC (crOf { w := mw, h := mh, r := mr, n := mn, x := mx, y := my, d := md }) (2 : Int)) (Array.toList #[(49 : UInt8)]))), w := Cr.w (movC (setA (trnC (crOf { w := mw, h := mh, r := mr, n := mn, x := mx, y := my, d := md }) (2 : Int)) (Array.toList #[(49 : UInt8)]))), h := Cr.h (movC (setA (trnC (crOf { w := mw, h := mh, r := mr, n := mn, x := mx, y := my, d := md }) (2 : Int)) (Array.toList #[(49 : UInt8)]))), c := Cr.c (movC (setA (trnC (crOf { w := mw, h := mh, r := mr, n := mn, x := mx, y := my, d := md }) (2 : Int)) (Array.toList #[(49 : UInt8)]))), x := Cr.x (movC (setA (trnC (crOf { w := mw, h := mh, r := mr, n := mn, x := mx, y := my, d := md }) (2 : Int)) (Array.toList #[(49 : UInt8)]))), y := Cr.y (movC (setA (trnC (crOf { w := mw, h := mh, r := mr, n := mn, x := mx, y := my, d := md }) (2 : Int)) (Array.toList #[(49 : UInt8)]))), d := q, l := Cr.l (movC (setA (trnC (crOf { w := mw, h := mh, r := mr, n := mn, x := mx, y := my, d := md }) (2 : Int)) (Array.toList #[(49 : UInt8)]))) })), 
  V.int IntKind.i64 (Wo.h (wormC { r := Cr.r (movC (setA (trnC (crOf { w := mw, h := mh, r := mr, n := mn, x := mx, y := my, d := md }) (2 : Int)) (Array.toList #[(49 : UInt8)]))), w := Cr.w (movC (setA (trnC (crOf { w := mw, h := mh, r := mr, n := mn, x := mx, y := my, d := md }) (2 : Int)) (Array.toList #[(49 : UInt8)]))), h := Cr.h (movC (setA (trnC (crOf { w := mw, h := mh, r := mr, n := mn, x := mx, y := my, d := md }) (2 : Int)) (Array.toList #[(49 : UInt8)]))), c := Cr.c (movC (setA (trnC (crOf { w := mw, h := mh, r := mr, n := mn, x := mx, y := my, d := md }) (2 : Int)) (Array.toList #[(49 : UInt8)]))), x := Cr.x (movC (setA (trnC (crOf { w := mw, h := mh, r := mr, n := mn, x := mx, y := my, d := md }) (2 : Int)) (Array.toList #[(49 : UInt8)]))), y := Cr.y (movC (setA (trnC (crOf { w := mw, h := mh, r := mr, n := mn, x := mx, y := my, d := md }) (2 : Int)) (Array.toList #[(49 : UInt8)]))), d := q, l := Cr.l (movC (setA (trnC (crOf { w := mw, h := mh, r := mr, n := mn, x := mx, y := my, d := md }) (2 : Int)) (Array.toList #[(49 : UInt8)]))) })), 
  V.str (Wo.r (wormC { r := Cr.r (movC (setA (trnC (crOf { w := mw, h := mh, r := mr, n := mn, x := mx, y := my, d := md }) (2 : Int)) (Array.toList #[(49 : UInt8)]))), w := Cr.w (movC (setA (trnC (crOf { w := mw, h := mh, r := mr, n := mn, x := mx, y := my, d := md }) (2 : Int)) (Array.toList #[(49 : UInt8)]))), h := Cr.h (movC (setA (trnC (crOf { w := mw, h := mh, r := mr, n := mn, x := mx, y := my, d := md }) (2 : Int)) (Array.toList #[(49 : UInt8)]))), c := Cr.c (movC (setA (trnC (crOf { w := mw, h := mh, r := mr, n := mn, x := mx, y := my, d := md }) (2 : Int)) (Array.toList #[(49 : UInt8)]))), x := Cr.x (movC (setA (trnC (crOf { w := mw, h := mh, r := mr, n := mn, x := mx, y := my, d := md }) (2 : Int)) (Array.toList #[(49 : UInt8)]))), y := Cr.y (movC (setA (trnC (crOf { w := mw, h := mh, r := mr, n := mn, x := mx, y := my, d := md }) (2 : Int)) (Array.toList #[(49 : UInt8)]))), d := q, l := Cr.l (movC (setA (trnC (crOf { w := mw, h := mh, r := mr, n := mn, x := mx, y := my, d := md }) (2 : Int)) (Array.toList #[(49 : UInt8)]))) })), 
  V.str (Wo.n (wormC { r := Cr.r (movC (setA (trnC (crOf { w := mw, h := mh, r := mr, n := mn, x := mx, y := my, d := md }) (2 : Int)) (Array.toList #[(49 : UInt8)]))), w := Cr.w (movC (setA (trnC (crOf { w := mw, h := mh, r := mr, n := mn, x := mx, y := my, d := md }) (2 : Int)) (Array.toList #[(49 : UInt8)]))), h := Cr.h (movC (setA (trnC (crOf { w := mw, h := mh, r := mr, n := mn, x := mx, y := my, d := md }) (2 : Int)) (Array.toList #[(49 : UInt8)]))), c := Cr.c (movC (setA (trnC (crOf { w := mw, h := mh, r := mr, n := mn, x := mx, y := my, d := md }) (2 : Int)) (Array.toList #[(49 : UInt8)]))), x := Cr.x (movC (setA (trnC (crOf { w := mw, h := mh, r := mr, n := mn, x := mx, y := my, d := md }) (2 : Int)) (Array.toList #[(49 : UInt8)]))), y := Cr.y (movC (setA (trnC (crOf { w := mw, h := mh, r := mr, n := mn, x := mx, y := my, d := md }) (2 : Int)) (Array.toList #[(49 : UInt8)]))), d := q, l := Cr.l (movC (setA (trnC (crOf { w := mw, h := mh, r := mr, n := mn, x := mx, y := my, d := md }) (2 : Int)) (Array.toList #[(49 : UInt8)]))) })), 
  V.int IntKind.i64 (Wo.x (wormC { r := Cr.r (movC (setA (trnC (crOf { w := mw, h := mh, r := mr, n := mn, x := mx, y := my, d := md }) (2 : Int)) (Array.toList #[(49 : UInt8)]))), w := Cr.w (movC (setA (trnC (crOf { w := mw, h := mh, r := mr, n := mn, x := mx, y := my, d := md }) (2 : Int)) (Array.toList #[(49 : UInt8)]))), h := Cr.h (movC (setA (trnC (crOf { w := mw, h := mh, r := mr, n := mn, x := mx, y := my, d := md }) (2 : Int)) (Array.toList #[(49 : UInt8)]))), c := Cr.c (movC (setA (trnC (crOf { w := mw, h := mh, r := mr, n := mn, x := mx, y := my, d := md }) (2 : Int)) (Array.toList #[(49 : UInt8)]))), x := Cr.x (movC (setA (trnC (crOf { w := mw, h := mh, r := mr, n := mn, x := mx, y := my, d := md }) (2 : Int)) (Array.toList #[(49 : UInt8)]))), y := Cr.y (movC (setA (trnC (crOf { w := mw, h := mh, r := mr, n := mn, x := mx, y := my, d := md }) (2 : Int)) (Array.toList #[(49 : UInt8)]))), d := q, l := Cr.l (movC (setA (trnC (crOf { w := mw, h := mh, r := mr, n := mn, x := mx, y := my, d := md }) (2 : Int)) (Array.toList #[(49 : UInt8)]))) })), 
  V.int IntKind.i64 (Wo.y (wormC { r := Cr.r (movC (setA (trnC (crOf { w := mw, h := mh, r := mr, n := mn, x := mx, y := my, d := md }) (2 : Int)) (Array.toList #[(49 : UInt8)]))), w := Cr.w (movC (setA (trnC (crOf { w := mw, h := mh, r := mr, n := mn, x := mx, y := my, d := md }) (2 : Int)) (Array.toList #[(49 : UInt8)]))), h := Cr.h (movC (setA (trnC (crOf { w := mw, h := mh, r := mr, n := mn, x := mx, y := my, d := md }) (2 : Int)) (Array.toList #[(49 : UInt8)]))), c := Cr.c (movC (setA (trnC (crOf { w := mw, h := mh, r := mr, n := mn, x := mx, y := my, d := md }) (2 : Int)) (Array.toList #[(49 : UInt8)]))), x := Cr.x (movC (setA (trnC (crOf { w := mw, h := mh, r := mr, n := mn, x := mx, y := my, d := md }) (2 : Int)) (Array.toList #[(49 : UInt8)]))), y := Cr.y (movC (setA (trnC (crOf { w := mw, h := mh, r := mr, n := mn, x := mx, y := my, d := md }) (2 : Int)) (Array.toList #[(49 : UInt8)]))), d := q, l := Cr.l (movC (setA (trnC (crOf { w := mw, h := mh, r := mr, n := mn, x := mx, y := my, d := md }) (2 : Int)) (Array.toList #[(49 : UInt8)]))) })), 
  V.int IntKind.i64 (Wo.d (wormC { r := Cr.r (movC (setA (trnC (crOf { w := mw, h := mh, r := mr, n := mn, x := mx, y := my, d := md }) (2 : Int)) (Array.toList #[(49 : UInt8)]))), w := Cr.w (movC (setA (trnC (crOf { w := mw, h := mh, r := mr, n := mn, x := mx, y := my, d := md }) (2 : Int)) (Array.toList #[(49 : UInt8)]))), h := Cr.h (movC (setA (trnC (crOf { w := mw, h := mh, r := mr, n := mn, x := mx, y := my, d := md }) (2 : Int)) (Array.toList #[(49 : UInt8)]))), c := Cr.c (movC (setA (trnC (crOf { w := mw, h := mh, r := mr, n := mn, x := mx, y := my, d := md }) (2 : Int)) (Array.toList #[(49 : UInt8)]))), x := Cr.x (movC (setA (trnC (crOf { w := mw, h := mh, r := mr, n := mn, x := mx, y := my, d := md }) (2 : Int)) (Array.toList #[(49 : UInt8)]))), y := Cr.y (movC (setA (trnC (crOf { w := mw, h := mh, r := mr, n := mn, x := mx, y := my, d := md }) (2 : Int)) (Array.toList #[(49 : UInt8)]))), d := q, l := Cr.l (movC (setA (trnC (crOf { w := mw, h := mh, r := mr, n := mn, x := mx, y := my, d := md }) (2 : Int)) (Array.toList #[(49 : UInt8)]))) }))], 
  V.lit true])))))

end Go.Vi
