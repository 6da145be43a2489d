/- The conditions, reckoned out by program: texts alone. -/
import Derived.Test.YteleacldecambaaDoorA1Defs
namespace Go.Vi
set_option linter.unusedVariables false
def VC_spec_miGood (mw : Int) (mh : Int) (mc : List UInt8) (mu : Bool) (K : V → Prop) : Prop :=
  At True ∧
  ((!inB mw (1 : Int) (9 : Int)) = true → K (V.lit false)) ∧
    ((!inB mw (1 : Int) (9 : Int)) = false →
      At True ∧
        ((!inB mh (1 : Int) (9 : Int)) = true → K (V.lit false)) ∧
          ((!inB mh (1 : Int) (9 : Int)) = false →
            (((↑(List.length mc) : Int) != IntKind.wrap IntKind.i64 (mw * mh)) = true → K (V.lit false)) ∧
              (((↑(List.length mc) : Int) != IntKind.wrap IntKind.i64 (mw * mh)) = false →
                ((((0 : Nat) = (0 : Nat) ∧ (0 : Nat) = (0 : Nat)) ∧ (True ∧ (0 : Int) = (0 : Int)) ∧ True) ∧
                    ((True ∧ (True ∧ mw = mw) ∧ (True ∧ mh = mh) ∧ mc = mc ∧ mu = mu ∧ True) ∧ True) ∧ True) ∧
                  At (cmInv mc (0 : Int) ∧ List.all (List.take (Int.toNat (0 : Int)) mc) mirB = true) ∧
                    ∀ (a : Int),
                      cmInv mc a ∧ List.all (List.take (Int.toNat a) mc) mirB = true →
                        (decide (a < (↑(List.length mc) : Int)) = true →
                            At ((0 : Int) ≤ a ∧ a < (↑(List.length mc) : Int)) ∧
                              (((↑(UInt8.toNat (List.getD mc (Int.toNat a) (0 : UInt8))) : Int) != (46 : Int)) = true →
                                  At ((0 : Int) ≤ a ∧ a < (↑(List.length mc) : Int)) ∧
                                    (((↑(UInt8.toNat (List.getD mc (Int.toNat a) (0 : UInt8))) : Int) != (90 : Int)) =
                                          true →
                                        At ((0 : Int) ≤ a ∧ a < (↑(List.length mc) : Int)) ∧
                                          (((↑(UInt8.toNat (List.getD mc (Int.toNat a) (0 : UInt8))) : Int) !=
                                                  (83 : Int)) =
                                                true →
                                              K (V.lit false)) ∧
                                            (((↑(UInt8.toNat (List.getD mc (Int.toNat a) (0 : UInt8))) : Int) !=
                                                  (83 : Int)) =
                                                false →
                                              ((((0 : Nat) = (0 : Nat) ∧ (0 : Nat) = (0 : Nat)) ∧
                                                    (True ∧
                                                        IntKind.wrap IntKind.i64 (a + (1 : Int)) =
                                                          IntKind.wrap IntKind.i64 (a + (1 : Int))) ∧
                                                      True) ∧
                                                  ((True ∧
                                                        (True ∧ mw = mw) ∧
                                                          (True ∧ mh = mh) ∧ mc = mc ∧ mu = mu ∧ True) ∧
                                                      True) ∧
                                                    True) ∧
                                                At
                                                  ((cmInv mc (IntKind.wrap IntKind.i64 (a + (1 : Int))) ∧
                                                      List.all
                                                          (List.take
                                                            (Int.toNat (IntKind.wrap IntKind.i64 (a + (1 : Int)))) mc)
                                                          mirB =
                                                        true) ∧
                                                    Int.toNat
                                                        ((↑(List.length mc) : Int) -
                                                          IntKind.wrap IntKind.i64 (a + (1 : Int))) <
                                                      Int.toNat ((↑(List.length mc) : Int) - a)))) ∧
                                      (((↑(UInt8.toNat (List.getD mc (Int.toNat a) (0 : UInt8))) : Int) != (90 : Int)) =
                                          false →
                                        ((((0 : Nat) = (0 : Nat) ∧ (0 : Nat) = (0 : Nat)) ∧
                                              (True ∧
                                                  IntKind.wrap IntKind.i64 (a + (1 : Int)) =
                                                    IntKind.wrap IntKind.i64 (a + (1 : Int))) ∧
                                                True) ∧
                                            ((True ∧ (True ∧ mw = mw) ∧ (True ∧ mh = mh) ∧ mc = mc ∧ mu = mu ∧ True) ∧
                                                True) ∧
                                              True) ∧
                                          At
                                            ((cmInv mc (IntKind.wrap IntKind.i64 (a + (1 : Int))) ∧
                                                List.all
                                                    (List.take (Int.toNat (IntKind.wrap IntKind.i64 (a + (1 : Int))))
                                                      mc)
                                                    mirB =
                                                  true) ∧
                                              Int.toNat
                                                  ((↑(List.length mc) : Int) -
                                                    IntKind.wrap IntKind.i64 (a + (1 : Int))) <
                                                Int.toNat ((↑(List.length mc) : Int) - a)))) ∧
                                (((↑(UInt8.toNat (List.getD mc (Int.toNat a) (0 : UInt8))) : Int) != (46 : Int)) =
                                    false →
                                  ((((0 : Nat) = (0 : Nat) ∧ (0 : Nat) = (0 : Nat)) ∧
                                        (True ∧
                                            IntKind.wrap IntKind.i64 (a + (1 : Int)) =
                                              IntKind.wrap IntKind.i64 (a + (1 : Int))) ∧
                                          True) ∧
                                      ((True ∧ (True ∧ mw = mw) ∧ (True ∧ mh = mh) ∧ mc = mc ∧ mu = mu ∧ True) ∧ True) ∧
                                        True) ∧
                                    At
                                      ((cmInv mc (IntKind.wrap IntKind.i64 (a + (1 : Int))) ∧
                                          List.all (List.take (Int.toNat (IntKind.wrap IntKind.i64 (a + (1 : Int)))) mc)
                                              mirB =
                                            true) ∧
                                        Int.toNat
                                            ((↑(List.length mc) : Int) - IntKind.wrap IntKind.i64 (a + (1 : Int))) <
                                          Int.toNat ((↑(List.length mc) : Int) - a)))) ∧
                          (decide (a < (↑(List.length mc) : Int)) = false → K (V.lit true)))))

def VC_impl_IsMaze (mw : Int) (mh : Int) (mc : List UInt8) (mu : Bool) (K : V → Prop) : Prop :=
  At True ∧
  (inB mw (1 : Int) (9 : Int) = true →
      At True ∧
        ((!inB mh (1 : Int) (9 : Int)) = true → K (V.lit false)) ∧
          ((!inB mh (1 : Int) (9 : Int)) = false →
            (((↑(List.length mc) : Int) != IntKind.wrap IntKind.i64 (mw * mh)) = true → K (V.lit false)) ∧
              (((↑(List.length mc) : Int) != IntKind.wrap IntKind.i64 (mw * mh)) = false →
                At
                    (Array.toList #[(46 : UInt8), (90 : UInt8), (83 : UInt8)] =
                        [(46 : UInt8), (90 : UInt8), (83 : UInt8)] ∧
                      (↑(List.length mc) : Int) ≤ (9223372036854775807 : Int)) ∧
                  K
                    (V.bool
                      (Lib.trimS mc (Array.toList #[(46 : UInt8), (90 : UInt8), (83 : UInt8)]) ==
                        Array.toList #[]))))) ∧
    (inB mw (1 : Int) (9 : Int) = false → K (V.lit false))

def VC_laws_szMaze (mw : Int) (mh : Int) (mc : List UInt8) (mu : Bool) (left : Int) (K : V → Prop) : Prop :=
  (decide (IntKind.wrap IntKind.i64 (left - (↑(List.length mc) : Int)) < (0 : Int)) = true →
    K (V.int IntKind.i64 (-1 : Int))) ∧
  (decide (IntKind.wrap IntKind.i64 (left - (↑(List.length mc) : Int)) < (0 : Int)) = false →
    K (V.int IntKind.i64 (IntKind.wrap IntKind.i64 (left - (↑(List.length mc) : Int)))))

def VC_laws_toMaze (mw : Int) (mh : Int) (mc : List UInt8) (mu : Bool) (K : V → Prop) : Prop :=
  K (V.agg [V.int IntKind.i64 mw, V.int IntKind.i64 mh, V.str mc, V.bool mu])

def VC_laws_toBall (bx : Int) (by_ : Int) (bd : Int) (K : V → Prop) : Prop :=
  K (V.agg [V.int IntKind.i64 bx, V.int IntKind.i64 by_, V.int IntKind.i64 bd])

def VC_laws_eqMaze (aw : Int) (ah : Int) (ac : List UInt8) (au : Bool) (bw : Int) (bh : Int) (bc : List UInt8) (bu : Bool) (K : V → Prop) : Prop :=
  ((aw != bw) = true → K (V.lit false)) ∧
  ((aw != bw) = false →
    ((ah != bh) = true → K (V.lit false)) ∧
      ((ah != bh) = false →
        ((!ac == bc) = true → K (V.lit false)) ∧
          ((!ac == bc) = false → ((!au == bu) = true → K (V.lit false)) ∧ ((!au == bu) = false → K (V.lit true)))))

def VC_laws_eqBall (ax : Int) (ay : Int) (ad : Int) (bx : Int) (by_ : Int) (bd : Int) (K : V → Prop) : Prop :=
  ((ax != bx) = true → K (V.lit false)) ∧
  ((ax != bx) = false →
    ((ay != by_) = true → K (V.lit false)) ∧
      ((ay != by_) = false → ((ad != bd) = true → K (V.lit false)) ∧ ((ad != bd) = false → K (V.lit true))))

def VC_spec_miBall (mw : Int) (mh : Int) (mc : List UInt8) (mu : Bool) (bx : Int) (by_ : Int) (bd : Int) (K : V → Prop) : Prop :=
  At True ∧
  (mzB { w := mw, h := mh, c := mc, t := mu } = true →
      At True ∧
        (inB bx (0 : Int) (IntKind.wrap IntKind.i64 (mw - (1 : Int))) = true →
            At True ∧
              (inB by_ (0 : Int) (IntKind.wrap IntKind.i64 (mh - (1 : Int))) = true →
                  At True ∧ K (V.bool (inB bd (0 : Int) (3 : Int)))) ∧
                (inB by_ (0 : Int) (IntKind.wrap IntKind.i64 (mh - (1 : Int))) = false → K (V.lit false))) ∧
          (inB bx (0 : Int) (IntKind.wrap IntKind.i64 (mw - (1 : Int))) = false → K (V.lit false))) ∧
    (mzB { w := mw, h := mh, c := mc, t := mu } = false → K (V.lit false))

def VC_impl_IsBall (mw : Int) (mh : Int) (mc : List UInt8) (mu : Bool) (bx : Int) (by_ : Int) (bd : Int) (K : V → Prop) : Prop :=
  At True ∧
  (mzB { w := mw, h := mh, c := mc, t := mu } = true →
      At True ∧
        (inB bx (0 : Int) (IntKind.wrap IntKind.i64 (mw - (1 : Int))) = true →
            At True ∧
              (inB by_ (0 : Int) (IntKind.wrap IntKind.i64 (mh - (1 : Int))) = true →
                  At True ∧ K (V.bool (inB bd (0 : Int) (3 : Int)))) ∧
                (inB by_ (0 : Int) (IntKind.wrap IntKind.i64 (mh - (1 : Int))) = false → K (V.lit false))) ∧
          (inB bx (0 : Int) (IntKind.wrap IntKind.i64 (mw - (1 : Int))) = false → K (V.lit false))) ∧
    (mzB { w := mw, h := mh, c := mc, t := mu } = false → K (V.lit false))

def VC_spec_miEntry (mw : Int) (mh : Int) (mc : List UInt8) (mu : Bool) (k : Int) (K : V → Prop) : Prop :=
  (decide (k < mw) = true → K (V.agg [V.int IntKind.i64 k, V.int IntKind.i64 (0 : Int), V.int IntKind.i64 (2 : Int)])) ∧
  (decide (k < mw) = false →
    (decide (k < IntKind.wrap IntKind.i64 (mw + mh)) = true →
        K
          (V.agg
            [V.int IntKind.i64 (IntKind.wrap IntKind.i64 (mw - (1 : Int))),
              V.int IntKind.i64 (IntKind.wrap IntKind.i64 (k - mw)), V.int IntKind.i64 (3 : Int)])) ∧
      (decide (k < IntKind.wrap IntKind.i64 (mw + mh)) = false →
        (decide (k < IntKind.wrap IntKind.i64 (IntKind.wrap IntKind.i64 ((2 : Int) * mw) + mh)) = true →
            K
              (V.agg
                [V.int IntKind.i64
                    (IntKind.wrap IntKind.i64
                      (IntKind.wrap IntKind.i64
                          (IntKind.wrap IntKind.i64 (IntKind.wrap IntKind.i64 ((2 : Int) * mw) + mh) - (1 : Int)) -
                        k)),
                  V.int IntKind.i64 (IntKind.wrap IntKind.i64 (mh - (1 : Int))), V.int IntKind.i64 (0 : Int)])) ∧
          (decide (k < IntKind.wrap IntKind.i64 (IntKind.wrap IntKind.i64 ((2 : Int) * mw) + mh)) = false →
            K
              (V.agg
                [V.int IntKind.i64 (0 : Int),
                  V.int IntKind.i64
                    (IntKind.wrap IntKind.i64
                      (IntKind.wrap IntKind.i64
                          (IntKind.wrap IntKind.i64 ((2 : Int) * IntKind.wrap IntKind.i64 (mw + mh)) - (1 : Int)) -
                        k)),
                  V.int IntKind.i64 (1 : Int)]))))

def VC_impl_entry (mw : Int) (mh : Int) (mc : List UInt8) (mu : Bool) (k : Int) (K : V → Prop) : Prop :=
  (decide (k < mw) = true → K (V.agg [V.int IntKind.i64 k, V.int IntKind.i64 (0 : Int), V.int IntKind.i64 (2 : Int)])) ∧
  (decide (k < mw) = false →
    (decide (k < IntKind.wrap IntKind.i64 (mw + mh)) = true →
        K
          (V.agg
            [V.int IntKind.i64 (IntKind.wrap IntKind.i64 (mw - (1 : Int))),
              V.int IntKind.i64 (IntKind.wrap IntKind.i64 (k - mw)), V.int IntKind.i64 (3 : Int)])) ∧
      (decide (k < IntKind.wrap IntKind.i64 (mw + mh)) = false →
        (decide (k < IntKind.wrap IntKind.i64 (IntKind.wrap IntKind.i64 (mw + mh) + mw)) = true →
            K
              (V.agg
                [V.int IntKind.i64
                    (IntKind.wrap IntKind.i64
                      (IntKind.wrap IntKind.i64
                          (IntKind.wrap IntKind.i64 (IntKind.wrap IntKind.i64 (mw + mh) + mw) - (1 : Int)) -
                        k)),
                  V.int IntKind.i64 (IntKind.wrap IntKind.i64 (mh - (1 : Int))), V.int IntKind.i64 (0 : Int)])) ∧
          (decide (k < IntKind.wrap IntKind.i64 (IntKind.wrap IntKind.i64 (mw + mh) + mw)) = false →
            K
              (V.agg
                [V.int IntKind.i64 (0 : Int),
                  V.int IntKind.i64
                    (IntKind.wrap IntKind.i64
                      (IntKind.wrap IntKind.i64
                          (IntKind.wrap IntKind.i64 ((2 : Int) * IntKind.wrap IntKind.i64 (mw + mh)) - (1 : Int)) -
                        k)),
                  V.int IntKind.i64 (1 : Int)]))))

def VC_spec_miEnd (mw : Int) (mh : Int) (mc : List UInt8) (mu : Bool) (k : Int) (K : V → Prop) : Prop :=
  At True ∧
  (mzB { w := mw, h := mh, c := mc, t := mu } = true →
      At True ∧
        K
          (V.bool
            (inB k (0 : Int)
              (IntKind.wrap IntKind.i64
                (IntKind.wrap IntKind.i64 ((2 : Int) * IntKind.wrap IntKind.i64 (mw + mh)) - (1 : Int)))))) ∧
    (mzB { w := mw, h := mh, c := mc, t := mu } = false → K (V.lit false))

def VC_spec_miHit (mw : Int) (mh : Int) (mc : List UInt8) (mu : Bool) (bx : Int) (by_ : Int) (bd : Int) (K : V → Prop) : Prop := At ((0 : Int) ≤ IntKind.wrap IntKind.i64 (IntKind.wrap 
  IntKind.i64 (by_ * mw) + bx) ∧ IntKind.wrap IntKind.i64 (IntKind.wrap IntKind.i64 (by_ * mw) + bx) < (↑(List.length mc) : Int)) ∧ (((↑(UInt8.toNat (List.getD mc (Int.toNat (IntKind.wrap 
  IntKind.i64 (IntKind.wrap IntKind.i64 (by_ * mw) + bx))) (0 : UInt8))) : Int) == (90 : Int)) = true → At ((0 : Int) ≤ bd ∧ bd < (2147483648 : Int) ∧ (0 : Int) ≤ (1 : Int) ∧ (1 : Int) 
  < (2147483648 : Int)) ∧ (mu = true → (((↑(UInt8.toNat (List.getD mc (Int.toNat (IntKind.wrap IntKind.i64 (IntKind.wrap IntKind.i64 (by_ * mw) + bx))) (0 : UInt8))) : Int) != (46 : Int)) 
  = true → True ∧ At ((0 : Int) ≤ IntKind.wrap IntKind.i64 (IntKind.wrap IntKind.i64 (by_ * mw) + bx) ∧ IntKind.wrap IntKind.i64 (IntKind.wrap IntKind.i64 (by_ * mw) + bx) ≤ (↑(List.length 
  mc) : Int)) ∧ At (List.length (List.take (Int.toNat (IntKind.wrap IntKind.i64 (IntKind.wrap IntKind.i64 (by_ * mw) + bx))) mc) + List.length (Array.toList #[(83 : UInt8)]) ≤ (9223372036854775807 
  : Nat)) ∧ At ((0 : Int) ≤ IntKind.wrap IntKind.i64 (IntKind.wrap IntKind.i64 (IntKind.wrap IntKind.i64 (by_ * mw) + bx) + (1 : Int)) ∧ IntKind.wrap IntKind.i64 (IntKind.wrap IntKind.i64 
  (IntKind.wrap IntKind.i64 (by_ * mw) + bx) + (1 : Int)) ≤ (↑(List.length mc) : Int)) ∧ At (List.length (List.take (Int.toNat (IntKind.wrap IntKind.i64 (IntKind.wrap IntKind.i64 (by_ 
  * mw) + bx))) mc ++ Array.toList #[(83 : UInt8)]) + List.length (List.drop (Int.toNat (IntKind.wrap IntKind.i64 (IntKind.wrap IntKind.i64 (IntKind.wrap IntKind.i64 (by_ * mw) + bx) 
  + (1 : Int)))) mc) ≤ (9223372036854775807 : Nat)) ∧ (((↑(Int.toNat bd ^^^ Int.toNat (1 : Int)) : Int) == (0 : Int)) = true → ((K (V.tup [V.agg [V.int IntKind.i64 mw, V.int IntKind.i64 
  mh, V.str (List.take (Int.toNat (IntKind.wrap IntKind.i64 (IntKind.wrap IntKind.i64 (by_ * mw) + bx))) mc ++ Array.toList #[(83 : UInt8)] ++ List.drop (Int.toNat (IntKind.wrap IntKind.i64 
  (IntKind.wrap IntKind.i64 (IntKind.wrap IntKind.i64 (by_ * mw) + bx) + (1 : Int)))) mc), V.bool mu], V.agg [V.int IntKind.i64 bx, V.int IntKind.i64 (IntKind.wrap IntKind.i64 (by_ - 
  (1 : Int))), V.int IntKind.i64 (↑(Int.toNat bd ^^^ Int.toNat (1 : Int)) : Int)]]) ∧ True) ∧ True) ∧ (K (V.tup [V.agg [V.int IntKind.i64 mw, V.int IntKind.i64 mh, V.str (List.take (Int.toNat 
  (IntKind.wrap IntKind.i64 (IntKind.wrap IntKind.i64 (by_ * mw) + bx))) mc ++ Array.toList #[(83 : UInt8)] ++ List.drop (Int.toNat (IntKind.wrap IntKind.i64 (IntKind.wrap IntKind.i64 
  (IntKind.wrap IntKind.i64 (by_ * mw) + bx) + (1 : Int)))) mc), V.bool mu], V.agg [V.int IntKind.i64 bx, V.int IntKind.i64 (IntKind.wrap IntKind.i64 (by_ - (1 : Int))), V.int IntKind.i64 
  (↑(Int.toNat bd ^^^ Int.toNat (1 : Int)) : Int)]]) ∧ True) ∧ True) ∧ (((↑(Int.toNat bd ^^^ Int.toNat (1 : Int)) : Int) == (0 : Int)) = false → (((↑(Int.toNat bd ^^^ Int.toNat (1 : Int)) 
  : Int) == (1 : Int)) = true → ((K (V.tup [V.agg [V.int IntKind.i64 mw, V.int IntKind.i64 mh, V.str (List.take (Int.toNat (IntKind.wrap IntKind.i64 (IntKind.wrap IntKind.i64 (by_ * mw) 
  + bx))) mc ++ Array.toList #[(83 : UInt8)] ++ List.drop (Int.toNat (IntKind.wrap IntKind.i64 (IntKind.wrap IntKind.i64 (IntKind.wrap IntKind.i64 (by_ * mw) + bx) + (1 : Int)))) mc), 
  V.bool mu], V.agg [V.int IntKind.i64 (IntKind.wrap IntKind.i64 (bx + (1 : Int))), V.int IntKind.i64 by_, V.int IntKind.i64 (↑(Int.toNat bd ^^^ Int.toNat (1 : Int)) : Int)]]) ∧ True) 
  ∧ True) ∧ (K (V.tup [V.agg [V.int IntKind.i64 mw, V.int IntKind.i64 mh, V.str (List.take (Int.toNat (IntKind.wrap IntKind.i64 (IntKind.wrap IntKind.i64 (by_ * mw) + bx))) mc ++ Array.toList 
  #[(83 : UInt8)] ++ List.drop (Int.toNat (IntKind.wrap IntKind.i64 (IntKind.wrap IntKind.i64 (IntKind.wrap IntKind.i64 (by_ * mw) + bx) + (1 : Int)))) mc), V.bool mu], V.agg [V.int IntKind.i64 
  (IntKind.wrap IntKind.i64 (bx + (1 : Int))), V.int IntKind.i64 by_, V.int IntKind.i64 (↑(Int.toNat bd ^^^ Int.toNat (1 : Int)) : Int)]]) ∧ True) ∧ True) ∧ (((↑(Int.toNat bd ^^^ Int.toNat 
  (1 : Int)) : Int) == (1 : Int)) = false → (((↑(Int.toNat bd ^^^ Int.toNat (1 : Int)) : Int) == (2 : Int)) = true → ((K (V.tup [V.agg [V.int IntKind.i64 mw, V.int IntKind.i64 mh, V.str 
  (List.take (Int.toNat (IntKind.wrap IntKind.i64 (IntKind.wrap IntKind.i64 (by_ * mw) + bx))) mc ++ Array.toList #[(83 : UInt8)] ++ List.drop (Int.toNat (IntKind.wrap IntKind.i64 (IntKind.wrap 
  IntKind.i64 (IntKind.wrap IntKind.i64 (by_ * mw) + bx) + (1 : Int)))) mc), V.bool mu], V.agg [V.int IntKind.i64 bx, V.int IntKind.i64 (IntKind.wrap IntKind.i64 (by_ + (1 : Int))), V.int 
  IntKind.i64 (↑(Int.toNat bd ^^^ Int.toNat (1 : Int)) : Int)]]) ∧ True) ∧ True) ∧ (K (V.tup [V.agg [V.int IntKind.i64 mw, V.int IntKind.i64 mh, V.str (List.take (Int.toNat (IntKind.wrap 
  IntKind.i64 (IntKind.wrap IntKind.i64 (by_ * mw) + bx))) mc ++ Array.toList #[(83 : UInt8)] ++ List.drop (Int.toNat (IntKind.wrap IntKind.i64 (IntKind.wrap IntKind.i64 (IntKind.wrap 
  IntKind.i64 (by_ * mw) + bx) + (1 : Int)))) mc), V.bool mu], V.agg [V.int IntKind.i64 bx, V.int IntKind.i64 (IntKind.wrap IntKind.i64 (by_ + (1 : Int))), V.int IntKind.i64 (↑(Int.toNat 
  bd ^^^ Int.toNat (1 : Int)) : Int)]]) ∧ True) ∧ True) ∧ (((↑(Int.toNat bd ^^^ Int.toNat (1 : Int)) : Int) == (2 : Int)) = false → ((K (V.tup [V.agg [V.int IntKind.i64 mw, V.int IntKind.i64 
  mh, V.str (List.take (Int.toNat (IntKind.wrap IntKind.i64 (IntKind.wrap IntKind.i64 (by_ * mw) + bx))) mc ++ Array.toList #[(83 : UInt8)] ++ List.drop (Int.toNat (IntKind.wrap IntKind.i64 
  (IntKind.wrap IntKind.i64 (IntKind.wrap IntKind.i64 (by_ * mw) + bx) + (1 : Int)))) mc), V.bool mu], V.agg [V.int IntKind.i64 (IntKind.wrap IntKind.i64 (bx - (1 : Int))), V.int IntKind.i64 
  by_, V.int IntKind.i64 (↑(Int.toNat bd ^^^ Int.toNat (1 : Int)) : Int)]]) ∧ True) ∧ True) ∧ (K (V.tup [V.agg [V.int IntKind.i64 mw, V.int IntKind.i64 mh, V.str (List.take (Int.toNat 
  (IntKind.wrap IntKind.i64 (IntKind.wrap IntKind.i64 (by_ * mw) + bx))) mc ++ Array.toList #[(83 : UInt8)] ++ List.drop (Int.toNat (IntKind.wrap IntKind.i64 (IntKind.wrap IntKind.i64 
  (IntKind.wrap IntKind.i64 (by_ * mw) + bx) + (1 : Int)))) mc), V.bool mu], V.agg [V.int IntKind.i64 (IntKind.wrap IntKind.i64 (bx - (1 : Int))), V.int IntKind.i64 by_, V.int IntKind.i64 
  (↑(Int.toNat bd ^^^ Int.toNat (1 : Int)) : Int)]]) ∧ True) ∧ True)))) ∧ (((↑(UInt8.toNat (List.getD mc (Int.toNat (IntKind.wrap IntKind.i64 (IntKind.wrap IntKind.i64 (by_ * mw) + bx))) 
  (0 : UInt8))) : Int) != (46 : Int)) = false → (((↑(Int.toNat bd ^^^ Int.toNat (1 : Int)) : Int) == (0 : Int)) = true → ((K (V.tup [V.agg [V.int IntKind.i64 mw, V.int IntKind.i64 mh, 
  V.str mc, V.bool mu], V.agg [V.int IntKind.i64 bx, V.int IntKind.i64 (IntKind.wrap IntKind.i64 (by_ - (1 : Int))), V.int IntKind.i64 (↑(Int.toNat bd ^^^ Int.toNat (1 : Int)) : Int)]]) 
  ∧ True) ∧ True) ∧ (K (V.tup [V.agg [V.int IntKind.i64 mw, V.int IntKind.i64 mh, V.str mc, V.bool mu], V.agg [V.int IntKind.i64 bx, V.int IntKind.i64 (IntKind.wrap IntKind.i64 (by_ - 
  (1 : Int))), V.int IntKind.i64 (↑(Int.toNat bd ^^^ Int.toNat (1 : Int)) : Int)]]) ∧ True) ∧ True) ∧ (((↑(Int.toNat bd ^^^ Int.toNat (1 : Int)) : Int) == (0 : Int)) = false → (((↑(Int.toNat 
  bd ^^^ Int.toNat (1 : Int)) : Int) == (1 : Int)) = true → ((K (V.tup [V.agg [V.int IntKind.i64 mw, V.int IntKind.i64 mh, V.str mc, V.bool mu], V.agg [V.int IntKind.i64 (IntKind.wrap 
  IntKind.i64 (bx + (1 : Int))), V.int IntKind.i64 by_, V.int IntKind.i64 (↑(Int.toNat bd ^^^ Int.toNat (1 : Int)) : Int)]]) ∧ True) ∧ True) ∧ (K (V.tup [V.agg [V.int IntKind.i64 mw, 
  V.int IntKind.i64 mh, V.str mc, V.bool mu], V.agg [V.int IntKind.i64 (IntKind.wrap IntKind.i64 (bx + (1 : Int))), V.int IntKind.i64 by_, V.int IntKind.i64 (↑(Int.toNat bd ^^^ Int.toNat 
  (1 : Int)) : Int)]]) ∧ True) ∧ True) ∧ (((↑(Int.toNat bd ^^^ Int.toNat (1 : Int)) : Int) == (1 : Int)) = false → (((↑(Int.toNat bd ^^^ Int.toNat (1 : Int)) : Int) == (2 : Int)) = true 
  → ((K (V.tup [V.agg [V.int IntKind.i64 mw, V.int IntKind.i64 mh, V.str mc, V.bool mu], V.agg [V.int IntKind.i64 bx, V.int IntKind.i64 (IntKind.wrap IntKind.i64 (by_ + (1 : Int))), V.int 
  IntKind.i64 (↑(Int.toNat bd ^^^ Int.toNat (1 : Int)) : Int)]]) ∧ True) ∧ True) ∧ (K (V.tup [V.agg [V.int IntKind.i64 mw, V.int IntKind.i64 mh, V.str mc, V.bool mu], V.agg [V.int IntKind.i64 
  bx, V.int IntKind.i64 (IntKind.wrap IntKind.i64 (by_ + (1 : Int))), V.int IntKind.i64 (↑(Int.toNat bd ^^^ Int.toNat (1 : Int)) : Int)]]) ∧ True) ∧ True) ∧ (((↑(Int.toNat bd ^^^ Int.toNat 
  (1 : Int)) : Int) == (2 : Int)) = false → ((K (V.tup [V.agg [V.int IntKind.i64 mw, V.int IntKind.i64 mh, V.str mc, V.bool mu], V.agg [V.int IntKind.i64 (IntKind.wrap IntKind.i64 (bx 
  - (1 : Int))), V.int IntKind.i64 by_, V.int IntKind.i64 (↑(Int.toNat bd ^^^ Int.toNat (1 : Int)) : Int)]]) ∧ True) ∧ True) ∧ (K (V.tup [V.agg [V.int IntKind.i64 mw, V.int IntKind.i64 
  mh, V.str mc, V.bool mu], V.agg [V.int IntKind.i64 (IntKind.wrap IntKind.i64 (bx - (1 : Int))), V.int IntKind.i64 by_, V.int IntKind.i64 (↑(Int.toNat bd ^^^ Int.toNat (1 : Int)) : Int)]]) 
  ∧ True) ∧ True))))) ∧ (mu = false → (((↑(Int.toNat bd ^^^ Int.toNat (1 : Int)) : Int) == (0 : Int)) = true → ((K (V.tup [V.agg [V.int IntKind.i64 mw, V.int IntKind.i64 mh, V.str mc, 
  V.bool mu], V.agg [V.int IntKind.i64 bx, V.int IntKind.i64 (IntKind.wrap IntKind.i64 (by_ - (1 : Int))), V.int IntKind.i64 (↑(Int.toNat bd ^^^ Int.toNat (1 : Int)) : Int)]]) ∧ True) 
  ∧ True) ∧ (K (V.tup [V.agg [V.int IntKind.i64 mw, V.int IntKind.i64 mh, V.str mc, V.bool mu], V.agg [V.int IntKind.i64 bx, V.int IntKind.i64 (IntKind.wrap IntKind.i64 (by_ - (1 : Int))), 
  V.int IntKind.i64 (↑(Int.toNat bd ^^^ Int.toNat (1 : Int)) : Int)]]) ∧ True) ∧ True) ∧ (((↑(Int.toNat bd ^^^ Int.toNat (1 : Int)) : Int) == (0 : Int)) = false → (((↑(Int.toNat bd ^^^ 
  Int.toNat (1 : Int)) : Int) == (1 : Int)) = true → ((K (V.tup [V.agg [V.int IntKind.i64 mw, V.int IntKind.i64 mh, V.str mc, V.bool mu], V.agg [V.int IntKind.i64 (IntKind.wrap IntKind.i64 
  (bx + (1 : Int))), V.int IntKind.i64 by_, V.int IntKind.i64 (↑(Int.toNat bd ^^^ Int.toNat (1 : Int)) : Int)]]) ∧ True) ∧ True) ∧ (K (V.tup [V.agg [V.int IntKind.i64 mw, V.int IntKind.i64 
  mh, V.str mc, V.bool mu], V.agg [V.int IntKind.i64 (IntKind.wrap IntKind.i64 (bx + (1 : Int))), V.int IntKind.i64 by_, V.int IntKind.i64 (↑(Int.toNat bd ^^^ Int.toNat (1 : Int)) : Int)]]) 
  ∧ True) ∧ True) ∧ (((↑(Int.toNat bd ^^^ Int.toNat (1 : Int)) : Int) == (1 : Int)) = false → (((↑(Int.toNat bd ^^^ Int.toNat (1 : Int)) : Int) == (2 : Int)) = true → ((K (V.tup [V.agg 
  [V.int IntKind.i64 mw, V.int IntKind.i64 mh, V.str mc, V.bool mu], V.agg [V.int IntKind.i64 bx, V.int IntKind.i64 (IntKind.wrap IntKind.i64 (by_ + (1 : Int))), V.int IntKind.i64 (↑(Int.toNat 
  bd ^^^ Int.toNat (1 : Int)) : Int)]]) ∧ True) ∧ True) ∧ (K (V.tup [V.agg [V.int IntKind.i64 mw, V.int IntKind.i64 mh, V.str mc, V.bool mu], V.agg [V.int IntKind.i64 bx, V.int IntKind.i64 
  (IntKind.wrap IntKind.i64 (by_ + (1 : Int))), V.int IntKind.i64 (↑(Int.toNat bd ^^^ Int.toNat (1 : Int)) : Int)]]) ∧ True) ∧ True) ∧ (((↑(Int.toNat bd ^^^ Int.toNat (1 : Int)) : Int) 
  == (2 : Int)) = false → ((K (V.tup [V.agg [V.int IntKind.i64 mw, V.int IntKind.i64 mh, V.str mc, V.bool mu], V.agg [V.int IntKind.i64 (IntKind.wrap IntKind.i64 (bx - (1 : Int))), V.int 
  IntKind.i64 by_, V.int IntKind.i64 (↑(Int.toNat bd ^^^ Int.toNat (1 : Int)) : Int)]]) ∧ True) ∧ True) ∧ (K (V.tup [V.agg [V.int IntKind.i64 mw, V.int IntKind.i64 mh, V.str mc, V.bool 
  mu], V.agg [V.int IntKind.i64 (IntKind.wrap IntKind.i64 (bx - (1 : Int))), V.int IntKind.i64 by_, V.int IntKind.i64 (↑(Int.toNat bd ^^^ Int.toNat (1 : Int)) : Int)]]) ∧ True) ∧ True))))) 
  ∧ (((↑(UInt8.toNat (List.getD mc (Int.toNat (IntKind.wrap IntKind.i64 (IntKind.wrap IntKind.i64 (by_ * mw) + bx))) (0 : UInt8))) : Int) == (90 : Int)) = false → (((↑(UInt8.toNat (List.getD 
  mc (Int.toNat (IntKind.wrap IntKind.i64 (IntKind.wrap IntKind.i64 (by_ * mw) + bx))) (0 : UInt8))) : Int) == (83 : Int)) = true → (mu = true → (((↑(UInt8.toNat (List.getD mc (Int.toNat 
  (IntKind.wrap IntKind.i64 (IntKind.wrap IntKind.i64 (by_ * mw) + bx))) (0 : UInt8))) : Int) != (46 : Int)) = true → True ∧ At ((0 : Int) ≤ IntKind.wrap IntKind.i64 (IntKind.wrap IntKind.i64 
  (by_ * mw) + bx) ∧ IntKind.wrap IntKind.i64 (IntKind.wrap IntKind.i64 (by_ * mw) + bx) ≤ (↑(List.length mc) : Int)) ∧ At (List.length (List.take (Int.toNat (IntKind.wrap IntKind.i64 
  (IntKind.wrap IntKind.i64 (by_ * mw) + bx))) mc) + List.length (Array.toList #[(90 : UInt8)]) ≤ (9223372036854775807 : Nat)) ∧ At ((0 : Int) ≤ IntKind.wrap IntKind.i64 (IntKind.wrap 
  IntKind.i64 (IntKind.wrap IntKind.i64 (by_ * mw) + bx) + (1 : Int)) ∧ IntKind.wrap IntKind.i64 (IntKind.wrap IntKind.i64 (IntKind.wrap IntKind.i64 (by_ * mw) + bx) + (1 : Int)) ≤ (↑(List.length 
  mc) : Int)) ∧ At (List.length (List.take (Int.toNat (IntKind.wrap IntKind.i64 (IntKind.wrap IntKind.i64 (by_ * mw) + bx))) mc ++ Array.toList #[(90 : UInt8)]) + List.length (List.drop 
  (Int.toNat (IntKind.wrap IntKind.i64 (IntKind.wrap IntKind.i64 (IntKind.wrap IntKind.i64 (by_ * mw) + bx) + (1 : Int)))) mc) ≤ (9223372036854775807 : Nat)) ∧ ((IntKind.wrap IntKind.i64 
  ((3 : Int) - bd) == (0 : Int)) = true → ((K (V.tup [V.agg [V.int IntKind.i64 mw, V.int IntKind.i64 mh, V.str (List.take (Int.toNat (IntKind.wrap IntKind.i64 (IntKind.wrap IntKind.i64 
  (by_ * mw) + bx))) mc ++ Array.toList #[(90 : UInt8)] ++ List.drop (Int.toNat (IntKind.wrap IntKind.i64 (IntKind.wrap IntKind.i64 (IntKind.wrap IntKind.i64 (by_ * mw) + bx) + (1 : Int)))) 
  mc), V.bool mu], V.agg [V.int IntKind.i64 bx, V.int IntKind.i64 (IntKind.wrap IntKind.i64 (by_ - (1 : Int))), V.int IntKind.i64 (IntKind.wrap IntKind.i64 ((3 : Int) - bd))]]) ∧ True) 
  ∧ True) ∧ (K (V.tup [V.agg [V.int IntKind.i64 mw, V.int IntKind.i64 mh, V.str (List.take (Int.toNat (IntKind.wrap IntKind.i64 (IntKind.wrap IntKind.i64 (by_ * mw) + bx))) mc ++ Array.toList 
  #[(90 : UInt8)] ++ List.drop (Int.toNat (IntKind.wrap IntKind.i64 (IntKind.wrap IntKind.i64 (IntKind.wrap IntKind.i64 (by_ * mw) + bx) + (1 : Int)))) mc), V.bool mu], V.agg [V.int IntKind.i64 
  bx, V.int IntKind.i64 (IntKind.wrap IntKind.i64 (by_ - (1 : Int))), V.int IntKind.i64 (IntKind.wrap IntKind.i64 ((3 : Int) - bd))]]) ∧ True) ∧ True) ∧ ((IntKind.wrap IntKind.i64 ((3 
  : Int) - bd) == (0 : Int)) = false → ((IntKind.wrap IntKind.i64 ((3 : Int) - bd) == (1 : Int)) = true → ((K (V.tup [V.agg [V.int IntKind.i64 mw, V.int IntKind.i64 mh, V.str (List.take 
  (Int.toNat (IntKind.wrap IntKind.i64 (IntKind.wrap IntKind.i64 (by_ * mw) + bx))) mc ++ Array.toList #[(90 : UInt8)] ++ List.drop (Int.toNat (IntKind.wrap IntKind.i64 (IntKind.wrap 
  IntKind.i64 (IntKind.wrap IntKind.i64 (by_ * mw) + bx) + (1 : Int)))) mc), V.bool mu], V.agg [V.int IntKind.i64 (IntKind.wrap IntKind.i64 (bx + (1 : Int))), V.int IntKind.i64 by_, V.int 
  IntKind.i64 (IntKind.wrap IntKind.i64 ((3 : Int) - bd))]]) ∧ True) ∧ True) ∧ (K (V.tup [V.agg [V.int IntKind.i64 mw, V.int IntKind.i64 mh, V.str (List.take (Int.toNat (IntKind.wrap 
  IntKind.i64 (IntKind.wrap IntKind.i64 (by_ * mw) + bx))) mc ++ Array.toList #[(90 : UInt8)] ++ List.drop (Int.toNat (IntKind.wrap IntKind.i64 (IntKind.wrap IntKind.i64 (IntKind.wrap 
  IntKind.i64 (by_ * mw) + bx) + (1 : Int)))) mc), V.bool mu], V.agg [V.int IntKind.i64 (IntKind.wrap IntKind.i64 (bx + (1 : Int))), V.int IntKind.i64 by_, V.int IntKind.i64 (IntKind.wrap 
  IntKind.i64 ((3 : Int) - bd))]]) ∧ True) ∧ True) ∧ ((IntKind.wrap IntKind.i64 ((3 : Int) - bd) == (1 : Int)) = false → ((IntKind.wrap IntKind.i64 ((3 : Int) - bd) == (2 : Int)) = true 
  → ((K (V.tup [V.agg [V.int IntKind.i64 mw, V.int IntKind.i64 mh, V.str (List.take (Int.toNat (IntKind.wrap IntKind.i64 (IntKind.wrap IntKind.i64 (by_ * mw) + bx))) mc ++ Array.toList 
  #[(90 : UInt8)] ++ List.drop (Int.toNat (IntKind.wrap IntKind.i64 (IntKind.wrap IntKind.i64 (IntKind.wrap IntKind.i64 (by_ * mw) + bx) + (1 : Int)))) mc), V.bool mu], V.agg [V.int IntKind.i64 
  bx, V.int IntKind.i64 (IntKind.wrap IntKind.i64 (by_ + (1 : Int))), V.int IntKind.i64 (IntKind.wrap IntKind.i64 ((3 : Int) - bd))]]) ∧ True) ∧ True) ∧ (K (V.tup [V.agg [V.int IntKind.i64 
  mw, V.int IntKind.i64 mh, V.str (List.take (Int.toNat (IntKind.wrap IntKind.i64 (IntKind.wrap IntKind.i64 (by_ * mw) + bx))) mc ++ Array.toList #[(90 : UInt8)] ++ List.drop (Int.toNat 
  (IntKind.wrap IntKind.i64 (IntKind.wrap IntKind.i64 (IntKind.wrap IntKind.i64 (by_ * mw) + bx) + (1 : Int)))) mc), V.bool mu], V.agg [V.int IntKind.i64 bx, V.int IntKind.i64 (IntKind.wrap 
  IntKind.i64 (by_ + (1 : Int))), V.int IntKind.i64 (IntKind.wrap IntKind.i64 ((3 : Int) - bd))]]) ∧ True) ∧ True) ∧ ((IntKind.wrap IntKind.i64 ((3 : Int) - bd) == (2 : Int)) = false 
  → ((K (V.tup [V.agg [V.int IntKind.i64 mw, V.int IntKind.i64 mh, V.str (List.take (Int.toNat (IntKind.wrap IntKind.i64 (IntKind.wrap IntKind.i64 (by_ * mw) + bx))) mc ++ Array.toList 
  #[(90 : UInt8)] ++ List.drop (Int.toNat (IntKind.wrap IntKind.i64 (IntKind.wrap IntKind.i64 (IntKind.wrap IntKind.i64 (by_ * mw) + bx) + (1 : Int)))) mc), V.bool mu], V.agg [V.int IntKind.i64 
  (IntKind.wrap IntKind.i64 (bx - (1 : Int))), V.int IntKind.i64 by_, V.int IntKind.i64 (IntKind.wrap IntKind.i64 ((3 : Int) - bd))]]) ∧ True) ∧ True) ∧ (K (V.tup [V.agg [V.int IntKind.i64 
  mw, V.int IntKind.i64 mh, V.str (List.take (Int.toNat (IntKind.wrap IntKind.i64 (IntKind.wrap IntKind.i64 (by_ * mw) + bx))) mc ++ Array.toList #[(90 : UInt8)] ++ List.drop (Int.toNat 
  (IntKind.wrap IntKind.i64 (IntKind.wrap IntKind.i64 (IntKind.wrap IntKind.i64 (by_ * mw) + bx) + (1 : Int)))) mc), V.bool mu], V.agg [V.int IntKind.i64 (IntKind.wrap IntKind.i64 (bx 
  - (1 : Int))), V.int IntKind.i64 by_, V.int IntKind.i64 (IntKind.wrap IntKind.i64 ((3 : Int) - bd))]]) ∧ True) ∧ True)))) ∧ (((↑(UInt8.toNat (List.getD mc (Int.toNat (IntKind.wrap IntKind.i64 
  (IntKind.wrap IntKind.i64 (by_ * mw) + bx))) (0 : UInt8))) : Int) != (46 : Int)) = false → ((IntKind.wrap IntKind.i64 ((3 : Int) - bd) == (0 : Int)) = true → ((K (V.tup [V.agg [V.int 
  IntKind.i64 mw, V.int IntKind.i64 mh, V.str mc, V.bool mu], V.agg [V.int IntKind.i64 bx, V.int IntKind.i64 (IntKind.wrap IntKind.i64 (by_ - (1 : Int))), V.int IntKind.i64 (IntKind.wrap 
  IntKind.i64 ((3 : Int) - bd))]]) ∧ True) ∧ True) ∧ (K (V.tup [V.agg [V.int IntKind.i64 mw, V.int IntKind.i64 mh, V.str mc, V.bool mu], V.agg [V.int IntKind.i64 bx, V.int IntKind.i64 
  (IntKind.wrap IntKind.i64 (by_ - (1 : Int))), V.int IntKind.i64 (IntKind.wrap IntKind.i64 ((3 : Int) - bd))]]) ∧ True) ∧ True) ∧ ((IntKind.wrap IntKind.i64 ((3 : Int) - bd) == (0 : 
  Int)) = false → ((IntKind.wrap IntKind.i64 ((3 : Int) - bd) == (1 : Int)) = true → ((K (V.tup [V.agg [V.int IntKind.i64 mw, V.int IntKind.i64 mh, V.str mc, V.bool mu], V.agg [V.int 
  IntKind.i64 (IntKind.wrap IntKind.i64 (bx + (1 : Int))), V.int IntKind.i64 by_, V.int IntKind.i64 (IntKind.wrap IntKind.i64 ((3 : Int) - bd))]]) ∧ True) ∧ True) ∧ (K (V.tup [V.agg [V.int 
  IntKind.i64 mw, V.int IntKind.i64 mh, V.str mc, V.bool mu], V.agg [V.int IntKind.i64 (IntKind.wrap IntKind.i64 (bx + (1 : Int))), V.int IntKind.i64 by_, V.int IntKind.i64 (IntKind.wrap 
  IntKind.i64 ((3 : Int) - bd))]]) ∧ True) ∧ True) ∧ ((IntKind.wrap IntKind.i64 ((3 : Int) - bd) == (1 : Int)) = false → ((IntKind.wrap IntKind.i64 ((3 : Int) - bd) == (2 : Int)) = true 
  → ((K (V.tup [V.agg [V.int IntKind.i64 mw, V.int IntKind.i64 mh, V.str mc, V.bool mu], V.agg [V.int IntKind.i64 bx, V.int IntKind.i64 (IntKind.wrap IntKind.i64 (by_ + (1 : Int))), V.int 
  IntKind.i64 (IntKind.wrap IntKind.i64 ((3 : Int) - bd))]]) ∧ True) ∧ True) ∧ (K (V.tup [V.agg [V.int IntKind.i64 mw, V.int IntKind.i64 mh, V.str mc, V.bool mu], V.agg [V.int IntKind.i64 
  bx, V.int IntKind.i64 (IntKind.wrap IntKind.i64 (by_ + (1 : Int))), V.int IntKind.i64 (IntKind.wrap IntKind.i64 ((3 : Int) - bd))]]) ∧ True) ∧ True) ∧ ((IntKind.wrap IntKind.i64 ((3 
  : Int) - bd) == (2 : Int)) = false → ((K (V.tup [V.agg [V.int IntKind.i64 mw, V.int IntKind.i64 mh, V.str mc, V.bool mu], V.agg [V.int IntKind.i64 (IntKind.wrap IntKind.i64 (bx - (1 
  : Int))), V.int IntKind.i64 by_, V.int IntKind.i64 (IntKind.wrap IntKind.i64 ((3 : Int) - bd))]]) ∧ True) ∧ True) ∧ (K (V.tup [V.agg [V.int IntKind.i64 mw, V.int IntKind.i64 mh, V.str 
  mc, V.bool mu], V.agg [V.int IntKind.i64 (IntKind.wrap IntKind.i64 (bx - (1 : Int))), V.int IntKind.i64 by_, V.int IntKind.i64 (IntKind.wrap IntKind.i64 ((3 : Int) - bd))]]) ∧ True) 
  ∧ True))))) ∧ (mu = false → ((IntKind.wrap IntKind.i64 ((3 : Int) - bd) == (0 : Int)) = true → ((K (V.tup [V.agg [V.int IntKind.i64 mw, V.int IntKind.i64 mh, V.str mc, V.bool mu], V.agg 
  [V.int IntKind.i64 bx, V.int IntKind.i64 (IntKind.wrap IntKind.i64 (by_ - (1 : Int))), V.int IntKind.i64 (IntKind.wrap IntKind.i64 ((3 : Int) - bd))]]) ∧ True) ∧ True) ∧ (K (V.tup [V.agg 
  [V.int IntKind.i64 mw, V.int IntKind.i64 mh, V.str mc, V.bool mu], V.agg [V.int IntKind.i64 bx, V.int IntKind.i64 (IntKind.wrap IntKind.i64 (by_ - (1 : Int))), V.int IntKind.i64 (IntKind.wrap 
  IntKind.i64 ((3 : Int) - bd))]]) ∧ True) ∧ True) ∧ ((IntKind.wrap IntKind.i64 ((3 : Int) - bd) == (0 : Int)) = false → ((IntKind.wrap IntKind.i64 ((3 : Int) - bd) == (1 : Int)) = true 
  → ((K (V.tup [V.agg [V.int IntKind.i64 mw, V.int IntKind.i64 mh, V.str mc, V.bool mu], V.agg [V.int IntKind.i64 (IntKind.wrap IntKind.i64 (bx + (1 : Int))), V.int IntKind.i64 by_, V.int 
  IntKind.i64 (IntKind.wrap IntKind.i64 ((3 : Int) - bd))]]) ∧ True) ∧ True) ∧ (K (V.tup [V.agg [V.int IntKind.i64 mw, V.int IntKind.i64 mh, V.str mc, V.bool mu], V.agg [V.int IntKind.i64 
  (IntKind.wrap IntKind.i64 (bx + (1 : Int))), V.int IntKind.i64 by_, V.int IntKind.i64 (IntKind.wrap IntKind.i64 ((3 : Int) - bd))]]) ∧ True) ∧ True) ∧ ((IntKind.wrap IntKind.i64 ((3 
  : Int) - bd) == (1 : Int)) = false → ((IntKind.wrap IntKind.i64 ((3 : Int) - bd) == (2 : Int)) = true → ((K (V.tup [V.agg [V.int IntKind.i64 mw, V.int IntKind.i64 mh, V.str mc, V.bool 
  mu], V.agg [V.int IntKind.i64 bx, V.int IntKind.i64 (IntKind.wrap IntKind.i64 (by_ + (1 : Int))), V.int IntKind.i64 (IntKind.wrap IntKind.i64 ((3 : Int) - bd))]]) ∧ True) ∧ True) ∧ 
  (K (V.tup [V.agg [V.int IntKind.i64 mw, V.int IntKind.i64 mh, V.str mc, V.bool mu], V.agg [V.int IntKind.i64 bx, V.int IntKind.i64 (IntKind.wrap IntKind.i64 (by_ + (1 : Int))), V.int 
  IntKind.i64 (IntKind.wrap IntKind.i64 ((3 : Int) - bd))]]) ∧ True) ∧ True) ∧ ((IntKind.wrap IntKind.i64 ((3 : Int) - bd) == (2 : Int)) = false → ((K (V.tup [V.agg [V.int IntKind.i64 
  mw, V.int IntKind.i64 mh, V.str mc, V.bool mu], V.agg [V.int IntKind.i64 (IntKind.wrap IntKind.i64 (bx - (1 : Int))), V.int IntKind.i64 by_, V.int IntKind.i64 (IntKind.wrap IntKind.i64 
  ((3 : Int) - bd))]]) ∧ True) ∧ True) ∧ (K (V.tup [V.agg [V.int IntKind.i64 mw, V.int IntKind.i64 mh, V.str mc, V.bool mu], V.agg [V.int IntKind.i64 (IntKind.wrap IntKind.i64 (bx - (1 
  : Int))), V.int IntKind.i64 by_, V.int IntKind.i64 (IntKind.wrap IntKind.i64 ((3 : Int) - bd))]]) ∧ True) ∧ True))))) ∧ (((↑(UInt8.toNat (List.getD mc (Int.toNat (IntKind.wrap IntKind.i64 
  (IntKind.wrap IntKind.i64 (by_ * mw) + bx))) (0 : UInt8))) : Int) == (83 : Int)) = false → (mu = true → (((↑(UInt8.toNat (List.getD mc (Int.toNat (IntKind.wrap IntKind.i64 (IntKind.wrap 
  IntKind.i64 (by_ * mw) + bx))) (0 : UInt8))) : Int) != (46 : Int)) = true → True ∧ At ((0 : Int) ≤ IntKind.wrap IntKind.i64 (IntKind.wrap IntKind.i64 (by_ * mw) + bx) ∧ IntKind.wrap 
  IntKind.i64 (IntKind.wrap IntKind.i64 (by_ * mw) + bx) ≤ (↑(List.length mc) : Int)) ∧ At (List.length (List.take (Int.toNat (IntKind.wrap IntKind.i64 (IntKind.wrap IntKind.i64 (by_ 
  * mw) + bx))) mc) + List.length (Array.toList #[(46 : UInt8)]) ≤ (9223372036854775807 : Nat)) ∧ At ((0 : Int) ≤ IntKind.wrap IntKind.i64 (IntKind.wrap IntKind.i64 (IntKind.wrap IntKind.i64 
  (by_ * mw) + bx) + (1 : Int)) ∧ IntKind.wrap IntKind.i64 (IntKind.wrap IntKind.i64 (IntKind.wrap IntKind.i64 (by_ * mw) + bx) + (1 : Int)) ≤ (↑(List.length mc) : Int)) ∧ At (List.length 
  (List.take (Int.toNat (IntKind.wrap IntKind.i64 (IntKind.wrap IntKind.i64 (by_ * mw) + bx))) mc ++ Array.toList #[(46 : UInt8)]) + List.length (List.drop (Int.toNat (IntKind.wrap IntKind.i64 
  (IntKind.wrap IntKind.i64 (IntKind.wrap IntKind.i64 (by_ * mw) + bx) + (1 : Int)))) mc) ≤ (9223372036854775807 : Nat)) ∧ ((bd == (0 : Int)) = true → ((K (V.tup [V.agg [V.int IntKind.i64 
  mw, V.int IntKind.i64 mh, V.str (List.take (Int.toNat (IntKind.wrap IntKind.i64 (IntKind.wrap IntKind.i64 (by_ * mw) + bx))) mc ++ Array.toList #[(46 : UInt8)] ++ List.drop (Int.toNat 
  (IntKind.wrap IntKind.i64 (IntKind.wrap IntKind.i64 (IntKind.wrap IntKind.i64 (by_ * mw) + bx) + (1 : Int)))) mc), V.bool mu], V.agg [V.int IntKind.i64 bx, V.int IntKind.i64 (IntKind.wrap 
  IntKind.i64 (by_ - (1 : Int))), V.int IntKind.i64 bd]]) ∧ True) ∧ True) ∧ (K (V.tup [V.agg [V.int IntKind.i64 mw, V.int IntKind.i64 mh, V.str (List.take (Int.toNat (IntKind.wrap IntKind.i64 
  (IntKind.wrap IntKind.i64 (by_ * mw) + bx))) mc ++ Array.toList #[(46 : UInt8)] ++ List.drop (Int.toNat (IntKind.wrap IntKind.i64 (IntKind.wrap IntKind.i64 (IntKind.wrap IntKind.i64 
  (by_ * mw) + bx) + (1 : Int)))) mc), V.bool mu], V.agg [V.int IntKind.i64 bx, V.int IntKind.i64 (IntKind.wrap IntKind.i64 (by_ - (1 : Int))), V.int IntKind.i64 bd]]) ∧ True) ∧ True) 
  ∧ ((bd == (0 : Int)) = false → ((bd == (1 : Int)) = true → ((K (V.tup [V.agg [V.int IntKind.i64 mw, V.int IntKind.i64 mh, V.str (List.take (Int.toNat (IntKind.wrap IntKind.i64 (IntKind.wrap 
  IntKind.i64 (by_ * mw) + bx))) mc ++ Array.toList #[(46 : UInt8)] ++ List.drop (Int.toNat (IntKind.wrap IntKind.i64 (IntKind.wrap IntKind.i64 (IntKind.wrap IntKind.i64 (by_ * mw) + 
  bx) + (1 : Int)))) mc), V.bool mu], V.agg [V.int IntKind.i64 (IntKind.wrap IntKind.i64 (bx + (1 : Int))), V.int IntKind.i64 by_, V.int IntKind.i64 bd]]) ∧ True) ∧ True) ∧ (K (V.tup 
  [V.agg [V.int IntKind.i64 mw, V.int IntKind.i64 mh, V.str (List.take (Int.toNat (IntKind.wrap IntKind.i64 (IntKind.wrap IntKind.i64 (by_ * mw) + bx))) mc ++ Array.toList #[(46 : UInt8)] 
  ++ List.drop (Int.toNat (IntKind.wrap IntKind.i64 (IntKind.wrap IntKind.i64 (IntKind.wrap IntKind.i64 (by_ * mw) + bx) + (1 : Int)))) mc), V.bool mu], V.agg [V.int IntKind.i64 (IntKind.wrap 
  IntKind.i64 (bx + (1 : Int))), V.int IntKind.i64 by_, V.int IntKind.i64 bd]]) ∧ True) ∧ True) ∧ ((bd == (1 : Int)) = false → ((bd == (2 : Int)) = true → ((K (V.tup [V.agg [V.int IntKind.i64 
  mw, V.int IntKind.i64 mh, V.str (List.take (Int.toNat (IntKind.wrap IntKind.i64 (IntKind.wrap IntKind.i64 (by_ * mw) + bx))) mc ++ Array.toList #[(46 : UInt8)] ++ List.drop (Int.toNat 
  (IntKind.wrap IntKind.i64 (IntKind.wrap IntKind.i64 (IntKind.wrap IntKind.i64 (by_ * mw) + bx) + (1 : Int)))) mc), V.bool mu], V.agg [V.int IntKind.i64 bx, V.int IntKind.i64 (IntKind.wrap 
  IntKind.i64 (by_ + (1 : Int))), V.int IntKind.i64 bd]]) ∧ True) ∧ True) ∧ (K (V.tup [V.agg [V.int IntKind.i64 mw, V.int IntKind.i64 mh, V.str (List.take (Int.toNat (IntKind.wrap IntKind.i64 
  (IntKind.wrap IntKind.i64 (by_ * mw) + bx))) mc ++ Array.toList #[(46 : UInt8)] ++ List.drop (Int.toNat (IntKind.wrap IntKind.i64 (IntKind.wrap IntKind.i64 (IntKind.wrap IntKind.i64 
  (by_ * mw) + bx) + (1 : Int)))) mc), V.bool mu], V.agg [V.int IntKind.i64 bx, V.int IntKind.i64 (IntKind.wrap IntKind.i64 (by_ + (1 : Int))), V.int IntKind.i64 bd]]) ∧ True) ∧ True) 
  ∧ ((bd == (2 : Int)) = false → ((K (V.tup [V.agg [V.int IntKind.i64 mw, V.int IntKind.i64 mh, V.str (List.take (Int.toNat (IntKind.wrap IntKind.i64 (IntKind.wrap IntKind.i64 (by_ * 
  mw) + bx))) mc ++ Array.toList #[(46 : UInt8)] ++ List.drop (Int.toNat (IntKind.wrap IntKind.i64 (IntKind.wrap IntKind.i64 (IntKind.wrap IntKind.i64 (by_ * mw) + bx) + (1 : Int)))) 
  mc), V.bool mu], V.agg [V.int IntKind.i64 (IntKind.wrap IntKind.i64 (bx - (1 : Int))), V.int IntKind.i64 by_, V.int IntKind.i64 bd]]) ∧ True) ∧ True) ∧ (K (V.tup [V.agg [V.int IntKind.i64 
  mw, V.int IntKind.i64 mh, V.str (List.take (Int.toNat (IntKind.wrap IntKind.i64 (IntKind.wrap IntKind.i64 (by_ * mw) + bx))) mc ++ Array.toList #[(46 : UInt8)] ++ List.drop (Int.toNat 
  (IntKind.wrap IntKind.i64 (IntKind.wrap IntKind.i64 (IntKind.wrap IntKind.i64 (by_ * mw) + bx) + (1 : Int)))) mc), V.bool mu], V.agg [V.int IntKind.i64 (IntKind.wrap IntKind.i64 (bx 
  - (1 : Int))), V.int IntKind.i64 by_, V.int IntKind.i64 bd]]) ∧ True) ∧ True)))) ∧ (((↑(UInt8.toNat (List.getD mc (Int.toNat (IntKind.wrap IntKind.i64 (IntKind.wrap IntKind.i64 (by_ 
  * mw) + bx))) (0 : UInt8))) : Int) != (46 : Int)) = false → ((bd == (0 : Int)) = true → ((K (V.tup [V.agg [V.int IntKind.i64 mw, V.int IntKind.i64 mh, V.str mc, V.bool mu], V.agg [V.int 
  IntKind.i64 bx, V.int IntKind.i64 (IntKind.wrap IntKind.i64 (by_ - (1 : Int))), V.int IntKind.i64 bd]]) ∧ True) ∧ True) ∧ (K (V.tup [V.agg [V.int IntKind.i64 mw, V.int IntKind.i64 mh, 
  V.str mc, V.bool mu], V.agg [V.int IntKind.i64 bx, V.int IntKind.i64 (IntKind.wrap IntKind.i64 (by_ - (1 : Int))), V.int IntKind.i64 bd]]) ∧ True) ∧ True) ∧ ((bd == (0 : Int)) = false 
  → ((bd == (1 : Int)) = true → ((K (V.tup [V.agg [V.int IntKind.i64 mw, V.int IntKind.i64 mh, V.str mc, V.bool mu], V.agg [V.int IntKind.i64 (IntKind.wrap IntKind.i64 (bx + (1 : Int))), 
  V.int IntKind.i64 by_, V.int IntKind.i64 bd]]) ∧ True) ∧ True) ∧ (K (V.tup [V.agg [V.int IntKind.i64 mw, V.int IntKind.i64 mh, V.str mc, V.bool mu], V.agg [V.int IntKind.i64 (IntKind.wrap 
  IntKind.i64 (bx + (1 : Int))), V.int IntKind.i64 by_, V.int IntKind.i64 bd]]) ∧ True) ∧ True) ∧ ((bd == (1 : Int)) = false → ((bd == (2 : Int)) = true → ((K (V.tup [V.agg [V.int IntKind.i64 
  mw, V.int IntKind.i64 mh, V.str mc, V.bool mu], V.agg [V.int IntKind.i64 bx, V.int IntKind.i64 (IntKind.wrap IntKind.i64 (by_ + (1 : Int))), V.int IntKind.i64 bd]]) ∧ True) ∧ True) 
  ∧ (K (V.tup [V.agg [V.int IntKind.i64 mw, V.int IntKind.i64 mh, V.str mc, V.bool mu], V.agg [V.int IntKind.i64 bx, V.int IntKind.i64 (IntKind.wrap IntKind.i64 (by_ + (1 : Int))), V.int 
  IntKind.i64 bd]]) ∧ True) ∧ True) ∧ ((bd == (2 : Int)) = false → ((K (V.tup [V.agg [V.int IntKind.i64 mw, V.int IntKind.i64 mh, V.str mc, V.bool mu], V.agg [V.int IntKind.i64 (IntKind.wrap 
  IntKind.i64 (bx - (1 : Int))), V.int IntKind.i64 by_, V.int IntKind.i64 bd]]) ∧ True) ∧ True) ∧ (K (V.tup [V.agg [V.int IntKind.i64 mw, V.int IntKind.i64 mh, V.str mc, V.bool mu], V.agg 
  [V.int IntKind.i64 (IntKind.wrap IntKind.i64 (bx - (1 : Int))), V.int IntKind.i64 by_, V.int IntKind.i64 bd]]) ∧ True) ∧ True))))) ∧ (mu = false → ((bd == (0 : Int)) = true → ((K (V.tup 
  [V.agg [V.int IntKind.i64 mw, V.int IntKind.i64 mh, V.str mc, V.bool mu], V.agg [V.int IntKind.i64 bx, V.int IntKind.i64 (IntKind.wrap IntKind.i64 (by_ - (1 : Int))), V.int IntKind.i64 
  bd]]) ∧ True) ∧ True) ∧ (K (V.tup [V.agg [V.int IntKind.i64 mw, V.int IntKind.i64 mh, V.str mc, V.bool mu], V.agg [V.int IntKind.i64 bx, V.int IntKind.i64 (IntKind.wrap IntKind.i64 
  (by_ - (1 : Int))), V.int IntKind.i64 bd]]) ∧ True) ∧ True) ∧ ((bd == (0 : Int)) = false → ((bd == (1 : Int)) = true → ((K (V.tup [V.agg [V.int IntKind.i64 mw, V.int IntKind.i64 mh, 
  V.str mc, V.bool mu], V.agg [V.int IntKind.i64 (IntKind.wrap IntKind.i64 (bx + (1 : Int))), V.int IntKind.i64 by_, V.int IntKind.i64 bd]]) ∧ True) ∧ True) ∧ (K (V.tup [V.agg [V.int 
  IntKind.i64 mw, V.int IntKind.i64 mh, V.str mc, V.bool mu], V.agg [V.int IntKind.i64 (IntKind.wrap IntKind.i64 (bx + (1 : Int))), V.int IntKind.i64 by_, V.int IntKind.i64 bd]]) ∧ True) 
  ∧ True) ∧ ((bd == (1 : Int)) = false → ((bd == (2 : Int)) = true → ((K (V.tup [V.agg [V.int IntKind.i64 mw, V.int IntKind.i64 mh, V.str mc, V.bool mu], V.agg [V.int IntKind.i64 bx, 
  V.int IntKind.i64 (IntKind.wrap IntKind.i64 (by_ + (1 : Int))), V.int IntKind.i64 bd]]) ∧ True) ∧ True) ∧ (K (V.tup [V.agg [V.int IntKind.i64 mw, V.int IntKind.i64 mh, V.str mc, V.bool 
  mu], V.agg [V.int IntKind.i64 bx, V.int IntKind.i64 (IntKind.wrap IntKind.i64 (by_ + (1 : Int))), V.int IntKind.i64 bd]]) ∧ True) ∧ True) ∧ ((bd == (2 : Int)) = false → ((K (V.tup [V.agg 
  [V.int IntKind.i64 mw, V.int IntKind.i64 mh, V.str mc, V.bool mu], V.agg [V.int IntKind.i64 (IntKind.wrap IntKind.i64 (bx - (1 : Int))), V.int IntKind.i64 by_, V.int IntKind.i64 bd]]) 
  ∧ True) ∧ True) ∧ (K (V.tup [V.agg [V.int IntKind.i64 mw, V.int IntKind.i64 mh, V.str mc, V.bool mu], V.agg [V.int IntKind.i64 (IntKind.wrap IntKind.i64 (bx - (1 : Int))), V.int IntKind.i64 
  by_, V.int IntKind.i64 bd]]) ∧ True) ∧ True))))))

def VC_impl_otherMirror (b : Int) (K : V → Prop) : Prop :=
  ((b == (90 : Int)) = true → K (V.int IntKind.u8 (83 : Int))) ∧
  ((b == (90 : Int)) = false →
    ((b == (83 : Int)) = true → K (V.int IntKind.u8 (90 : Int))) ∧ ((b == (83 : Int)) = false → K (V.int IntKind.u8 b)))

def VC_impl_wayBehind (b : Int) (d : Int) (K : V → Prop) : Prop :=
  ((b == (90 : Int)) = true →
    At ((0 : Int) ≤ d ∧ d < (2147483648 : Int) ∧ (0 : Int) ≤ (1 : Int) ∧ (1 : Int) < (2147483648 : Int)) ∧
      K (V.int IntKind.i64 (↑(Int.toNat d ^^^ Int.toNat (1 : Int)) : Int))) ∧
  ((b == (90 : Int)) = false →
    ((b == (83 : Int)) = true → K (V.int IntKind.i64 (IntKind.wrap IntKind.i64 ((3 : Int) - d)))) ∧
      ((b == (83 : Int)) = false → K (V.int IntKind.i64 d)))

def VC_impl_direction (d : Int) (K : V → Prop) : Prop :=
  ((d == (0 : Int)) = true → K (V.tup [V.int IntKind.i64 (0 : Int), V.int IntKind.i64 (-1 : Int)])) ∧
  ((d == (0 : Int)) = false →
    ((d == (1 : Int)) = true → K (V.tup [V.int IntKind.i64 (1 : Int), V.int IntKind.i64 (0 : Int)])) ∧
      ((d == (1 : Int)) = false →
        ((d == (2 : Int)) = true → K (V.tup [V.int IntKind.i64 (0 : Int), V.int IntKind.i64 (1 : Int)])) ∧
          ((d == (2 : Int)) = false → K (V.tup [V.int IntKind.i64 (-1 : Int), V.int IntKind.i64 (0 : Int)]))))

def VC_impl_roll_goOn (mw : Int) (mh : Int) (mc : List UInt8) (mu : Bool) (l : List UInt8) (bx : Int) (by_ : Int) (bd : Int) (en : Int) (hn : Int) (K : V → List Blk → Prop) : Prop := 
  True ∧ At ((0 : Int) ≤ IntKind.wrap IntKind.i64 (IntKind.wrap IntKind.i64 (by_ * mw) + bx) ∧ IntKind.wrap IntKind.i64 (IntKind.wrap IntKind.i64 (by_ * mw) + bx) < (↑(81 : Nat) : Int)) 
  ∧ (((↑(UInt8.toNat (List.getD l (Int.toNat (IntKind.wrap IntKind.i64 (IntKind.wrap IntKind.i64 (by_ * mw) + bx))) (0 : UInt8))) : Int) != (46 : Int)) = true → (mu = true → True ∧ At 
  True ∧ At ((0 : Int) ≤ IntKind.wrap IntKind.i64 (IntKind.wrap IntKind.i64 (by_ * mw) + bx) ∧ IntKind.wrap IntKind.i64 (IntKind.wrap IntKind.i64 (by_ * mw) + bx) < (↑(81 : Nat) : Int)) 
  ∧ At ((0 : Int) ≤ mirI (↑(UInt8.toNat (List.getD l (Int.toNat (IntKind.wrap IntKind.i64 (IntKind.wrap IntKind.i64 (by_ * mw) + bx))) (0 : UInt8))) : Int) ∧ mirI (↑(UInt8.toNat (List.getD 
  l (Int.toNat (IntKind.wrap IntKind.i64 (IntKind.wrap IntKind.i64 (by_ * mw) + bx))) (0 : UInt8))) : Int) < (256 : Int)) ∧ At ((0 : Int) ≤ bd ∧ bd ≤ (3 : Int)) ∧ At ((0 : Int) ≤ wayI 
  (↑(UInt8.toNat (List.getD l (Int.toNat (IntKind.wrap IntKind.i64 (IntKind.wrap IntKind.i64 (by_ * mw) + bx))) (0 : UInt8))) : Int) bd ∧ wayI (↑(UInt8.toNat (List.getD l (Int.toNat (IntKind.wrap 
  IntKind.i64 (IntKind.wrap IntKind.i64 (by_ * mw) + bx))) (0 : UInt8))) : Int) bd ≤ (3 : Int)) ∧ True ∧ At True ∧ (inB (IntKind.wrap IntKind.i64 (bx + dxW (wayI (↑(UInt8.toNat (List.getD 
  l (Int.toNat (IntKind.wrap IntKind.i64 (IntKind.wrap IntKind.i64 (by_ * mw) + bx))) (0 : UInt8))) : Int) bd))) (0 : Int) (IntKind.wrap IntKind.i64 (mw - (1 : Int))) = true → At True 
  ∧ K (V.bool (inB (IntKind.wrap IntKind.i64 (by_ + dyW (wayI (↑(UInt8.toNat (List.getD l (Int.toNat (IntKind.wrap IntKind.i64 (IntKind.wrap IntKind.i64 (by_ * mw) + bx))) (0 : UInt8))) 
  : Int) bd))) (0 : Int) (IntKind.wrap IntKind.i64 (mh - (1 : Int))))) [{ cs := Cells.mix [V.int IntKind.i64 mw, V.int IntKind.i64 mh, V.str mc, V.bool mu] (81 : Nat) (List.set (padB (81 : Nat) l) (Int.toNat (IntKind.wrap IntKind.i64 (IntKind.wrap IntKind.i64 (by_ * mw) + bx))) (UInt8.ofNat (Int.toNat (mirI (↑(UInt8.toNat (List.getD l (Int.toNat (IntKind.wrap IntKind.i64 (IntKind.wrap IntKind.i64 (by_ * mw) + bx))) (0 : UInt8))) : Int))))) [V.int IntKind.i64 (IntKind.wrap IntKind.i64 (bx + dxW (wayI (↑(UInt8.toNat (List.getD l (Int.toNat (IntKind.wrap IntKind.i64 (IntKind.wrap IntKind.i64 (by_ * mw) + bx))) (0 : UInt8))) : Int) bd))), V.int IntKind.i64 (IntKind.wrap IntKind.i64 (by_ + dyW (wayI (↑(UInt8.toNat (List.getD l (Int.toNat (IntKind.wrap IntKind.i64 (IntKind.wrap IntKind.i64 (by_ * mw) + bx))) (0 : UInt8))) : Int) bd))), V.int IntKind.i64 (wayI (↑(UInt8.toNat (List.getD l (Int.toNat (IntKind.wrap IntKind.i64 (IntKind.wrap IntKind.i64 (by_ * mw) + bx))) (0 : UInt8))) : Int) bd), V.int IntKind.i64 (IntKind.wrap IntKind.i64 (en + (1 : Int))), V.int IntKind.i64 (IntKind.wrap IntKind.i64 (hn + (1 : Int)))], elem := 57, kind := Kind.box }]) 
  ∧ (inB (IntKind.wrap IntKind.i64 (bx + dxW (wayI (↑(UInt8.toNat (List.getD l (Int.toNat (IntKind.wrap IntKind.i64 (IntKind.wrap IntKind.i64 (by_ * mw) + bx))) (0 : UInt8))) : Int) bd))) 
  (0 : Int) (IntKind.wrap IntKind.i64 (mw - (1 : Int))) = false → K (V.lit false) [{ cs := Cells.mix [V.int IntKind.i64 mw, V.int IntKind.i64 mh, V.str mc, V.bool mu] (81 : Nat) (List.set (padB (81 : Nat) l) (Int.toNat (IntKind.wrap IntKind.i64 (IntKind.wrap IntKind.i64 (by_ * mw) + bx))) (UInt8.ofNat (Int.toNat (mirI (↑(UInt8.toNat (List.getD l (Int.toNat (IntKind.wrap IntKind.i64 (IntKind.wrap IntKind.i64 (by_ * mw) + bx))) (0 : UInt8))) : Int))))) [V.int IntKind.i64 (IntKind.wrap IntKind.i64 (bx + dxW (wayI (↑(UInt8.toNat (List.getD l (Int.toNat (IntKind.wrap IntKind.i64 (IntKind.wrap IntKind.i64 (by_ * mw) + bx))) (0 : UInt8))) : Int) bd))), V.int IntKind.i64 (IntKind.wrap IntKind.i64 (by_ + dyW (wayI (↑(UInt8.toNat (List.getD l (Int.toNat (IntKind.wrap IntKind.i64 (IntKind.wrap IntKind.i64 (by_ * mw) + bx))) (0 : UInt8))) : Int) bd))), V.int IntKind.i64 (wayI (↑(UInt8.toNat (List.getD l (Int.toNat (IntKind.wrap IntKind.i64 (IntKind.wrap IntKind.i64 (by_ * mw) + bx))) (0 : UInt8))) : Int) bd), V.int IntKind.i64 (IntKind.wrap IntKind.i64 (en + (1 : Int))), V.int IntKind.i64 (IntKind.wrap IntKind.i64 (hn + (1 : Int)))], elem := 57, kind := Kind.box }])) 
  ∧ (mu = false → At ((0 : Int) ≤ bd ∧ bd ≤ (3 : Int)) ∧ At ((0 : Int) ≤ wayI (↑(UInt8.toNat (List.getD l (Int.toNat (IntKind.wrap IntKind.i64 (IntKind.wrap IntKind.i64 (by_ * mw) + bx))) 
  (0 : UInt8))) : Int) bd ∧ wayI (↑(UInt8.toNat (List.getD l (Int.toNat (IntKind.wrap IntKind.i64 (IntKind.wrap IntKind.i64 (by_ * mw) + bx))) (0 : UInt8))) : Int) bd ≤ (3 : Int)) ∧ True 
  ∧ At True ∧ (inB (IntKind.wrap IntKind.i64 (bx + dxW (wayI (↑(UInt8.toNat (List.getD l (Int.toNat (IntKind.wrap IntKind.i64 (IntKind.wrap IntKind.i64 (by_ * mw) + bx))) (0 : UInt8))) 
  : Int) bd))) (0 : Int) (IntKind.wrap IntKind.i64 (mw - (1 : Int))) = true → At True ∧ K (V.bool (inB (IntKind.wrap IntKind.i64 (by_ + dyW (wayI (↑(UInt8.toNat (List.getD l (Int.toNat 
  (IntKind.wrap IntKind.i64 (IntKind.wrap IntKind.i64 (by_ * mw) + bx))) (0 : UInt8))) : Int) bd))) (0 : Int) (IntKind.wrap IntKind.i64 (mh - (1 : Int))))) [{ cs := Cells.mix [V.int IntKind.i64 mw, V.int IntKind.i64 mh, V.str mc, V.bool mu] (81 : Nat) l [V.int IntKind.i64 (IntKind.wrap IntKind.i64 (bx + dxW (wayI (↑(UInt8.toNat (List.getD l (Int.toNat (IntKind.wrap IntKind.i64 (IntKind.wrap IntKind.i64 (by_ * mw) + bx))) (0 : UInt8))) : Int) bd))), V.int IntKind.i64 (IntKind.wrap IntKind.i64 (by_ + dyW (wayI (↑(UInt8.toNat (List.getD l (Int.toNat (IntKind.wrap IntKind.i64 (IntKind.wrap IntKind.i64 (by_ * mw) + bx))) (0 : UInt8))) : Int) bd))), V.int IntKind.i64 (wayI (↑(UInt8.toNat (List.getD l (Int.toNat (IntKind.wrap IntKind.i64 (IntKind.wrap IntKind.i64 (by_ * mw) + bx))) (0 : UInt8))) : Int) bd), V.int IntKind.i64 (IntKind.wrap IntKind.i64 (en + (1 : Int))), V.int IntKind.i64 (IntKind.wrap IntKind.i64 (hn + (1 : Int)))], elem := 57, kind := Kind.box }]) 
  ∧ (inB (IntKind.wrap IntKind.i64 (bx + dxW (wayI (↑(UInt8.toNat (List.getD l (Int.toNat (IntKind.wrap IntKind.i64 (IntKind.wrap IntKind.i64 (by_ * mw) + bx))) (0 : UInt8))) : Int) bd))) 
  (0 : Int) (IntKind.wrap IntKind.i64 (mw - (1 : Int))) = false → K (V.lit false) [{ cs := Cells.mix [V.int IntKind.i64 mw, V.int IntKind.i64 mh, V.str mc, V.bool mu] (81 : Nat) l [V.int IntKind.i64 (IntKind.wrap IntKind.i64 (bx + dxW (wayI (↑(UInt8.toNat (List.getD l (Int.toNat (IntKind.wrap IntKind.i64 (IntKind.wrap IntKind.i64 (by_ * mw) + bx))) (0 : UInt8))) : Int) bd))), V.int IntKind.i64 (IntKind.wrap IntKind.i64 (by_ + dyW (wayI (↑(UInt8.toNat (List.getD l (Int.toNat (IntKind.wrap IntKind.i64 (IntKind.wrap IntKind.i64 (by_ * mw) + bx))) (0 : UInt8))) : Int) bd))), V.int IntKind.i64 (wayI (↑(UInt8.toNat (List.getD l (Int.toNat (IntKind.wrap IntKind.i64 (IntKind.wrap IntKind.i64 (by_ * mw) + bx))) (0 : UInt8))) : Int) bd), V.int IntKind.i64 (IntKind.wrap IntKind.i64 (en + (1 : Int))), V.int IntKind.i64 (IntKind.wrap IntKind.i64 (hn + (1 : Int)))], elem := 57, kind := Kind.box }]))) 
  ∧ (((↑(UInt8.toNat (List.getD l (Int.toNat (IntKind.wrap IntKind.i64 (IntKind.wrap IntKind.i64 (by_ * mw) + bx))) (0 : UInt8))) : Int) != (46 : Int)) = false → (mu = true → True ∧ At 
  True ∧ At ((0 : Int) ≤ IntKind.wrap IntKind.i64 (IntKind.wrap IntKind.i64 (by_ * mw) + bx) ∧ IntKind.wrap IntKind.i64 (IntKind.wrap IntKind.i64 (by_ * mw) + bx) < (↑(81 : Nat) : Int)) 
  ∧ At ((0 : Int) ≤ mirI (↑(UInt8.toNat (List.getD l (Int.toNat (IntKind.wrap IntKind.i64 (IntKind.wrap IntKind.i64 (by_ * mw) + bx))) (0 : UInt8))) : Int) ∧ mirI (↑(UInt8.toNat (List.getD 
  l (Int.toNat (IntKind.wrap IntKind.i64 (IntKind.wrap IntKind.i64 (by_ * mw) + bx))) (0 : UInt8))) : Int) < (256 : Int)) ∧ At ((0 : Int) ≤ bd ∧ bd ≤ (3 : Int)) ∧ At ((0 : Int) ≤ wayI 
  (↑(UInt8.toNat (List.getD l (Int.toNat (IntKind.wrap IntKind.i64 (IntKind.wrap IntKind.i64 (by_ * mw) + bx))) (0 : UInt8))) : Int) bd ∧ wayI (↑(UInt8.toNat (List.getD l (Int.toNat (IntKind.wrap 
  IntKind.i64 (IntKind.wrap IntKind.i64 (by_ * mw) + bx))) (0 : UInt8))) : Int) bd ≤ (3 : Int)) ∧ True ∧ At True ∧ (inB (IntKind.wrap IntKind.i64 (bx + dxW (wayI (↑(UInt8.toNat (List.getD 
  l (Int.toNat (IntKind.wrap IntKind.i64 (IntKind.wrap IntKind.i64 (by_ * mw) + bx))) (0 : UInt8))) : Int) bd))) (0 : Int) (IntKind.wrap IntKind.i64 (mw - (1 : Int))) = true → At True 
  ∧ K (V.bool (inB (IntKind.wrap IntKind.i64 (by_ + dyW (wayI (↑(UInt8.toNat (List.getD l (Int.toNat (IntKind.wrap IntKind.i64 (IntKind.wrap IntKind.i64 (by_ * mw) + bx))) (0 : UInt8))) 
  : Int) bd))) (0 : Int) (IntKind.wrap IntKind.i64 (mh - (1 : Int))))) [{ cs := Cells.mix [V.int IntKind.i64 mw, V.int IntKind.i64 mh, V.str mc, V.bool mu] (81 : Nat) (List.set (padB (81 : Nat) l) (Int.toNat (IntKind.wrap IntKind.i64 (IntKind.wrap IntKind.i64 (by_ * mw) + bx))) (UInt8.ofNat (Int.toNat (mirI (↑(UInt8.toNat (List.getD l (Int.toNat (IntKind.wrap IntKind.i64 (IntKind.wrap IntKind.i64 (by_ * mw) + bx))) (0 : UInt8))) : Int))))) [V.int IntKind.i64 (IntKind.wrap IntKind.i64 (bx + dxW (wayI (↑(UInt8.toNat (List.getD l (Int.toNat (IntKind.wrap IntKind.i64 (IntKind.wrap IntKind.i64 (by_ * mw) + bx))) (0 : UInt8))) : Int) bd))), V.int IntKind.i64 (IntKind.wrap IntKind.i64 (by_ + dyW (wayI (↑(UInt8.toNat (List.getD l (Int.toNat (IntKind.wrap IntKind.i64 (IntKind.wrap IntKind.i64 (by_ * mw) + bx))) (0 : UInt8))) : Int) bd))), V.int IntKind.i64 (wayI (↑(UInt8.toNat (List.getD l (Int.toNat (IntKind.wrap IntKind.i64 (IntKind.wrap IntKind.i64 (by_ * mw) + bx))) (0 : UInt8))) : Int) bd), V.int IntKind.i64 (IntKind.wrap IntKind.i64 (en + (1 : Int))), V.int IntKind.i64 hn], elem := 57, kind := Kind.box }]) 
  ∧ (inB (IntKind.wrap IntKind.i64 (bx + dxW (wayI (↑(UInt8.toNat (List.getD l (Int.toNat (IntKind.wrap IntKind.i64 (IntKind.wrap IntKind.i64 (by_ * mw) + bx))) (0 : UInt8))) : Int) bd))) 
  (0 : Int) (IntKind.wrap IntKind.i64 (mw - (1 : Int))) = false → K (V.lit false) [{ cs := Cells.mix [V.int IntKind.i64 mw, V.int IntKind.i64 mh, V.str mc, V.bool mu] (81 : Nat) (List.set (padB (81 : Nat) l) (Int.toNat (IntKind.wrap IntKind.i64 (IntKind.wrap IntKind.i64 (by_ * mw) + bx))) (UInt8.ofNat (Int.toNat (mirI (↑(UInt8.toNat (List.getD l (Int.toNat (IntKind.wrap IntKind.i64 (IntKind.wrap IntKind.i64 (by_ * mw) + bx))) (0 : UInt8))) : Int))))) [V.int IntKind.i64 (IntKind.wrap IntKind.i64 (bx + dxW (wayI (↑(UInt8.toNat (List.getD l (Int.toNat (IntKind.wrap IntKind.i64 (IntKind.wrap IntKind.i64 (by_ * mw) + bx))) (0 : UInt8))) : Int) bd))), V.int IntKind.i64 (IntKind.wrap IntKind.i64 (by_ + dyW (wayI (↑(UInt8.toNat (List.getD l (Int.toNat (IntKind.wrap IntKind.i64 (IntKind.wrap IntKind.i64 (by_ * mw) + bx))) (0 : UInt8))) : Int) bd))), V.int IntKind.i64 (wayI (↑(UInt8.toNat (List.getD l (Int.toNat (IntKind.wrap IntKind.i64 (IntKind.wrap IntKind.i64 (by_ * mw) + bx))) (0 : UInt8))) : Int) bd), V.int IntKind.i64 (IntKind.wrap IntKind.i64 (en + (1 : Int))), V.int IntKind.i64 hn], elem := 57, kind := Kind.box }])) 
  ∧ (mu = false → At ((0 : Int) ≤ bd ∧ bd ≤ (3 : Int)) ∧ At ((0 : Int) ≤ wayI (↑(UInt8.toNat (List.getD l (Int.toNat (IntKind.wrap IntKind.i64 (IntKind.wrap IntKind.i64 (by_ * mw) + bx))) 
  (0 : UInt8))) : Int) bd ∧ wayI (↑(UInt8.toNat (List.getD l (Int.toNat (IntKind.wrap IntKind.i64 (IntKind.wrap IntKind.i64 (by_ * mw) + bx))) (0 : UInt8))) : Int) bd ≤ (3 : Int)) ∧ True 
  ∧ At True ∧ (inB (IntKind.wrap IntKind.i64 (bx + dxW (wayI (↑(UInt8.toNat (List.getD l (Int.toNat (IntKind.wrap IntKind.i64 (IntKind.wrap IntKind.i64 (by_ * mw) + bx))) (0 : UInt8))) 
  : Int) bd))) (0 : Int) (IntKind.wrap IntKind.i64 (mw - (1 : Int))) = true → At True ∧ K (V.bool (inB (IntKind.wrap IntKind.i64 (by_ + dyW (wayI (↑(UInt8.toNat (List.getD l (Int.toNat 
  (IntKind.wrap IntKind.i64 (IntKind.wrap IntKind.i64 (by_ * mw) + bx))) (0 : UInt8))) : Int) bd))) (0 : Int) (IntKind.wrap IntKind.i64 (mh - (1 : Int))))) [{ cs := Cells.mix [V.int IntKind.i64 mw, V.int IntKind.i64 mh, V.str mc, V.bool mu] (81 : Nat) l [V.int IntKind.i64 (IntKind.wrap IntKind.i64 (bx + dxW (wayI (↑(UInt8.toNat (List.getD l (Int.toNat (IntKind.wrap IntKind.i64 (IntKind.wrap IntKind.i64 (by_ * mw) + bx))) (0 : UInt8))) : Int) bd))), V.int IntKind.i64 (IntKind.wrap IntKind.i64 (by_ + dyW (wayI (↑(UInt8.toNat (List.getD l (Int.toNat (IntKind.wrap IntKind.i64 (IntKind.wrap IntKind.i64 (by_ * mw) + bx))) (0 : UInt8))) : Int) bd))), V.int IntKind.i64 (wayI (↑(UInt8.toNat (List.getD l (Int.toNat (IntKind.wrap IntKind.i64 (IntKind.wrap IntKind.i64 (by_ * mw) + bx))) (0 : UInt8))) : Int) bd), V.int IntKind.i64 (IntKind.wrap IntKind.i64 (en + (1 : Int))), V.int IntKind.i64 hn], elem := 57, kind := Kind.box }]) 
  ∧ (inB (IntKind.wrap IntKind.i64 (bx + dxW (wayI (↑(UInt8.toNat (List.getD l (Int.toNat (IntKind.wrap IntKind.i64 (IntKind.wrap IntKind.i64 (by_ * mw) + bx))) (0 : UInt8))) : Int) bd))) 
  (0 : Int) (IntKind.wrap IntKind.i64 (mw - (1 : Int))) = false → K (V.lit false) [{ cs := Cells.mix [V.int IntKind.i64 mw, V.int IntKind.i64 mh, V.str mc, V.bool mu] (81 : Nat) l [V.int IntKind.i64 (IntKind.wrap IntKind.i64 (bx + dxW (wayI (↑(UInt8.toNat (List.getD l (Int.toNat (IntKind.wrap IntKind.i64 (IntKind.wrap IntKind.i64 (by_ * mw) + bx))) (0 : UInt8))) : Int) bd))), V.int IntKind.i64 (IntKind.wrap IntKind.i64 (by_ + dyW (wayI (↑(UInt8.toNat (List.getD l (Int.toNat (IntKind.wrap IntKind.i64 (IntKind.wrap IntKind.i64 (by_ * mw) + bx))) (0 : UInt8))) : Int) bd))), V.int IntKind.i64 (wayI (↑(UInt8.toNat (List.getD l (Int.toNat (IntKind.wrap IntKind.i64 (IntKind.wrap IntKind.i64 (by_ * mw) + bx))) (0 : UInt8))) : Int) bd), V.int IntKind.i64 (IntKind.wrap IntKind.i64 (en + (1 : Int))), V.int IntKind.i64 hn], elem := 57, kind := Kind.box }])))

def VC_spec_CountMirrors (mw : Int) (mh : Int) (mc : List UInt8) (mu : Bool) (K : V → Prop) : Prop :=
  At True ∧
  ((!mzB { w := mw, h := mh, c := mc, t := mu }) = true →
      K (V.tup [V.int IntKind.i64 (0 : Int), V.int IntKind.i64 (0 : Int), V.lit false])) ∧
    ((!mzB { w := mw, h := mh, c := mc, t := mu }) = false →
      ((((0 : Nat) = (0 : Nat) ∧ (0 : Nat) = (0 : Nat)) ∧
            (True ∧ (0 : Int) = cntB (90 : UInt8) (List.take (Int.toNat (0 : Int)) mc)) ∧
              (True ∧ (0 : Int) = cntB (83 : UInt8) (List.take (Int.toNat (0 : Int)) mc)) ∧
                (True ∧ (0 : Int) = (0 : Int)) ∧ True) ∧
          ((True ∧ (True ∧ mw = mw) ∧ (True ∧ mh = mh) ∧ mc = mc ∧ mu = mu ∧ True) ∧ True) ∧ True) ∧
        At (cmInv mc (0 : Int)) ∧
          ∀ (a : Int),
            cmInv mc a →
              (decide (a < (↑(List.length mc) : Int)) = true →
                  At ((0 : Int) ≤ a ∧ a < (↑(List.length mc) : Int)) ∧
                    (((↑(UInt8.toNat (List.getD mc (Int.toNat a) (0 : UInt8))) : Int) == (90 : Int)) = true →
                        At ((0 : Int) ≤ a ∧ a < (↑(List.length mc) : Int)) ∧
                          (((↑(UInt8.toNat (List.getD mc (Int.toNat a) (0 : UInt8))) : Int) == (83 : Int)) = true →
                              ((((0 : Nat) = (0 : Nat) ∧ (0 : Nat) = (0 : Nat)) ∧
                                    (True ∧
                                        IntKind.wrap IntKind.i64
                                            (cntB (90 : UInt8) (List.take (Int.toNat a) mc) + (1 : Int)) =
                                          cntB (90 : UInt8)
                                            (List.take (Int.toNat (IntKind.wrap IntKind.i64 (a + (1 : Int)))) mc)) ∧
                                      (True ∧
                                          IntKind.wrap IntKind.i64
                                              (cntB (83 : UInt8) (List.take (Int.toNat a) mc) + (1 : Int)) =
                                            cntB (83 : UInt8)
                                              (List.take (Int.toNat (IntKind.wrap IntKind.i64 (a + (1 : Int)))) mc)) ∧
                                        (True ∧
                                            IntKind.wrap IntKind.i64 (a + (1 : Int)) =
                                              IntKind.wrap IntKind.i64 (a + (1 : Int))) ∧
                                          True) ∧
                                  ((True ∧ (True ∧ mw = mw) ∧ (True ∧ mh = mh) ∧ mc = mc ∧ mu = mu ∧ True) ∧ True) ∧
                                    True) ∧
                                At
                                  (cmInv mc (IntKind.wrap IntKind.i64 (a + (1 : Int))) ∧
                                    Int.toNat ((↑(List.length mc) : Int) - IntKind.wrap IntKind.i64 (a + (1 : Int))) <
                                      Int.toNat ((↑(List.length mc) : Int) - a))) ∧
                            (((↑(UInt8.toNat (List.getD mc (Int.toNat a) (0 : UInt8))) : Int) == (83 : Int)) = false →
                              ((((0 : Nat) = (0 : Nat) ∧ (0 : Nat) = (0 : Nat)) ∧
                                    (True ∧
                                        IntKind.wrap IntKind.i64
                                            (cntB (90 : UInt8) (List.take (Int.toNat a) mc) + (1 : Int)) =
                                          cntB (90 : UInt8)
                                            (List.take (Int.toNat (IntKind.wrap IntKind.i64 (a + (1 : Int)))) mc)) ∧
                                      (True ∧
                                          cntB (83 : UInt8) (List.take (Int.toNat a) mc) =
                                            cntB (83 : UInt8)
                                              (List.take (Int.toNat (IntKind.wrap IntKind.i64 (a + (1 : Int)))) mc)) ∧
                                        (True ∧
                                            IntKind.wrap IntKind.i64 (a + (1 : Int)) =
                                              IntKind.wrap IntKind.i64 (a + (1 : Int))) ∧
                                          True) ∧
                                  ((True ∧ (True ∧ mw = mw) ∧ (True ∧ mh = mh) ∧ mc = mc ∧ mu = mu ∧ True) ∧ True) ∧
                                    True) ∧
                                At
                                  (cmInv mc (IntKind.wrap IntKind.i64 (a + (1 : Int))) ∧
                                    Int.toNat ((↑(List.length mc) : Int) - IntKind.wrap IntKind.i64 (a + (1 : Int))) <
                                      Int.toNat ((↑(List.length mc) : Int) - a)))) ∧
                      (((↑(UInt8.toNat (List.getD mc (Int.toNat a) (0 : UInt8))) : Int) == (90 : Int)) = false →
                        At ((0 : Int) ≤ a ∧ a < (↑(List.length mc) : Int)) ∧
                          (((↑(UInt8.toNat (List.getD mc (Int.toNat a) (0 : UInt8))) : Int) == (83 : Int)) = true →
                              ((((0 : Nat) = (0 : Nat) ∧ (0 : Nat) = (0 : Nat)) ∧
                                    (True ∧
                                        cntB (90 : UInt8) (List.take (Int.toNat a) mc) =
                                          cntB (90 : UInt8)
                                            (List.take (Int.toNat (IntKind.wrap IntKind.i64 (a + (1 : Int)))) mc)) ∧
                                      (True ∧
                                          IntKind.wrap IntKind.i64
                                              (cntB (83 : UInt8) (List.take (Int.toNat a) mc) + (1 : Int)) =
                                            cntB (83 : UInt8)
                                              (List.take (Int.toNat (IntKind.wrap IntKind.i64 (a + (1 : Int)))) mc)) ∧
                                        (True ∧
                                            IntKind.wrap IntKind.i64 (a + (1 : Int)) =
                                              IntKind.wrap IntKind.i64 (a + (1 : Int))) ∧
                                          True) ∧
                                  ((True ∧ (True ∧ mw = mw) ∧ (True ∧ mh = mh) ∧ mc = mc ∧ mu = mu ∧ True) ∧ True) ∧
                                    True) ∧
                                At
                                  (cmInv mc (IntKind.wrap IntKind.i64 (a + (1 : Int))) ∧
                                    Int.toNat ((↑(List.length mc) : Int) - IntKind.wrap IntKind.i64 (a + (1 : Int))) <
                                      Int.toNat ((↑(List.length mc) : Int) - a))) ∧
                            (((↑(UInt8.toNat (List.getD mc (Int.toNat a) (0 : UInt8))) : Int) == (83 : Int)) = false →
                              ((((0 : Nat) = (0 : Nat) ∧ (0 : Nat) = (0 : Nat)) ∧
                                    (True ∧
                                        cntB (90 : UInt8) (List.take (Int.toNat a) mc) =
                                          cntB (90 : UInt8)
                                            (List.take (Int.toNat (IntKind.wrap IntKind.i64 (a + (1 : Int)))) mc)) ∧
                                      (True ∧
                                          cntB (83 : UInt8) (List.take (Int.toNat a) mc) =
                                            cntB (83 : UInt8)
                                              (List.take (Int.toNat (IntKind.wrap IntKind.i64 (a + (1 : Int)))) mc)) ∧
                                        (True ∧
                                            IntKind.wrap IntKind.i64 (a + (1 : Int)) =
                                              IntKind.wrap IntKind.i64 (a + (1 : Int))) ∧
                                          True) ∧
                                  ((True ∧ (True ∧ mw = mw) ∧ (True ∧ mh = mh) ∧ mc = mc ∧ mu = mu ∧ True) ∧ True) ∧
                                    True) ∧
                                At
                                  (cmInv mc (IntKind.wrap IntKind.i64 (a + (1 : Int))) ∧
                                    Int.toNat ((↑(List.length mc) : Int) - IntKind.wrap IntKind.i64 (a + (1 : Int))) <
                                      Int.toNat ((↑(List.length mc) : Int) - a))))) ∧
                (decide (a < (↑(List.length mc) : Int)) = false →
                  K
                    (V.tup
                      [V.int IntKind.i64 (cntB (90 : UInt8) (List.take (Int.toNat a) mc)),
                        V.int IntKind.i64 (cntB (83 : UInt8) (List.take (Int.toNat a) mc)), V.lit true])))

def VC_impl_CountMirrors (mw : Int) (mh : Int) (mc : List UInt8) (mu : Bool) (K : V → Prop) : Prop :=
  At True ∧
  ((!mzB { w := mw, h := mh, c := mc, t := mu }) = true →
      K (V.tup [V.int IntKind.i64 (0 : Int), V.int IntKind.i64 (0 : Int), V.lit false])) ∧
    ((!mzB { w := mw, h := mh, c := mc, t := mu }) = false →
      True ∧
        At (List.length (Array.toList #[(90 : UInt8)]) = (1 : Nat)) ∧
          At (List.length (Array.toList #[(83 : UInt8)]) = (1 : Nat)) ∧
            K
              (V.tup
                [V.int IntKind.i64 (cntB (List.getD (Array.toList #[(90 : UInt8)]) (0 : Nat) (0 : UInt8)) mc),
                  V.int IntKind.i64 (cntB (List.getD (Array.toList #[(83 : UInt8)]) (0 : Nat) (0 : UInt8)) mc),
                  V.lit true]))

def VC_spec_EntryOf (mw : Int) (mh : Int) (mc : List UInt8) (mu : Bool) (k : Int) (K : V → Prop) : Prop :=
  At True ∧
  ((!enB { w := mw, h := mh, c := mc, t := mu } k) = true →
      K
        (V.tup
          [V.agg [V.int IntKind.i64 (0 : Int), V.int IntKind.i64 (0 : Int), V.int IntKind.i64 (0 : Int)],
            V.lit false])) ∧
    ((!enB { w := mw, h := mh, c := mc, t := mu } k) = false →
      At
          (((1 : Int) ≤ mw ∧ mw ≤ (9 : Int)) ∧
            ((1 : Int) ≤ mh ∧ mh ≤ (9 : Int)) ∧ (0 : Int) ≤ k ∧ k < (2 : Int) * (mw + mh)) ∧
        K
          (V.tup
            [V.agg
                [V.int IntKind.i64 (entX mw mh k), V.int IntKind.i64 (entY mw mh k), V.int IntKind.i64 (entD mw mh k)],
              V.lit true]))

def VC_impl_EntryOf (mw : Int) (mh : Int) (mc : List UInt8) (mu : Bool) (k : Int) (K : V → Prop) : Prop :=
  At True ∧
  ((!mzB { w := mw, h := mh, c := mc, t := mu }) = true →
      K
        (V.tup
          [V.agg [V.int IntKind.i64 (0 : Int), V.int IntKind.i64 (0 : Int), V.int IntKind.i64 (0 : Int)],
            V.lit false])) ∧
    ((!mzB { w := mw, h := mh, c := mc, t := mu }) = false →
      At True ∧
        ((!inB k (0 : Int)
                  (IntKind.wrap IntKind.i64
                    (IntKind.wrap IntKind.i64 ((2 : Int) * IntKind.wrap IntKind.i64 (mw + mh)) - (1 : Int)))) =
              true →
            K
              (V.tup
                [V.agg [V.int IntKind.i64 (0 : Int), V.int IntKind.i64 (0 : Int), V.int IntKind.i64 (0 : Int)],
                  V.lit false])) ∧
          ((!inB k (0 : Int)
                  (IntKind.wrap IntKind.i64
                    (IntKind.wrap IntKind.i64 ((2 : Int) * IntKind.wrap IntKind.i64 (mw + mh)) - (1 : Int)))) =
              false →
            At
                (((1 : Int) ≤ mw ∧ mw ≤ (9 : Int)) ∧
                  ((1 : Int) ≤ mh ∧ mh ≤ (9 : Int)) ∧ (0 : Int) ≤ k ∧ k < (2 : Int) * (mw + mh)) ∧
              K
                (V.tup
                  [V.agg
                      [V.int IntKind.i64 (entX mw mh k), V.int IntKind.i64 (entY mw mh k),
                        V.int IntKind.i64 (entD mw mh k)],
                    V.lit true])))

def VC_spec_HitCell (mw : Int) (mh : Int) (mc : List UInt8) (mu : Bool) (bx : Int) (by_ : Int) (bd : Int) (K : V → Prop) : Prop :=
  At True ∧
  ((!blB { w := mw, h := mh, c := mc, t := mu } bx by_ bd) = true →
      K
        (V.tup
          [V.agg [V.int IntKind.i64 (0 : Int), V.int IntKind.i64 (0 : Int), V.str (Array.toList #[]), V.lit false],
            V.agg [V.int IntKind.i64 (0 : Int), V.int IntKind.i64 (0 : Int), V.int IntKind.i64 (0 : Int)],
            V.lit false])) ∧
    ((!blB { w := mw, h := mh, c := mc, t := mu } bx by_ bd) = false →
      At (blB { w := mw, h := mh, c := mc, t := mu } bx by_ bd = true) ∧
        At True ∧
          ((!blB { w := mw, h := mh, c := Rl.c (hitR mu mw { c := mc, x := bx, y := by_, d := bd }), t := mu }
                    (Rl.x (hitR mu mw { c := mc, x := bx, y := by_, d := bd }))
                    (Rl.y (hitR mu mw { c := mc, x := bx, y := by_, d := bd }))
                    (Rl.d (hitR mu mw { c := mc, x := bx, y := by_, d := bd }))) =
                true →
              K
                (V.tup
                  [V.agg
                      [V.int IntKind.i64 (0 : Int), V.int IntKind.i64 (0 : Int), V.str (Array.toList #[]), V.lit false],
                    V.agg [V.int IntKind.i64 (0 : Int), V.int IntKind.i64 (0 : Int), V.int IntKind.i64 (0 : Int)],
                    V.lit false])) ∧
            ((!blB { w := mw, h := mh, c := Rl.c (hitR mu mw { c := mc, x := bx, y := by_, d := bd }), t := mu }
                    (Rl.x (hitR mu mw { c := mc, x := bx, y := by_, d := bd }))
                    (Rl.y (hitR mu mw { c := mc, x := bx, y := by_, d := bd }))
                    (Rl.d (hitR mu mw { c := mc, x := bx, y := by_, d := bd }))) =
                false →
              ((K
                      (V.tup
                        [V.agg
                            [V.int IntKind.i64 mw, V.int IntKind.i64 mh,
                              V.str (Rl.c (hitR mu mw { c := mc, x := bx, y := by_, d := bd })), V.bool mu],
                          V.agg
                            [V.int IntKind.i64 (Rl.x (hitR mu mw { c := mc, x := bx, y := by_, d := bd })),
                              V.int IntKind.i64 (Rl.y (hitR mu mw { c := mc, x := bx, y := by_, d := bd })),
                              V.int IntKind.i64 (Rl.d (hitR mu mw { c := mc, x := bx, y := by_, d := bd }))],
                          V.lit true]) ∧
                    True) ∧
                  True) ∧
                (K
                      (V.tup
                        [V.agg
                            [V.int IntKind.i64 mw, V.int IntKind.i64 mh,
                              V.str (Rl.c (hitR mu mw { c := mc, x := bx, y := by_, d := bd })), V.bool mu],
                          V.agg
                            [V.int IntKind.i64 (Rl.x (hitR mu mw { c := mc, x := bx, y := by_, d := bd })),
                              V.int IntKind.i64 (Rl.y (hitR mu mw { c := mc, x := bx, y := by_, d := bd })),
                              V.int IntKind.i64 (Rl.d (hitR mu mw { c := mc, x := bx, y := by_, d := bd }))],
                          V.lit true]) ∧
                    True) ∧
                  True))

def VC_impl_HitCell (mw : Int) (mh : Int) (mc : List UInt8) (mu : Bool) (bx : Int) (by_ : Int) (bd : Int) (K : V → Prop) : Prop :=
  At True ∧
  ((!blB { w := mw, h := mh, c := mc, t := mu } bx by_ bd) = true →
      K
        (V.tup
          [V.agg [V.int IntKind.i64 (0 : Int), V.int IntKind.i64 (0 : Int), V.str (Array.toList #[]), V.lit false],
            V.agg [V.int IntKind.i64 (0 : Int), V.int IntKind.i64 (0 : Int), V.int IntKind.i64 (0 : Int)],
            V.lit false])) ∧
    ((!blB { w := mw, h := mh, c := mc, t := mu } bx by_ bd) = false →
      True ∧
        At (rlP mw mh (cpB (81 : Nat) [] (81 : Nat) mc) bx by_ bd) ∧
          ((!inR mw mh (hitR mu mw (rlO mw mh (cpB (81 : Nat) [] (81 : Nat) mc) bx by_ bd))) = true →
              K
                (V.tup
                  [V.agg
                      [V.int IntKind.i64 (0 : Int), V.int IntKind.i64 (0 : Int), V.str (Array.toList #[]), V.lit false],
                    V.agg [V.int IntKind.i64 (0 : Int), V.int IntKind.i64 (0 : Int), V.int IntKind.i64 (0 : Int)],
                    V.lit false])) ∧
            ((!inR mw mh (hitR mu mw (rlO mw mh (cpB (81 : Nat) [] (81 : Nat) mc) bx by_ bd))) = false →
              (True ∧
                  At ((0 : Int) ≤ (↑(List.length mc) : Int) ∧ (↑(List.length mc) : Int) ≤ (↑(81 : Nat) : Int)) ∧
                    ((K
                            (V.tup
                              [V.agg
                                  [V.int IntKind.i64 mw, V.int IntKind.i64 mh,
                                    V.str
                                      (List.take (Int.toNat (↑(List.length mc) : Int))
                                        (padB (81 : Nat)
                                          (padB (81 : Nat)
                                            (Rl.c
                                              (Rn.r
                                                (stepN mu mw
                                                  { r := rlO mw mh (cpB (81 : Nat) [] (81 : Nat) mc) bx by_ bd,
                                                    e := (0 : Int), k := (0 : Int) })))))),
                                    V.bool mu],
                                V.agg
                                  [V.int IntKind.i64
                                      (Rl.x
                                        (Rn.r
                                          (stepN mu mw
                                            { r := rlO mw mh (cpB (81 : Nat) [] (81 : Nat) mc) bx by_ bd,
                                              e := (0 : Int), k := (0 : Int) }))),
                                    V.int IntKind.i64
                                      (Rl.y
                                        (Rn.r
                                          (stepN mu mw
                                            { r := rlO mw mh (cpB (81 : Nat) [] (81 : Nat) mc) bx by_ bd,
                                              e := (0 : Int), k := (0 : Int) }))),
                                    V.int IntKind.i64
                                      (Rl.d
                                        (Rn.r
                                          (stepN mu mw
                                            { r := rlO mw mh (cpB (81 : Nat) [] (81 : Nat) mc) bx by_ bd,
                                              e := (0 : Int), k := (0 : Int) })))],
                                V.lit true]) ∧
                          True) ∧
                        True) ∧
                      (K
                            (V.tup
                              [V.agg
                                  [V.int IntKind.i64 mw, V.int IntKind.i64 mh,
                                    V.str
                                      (List.take (Int.toNat (↑(List.length mc) : Int))
                                        (padB (81 : Nat)
                                          (padB (81 : Nat)
                                            (Rl.c
                                              (Rn.r
                                                (stepN mu mw
                                                  { r := rlO mw mh (cpB (81 : Nat) [] (81 : Nat) mc) bx by_ bd,
                                                    e := (0 : Int), k := (0 : Int) })))))),
                                    V.bool mu],
                                V.agg
                                  [V.int IntKind.i64
                                      (Rl.x
                                        (Rn.r
                                          (stepN mu mw
                                            { r := rlO mw mh (cpB (81 : Nat) [] (81 : Nat) mc) bx by_ bd,
                                              e := (0 : Int), k := (0 : Int) }))),
                                    V.int IntKind.i64
                                      (Rl.y
                                        (Rn.r
                                          (stepN mu mw
                                            { r := rlO mw mh (cpB (81 : Nat) [] (81 : Nat) mc) bx by_ bd,
                                              e := (0 : Int), k := (0 : Int) }))),
                                    V.int IntKind.i64
                                      (Rl.d
                                        (Rn.r
                                          (stepN mu mw
                                            { r := rlO mw mh (cpB (81 : Nat) [] (81 : Nat) mc) bx by_ bd,
                                              e := (0 : Int), k := (0 : Int) })))],
                                V.lit true]) ∧
                          True) ∧
                        True) ∧
                ((True ∧
                      At ((0 : Int) ≤ (↑(List.length mc) : Int) ∧ (↑(List.length mc) : Int) ≤ (↑(81 : Nat) : Int)) ∧
                        (K
                              (V.tup
                                [V.agg
                                    [V.int IntKind.i64 mw, V.int IntKind.i64 mh,
                                      V.str
                                        (List.take (Int.toNat (↑(List.length mc) : Int))
                                          (padB (81 : Nat)
                                            (padB (81 : Nat)
                                              (Rl.c
                                                (Rn.r
                                                  (stepN mu mw
                                                    { r := rlO mw mh (cpB (81 : Nat) [] (81 : Nat) mc) bx by_ bd,
                                                      e := (0 : Int), k := (0 : Int) })))))),
                                      V.bool mu],
                                  V.agg
                                    [V.int IntKind.i64
                                        (Rl.x
                                          (Rn.r
                                            (stepN mu mw
                                              { r := rlO mw mh (cpB (81 : Nat) [] (81 : Nat) mc) bx by_ bd,
                                                e := (0 : Int), k := (0 : Int) }))),
                                      V.int IntKind.i64
                                        (Rl.y
                                          (Rn.r
                                            (stepN mu mw
                                              { r := rlO mw mh (cpB (81 : Nat) [] (81 : Nat) mc) bx by_ bd,
                                                e := (0 : Int), k := (0 : Int) }))),
                                      V.int IntKind.i64
                                        (Rl.d
                                          (Rn.r
                                            (stepN mu mw
                                              { r := rlO mw mh (cpB (81 : Nat) [] (81 : Nat) mc) bx by_ bd,
                                                e := (0 : Int), k := (0 : Int) })))],
                                  V.lit true]) ∧
                            True) ∧
                          True) ∧
                    True) ∧
                  True))

end Go.Vi
