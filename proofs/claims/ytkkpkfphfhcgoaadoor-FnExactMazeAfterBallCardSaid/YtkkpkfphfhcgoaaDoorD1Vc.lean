/- The conditions, reckoned out by program: texts alone. -/
import Derived.Test.YtkkpkfphfhcgoaaDoorD1Defs
namespace Go.Vi
set_option linter.unusedVariables false
def VC_spec_BallsUntilSame (mw : Int) (mh : Int) (mc : List UInt8) (mu : Bool) (k : Int) (K : V → Prop) : Prop :=
  At True ∧
  ((!enB { w := mw, h := mh, c := mc, t := mu } k) = true → K (V.tup [V.int IntKind.i64 (0 : Int), V.lit false])) ∧
    ((!enB { w := mw, h := mh, c := mc, t := mu } k) = false →
      ((!mu) = true → K (V.tup [V.int IntKind.i64 (0 : Int), V.lit false])) ∧
        ((!mu) = false →
          (((True ∧ k = k) ∧
                ((0 : Nat) = (0 : Nat) ∧ (0 : Nat) = (0 : Nat)) ∧
                  ((1 : Nat) = (1 : Nat) ∧ (0 : Nat) = (0 : Nat)) ∧ (True ∧ (1 : Int) = (1 : Int)) ∧ True) ∧
              ((True ∧ (True ∧ mw = mw) ∧ (True ∧ mh = mh) ∧ mc = mc ∧ mu = mu ∧ True) ∧
                  (True ∧ (True ∧ mw = mw) ∧ (True ∧ mh = mh) ∧ mc = mc ∧ mu = mu ∧ True) ∧ True) ∧
                True) ∧
            At (bsInv mw mh k mc (1 : Int) mc) ∧
              ∀ (a : Int × List UInt8),
                bsInv mw mh k mc (Prod.fst a) (Prod.snd a) →
                  (decide (Prod.fst a ≤ (600 : Int)) = true →
                      (((At
                                (((1 : Int) ≤ mw ∧ mw ≤ (9 : Int)) ∧
                                  ((1 : Int) ≤ mh ∧ mh ≤ (9 : Int)) ∧ (0 : Int) ≤ k ∧ k < (2 : Int) * (mw + mh)) ∧
                              (At
                                    (blB { w := mw, h := mh, c := Prod.snd a, t := mu } (entX mw mh k) (entY mw mh k)
                                        (entD mw mh k) =
                                      true) ∧
                                  (((rnC mw mh (Prod.snd a) mu (entX mw mh k) (entY mw mh k) (entD mw mh k) == mc) =
                                          true →
                                        K (V.tup [V.int IntKind.i64 (Prod.fst a), V.lit true])) ∧
                                      ((rnC mw mh (Prod.snd a) mu (entX mw mh k) (entY mw mh k) (entD mw mh k) == mc) =
                                          false →
                                        (((True ∧ k = k) ∧
                                              ((0 : Nat) = (0 : Nat) ∧ (0 : Nat) = (0 : Nat)) ∧
                                                ((1 : Nat) = (1 : Nat) ∧ (0 : Nat) = (0 : Nat)) ∧
                                                  (True ∧
                                                      IntKind.wrap IntKind.i64 (Prod.fst a + (1 : Int)) =
                                                        IntKind.wrap IntKind.i64 (Prod.fst a + (1 : Int))) ∧
                                                    True) ∧
                                            ((True ∧ (True ∧ mw = mw) ∧ (True ∧ mh = mh) ∧ mc = mc ∧ mu = mu ∧ True) ∧
                                                (True ∧
                                                    (True ∧
                                                        rnW mw mh (Prod.snd a) mu (entX mw mh k) (entY mw mh k)
                                                            (entD mw mh k) =
                                                          mw) ∧
                                                      (True ∧
                                                          rnH mw mh (Prod.snd a) mu (entX mw mh k) (entY mw mh k)
                                                              (entD mw mh k) =
                                                            mh) ∧
                                                        rnC mw mh (Prod.snd a) mu (entX mw mh k) (entY mw mh k)
                                                              (entD mw mh k) =
                                                            rnC mw mh (Prod.snd a) mu (entX mw mh k) (entY mw mh k)
                                                              (entD mw mh k) ∧
                                                          rnU mw mh (Prod.snd a) mu (entX mw mh k) (entY mw mh k)
                                                                (entD mw mh k) =
                                                              mu ∧
                                                            True) ∧
                                                  True) ∧
                                              True) ∧
                                          At
                                            (bsInv mw mh k mc (IntKind.wrap IntKind.i64 (Prod.fst a + (1 : Int)))
                                                (rnC mw mh (Prod.snd a) mu (entX mw mh k) (entY mw mh k)
                                                  (entD mw mh k)) ∧
                                              Int.toNat
                                                  ((601 : Int) - IntKind.wrap IntKind.i64 (Prod.fst a + (1 : Int))) <
                                                Int.toNat ((601 : Int) - Prod.fst a)))) ∧
                                    True) ∧
                                True) ∧
                            True) ∧
                          True) ∧
                        (((At
                                  (((1 : Int) ≤ mw ∧ mw ≤ (9 : Int)) ∧
                                    ((1 : Int) ≤ mh ∧ mh ≤ (9 : Int)) ∧ (0 : Int) ≤ k ∧ k < (2 : Int) * (mw + mh)) ∧
                                (At
                                      (blB { w := mw, h := mh, c := Prod.snd a, t := mu } (entX mw mh k) (entY mw mh k)
                                          (entD mw mh k) =
                                        true) ∧
                                    (((rnC mw mh (Prod.snd a) mu (entX mw mh k) (entY mw mh k) (entD mw mh k) == mc) =
                                            true →
                                          K (V.tup [V.int IntKind.i64 (Prod.fst a), V.lit true])) ∧
                                        ((rnC mw mh (Prod.snd a) mu (entX mw mh k) (entY mw mh k) (entD mw mh k) ==
                                              mc) =
                                            false →
                                          (((True ∧ k = k) ∧
                                                ((0 : Nat) = (0 : Nat) ∧ (0 : Nat) = (0 : Nat)) ∧
                                                  ((1 : Nat) = (1 : Nat) ∧ (0 : Nat) = (0 : Nat)) ∧
                                                    (True ∧
                                                        IntKind.wrap IntKind.i64 (Prod.fst a + (1 : Int)) =
                                                          IntKind.wrap IntKind.i64 (Prod.fst a + (1 : Int))) ∧
                                                      True) ∧
                                              ((True ∧ (True ∧ mw = mw) ∧ (True ∧ mh = mh) ∧ mc = mc ∧ mu = mu ∧ True) ∧
                                                  (True ∧
                                                      (True ∧
                                                          rnW mw mh (Prod.snd a) mu (entX mw mh k) (entY mw mh k)
                                                              (entD mw mh k) =
                                                            mw) ∧
                                                        (True ∧
                                                            rnH mw mh (Prod.snd a) mu (entX mw mh k) (entY mw mh k)
                                                                (entD mw mh k) =
                                                              mh) ∧
                                                          rnC mw mh (Prod.snd a) mu (entX mw mh k) (entY mw mh k)
                                                                (entD mw mh k) =
                                                              rnC mw mh (Prod.snd a) mu (entX mw mh k) (entY mw mh k)
                                                                (entD mw mh k) ∧
                                                            rnU mw mh (Prod.snd a) mu (entX mw mh k) (entY mw mh k)
                                                                  (entD mw mh k) =
                                                                mu ∧
                                                              True) ∧
                                                    True) ∧
                                                True) ∧
                                            At
                                              (bsInv mw mh k mc (IntKind.wrap IntKind.i64 (Prod.fst a + (1 : Int)))
                                                  (rnC mw mh (Prod.snd a) mu (entX mw mh k) (entY mw mh k)
                                                    (entD mw mh k)) ∧
                                                Int.toNat
                                                    ((601 : Int) - IntKind.wrap IntKind.i64 (Prod.fst a + (1 : Int))) <
                                                  Int.toNat ((601 : Int) - Prod.fst a)))) ∧
                                      True) ∧
                                  True) ∧
                              True) ∧
                            (At
                                  (((1 : Int) ≤ mw ∧ mw ≤ (9 : Int)) ∧
                                    ((1 : Int) ≤ mh ∧ mh ≤ (9 : Int)) ∧ (0 : Int) ≤ k ∧ k < (2 : Int) * (mw + mh)) ∧
                                ((At
                                        (blB { w := mw, h := mh, c := Prod.snd a, t := mu } (entX mw mh k)
                                            (entY mw mh k) (entD mw mh k) =
                                          true) ∧
                                      (((rnC mw mh (Prod.snd a) mu (entX mw mh k) (entY mw mh k) (entD mw mh k) == mc) =
                                              true →
                                            K (V.tup [V.int IntKind.i64 (Prod.fst a), V.lit true])) ∧
                                          ((rnC mw mh (Prod.snd a) mu (entX mw mh k) (entY mw mh k) (entD mw mh k) ==
                                                mc) =
                                              false →
                                            (((True ∧ k = k) ∧
                                                  ((0 : Nat) = (0 : Nat) ∧ (0 : Nat) = (0 : Nat)) ∧
                                                    ((1 : Nat) = (1 : Nat) ∧ (0 : Nat) = (0 : Nat)) ∧
                                                      (True ∧
                                                          IntKind.wrap IntKind.i64 (Prod.fst a + (1 : Int)) =
                                                            IntKind.wrap IntKind.i64 (Prod.fst a + (1 : Int))) ∧
                                                        True) ∧
                                                ((True ∧
                                                      (True ∧ mw = mw) ∧ (True ∧ mh = mh) ∧ mc = mc ∧ mu = mu ∧ True) ∧
                                                    (True ∧
                                                        (True ∧
                                                            rnW mw mh (Prod.snd a) mu (entX mw mh k) (entY mw mh k)
                                                                (entD mw mh k) =
                                                              mw) ∧
                                                          (True ∧
                                                              rnH mw mh (Prod.snd a) mu (entX mw mh k) (entY mw mh k)
                                                                  (entD mw mh k) =
                                                                mh) ∧
                                                            rnC mw mh (Prod.snd a) mu (entX mw mh k) (entY mw mh k)
                                                                  (entD mw mh k) =
                                                                rnC mw mh (Prod.snd a) mu (entX mw mh k) (entY mw mh k)
                                                                  (entD mw mh k) ∧
                                                              rnU mw mh (Prod.snd a) mu (entX mw mh k) (entY mw mh k)
                                                                    (entD mw mh k) =
                                                                  mu ∧
                                                                True) ∧
                                                      True) ∧
                                                  True) ∧
                                              At
                                                (bsInv mw mh k mc (IntKind.wrap IntKind.i64 (Prod.fst a + (1 : Int)))
                                                    (rnC mw mh (Prod.snd a) mu (entX mw mh k) (entY mw mh k)
                                                      (entD mw mh k)) ∧
                                                  Int.toNat
                                                      ((601 : Int) -
                                                        IntKind.wrap IntKind.i64 (Prod.fst a + (1 : Int))) <
                                                    Int.toNat ((601 : Int) - Prod.fst a)))) ∧
                                        True) ∧
                                    True) ∧
                                  True) ∧
                              True) ∧
                          True) ∧
                    (decide (Prod.fst a ≤ (600 : Int)) = false → K (V.tup [V.int IntKind.i64 (0 : Int), V.lit false]))))

def VC_impl_BallsUntilSame (mw : Int) (mh : Int) (mc : List UInt8) (mu : Bool) (k : Int) (K : V → Prop) : Prop := At True ∧ ((!mzB { w := mw, h := mh, c := mc, t := mu }) = true → K 
  (V.tup [V.int IntKind.i64 (0 : Int), V.lit false])) ∧ ((!mzB { w := mw, h := mh, c := mc, t := mu }) = false → ((!mu) = true → K (V.tup [V.int IntKind.i64 (0 : Int), V.lit false])) 
  ∧ ((!mu) = false → At True ∧ ((!inB k (0 : Int) (IntKind.wrap IntKind.i64 (IntKind.wrap IntKind.i64 ((2 : Int) * IntKind.wrap IntKind.i64 (mw + mh)) - (1 : Int)))) = true → K (V.tup 
  [V.int IntKind.i64 (0 : Int), V.lit false])) ∧ ((!inB k (0 : Int) (IntKind.wrap IntKind.i64 (IntKind.wrap IntKind.i64 ((2 : Int) * IntKind.wrap IntKind.i64 (mw + mh)) - (1 : Int)))) 
  = false → True ∧ (True ∧ ((True ∧ k = k) ∧ ((0 : Nat) = (0 : Nat) ∧ (0 : Nat) = (0 : Nat)) ∧ ((1 : Nat) = (1 : Nat) ∧ (0 : Nat) = (0 : Nat)) ∧ ((2 : Nat) = (2 : Nat) ∧ (0 : Nat) = (0 
  : Nat)) ∧ (True ∧ (1 : Int) = (1 : Int)) ∧ True) ∧ ((True ∧ (True ∧ mw = mw) ∧ (True ∧ mh = mh) ∧ mc = mc ∧ mu = mu ∧ True) ∧ (True ∧ ((True ∧ mw = mw) ∧ (True ∧ mh = mh) ∧ mc = mc 
  ∧ mu = mu ∧ True) ∧ True ∧ cpB (81 : Nat) [] (81 : Nat) mc = padB (81 : Nat) (Rl.c (Rn.r { r := rlO mw mh (cpB (81 : Nat) [] (81 : Nat) mc) (0 : Int) (0 : Int) (0 : Int), e := (0 : Int), k := (0 : Int) })) 
  ∧ (True ∧ (0 : Int) = Rl.x (Rn.r { r := rlO mw mh (cpB (81 : Nat) [] (81 : Nat) mc) (0 : Int) (0 : Int) (0 : Int), e := (0 : Int), k := (0 : Int) })) ∧ (True ∧ (0 : Int) = Rl.y (Rn.r 
  { r := rlO mw mh (cpB (81 : Nat) [] (81 : Nat) mc) (0 : Int) (0 : Int) (0 : Int), e := (0 : Int), k := (0 : Int) })) ∧ (True ∧ (0 : Int) = Rl.d (Rn.r { r := rlO mw mh (cpB (81 : Nat) [] (81 : Nat) mc) (0 : Int) (0 : Int) (0 : Int), e := (0 : Int), k := (0 : Int) })) 
  ∧ (True ∧ (0 : Int) = Rn.e { r := rlO mw mh (cpB (81 : Nat) [] (81 : Nat) mc) (0 : Int) (0 : Int) (0 : Int), e := (0 : Int), k := (0 : Int) }) ∧ (True ∧ (0 : Int) = Rn.k { r := rlO mw mh (cpB (81 : Nat) [] (81 : Nat) mc) (0 : Int) (0 : Int) (0 : Int), e := (0 : Int), k := (0 : Int) }) 
  ∧ True) ∧ (True ∧ True ∧ True ∧ cpB (81 : Nat) [] (81 : Nat) mc = padB (81 : Nat) mc ∧ True) ∧ True) ∧ True) ∧ At (bsInv mw mh k mc (1 : Int) (Rl.c (Rn.r { r := rlO mw mh (cpB (81 : Nat) [] (81 : Nat) mc) (0 : Int) (0 : Int) (0 : Int), e := (0 : Int), k := (0 : Int) }))) 
  ∧ ∀ (a : Int × Rn), bsInv mw mh k mc (Prod.fst a) (Rl.c (Rn.r (Prod.snd a))) → (decide (Prod.fst a ≤ (600 : Int)) = true → At (sdP mw mh (padB (81 : Nat) (Rl.c (Rn.r (Prod.snd a)))) 
  k) ∧ True ∧ ((padB (81 : Nat) (padB (81 : Nat) (Rl.c (Rn.r (sdR mu mw mh (padB (81 : Nat) (Rl.c (Rn.r (Prod.snd a)))) k (Rn.e (Prod.snd a)) (Rn.k (Prod.snd a)))))) == padB (81 : Nat) 
  (padB (81 : Nat) mc)) = true → K (V.tup [V.int IntKind.i64 (Prod.fst a), V.lit true])) ∧ ((padB (81 : Nat) (padB (81 : Nat) (Rl.c (Rn.r (sdR mu mw mh (padB (81 : Nat) (Rl.c (Rn.r (Prod.snd 
  a)))) k (Rn.e (Prod.snd a)) (Rn.k (Prod.snd a)))))) == padB (81 : Nat) (padB (81 : Nat) mc)) = false → (True ∧ ((True ∧ k = k) ∧ ((0 : Nat) = (0 : Nat) ∧ (0 : Nat) = (0 : Nat)) ∧ ((1 
  : Nat) = (1 : Nat) ∧ (0 : Nat) = (0 : Nat)) ∧ ((2 : Nat) = (2 : Nat) ∧ (0 : Nat) = (0 : Nat)) ∧ (True ∧ IntKind.wrap IntKind.i64 (Prod.fst a + (1 : Int)) = IntKind.wrap IntKind.i64 
  (Prod.fst a + (1 : Int))) ∧ True) ∧ ((True ∧ (True ∧ mw = mw) ∧ (True ∧ mh = mh) ∧ mc = mc ∧ mu = mu ∧ True) ∧ (True ∧ ((True ∧ mw = mw) ∧ (True ∧ mh = mh) ∧ mc = mc ∧ mu = mu ∧ True) 
  ∧ True ∧ padB (81 : Nat) (Rl.c (Rn.r (sdR mu mw mh (padB (81 : Nat) (Rl.c (Rn.r (Prod.snd a)))) k (Rn.e (Prod.snd a)) (Rn.k (Prod.snd a))))) = padB (81 : Nat) (Rl.c (Rn.r { r := rlO mw mh (padB (81 : Nat) (Rl.c (Rn.r (sdR mu mw mh (padB (81 : Nat) (Rl.c (Rn.r (Prod.snd a)))) k (Rn.e (Prod.snd a)) (Rn.k (Prod.snd a)))))) (Rl.x (Rn.r (sdR mu mw mh (padB (81 : Nat) (Rl.c (Rn.r (Prod.snd a)))) k (Rn.e (Prod.snd a)) (Rn.k (Prod.snd a))))) (Rl.y (Rn.r (sdR mu mw mh (padB (81 : Nat) (Rl.c (Rn.r (Prod.snd a)))) k (Rn.e (Prod.snd a)) (Rn.k (Prod.snd a))))) (Rl.d (Rn.r (sdR mu mw mh (padB (81 : Nat) (Rl.c (Rn.r (Prod.snd a)))) k (Rn.e (Prod.snd a)) (Rn.k (Prod.snd a))))), e := Rn.e (sdR mu mw mh (padB (81 : Nat) (Rl.c (Rn.r (Prod.snd a)))) k (Rn.e (Prod.snd a)) (Rn.k (Prod.snd a))), k := Rn.k (sdR mu mw mh (padB (81 : Nat) (Rl.c (Rn.r (Prod.snd a)))) k (Rn.e (Prod.snd a)) (Rn.k (Prod.snd a))) })) 
  ∧ (True ∧ Rl.x (Rn.r (sdR mu mw mh (padB (81 : Nat) (Rl.c (Rn.r (Prod.snd a)))) k (Rn.e (Prod.snd a)) (Rn.k (Prod.snd a)))) = Rl.x (Rn.r { r := rlO mw mh (padB (81 : Nat) (Rl.c (Rn.r (sdR mu mw mh (padB (81 : Nat) (Rl.c (Rn.r (Prod.snd a)))) k (Rn.e (Prod.snd a)) (Rn.k (Prod.snd a)))))) (Rl.x (Rn.r (sdR mu mw mh (padB (81 : Nat) (Rl.c (Rn.r (Prod.snd a)))) k (Rn.e (Prod.snd a)) (Rn.k (Prod.snd a))))) (Rl.y (Rn.r (sdR mu mw mh (padB (81 : Nat) (Rl.c (Rn.r (Prod.snd a)))) k (Rn.e (Prod.snd a)) (Rn.k (Prod.snd a))))) (Rl.d (Rn.r (sdR mu mw mh (padB (81 : Nat) (Rl.c (Rn.r (Prod.snd a)))) k (Rn.e (Prod.snd a)) (Rn.k (Prod.snd a))))), e := Rn.e (sdR mu mw mh (padB (81 : Nat) (Rl.c (Rn.r (Prod.snd a)))) k (Rn.e (Prod.snd a)) (Rn.k (Prod.snd a))), k := Rn.k (sdR mu mw mh (padB (81 : Nat) (Rl.c (Rn.r (Prod.snd a)))) k (Rn.e (Prod.snd a)) (Rn.k (Prod.snd a))) })) 
  ∧ (True ∧ Rl.y (Rn.r (sdR mu mw mh (padB (81 : Nat) (Rl.c (Rn.r (Prod.snd a)))) k (Rn.e (Prod.snd a)) (Rn.k (Prod.snd a)))) = Rl.y (Rn.r { r := rlO mw mh (padB (81 : Nat) (Rl.c (Rn.r (sdR mu mw mh (padB (81 : Nat) (Rl.c (Rn.r (Prod.snd a)))) k (Rn.e (Prod.snd a)) (Rn.k (Prod.snd a)))))) (Rl.x (Rn.r (sdR mu mw mh (padB (81 : Nat) (Rl.c (Rn.r (Prod.snd a)))) k (Rn.e (Prod.snd a)) (Rn.k (Prod.snd a))))) (Rl.y (Rn.r (sdR mu mw mh (padB (81 : Nat) (Rl.c (Rn.r (Prod.snd a)))) k (Rn.e (Prod.snd a)) (Rn.k (Prod.snd a))))) (Rl.d (Rn.r (sdR mu mw mh (padB (81 : Nat) (Rl.c (Rn.r (Prod.snd a)))) k (Rn.e (Prod.snd a)) (Rn.k (Prod.snd a))))), e := Rn.e (sdR mu mw mh (padB (81 : Nat) (Rl.c (Rn.r (Prod.snd a)))) k (Rn.e (Prod.snd a)) (Rn.k (Prod.snd a))), k := Rn.k (sdR mu mw mh (padB (81 : Nat) (Rl.c (Rn.r (Prod.snd a)))) k (Rn.e (Prod.snd a)) (Rn.k (Prod.snd a))) })) 
  ∧ (True ∧ Rl.d (Rn.r (sdR mu mw mh (padB (81 : Nat) (Rl.c (Rn.r (Prod.snd a)))) k (Rn.e (Prod.snd a)) (Rn.k (Prod.snd a)))) = Rl.d (Rn.r { r := rlO mw mh (padB (81 : Nat) (Rl.c (Rn.r (sdR mu mw mh (padB (81 : Nat) (Rl.c (Rn.r (Prod.snd a)))) k (Rn.e (Prod.snd a)) (Rn.k (Prod.snd a)))))) (Rl.x (Rn.r (sdR mu mw mh (padB (81 : Nat) (Rl.c (Rn.r (Prod.snd a)))) k (Rn.e (Prod.snd a)) (Rn.k (Prod.snd a))))) (Rl.y (Rn.r (sdR mu mw mh (padB (81 : Nat) (Rl.c (Rn.r (Prod.snd a)))) k (Rn.e (Prod.snd a)) (Rn.k (Prod.snd a))))) (Rl.d (Rn.r (sdR mu mw mh (padB (81 : Nat) (Rl.c (Rn.r (Prod.snd a)))) k (Rn.e (Prod.snd a)) (Rn.k (Prod.snd a))))), e := Rn.e (sdR mu mw mh (padB (81 : Nat) (Rl.c (Rn.r (Prod.snd a)))) k (Rn.e (Prod.snd a)) (Rn.k (Prod.snd a))), k := Rn.k (sdR mu mw mh (padB (81 : Nat) (Rl.c (Rn.r (Prod.snd a)))) k (Rn.e (Prod.snd a)) (Rn.k (Prod.snd a))) })) 
  ∧ (True ∧ Rn.e (sdR mu mw mh (padB (81 : Nat) (Rl.c (Rn.r (Prod.snd a)))) k (Rn.e (Prod.snd a)) (Rn.k (Prod.snd a))) = Rn.e { r := rlO mw mh (padB (81 : Nat) (Rl.c (Rn.r (sdR mu mw mh (padB (81 : Nat) (Rl.c (Rn.r (Prod.snd a)))) k (Rn.e (Prod.snd a)) (Rn.k (Prod.snd a)))))) (Rl.x (Rn.r (sdR mu mw mh (padB (81 : Nat) (Rl.c (Rn.r (Prod.snd a)))) k (Rn.e (Prod.snd a)) (Rn.k (Prod.snd a))))) (Rl.y (Rn.r (sdR mu mw mh (padB (81 : Nat) (Rl.c (Rn.r (Prod.snd a)))) k (Rn.e (Prod.snd a)) (Rn.k (Prod.snd a))))) (Rl.d (Rn.r (sdR mu mw mh (padB (81 : Nat) (Rl.c (Rn.r (Prod.snd a)))) k (Rn.e (Prod.snd a)) (Rn.k (Prod.snd a))))), e := Rn.e (sdR mu mw mh (padB (81 : Nat) (Rl.c (Rn.r (Prod.snd a)))) k (Rn.e (Prod.snd a)) (Rn.k (Prod.snd a))), k := Rn.k (sdR mu mw mh (padB (81 : Nat) (Rl.c (Rn.r (Prod.snd a)))) k (Rn.e (Prod.snd a)) (Rn.k (Prod.snd a))) }) 
  ∧ (True ∧ Rn.k (sdR mu mw mh (padB (81 : Nat) (Rl.c (Rn.r (Prod.snd a)))) k (Rn.e (Prod.snd a)) (Rn.k (Prod.snd a))) = Rn.k { r := rlO mw mh (padB (81 : Nat) (Rl.c (Rn.r (sdR mu mw mh (padB (81 : Nat) (Rl.c (Rn.r (Prod.snd a)))) k (Rn.e (Prod.snd a)) (Rn.k (Prod.snd a)))))) (Rl.x (Rn.r (sdR mu mw mh (padB (81 : Nat) (Rl.c (Rn.r (Prod.snd a)))) k (Rn.e (Prod.snd a)) (Rn.k (Prod.snd a))))) (Rl.y (Rn.r (sdR mu mw mh (padB (81 : Nat) (Rl.c (Rn.r (Prod.snd a)))) k (Rn.e (Prod.snd a)) (Rn.k (Prod.snd a))))) (Rl.d (Rn.r (sdR mu mw mh (padB (81 : Nat) (Rl.c (Rn.r (Prod.snd a)))) k (Rn.e (Prod.snd a)) (Rn.k (Prod.snd a))))), e := Rn.e (sdR mu mw mh (padB (81 : Nat) (Rl.c (Rn.r (Prod.snd a)))) k (Rn.e (Prod.snd a)) (Rn.k (Prod.snd a))), k := Rn.k (sdR mu mw mh (padB (81 : Nat) (Rl.c (Rn.r (Prod.snd a)))) k (Rn.e (Prod.snd a)) (Rn.k (Prod.snd a))) }) 
  ∧ True) ∧ (True ∧ True ∧ True ∧ padB (81 : Nat) mc = padB (81 : Nat) mc ∧ True) ∧ True) ∧ True) ∧ At (bsInv mw mh k mc (IntKind.wrap IntKind.i64 (Prod.fst a + (1 : Int))) (Rl.c (Rn.r 
  { r := rlO mw mh (padB (81 : Nat) (Rl.c (Rn.r (sdR mu mw mh (padB (81 : Nat) (Rl.c (Rn.r (Prod.snd a)))) k (Rn.e (Prod.snd a)) (Rn.k (Prod.snd a)))))) (Rl.x (Rn.r (sdR mu mw mh (padB (81 : Nat) (Rl.c (Rn.r (Prod.snd a)))) k (Rn.e (Prod.snd a)) (Rn.k (Prod.snd a))))) (Rl.y (Rn.r (sdR mu mw mh (padB (81 : Nat) (Rl.c (Rn.r (Prod.snd a)))) k (Rn.e (Prod.snd a)) (Rn.k (Prod.snd a))))) (Rl.d (Rn.r (sdR mu mw mh (padB (81 : Nat) (Rl.c (Rn.r (Prod.snd a)))) k (Rn.e (Prod.snd a)) (Rn.k (Prod.snd a))))), e := Rn.e (sdR mu mw mh (padB (81 : Nat) (Rl.c (Rn.r (Prod.snd a)))) k (Rn.e (Prod.snd a)) (Rn.k (Prod.snd a))), k := Rn.k (sdR mu mw mh (padB (81 : Nat) (Rl.c (Rn.r (Prod.snd a)))) k (Rn.e (Prod.snd a)) (Rn.k (Prod.snd a))) })) 
  ∧ Int.toNat ((601 : Int) - IntKind.wrap IntKind.i64 (Prod.fst a + (1 : Int))) < Int.toNat ((601 : Int) - Prod.fst a)))) ∧ (decide (Prod.fst a ≤ (600 : Int)) = false → K (V.tup [V.int 
  IntKind.i64 (0 : Int), V.lit false])))))

end Go.Vi
