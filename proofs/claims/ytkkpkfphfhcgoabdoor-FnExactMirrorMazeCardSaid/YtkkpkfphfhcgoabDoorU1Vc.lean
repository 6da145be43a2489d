/- The conditions, reckoned out by program: texts alone. -/
import Derived.Test.YtkkpkfphfhcgoabDoorU1Defs
namespace Go.Vi
set_option linter.unusedVariables false
def VC_spec_miOther (b : Int) (K : V → Prop) : Prop :=
  ((b == (90 : Int)) = true → K (V.str (Array.toList #[(83 : UInt8)]))) ∧
  ((b == (90 : Int)) = false →
    ((b == (83 : Int)) = true → K (V.str (Array.toList #[(90 : UInt8)]))) ∧
      ((b == (83 : Int)) = false → K (V.str (Array.toList #[(46 : UInt8)]))))

def VC_impl_TurnMaze_1 (x : Int) (y : Int) (mw : Int) (mh : Int) (mc : List UInt8) (mu : Bool) (K : V → List Blk → Prop) : Prop :=
  K
  (V.tup
    [V.int IntKind.i64 (IntKind.wrap IntKind.i64 (IntKind.wrap IntKind.i64 (mh - (1 : Int)) - y)), V.int IntKind.i64 x])
  [{ cs := Cells.vals [V.int IntKind.i64 mw, V.int IntKind.i64 mh, V.str mc, V.bool mu], elem := 28,
      kind := Kind.box }]

def VC_impl_MirrorMaze_1 (x : Int) (y : Int) (mw : Int) (mh : Int) (mc : List UInt8) (mu : Bool) (K : V → List Blk → Prop) : Prop :=
  K
  (V.tup
    [V.int IntKind.i64 (IntKind.wrap IntKind.i64 (IntKind.wrap IntKind.i64 (mw - (1 : Int)) - x)), V.int IntKind.i64 y])
  [{ cs := Cells.vals [V.int IntKind.i64 mw, V.int IntKind.i64 mh, V.str mc, V.bool mu], elem := 28,
      kind := Kind.box }]

def VC_spec_TurnMaze (mw : Int) (mh : Int) (mc : List UInt8) (mu : Bool) (K : V → Prop) : Prop :=
  At True ∧
  ((!mzB { w := mw, h := mh, c := mc, t := mu }) = true →
      K
        (V.tup
          [V.agg [V.int IntKind.i64 (0 : Int), V.int IntKind.i64 (0 : Int), V.str (Array.toList #[]), V.lit false],
            V.lit false])) ∧
    ((!mzB { w := mw, h := mh, c := mc, t := mu }) = false →
      ((((0 : Nat) = (0 : Nat) ∧ (0 : Nat) = (0 : Nat)) ∧
            ((1 : Nat) = (1 : Nat) ∧ (0 : Nat) = (0 : Nat)) ∧
              ((2 : Nat) = (2 : Nat) ∧ (0 : Nat) = (0 : Nat)) ∧ (True ∧ (0 : Int) = (0 : Int)) ∧ True) ∧
          ((True ∧ (True ∧ mw = mw) ∧ (True ∧ mh = mh) ∧ mc = mc ∧ mu = mu ∧ True) ∧
              (True ∧
                  (True ∧ (0 : Int) = (0 : Int)) ∧
                    (True ∧ (0 : Int) = (0 : Int)) ∧ nilB = nilB ∧ false = false ∧ True) ∧
                (True ∧
                    (True ∧ mh = mh) ∧
                      (True ∧ mw = mw) ∧
                        nilB = List.take (Int.toNat ((0 : Int) * mh)) (turnC mw mh mc) ∧ mu = mu ∧ True) ∧
                  True) ∧
            True) ∧
        At (rowInv mw mh (0 : Int)) ∧
          ∀ (a : Int),
            rowInv mw mh a →
              (decide (a < mw) = true →
                  ((((0 : Nat) = (0 : Nat) ∧ (0 : Nat) = (0 : Nat)) ∧
                        ((1 : Nat) = (1 : Nat) ∧ (0 : Nat) = (0 : Nat)) ∧
                          ((2 : Nat) = (2 : Nat) ∧ (0 : Nat) = (0 : Nat)) ∧
                            (True ∧ a = a) ∧ (True ∧ (0 : Int) = (0 : Int)) ∧ True) ∧
                      ((True ∧ (True ∧ mw = mw) ∧ (True ∧ mh = mh) ∧ mc = mc ∧ mu = mu ∧ True) ∧
                          (True ∧
                              (True ∧ (0 : Int) = (0 : Int)) ∧
                                (True ∧ (0 : Int) = (0 : Int)) ∧ nilB = nilB ∧ false = false ∧ True) ∧
                            (True ∧
                                (True ∧ mh = mh) ∧
                                  (True ∧ mw = mw) ∧
                                    List.take (Int.toNat (a * mh)) (turnC mw mh mc) =
                                        List.take (Int.toNat (a * mh + (0 : Int))) (turnC mw mh mc) ∧
                                      mu = mu ∧ True) ∧
                              True) ∧
                        True) ∧
                    At (colInv mw mh a (0 : Int)) ∧
                      ∀ (a_3 : Int),
                        colInv mw mh a a_3 →
                          (decide (a_3 < mh) = true →
                              True ∧
                                At
                                    ((0 : Int) ≤
                                        IntKind.wrap IntKind.i64
                                          (IntKind.wrap IntKind.i64
                                              (IntKind.wrap IntKind.i64
                                                  (IntKind.wrap IntKind.i64 (mh - (1 : Int)) - a_3) *
                                                mw) +
                                            a) ∧
                                      IntKind.wrap IntKind.i64
                                          (IntKind.wrap IntKind.i64
                                              (IntKind.wrap IntKind.i64
                                                  (IntKind.wrap IntKind.i64 (mh - (1 : Int)) - a_3) *
                                                mw) +
                                            a) <
                                        (↑(List.length mc) : Int)) ∧
                                  At True ∧
                                    At
                                        (List.length (List.take (Int.toNat (a * mh + a_3)) (turnC mw mh mc)) +
                                            List.length
                                              (mirT
                                                (↑(UInt8.toNat
                                                      (List.getD mc
                                                        (Int.toNat
                                                          (IntKind.wrap IntKind.i64
                                                            (IntKind.wrap IntKind.i64
                                                                (IntKind.wrap IntKind.i64
                                                                    (IntKind.wrap IntKind.i64 (mh - (1 : Int)) - a_3) *
                                                                  mw) +
                                                              a)))
                                                        (0 : UInt8))) :
                                                  Int)) ≤
                                          (9223372036854775807 : Nat)) ∧
                                      ((((0 : Nat) = (0 : Nat) ∧ (0 : Nat) = (0 : Nat)) ∧
                                            ((1 : Nat) = (1 : Nat) ∧ (0 : Nat) = (0 : Nat)) ∧
                                              ((2 : Nat) = (2 : Nat) ∧ (0 : Nat) = (0 : Nat)) ∧
                                                (True ∧ a = a) ∧
                                                  (True ∧
                                                      IntKind.wrap IntKind.i64 (a_3 + (1 : Int)) =
                                                        IntKind.wrap IntKind.i64 (a_3 + (1 : Int))) ∧
                                                    True) ∧
                                          ((True ∧ (True ∧ mw = mw) ∧ (True ∧ mh = mh) ∧ mc = mc ∧ mu = mu ∧ True) ∧
                                              (True ∧
                                                  (True ∧ (0 : Int) = (0 : Int)) ∧
                                                    (True ∧ (0 : Int) = (0 : Int)) ∧
                                                      nilB = nilB ∧ false = false ∧ True) ∧
                                                (True ∧
                                                    (True ∧ mh = mh) ∧
                                                      (True ∧ mw = mw) ∧
                                                        List.take (Int.toNat (a * mh + a_3)) (turnC mw mh mc) ++
                                                              mirT
                                                                (↑(UInt8.toNat
                                                                      (List.getD mc
                                                                        (Int.toNat
                                                                          (IntKind.wrap IntKind.i64
                                                                            (IntKind.wrap IntKind.i64
                                                                                (IntKind.wrap IntKind.i64
                                                                                    (IntKind.wrap IntKind.i64
                                                                                        (mh - (1 : Int)) -
                                                                                      a_3) *
                                                                                  mw) +
                                                                              a)))
                                                                        (0 : UInt8))) :
                                                                  Int) =
                                                            List.take
                                                              (Int.toNat
                                                                (a * mh + IntKind.wrap IntKind.i64 (a_3 + (1 : Int))))
                                                              (turnC mw mh mc) ∧
                                                          mu = mu ∧ True) ∧
                                                  True) ∧
                                            True) ∧
                                        At
                                          (colInv mw mh a (IntKind.wrap IntKind.i64 (a_3 + (1 : Int))) ∧
                                            Int.toNat (mh - IntKind.wrap IntKind.i64 (a_3 + (1 : Int))) <
                                              Int.toNat (mh - a_3))) ∧
                            (decide (a_3 < mh) = false →
                              ((((0 : Nat) = (0 : Nat) ∧ (0 : Nat) = (0 : Nat)) ∧
                                    ((1 : Nat) = (1 : Nat) ∧ (0 : Nat) = (0 : Nat)) ∧
                                      ((2 : Nat) = (2 : Nat) ∧ (0 : Nat) = (0 : Nat)) ∧
                                        (True ∧
                                            IntKind.wrap IntKind.i64 (a + (1 : Int)) =
                                              IntKind.wrap IntKind.i64 (a + (1 : Int))) ∧
                                          True) ∧
                                  ((True ∧ (True ∧ mw = mw) ∧ (True ∧ mh = mh) ∧ mc = mc ∧ mu = mu ∧ True) ∧
                                      (True ∧
                                          (True ∧ (0 : Int) = (0 : Int)) ∧
                                            (True ∧ (0 : Int) = (0 : Int)) ∧ nilB = nilB ∧ false = false ∧ True) ∧
                                        (True ∧
                                            (True ∧ mh = mh) ∧
                                              (True ∧ mw = mw) ∧
                                                List.take (Int.toNat (a * mh + a_3)) (turnC mw mh mc) =
                                                    List.take
                                                      (Int.toNat (IntKind.wrap IntKind.i64 (a + (1 : Int)) * mh))
                                                      (turnC mw mh mc) ∧
                                                  mu = mu ∧ True) ∧
                                          True) ∧
                                    True) ∧
                                At
                                  (rowInv mw mh (IntKind.wrap IntKind.i64 (a + (1 : Int))) ∧
                                    Int.toNat (mw - IntKind.wrap IntKind.i64 (a + (1 : Int))) < Int.toNat (mw - a)))) ∧
                (decide (a < mw) = false →
                  K
                    (V.tup
                      [V.agg
                          [V.int IntKind.i64 mh, V.int IntKind.i64 mw,
                            V.str (List.take (Int.toNat (a * mh)) (turnC mw mh mc)), V.bool mu],
                        V.lit true])))

def VC_impl_TurnMaze (mw : Int) (mh : Int) (mc : List UInt8) (mu : Bool) (K : V → Prop) : Prop :=
  At True ∧
  ((!mzB { w := mw, h := mh, c := mc, t := mu }) = true →
      K
        (V.tup
          [V.agg [V.int IntKind.i64 (0 : Int), V.int IntKind.i64 (0 : Int), V.str (Array.toList #[]), V.lit false],
            V.lit false])) ∧
    ((!mzB { w := mw, h := mh, c := mc, t := mu }) = false →
      At
          ((0 : Int) ≤ (↑(List.length mc) : Int) ∧
            (↑(List.length mc) : Int) ≤ (↑(List.length mc) : Int) ∧ (↑(List.length mc) : Int) ≤ (1000000000 : Int)) ∧
        ((mc = mc ∧
              (True ∧ mw = mw) ∧
                (True ∧ mh = mh) ∧
                  ((36 : Nat) = (36 : Nat) ∧ [(0 : Nat)] = [(0 : Nat)]) ∧
                    ((1 : Nat) = (1 : Nat) ∧
                        Int.toNat (↑(List.length mc) : Int) = Int.toNat (↑(List.length mc) : Int)) ∧
                      (True ∧ (↑(Int.toNat (↑(List.length mc) : Int)) : Int) = (↑(List.length mc) : Int)) ∧
                        (True ∧ (0 : Int) = (0 : Int)) ∧ True) ∧
            ((True ∧ (True ∧ mw = mw) ∧ (True ∧ mh = mh) ∧ mc = mc ∧ mu = mu ∧ True) ∧
                (True ∧
                    List.replicate (Int.toNat (↑(List.length mc) : Int)) (0 : UInt8) =
                      rlF (plTurn mh) mw mh mc (List.replicate (List.length mc) (0 : UInt8)) (Int.toNat (0 : Int))) ∧
                  True) ∧
              True) ∧
          At (relInv mc (0 : Int)) ∧
            ∀ (a : Int),
              relInv mc a →
                (decide (a < (↑(List.length mc) : Int)) = true →
                    True ∧
                      At (mw ≠ (0 : Int)) ∧
                        At (mw ≠ (0 : Int)) ∧
                          At
                              (((1 : Int) ≤ mw ∧ mw ≤ (9 : Int)) ∧
                                ((1 : Int) ≤ mh ∧ mh ≤ (9 : Int)) ∧
                                  ((0 : Int) ≤ Int.tmod a mw ∧ Int.tmod a mw ≤ (9 : Int)) ∧
                                    (0 : Int) ≤ IntKind.wrap IntKind.i64 (Int.tdiv a mw) ∧
                                      IntKind.wrap IntKind.i64 (Int.tdiv a mw) ≤ (9 : Int)) ∧
                            At ((0 : Int) ≤ a ∧ a < (↑(List.length mc) : Int)) ∧
                              At
                                  ((0 : Int) ≤
                                      IntKind.wrap IntKind.i64
                                        (IntKind.wrap IntKind.i64 (Int.tmod a mw * mh) +
                                          (mh - (1 : Int) - IntKind.wrap IntKind.i64 (Int.tdiv a mw))) ∧
                                    IntKind.wrap IntKind.i64
                                        (IntKind.wrap IntKind.i64 (Int.tmod a mw * mh) +
                                          (mh - (1 : Int) - IntKind.wrap IntKind.i64 (Int.tdiv a mw))) <
                                      (↑(Int.toNat (↑(List.length mc) : Int)) : Int)) ∧
                                At
                                    (Int.toNat
                                          (IntKind.wrap IntKind.i64
                                            (IntKind.wrap IntKind.i64 (Int.tmod a mw * mh) +
                                              (mh - (1 : Int) - IntKind.wrap IntKind.i64 (Int.tdiv a mw)))) <
                                        List.length
                                          (rlF (plTurn mh) mw mh mc (List.replicate (List.length mc) (0 : UInt8))
                                            (Int.toNat a)) ∧
                                      (0 : Int) ≤ (↑(UInt8.toNat (List.getD mc (Int.toNat a) (0 : UInt8))) : Int) ∧
                                        (↑(UInt8.toNat (List.getD mc (Int.toNat a) (0 : UInt8))) : Int) < (256 : Int)) ∧
                                  ((mc = mc ∧
                                        (True ∧ mw = mw) ∧
                                          (True ∧ mh = mh) ∧
                                            ((36 : Nat) = (36 : Nat) ∧ [(0 : Nat)] = [(0 : Nat)]) ∧
                                              ((1 : Nat) = (1 : Nat) ∧
                                                  Int.toNat (↑(List.length mc) : Int) =
                                                    Int.toNat (↑(List.length mc) : Int)) ∧
                                                (True ∧ (↑(List.length mc) : Int) = (↑(List.length mc) : Int)) ∧
                                                  (True ∧
                                                      IntKind.wrap IntKind.i64 (a + (1 : Int)) =
                                                        IntKind.wrap IntKind.i64 (a + (1 : Int))) ∧
                                                    True) ∧
                                      ((True ∧ (True ∧ mw = mw) ∧ (True ∧ mh = mh) ∧ mc = mc ∧ mu = mu ∧ True) ∧
                                          (True ∧
                                              List.set
                                                  (rlF (plTurn mh) mw mh mc
                                                    (List.replicate (List.length mc) (0 : UInt8)) (Int.toNat a))
                                                  (Int.toNat
                                                    (IntKind.wrap IntKind.i64
                                                      (IntKind.wrap IntKind.i64 (Int.tmod a mw * mh) +
                                                        (mh - (1 : Int) - IntKind.wrap IntKind.i64 (Int.tdiv a mw)))))
                                                  (UInt8.ofNat
                                                    (Int.toNat
                                                      (↑(UInt8.toNat (List.getD mc (Int.toNat a) (0 : UInt8))) :
                                                        Int))) =
                                                rlF (plTurn mh) mw mh mc (List.replicate (List.length mc) (0 : UInt8))
                                                  (Int.toNat (IntKind.wrap IntKind.i64 (a + (1 : Int))))) ∧
                                            True) ∧
                                        True) ∧
                                    At
                                      (relInv mc (IntKind.wrap IntKind.i64 (a + (1 : Int))) ∧
                                        Int.toNat
                                            ((↑(List.length mc) : Int) - IntKind.wrap IntKind.i64 (a + (1 : Int))) <
                                          Int.toNat ((↑(List.length mc) : Int) - a))) ∧
                  (decide (a < (↑(List.length mc) : Int)) = false →
                    At
                        (Int.toNat (↑(List.length mc) : Int) ≤
                          List.length
                            (rlF (plTurn mh) mw mh mc (List.replicate (List.length mc) (0 : UInt8)) (Int.toNat a))) ∧
                      At
                          (List.length
                              (List.take (Int.toNat (↑(List.length mc) : Int))
                                (rlF (plTurn mh) mw mh mc (List.replicate (List.length mc) (0 : UInt8))
                                  (Int.toNat a))) ≤
                            (9223372036854775807 : Nat)) ∧
                        (((True ∧ mh = mh) ∧
                              (True ∧ mw = mw) ∧
                                ((1 : Nat) = (1 : Nat) ∧ (0 : Nat) = (0 : Nat)) ∧
                                  ((2 : Nat) = (2 : Nat) ∧ (0 : Nat) = (0 : Nat)) ∧
                                    ((3 : Nat) = (3 : Nat) ∧
                                        List.length
                                            (List.take (Int.toNat (↑(List.length mc) : Int))
                                              (rlF (plTurn mh) mw mh mc (List.replicate (List.length mc) (0 : UInt8))
                                                (Int.toNat a))) =
                                          List.length
                                            (List.take (Int.toNat (↑(List.length mc) : Int))
                                              (rlF (plTurn mh) mw mh mc (List.replicate (List.length mc) (0 : UInt8))
                                                (Int.toNat a)))) ∧
                                      ((3 : Nat) = (3 : Nat) ∧
                                          List.length
                                              (List.take (Int.toNat (↑(List.length mc) : Int))
                                                (rlF (plTurn mh) mw mh mc (List.replicate (List.length mc) (0 : UInt8))
                                                  (Int.toNat a))) =
                                            List.length
                                              (List.take (Int.toNat (↑(List.length mc) : Int))
                                                (rlF (plTurn mh) mw mh mc (List.replicate (List.length mc) (0 : UInt8))
                                                  (Int.toNat a)))) ∧
                                        (True ∧
                                            (↑(List.length
                                                    (List.take (Int.toNat (↑(List.length mc) : Int))
                                                      (rlF (plTurn mh) mw mh mc
                                                        (List.replicate (List.length mc) (0 : UInt8)) (Int.toNat a)))) :
                                                Int) =
                                              (↑(List.length
                                                    (List.take (Int.toNat (↑(List.length mc) : Int))
                                                      (rlF (plTurn mh) mw mh mc
                                                        (List.replicate (List.length mc) (0 : UInt8)) (Int.toNat a)))) :
                                                Int)) ∧
                                          (True ∧ (0 : Int) = (0 : Int)) ∧ True) ∧
                            ((True ∧ (True ∧ mw = mw) ∧ (True ∧ mh = mh) ∧ mc = mc ∧ mu = mu ∧ True) ∧
                                (True ∧ (True ∧ mw = mw) ∧ (True ∧ mh = mh) ∧ mc = mc ∧ mu = mu ∧ True) ∧
                                  (True ∧
                                      (True ∧ (0 : Int) = (0 : Int)) ∧
                                        (True ∧ (0 : Int) = (0 : Int)) ∧ nilB = nilB ∧ false = false ∧ True) ∧
                                    (True ∧
                                        List.take (Int.toNat (↑(List.length mc) : Int))
                                            (rlF (plTurn mh) mw mh mc (List.replicate (List.length mc) (0 : UInt8))
                                              (Int.toNat a)) =
                                          othAt
                                            (List.take (Int.toNat (↑(List.length mc) : Int))
                                              (rlF (plTurn mh) mw mh mc (List.replicate (List.length mc) (0 : UInt8))
                                                (Int.toNat a)))
                                            (Int.toNat (0 : Int))) ∧
                                      True) ∧
                              True) ∧
                          At
                              (relInv
                                  (List.take (Int.toNat (↑(List.length mc) : Int))
                                    (rlF (plTurn mh) mw mh mc (List.replicate (List.length mc) (0 : UInt8))
                                      (Int.toNat a)))
                                  (0 : Int) ∧
                                List.length
                                    (List.take (Int.toNat (↑(List.length mc) : Int))
                                      (rlF (plTurn mh) mw mh mc (List.replicate (List.length mc) (0 : UInt8))
                                        (Int.toNat a))) =
                                  List.length
                                    (List.take (Int.toNat (↑(List.length mc) : Int))
                                      (rlF (plTurn mh) mw mh mc (List.replicate (List.length mc) (0 : UInt8))
                                        (Int.toNat a)))) ∧
                            ∀ (a_3 : Int),
                              relInv
                                    (List.take (Int.toNat (↑(List.length mc) : Int))
                                      (rlF (plTurn mh) mw mh mc (List.replicate (List.length mc) (0 : UInt8))
                                        (Int.toNat a)))
                                    a_3 ∧
                                  List.length
                                      (List.take (Int.toNat (↑(List.length mc) : Int))
                                        (rlF (plTurn mh) mw mh mc (List.replicate (List.length mc) (0 : UInt8))
                                          (Int.toNat a))) =
                                    List.length
                                      (List.take (Int.toNat (↑(List.length mc) : Int))
                                        (rlF (plTurn mh) mw mh mc (List.replicate (List.length mc) (0 : UInt8))
                                          (Int.toNat a))) →
                                (decide
                                        (a_3 <
                                          (↑(List.length
                                                (List.take (Int.toNat (↑(List.length mc) : Int))
                                                  (rlF (plTurn mh) mw mh mc
                                                    (List.replicate (List.length mc) (0 : UInt8)) (Int.toNat a)))) :
                                            Int)) =
                                      true →
                                    At
                                        ((0 : Int) ≤ a_3 ∧
                                          a_3 <
                                            (↑(List.length
                                                  (List.take (Int.toNat (↑(List.length mc) : Int))
                                                    (rlF (plTurn mh) mw mh mc
                                                      (List.replicate (List.length mc) (0 : UInt8)) (Int.toNat a)))) :
                                              Int)) ∧
                                      At
                                          (Int.toNat a_3 <
                                            List.length
                                              (othAt
                                                (List.take (Int.toNat (↑(List.length mc) : Int))
                                                  (rlF (plTurn mh) mw mh mc
                                                    (List.replicate (List.length mc) (0 : UInt8)) (Int.toNat a)))
                                                (Int.toNat a_3))) ∧
                                        At True ∧
                                          At
                                              ((0 : Int) ≤ a_3 ∧
                                                a_3 <
                                                  (↑(List.length
                                                        (List.take (Int.toNat (↑(List.length mc) : Int))
                                                          (rlF (plTurn mh) mw mh mc
                                                            (List.replicate (List.length mc) (0 : UInt8))
                                                            (Int.toNat a)))) :
                                                    Int)) ∧
                                            At
                                                (Int.toNat a_3 <
                                                    List.length
                                                      (othAt
                                                        (List.take (Int.toNat (↑(List.length mc) : Int))
                                                          (rlF (plTurn mh) mw mh mc
                                                            (List.replicate (List.length mc) (0 : UInt8))
                                                            (Int.toNat a)))
                                                        (Int.toNat a_3)) ∧
                                                  (0 : Int) ≤
                                                      mirI
                                                        (↑(UInt8.toNat
                                                              (List.getD
                                                                (othAt
                                                                  (List.take (Int.toNat (↑(List.length mc) : Int))
                                                                    (rlF (plTurn mh) mw mh mc
                                                                      (List.replicate (List.length mc) (0 : UInt8))
                                                                      (Int.toNat a)))
                                                                  (Int.toNat a_3))
                                                                (Int.toNat a_3) (0 : UInt8))) :
                                                          Int) ∧
                                                    mirI
                                                        (↑(UInt8.toNat
                                                              (List.getD
                                                                (othAt
                                                                  (List.take (Int.toNat (↑(List.length mc) : Int))
                                                                    (rlF (plTurn mh) mw mh mc
                                                                      (List.replicate (List.length mc) (0 : UInt8))
                                                                      (Int.toNat a)))
                                                                  (Int.toNat a_3))
                                                                (Int.toNat a_3) (0 : UInt8))) :
                                                          Int) <
                                                      (256 : Int)) ∧
                                              (((True ∧ mh = mh) ∧
                                                    (True ∧ mw = mw) ∧
                                                      ((1 : Nat) = (1 : Nat) ∧ (0 : Nat) = (0 : Nat)) ∧
                                                        ((2 : Nat) = (2 : Nat) ∧ (0 : Nat) = (0 : Nat)) ∧
                                                          ((3 : Nat) = (3 : Nat) ∧
                                                              List.length
                                                                  (List.take (Int.toNat (↑(List.length mc) : Int))
                                                                    (rlF (plTurn mh) mw mh mc
                                                                      (List.replicate (List.length mc) (0 : UInt8))
                                                                      (Int.toNat a))) =
                                                                List.length
                                                                  (List.take (Int.toNat (↑(List.length mc) : Int))
                                                                    (rlF (plTurn mh) mw mh mc
                                                                      (List.replicate (List.length mc) (0 : UInt8))
                                                                      (Int.toNat a)))) ∧
                                                            ((3 : Nat) = (3 : Nat) ∧
                                                                List.length
                                                                    (List.take (Int.toNat (↑(List.length mc) : Int))
                                                                      (rlF (plTurn mh) mw mh mc
                                                                        (List.replicate (List.length mc) (0 : UInt8))
                                                                        (Int.toNat a))) =
                                                                  List.length
                                                                    (List.take (Int.toNat (↑(List.length mc) : Int))
                                                                      (rlF (plTurn mh) mw mh mc
                                                                        (List.replicate (List.length mc) (0 : UInt8))
                                                                        (Int.toNat a)))) ∧
                                                              (True ∧
                                                                  (↑(List.length
                                                                          (List.take
                                                                            (Int.toNat (↑(List.length mc) : Int))
                                                                            (rlF (plTurn mh) mw mh mc
                                                                              (List.replicate (List.length mc)
                                                                                (0 : UInt8))
                                                                              (Int.toNat a)))) :
                                                                      Int) =
                                                                    (↑(List.length
                                                                          (List.take
                                                                            (Int.toNat (↑(List.length mc) : Int))
                                                                            (rlF (plTurn mh) mw mh mc
                                                                              (List.replicate (List.length mc)
                                                                                (0 : UInt8))
                                                                              (Int.toNat a)))) :
                                                                      Int)) ∧
                                                                (True ∧
                                                                    IntKind.wrap IntKind.i64 (a_3 + (1 : Int)) =
                                                                      IntKind.wrap IntKind.i64 (a_3 + (1 : Int))) ∧
                                                                  True) ∧
                                                  ((True ∧
                                                        (True ∧ mw = mw) ∧
                                                          (True ∧ mh = mh) ∧ mc = mc ∧ mu = mu ∧ True) ∧
                                                      (True ∧
                                                          (True ∧ mw = mw) ∧
                                                            (True ∧ mh = mh) ∧ mc = mc ∧ mu = mu ∧ True) ∧
                                                        (True ∧
                                                            (True ∧ (0 : Int) = (0 : Int)) ∧
                                                              (True ∧ (0 : Int) = (0 : Int)) ∧
                                                                nilB = nilB ∧ false = false ∧ True) ∧
                                                          (True ∧
                                                              List.set
                                                                  (othAt
                                                                    (List.take (Int.toNat (↑(List.length mc) : Int))
                                                                      (rlF (plTurn mh) mw mh mc
                                                                        (List.replicate (List.length mc) (0 : UInt8))
                                                                        (Int.toNat a)))
                                                                    (Int.toNat a_3))
                                                                  (Int.toNat a_3)
                                                                  (UInt8.ofNat
                                                                    (Int.toNat
                                                                      (mirI
                                                                        (↑(UInt8.toNat
                                                                              (List.getD
                                                                                (othAt
                                                                                  (List.take
                                                                                    (Int.toNat
                                                                                      (↑(List.length mc) : Int))
                                                                                    (rlF (plTurn mh) mw mh mc
                                                                                      (List.replicate (List.length mc)
                                                                                        (0 : UInt8))
                                                                                      (Int.toNat a)))
                                                                                  (Int.toNat a_3))
                                                                                (Int.toNat a_3) (0 : UInt8))) :
                                                                          Int)))) =
                                                                othAt
                                                                  (List.take (Int.toNat (↑(List.length mc) : Int))
                                                                    (rlF (plTurn mh) mw mh mc
                                                                      (List.replicate (List.length mc) (0 : UInt8))
                                                                      (Int.toNat a)))
                                                                  (Int.toNat
                                                                    (IntKind.wrap IntKind.i64 (a_3 + (1 : Int))))) ∧
                                                            True) ∧
                                                    True) ∧
                                                At
                                                  ((relInv
                                                        (List.take (Int.toNat (↑(List.length mc) : Int))
                                                          (rlF (plTurn mh) mw mh mc
                                                            (List.replicate (List.length mc) (0 : UInt8))
                                                            (Int.toNat a)))
                                                        (IntKind.wrap IntKind.i64 (a_3 + (1 : Int))) ∧
                                                      List.length
                                                          (List.take (Int.toNat (↑(List.length mc) : Int))
                                                            (rlF (plTurn mh) mw mh mc
                                                              (List.replicate (List.length mc) (0 : UInt8))
                                                              (Int.toNat a))) =
                                                        List.length
                                                          (List.take (Int.toNat (↑(List.length mc) : Int))
                                                            (rlF (plTurn mh) mw mh mc
                                                              (List.replicate (List.length mc) (0 : UInt8))
                                                              (Int.toNat a)))) ∧
                                                    Int.toNat
                                                        ((↑(List.length
                                                                (List.take (Int.toNat (↑(List.length mc) : Int))
                                                                  (rlF (plTurn mh) mw mh mc
                                                                    (List.replicate (List.length mc) (0 : UInt8))
                                                                    (Int.toNat a)))) :
                                                            Int) -
                                                          IntKind.wrap IntKind.i64 (a_3 + (1 : Int))) <
                                                      Int.toNat
                                                        ((↑(List.length
                                                                (List.take (Int.toNat (↑(List.length mc) : Int))
                                                                  (rlF (plTurn mh) mw mh mc
                                                                    (List.replicate (List.length mc) (0 : UInt8))
                                                                    (Int.toNat a)))) :
                                                            Int) -
                                                          a_3))) ∧
                                  (decide
                                        (a_3 <
                                          (↑(List.length
                                                (List.take (Int.toNat (↑(List.length mc) : Int))
                                                  (rlF (plTurn mh) mw mh mc
                                                    (List.replicate (List.length mc) (0 : UInt8)) (Int.toNat a)))) :
                                            Int)) =
                                      false →
                                    At
                                        (List.length
                                            (List.take (Int.toNat (↑(List.length mc) : Int))
                                              (rlF (plTurn mh) mw mh mc (List.replicate (List.length mc) (0 : UInt8))
                                                (Int.toNat a))) ≤
                                          List.length
                                            (othAt
                                              (List.take (Int.toNat (↑(List.length mc) : Int))
                                                (rlF (plTurn mh) mw mh mc (List.replicate (List.length mc) (0 : UInt8))
                                                  (Int.toNat a)))
                                              (Int.toNat a_3))) ∧
                                      K
                                        (V.tup
                                          [V.agg
                                              [V.int IntKind.i64 mh, V.int IntKind.i64 mw,
                                                V.str
                                                  (List.take
                                                    (List.length
                                                      (List.take (Int.toNat (↑(List.length mc) : Int))
                                                        (rlF (plTurn mh) mw mh mc
                                                          (List.replicate (List.length mc) (0 : UInt8)) (Int.toNat a))))
                                                    (othAt
                                                      (List.take (Int.toNat (↑(List.length mc) : Int))
                                                        (rlF (plTurn mh) mw mh mc
                                                          (List.replicate (List.length mc) (0 : UInt8)) (Int.toNat a)))
                                                      (Int.toNat a_3))),
                                                V.bool mu],
                                            V.lit true]))))

def VC_spec_MirrorMaze (mw : Int) (mh : Int) (mc : List UInt8) (mu : Bool) (K : V → Prop) : Prop :=
  At True ∧
  ((!mzB { w := mw, h := mh, c := mc, t := mu }) = true →
      K
        (V.tup
          [V.agg [V.int IntKind.i64 (0 : Int), V.int IntKind.i64 (0 : Int), V.str (Array.toList #[]), V.lit false],
            V.lit false])) ∧
    ((!mzB { w := mw, h := mh, c := mc, t := mu }) = false →
      ((((0 : Nat) = (0 : Nat) ∧ (0 : Nat) = (0 : Nat)) ∧
            ((1 : Nat) = (1 : Nat) ∧ (0 : Nat) = (0 : Nat)) ∧
              ((2 : Nat) = (2 : Nat) ∧ (0 : Nat) = (0 : Nat)) ∧ (True ∧ (0 : Int) = (0 : Int)) ∧ True) ∧
          ((True ∧ (True ∧ mw = mw) ∧ (True ∧ mh = mh) ∧ mc = mc ∧ mu = mu ∧ True) ∧
              (True ∧
                  (True ∧ (0 : Int) = (0 : Int)) ∧
                    (True ∧ (0 : Int) = (0 : Int)) ∧ nilB = nilB ∧ false = false ∧ True) ∧
                (True ∧
                    (True ∧ mw = mw) ∧
                      (True ∧ mh = mh) ∧
                        nilB = List.take (Int.toNat ((0 : Int) * mw)) (mirrC mw mh mc) ∧ mu = mu ∧ True) ∧
                  True) ∧
            True) ∧
        At (rowInv mh mw (0 : Int)) ∧
          ∀ (a : Int),
            rowInv mh mw a →
              (decide (a < mh) = true →
                  ((((0 : Nat) = (0 : Nat) ∧ (0 : Nat) = (0 : Nat)) ∧
                        ((1 : Nat) = (1 : Nat) ∧ (0 : Nat) = (0 : Nat)) ∧
                          ((2 : Nat) = (2 : Nat) ∧ (0 : Nat) = (0 : Nat)) ∧
                            (True ∧ a = a) ∧
                              (True ∧
                                  IntKind.wrap IntKind.i64 (mw - (1 : Int)) =
                                    IntKind.wrap IntKind.i64 (mw - (1 : Int))) ∧
                                True) ∧
                      ((True ∧ (True ∧ mw = mw) ∧ (True ∧ mh = mh) ∧ mc = mc ∧ mu = mu ∧ True) ∧
                          (True ∧
                              (True ∧ (0 : Int) = (0 : Int)) ∧
                                (True ∧ (0 : Int) = (0 : Int)) ∧ nilB = nilB ∧ false = false ∧ True) ∧
                            (True ∧
                                (True ∧ mw = mw) ∧
                                  (True ∧ mh = mh) ∧
                                    List.take (Int.toNat (a * mw)) (mirrC mw mh mc) =
                                        List.take
                                          (Int.toNat
                                            (a * mw + (mw - (1 : Int) - IntKind.wrap IntKind.i64 (mw - (1 : Int)))))
                                          (mirrC mw mh mc) ∧
                                      mu = mu ∧ True) ∧
                              True) ∧
                        True) ∧
                    At (colInv mh mw a (mw - (1 : Int) - IntKind.wrap IntKind.i64 (mw - (1 : Int)))) ∧
                      ∀ (a_3 : Int),
                        colInv mh mw a (mw - (1 : Int) - a_3) →
                          (decide (a_3 ≥ (0 : Int)) = true →
                              True ∧
                                At
                                    ((0 : Int) ≤ IntKind.wrap IntKind.i64 (IntKind.wrap IntKind.i64 (a * mw) + a_3) ∧
                                      IntKind.wrap IntKind.i64 (IntKind.wrap IntKind.i64 (a * mw) + a_3) <
                                        (↑(List.length mc) : Int)) ∧
                                  At True ∧
                                    At
                                        (List.length
                                              (List.take (Int.toNat (a * mw + (mw - (1 : Int) - a_3)))
                                                (mirrC mw mh mc)) +
                                            List.length
                                              (mirT
                                                (↑(UInt8.toNat
                                                      (List.getD mc
                                                        (Int.toNat
                                                          (IntKind.wrap IntKind.i64
                                                            (IntKind.wrap IntKind.i64 (a * mw) + a_3)))
                                                        (0 : UInt8))) :
                                                  Int)) ≤
                                          (9223372036854775807 : Nat)) ∧
                                      ((((0 : Nat) = (0 : Nat) ∧ (0 : Nat) = (0 : Nat)) ∧
                                            ((1 : Nat) = (1 : Nat) ∧ (0 : Nat) = (0 : Nat)) ∧
                                              ((2 : Nat) = (2 : Nat) ∧ (0 : Nat) = (0 : Nat)) ∧
                                                (True ∧ a = a) ∧
                                                  (True ∧
                                                      IntKind.wrap IntKind.i64 (a_3 - (1 : Int)) =
                                                        IntKind.wrap IntKind.i64 (a_3 - (1 : Int))) ∧
                                                    True) ∧
                                          ((True ∧ (True ∧ mw = mw) ∧ (True ∧ mh = mh) ∧ mc = mc ∧ mu = mu ∧ True) ∧
                                              (True ∧
                                                  (True ∧ (0 : Int) = (0 : Int)) ∧
                                                    (True ∧ (0 : Int) = (0 : Int)) ∧
                                                      nilB = nilB ∧ false = false ∧ True) ∧
                                                (True ∧
                                                    (True ∧ mw = mw) ∧
                                                      (True ∧ mh = mh) ∧
                                                        List.take (Int.toNat (a * mw + (mw - (1 : Int) - a_3)))
                                                                (mirrC mw mh mc) ++
                                                              mirT
                                                                (↑(UInt8.toNat
                                                                      (List.getD mc
                                                                        (Int.toNat
                                                                          (IntKind.wrap IntKind.i64
                                                                            (IntKind.wrap IntKind.i64 (a * mw) + a_3)))
                                                                        (0 : UInt8))) :
                                                                  Int) =
                                                            List.take
                                                              (Int.toNat
                                                                (a * mw +
                                                                  (mw - (1 : Int) -
                                                                    IntKind.wrap IntKind.i64 (a_3 - (1 : Int)))))
                                                              (mirrC mw mh mc) ∧
                                                          mu = mu ∧ True) ∧
                                                  True) ∧
                                            True) ∧
                                        At
                                          (colInv mh mw a
                                              (mw - (1 : Int) - IntKind.wrap IntKind.i64 (a_3 - (1 : Int))) ∧
                                            Int.toNat (IntKind.wrap IntKind.i64 (a_3 - (1 : Int)) + (1 : Int)) <
                                              Int.toNat (a_3 + (1 : Int)))) ∧
                            (decide (a_3 ≥ (0 : Int)) = false →
                              ((((0 : Nat) = (0 : Nat) ∧ (0 : Nat) = (0 : Nat)) ∧
                                    ((1 : Nat) = (1 : Nat) ∧ (0 : Nat) = (0 : Nat)) ∧
                                      ((2 : Nat) = (2 : Nat) ∧ (0 : Nat) = (0 : Nat)) ∧
                                        (True ∧
                                            IntKind.wrap IntKind.i64 (a + (1 : Int)) =
                                              IntKind.wrap IntKind.i64 (a + (1 : Int))) ∧
                                          True) ∧
                                  ((True ∧ (True ∧ mw = mw) ∧ (True ∧ mh = mh) ∧ mc = mc ∧ mu = mu ∧ True) ∧
                                      (True ∧
                                          (True ∧ (0 : Int) = (0 : Int)) ∧
                                            (True ∧ (0 : Int) = (0 : Int)) ∧ nilB = nilB ∧ false = false ∧ True) ∧
                                        (True ∧
                                            (True ∧ mw = mw) ∧
                                              (True ∧ mh = mh) ∧
                                                List.take (Int.toNat (a * mw + (mw - (1 : Int) - a_3)))
                                                      (mirrC mw mh mc) =
                                                    List.take
                                                      (Int.toNat (IntKind.wrap IntKind.i64 (a + (1 : Int)) * mw))
                                                      (mirrC mw mh mc) ∧
                                                  mu = mu ∧ True) ∧
                                          True) ∧
                                    True) ∧
                                At
                                  (rowInv mh mw (IntKind.wrap IntKind.i64 (a + (1 : Int))) ∧
                                    Int.toNat (mh - IntKind.wrap IntKind.i64 (a + (1 : Int))) < Int.toNat (mh - a)))) ∧
                (decide (a < mh) = false →
                  K
                    (V.tup
                      [V.agg
                          [V.int IntKind.i64 mw, V.int IntKind.i64 mh,
                            V.str (List.take (Int.toNat (a * mw)) (mirrC mw mh mc)), V.bool mu],
                        V.lit true])))

def VC_impl_MirrorMaze (mw : Int) (mh : Int) (mc : List UInt8) (mu : Bool) (K : V → Prop) : Prop :=
  At True ∧
  ((!mzB { w := mw, h := mh, c := mc, t := mu }) = true →
      K
        (V.tup
          [V.agg [V.int IntKind.i64 (0 : Int), V.int IntKind.i64 (0 : Int), V.str (Array.toList #[]), V.lit false],
            V.lit false])) ∧
    ((!mzB { w := mw, h := mh, c := mc, t := mu }) = false →
      At
          ((0 : Int) ≤ (↑(List.length mc) : Int) ∧
            (↑(List.length mc) : Int) ≤ (↑(List.length mc) : Int) ∧ (↑(List.length mc) : Int) ≤ (1000000000 : Int)) ∧
        ((mc = mc ∧
              (True ∧ mw = mw) ∧
                (True ∧ mw = mw) ∧
                  ((37 : Nat) = (37 : Nat) ∧ [(0 : Nat)] = [(0 : Nat)]) ∧
                    ((1 : Nat) = (1 : Nat) ∧
                        Int.toNat (↑(List.length mc) : Int) = Int.toNat (↑(List.length mc) : Int)) ∧
                      (True ∧ (↑(Int.toNat (↑(List.length mc) : Int)) : Int) = (↑(List.length mc) : Int)) ∧
                        (True ∧ (0 : Int) = (0 : Int)) ∧ True) ∧
            ((True ∧ (True ∧ mw = mw) ∧ (True ∧ mh = mh) ∧ mc = mc ∧ mu = mu ∧ True) ∧
                (True ∧
                    List.replicate (Int.toNat (↑(List.length mc) : Int)) (0 : UInt8) =
                      rlF (plMirr mw) mw mw mc (List.replicate (List.length mc) (0 : UInt8)) (Int.toNat (0 : Int))) ∧
                  True) ∧
              True) ∧
          At (relInv mc (0 : Int)) ∧
            ∀ (a : Int),
              relInv mc a →
                (decide (a < (↑(List.length mc) : Int)) = true →
                    True ∧
                      At (mw ≠ (0 : Int)) ∧
                        At (mw ≠ (0 : Int)) ∧
                          At
                              (((1 : Int) ≤ mw ∧ mw ≤ (9 : Int)) ∧
                                ((1 : Int) ≤ mh ∧ mh ≤ (9 : Int)) ∧
                                  ((0 : Int) ≤ Int.tmod a mw ∧ Int.tmod a mw ≤ (9 : Int)) ∧
                                    (0 : Int) ≤ IntKind.wrap IntKind.i64 (Int.tdiv a mw) ∧
                                      IntKind.wrap IntKind.i64 (Int.tdiv a mw) ≤ (9 : Int)) ∧
                            At ((0 : Int) ≤ a ∧ a < (↑(List.length mc) : Int)) ∧
                              At
                                  ((0 : Int) ≤
                                      IntKind.wrap IntKind.i64
                                        (IntKind.wrap IntKind.i64 (IntKind.wrap IntKind.i64 (Int.tdiv a mw) * mw) +
                                          (mw - (1 : Int) - Int.tmod a mw)) ∧
                                    IntKind.wrap IntKind.i64
                                        (IntKind.wrap IntKind.i64 (IntKind.wrap IntKind.i64 (Int.tdiv a mw) * mw) +
                                          (mw - (1 : Int) - Int.tmod a mw)) <
                                      (↑(Int.toNat (↑(List.length mc) : Int)) : Int)) ∧
                                At
                                    (Int.toNat
                                          (IntKind.wrap IntKind.i64
                                            (IntKind.wrap IntKind.i64 (IntKind.wrap IntKind.i64 (Int.tdiv a mw) * mw) +
                                              (mw - (1 : Int) - Int.tmod a mw))) <
                                        List.length
                                          (rlF (plMirr mw) mw mw mc (List.replicate (List.length mc) (0 : UInt8))
                                            (Int.toNat a)) ∧
                                      (0 : Int) ≤ (↑(UInt8.toNat (List.getD mc (Int.toNat a) (0 : UInt8))) : Int) ∧
                                        (↑(UInt8.toNat (List.getD mc (Int.toNat a) (0 : UInt8))) : Int) < (256 : Int)) ∧
                                  ((mc = mc ∧
                                        (True ∧ mw = mw) ∧
                                          (True ∧ mw = mw) ∧
                                            ((37 : Nat) = (37 : Nat) ∧ [(0 : Nat)] = [(0 : Nat)]) ∧
                                              ((1 : Nat) = (1 : Nat) ∧
                                                  Int.toNat (↑(List.length mc) : Int) =
                                                    Int.toNat (↑(List.length mc) : Int)) ∧
                                                (True ∧ (↑(List.length mc) : Int) = (↑(List.length mc) : Int)) ∧
                                                  (True ∧
                                                      IntKind.wrap IntKind.i64 (a + (1 : Int)) =
                                                        IntKind.wrap IntKind.i64 (a + (1 : Int))) ∧
                                                    True) ∧
                                      ((True ∧ (True ∧ mw = mw) ∧ (True ∧ mh = mh) ∧ mc = mc ∧ mu = mu ∧ True) ∧
                                          (True ∧
                                              List.set
                                                  (rlF (plMirr mw) mw mw mc
                                                    (List.replicate (List.length mc) (0 : UInt8)) (Int.toNat a))
                                                  (Int.toNat
                                                    (IntKind.wrap IntKind.i64
                                                      (IntKind.wrap IntKind.i64
                                                          (IntKind.wrap IntKind.i64 (Int.tdiv a mw) * mw) +
                                                        (mw - (1 : Int) - Int.tmod a mw))))
                                                  (UInt8.ofNat
                                                    (Int.toNat
                                                      (↑(UInt8.toNat (List.getD mc (Int.toNat a) (0 : UInt8))) :
                                                        Int))) =
                                                rlF (plMirr mw) mw mw mc (List.replicate (List.length mc) (0 : UInt8))
                                                  (Int.toNat (IntKind.wrap IntKind.i64 (a + (1 : Int))))) ∧
                                            True) ∧
                                        True) ∧
                                    At
                                      (relInv mc (IntKind.wrap IntKind.i64 (a + (1 : Int))) ∧
                                        Int.toNat
                                            ((↑(List.length mc) : Int) - IntKind.wrap IntKind.i64 (a + (1 : Int))) <
                                          Int.toNat ((↑(List.length mc) : Int) - a))) ∧
                  (decide (a < (↑(List.length mc) : Int)) = false →
                    At
                        (Int.toNat (↑(List.length mc) : Int) ≤
                          List.length
                            (rlF (plMirr mw) mw mw mc (List.replicate (List.length mc) (0 : UInt8)) (Int.toNat a))) ∧
                      At
                          (List.length
                              (List.take (Int.toNat (↑(List.length mc) : Int))
                                (rlF (plMirr mw) mw mw mc (List.replicate (List.length mc) (0 : UInt8))
                                  (Int.toNat a))) ≤
                            (9223372036854775807 : Nat)) ∧
                        (((True ∧ mw = mw) ∧
                              (True ∧ mh = mh) ∧
                                ((1 : Nat) = (1 : Nat) ∧ (0 : Nat) = (0 : Nat)) ∧
                                  ((2 : Nat) = (2 : Nat) ∧ (0 : Nat) = (0 : Nat)) ∧
                                    ((3 : Nat) = (3 : Nat) ∧
                                        List.length
                                            (List.take (Int.toNat (↑(List.length mc) : Int))
                                              (rlF (plMirr mw) mw mw mc (List.replicate (List.length mc) (0 : UInt8))
                                                (Int.toNat a))) =
                                          List.length
                                            (List.take (Int.toNat (↑(List.length mc) : Int))
                                              (rlF (plMirr mw) mw mw mc (List.replicate (List.length mc) (0 : UInt8))
                                                (Int.toNat a)))) ∧
                                      ((3 : Nat) = (3 : Nat) ∧
                                          List.length
                                              (List.take (Int.toNat (↑(List.length mc) : Int))
                                                (rlF (plMirr mw) mw mw mc (List.replicate (List.length mc) (0 : UInt8))
                                                  (Int.toNat a))) =
                                            List.length
                                              (List.take (Int.toNat (↑(List.length mc) : Int))
                                                (rlF (plMirr mw) mw mw mc (List.replicate (List.length mc) (0 : UInt8))
                                                  (Int.toNat a)))) ∧
                                        (True ∧
                                            (↑(List.length
                                                    (List.take (Int.toNat (↑(List.length mc) : Int))
                                                      (rlF (plMirr mw) mw mw mc
                                                        (List.replicate (List.length mc) (0 : UInt8)) (Int.toNat a)))) :
                                                Int) =
                                              (↑(List.length
                                                    (List.take (Int.toNat (↑(List.length mc) : Int))
                                                      (rlF (plMirr mw) mw mw mc
                                                        (List.replicate (List.length mc) (0 : UInt8)) (Int.toNat a)))) :
                                                Int)) ∧
                                          (True ∧ (0 : Int) = (0 : Int)) ∧ True) ∧
                            ((True ∧ (True ∧ mw = mw) ∧ (True ∧ mh = mh) ∧ mc = mc ∧ mu = mu ∧ True) ∧
                                (True ∧ (True ∧ mw = mw) ∧ (True ∧ mh = mh) ∧ mc = mc ∧ mu = mu ∧ True) ∧
                                  (True ∧
                                      (True ∧ (0 : Int) = (0 : Int)) ∧
                                        (True ∧ (0 : Int) = (0 : Int)) ∧ nilB = nilB ∧ false = false ∧ True) ∧
                                    (True ∧
                                        List.take (Int.toNat (↑(List.length mc) : Int))
                                            (rlF (plMirr mw) mw mw mc (List.replicate (List.length mc) (0 : UInt8))
                                              (Int.toNat a)) =
                                          othAt
                                            (List.take (Int.toNat (↑(List.length mc) : Int))
                                              (rlF (plMirr mw) mw mw mc (List.replicate (List.length mc) (0 : UInt8))
                                                (Int.toNat a)))
                                            (Int.toNat (0 : Int))) ∧
                                      True) ∧
                              True) ∧
                          At
                              (relInv
                                  (List.take (Int.toNat (↑(List.length mc) : Int))
                                    (rlF (plMirr mw) mw mw mc (List.replicate (List.length mc) (0 : UInt8))
                                      (Int.toNat a)))
                                  (0 : Int) ∧
                                List.length
                                    (List.take (Int.toNat (↑(List.length mc) : Int))
                                      (rlF (plMirr mw) mw mw mc (List.replicate (List.length mc) (0 : UInt8))
                                        (Int.toNat a))) =
                                  List.length
                                    (List.take (Int.toNat (↑(List.length mc) : Int))
                                      (rlF (plMirr mw) mw mw mc (List.replicate (List.length mc) (0 : UInt8))
                                        (Int.toNat a)))) ∧
                            ∀ (a_3 : Int),
                              relInv
                                    (List.take (Int.toNat (↑(List.length mc) : Int))
                                      (rlF (plMirr mw) mw mw mc (List.replicate (List.length mc) (0 : UInt8))
                                        (Int.toNat a)))
                                    a_3 ∧
                                  List.length
                                      (List.take (Int.toNat (↑(List.length mc) : Int))
                                        (rlF (plMirr mw) mw mw mc (List.replicate (List.length mc) (0 : UInt8))
                                          (Int.toNat a))) =
                                    List.length
                                      (List.take (Int.toNat (↑(List.length mc) : Int))
                                        (rlF (plMirr mw) mw mw mc (List.replicate (List.length mc) (0 : UInt8))
                                          (Int.toNat a))) →
                                (decide
                                        (a_3 <
                                          (↑(List.length
                                                (List.take (Int.toNat (↑(List.length mc) : Int))
                                                  (rlF (plMirr mw) mw mw mc
                                                    (List.replicate (List.length mc) (0 : UInt8)) (Int.toNat a)))) :
                                            Int)) =
                                      true →
                                    At
                                        ((0 : Int) ≤ a_3 ∧
                                          a_3 <
                                            (↑(List.length
                                                  (List.take (Int.toNat (↑(List.length mc) : Int))
                                                    (rlF (plMirr mw) mw mw mc
                                                      (List.replicate (List.length mc) (0 : UInt8)) (Int.toNat a)))) :
                                              Int)) ∧
                                      At
                                          (Int.toNat a_3 <
                                            List.length
                                              (othAt
                                                (List.take (Int.toNat (↑(List.length mc) : Int))
                                                  (rlF (plMirr mw) mw mw mc
                                                    (List.replicate (List.length mc) (0 : UInt8)) (Int.toNat a)))
                                                (Int.toNat a_3))) ∧
                                        At True ∧
                                          At
                                              ((0 : Int) ≤ a_3 ∧
                                                a_3 <
                                                  (↑(List.length
                                                        (List.take (Int.toNat (↑(List.length mc) : Int))
                                                          (rlF (plMirr mw) mw mw mc
                                                            (List.replicate (List.length mc) (0 : UInt8))
                                                            (Int.toNat a)))) :
                                                    Int)) ∧
                                            At
                                                (Int.toNat a_3 <
                                                    List.length
                                                      (othAt
                                                        (List.take (Int.toNat (↑(List.length mc) : Int))
                                                          (rlF (plMirr mw) mw mw mc
                                                            (List.replicate (List.length mc) (0 : UInt8))
                                                            (Int.toNat a)))
                                                        (Int.toNat a_3)) ∧
                                                  (0 : Int) ≤
                                                      mirI
                                                        (↑(UInt8.toNat
                                                              (List.getD
                                                                (othAt
                                                                  (List.take (Int.toNat (↑(List.length mc) : Int))
                                                                    (rlF (plMirr mw) mw mw mc
                                                                      (List.replicate (List.length mc) (0 : UInt8))
                                                                      (Int.toNat a)))
                                                                  (Int.toNat a_3))
                                                                (Int.toNat a_3) (0 : UInt8))) :
                                                          Int) ∧
                                                    mirI
                                                        (↑(UInt8.toNat
                                                              (List.getD
                                                                (othAt
                                                                  (List.take (Int.toNat (↑(List.length mc) : Int))
                                                                    (rlF (plMirr mw) mw mw mc
                                                                      (List.replicate (List.length mc) (0 : UInt8))
                                                                      (Int.toNat a)))
                                                                  (Int.toNat a_3))
                                                                (Int.toNat a_3) (0 : UInt8))) :
                                                          Int) <
                                                      (256 : Int)) ∧
                                              (((True ∧ mw = mw) ∧
                                                    (True ∧ mh = mh) ∧
                                                      ((1 : Nat) = (1 : Nat) ∧ (0 : Nat) = (0 : Nat)) ∧
                                                        ((2 : Nat) = (2 : Nat) ∧ (0 : Nat) = (0 : Nat)) ∧
                                                          ((3 : Nat) = (3 : Nat) ∧
                                                              List.length
                                                                  (List.take (Int.toNat (↑(List.length mc) : Int))
                                                                    (rlF (plMirr mw) mw mw mc
                                                                      (List.replicate (List.length mc) (0 : UInt8))
                                                                      (Int.toNat a))) =
                                                                List.length
                                                                  (List.take (Int.toNat (↑(List.length mc) : Int))
                                                                    (rlF (plMirr mw) mw mw mc
                                                                      (List.replicate (List.length mc) (0 : UInt8))
                                                                      (Int.toNat a)))) ∧
                                                            ((3 : Nat) = (3 : Nat) ∧
                                                                List.length
                                                                    (List.take (Int.toNat (↑(List.length mc) : Int))
                                                                      (rlF (plMirr mw) mw mw mc
                                                                        (List.replicate (List.length mc) (0 : UInt8))
                                                                        (Int.toNat a))) =
                                                                  List.length
                                                                    (List.take (Int.toNat (↑(List.length mc) : Int))
                                                                      (rlF (plMirr mw) mw mw mc
                                                                        (List.replicate (List.length mc) (0 : UInt8))
                                                                        (Int.toNat a)))) ∧
                                                              (True ∧
                                                                  (↑(List.length
                                                                          (List.take
                                                                            (Int.toNat (↑(List.length mc) : Int))
                                                                            (rlF (plMirr mw) mw mw mc
                                                                              (List.replicate (List.length mc)
                                                                                (0 : UInt8))
                                                                              (Int.toNat a)))) :
                                                                      Int) =
                                                                    (↑(List.length
                                                                          (List.take
                                                                            (Int.toNat (↑(List.length mc) : Int))
                                                                            (rlF (plMirr mw) mw mw mc
                                                                              (List.replicate (List.length mc)
                                                                                (0 : UInt8))
                                                                              (Int.toNat a)))) :
                                                                      Int)) ∧
                                                                (True ∧
                                                                    IntKind.wrap IntKind.i64 (a_3 + (1 : Int)) =
                                                                      IntKind.wrap IntKind.i64 (a_3 + (1 : Int))) ∧
                                                                  True) ∧
                                                  ((True ∧
                                                        (True ∧ mw = mw) ∧
                                                          (True ∧ mh = mh) ∧ mc = mc ∧ mu = mu ∧ True) ∧
                                                      (True ∧
                                                          (True ∧ mw = mw) ∧
                                                            (True ∧ mh = mh) ∧ mc = mc ∧ mu = mu ∧ True) ∧
                                                        (True ∧
                                                            (True ∧ (0 : Int) = (0 : Int)) ∧
                                                              (True ∧ (0 : Int) = (0 : Int)) ∧
                                                                nilB = nilB ∧ false = false ∧ True) ∧
                                                          (True ∧
                                                              List.set
                                                                  (othAt
                                                                    (List.take (Int.toNat (↑(List.length mc) : Int))
                                                                      (rlF (plMirr mw) mw mw mc
                                                                        (List.replicate (List.length mc) (0 : UInt8))
                                                                        (Int.toNat a)))
                                                                    (Int.toNat a_3))
                                                                  (Int.toNat a_3)
                                                                  (UInt8.ofNat
                                                                    (Int.toNat
                                                                      (mirI
                                                                        (↑(UInt8.toNat
                                                                              (List.getD
                                                                                (othAt
                                                                                  (List.take
                                                                                    (Int.toNat
                                                                                      (↑(List.length mc) : Int))
                                                                                    (rlF (plMirr mw) mw mw mc
                                                                                      (List.replicate (List.length mc)
                                                                                        (0 : UInt8))
                                                                                      (Int.toNat a)))
                                                                                  (Int.toNat a_3))
                                                                                (Int.toNat a_3) (0 : UInt8))) :
                                                                          Int)))) =
                                                                othAt
                                                                  (List.take (Int.toNat (↑(List.length mc) : Int))
                                                                    (rlF (plMirr mw) mw mw mc
                                                                      (List.replicate (List.length mc) (0 : UInt8))
                                                                      (Int.toNat a)))
                                                                  (Int.toNat
                                                                    (IntKind.wrap IntKind.i64 (a_3 + (1 : Int))))) ∧
                                                            True) ∧
                                                    True) ∧
                                                At
                                                  ((relInv
                                                        (List.take (Int.toNat (↑(List.length mc) : Int))
                                                          (rlF (plMirr mw) mw mw mc
                                                            (List.replicate (List.length mc) (0 : UInt8))
                                                            (Int.toNat a)))
                                                        (IntKind.wrap IntKind.i64 (a_3 + (1 : Int))) ∧
                                                      List.length
                                                          (List.take (Int.toNat (↑(List.length mc) : Int))
                                                            (rlF (plMirr mw) mw mw mc
                                                              (List.replicate (List.length mc) (0 : UInt8))
                                                              (Int.toNat a))) =
                                                        List.length
                                                          (List.take (Int.toNat (↑(List.length mc) : Int))
                                                            (rlF (plMirr mw) mw mw mc
                                                              (List.replicate (List.length mc) (0 : UInt8))
                                                              (Int.toNat a)))) ∧
                                                    Int.toNat
                                                        ((↑(List.length
                                                                (List.take (Int.toNat (↑(List.length mc) : Int))
                                                                  (rlF (plMirr mw) mw mw mc
                                                                    (List.replicate (List.length mc) (0 : UInt8))
                                                                    (Int.toNat a)))) :
                                                            Int) -
                                                          IntKind.wrap IntKind.i64 (a_3 + (1 : Int))) <
                                                      Int.toNat
                                                        ((↑(List.length
                                                                (List.take (Int.toNat (↑(List.length mc) : Int))
                                                                  (rlF (plMirr mw) mw mw mc
                                                                    (List.replicate (List.length mc) (0 : UInt8))
                                                                    (Int.toNat a)))) :
                                                            Int) -
                                                          a_3))) ∧
                                  (decide
                                        (a_3 <
                                          (↑(List.length
                                                (List.take (Int.toNat (↑(List.length mc) : Int))
                                                  (rlF (plMirr mw) mw mw mc
                                                    (List.replicate (List.length mc) (0 : UInt8)) (Int.toNat a)))) :
                                            Int)) =
                                      false →
                                    At
                                        (List.length
                                            (List.take (Int.toNat (↑(List.length mc) : Int))
                                              (rlF (plMirr mw) mw mw mc (List.replicate (List.length mc) (0 : UInt8))
                                                (Int.toNat a))) ≤
                                          List.length
                                            (othAt
                                              (List.take (Int.toNat (↑(List.length mc) : Int))
                                                (rlF (plMirr mw) mw mw mc (List.replicate (List.length mc) (0 : UInt8))
                                                  (Int.toNat a)))
                                              (Int.toNat a_3))) ∧
                                      K
                                        (V.tup
                                          [V.agg
                                              [V.int IntKind.i64 mw, V.int IntKind.i64 mh,
                                                V.str
                                                  (List.take
                                                    (List.length
                                                      (List.take (Int.toNat (↑(List.length mc) : Int))
                                                        (rlF (plMirr mw) mw mw mc
                                                          (List.replicate (List.length mc) (0 : UInt8)) (Int.toNat a))))
                                                    (othAt
                                                      (List.take (Int.toNat (↑(List.length mc) : Int))
                                                        (rlF (plMirr mw) mw mw mc
                                                          (List.replicate (List.length mc) (0 : UInt8)) (Int.toNat a)))
                                                      (Int.toNat a_3))),
                                                V.bool mu],
                                            V.lit true]))))

end Go.Vi
