/- The conditions, reckoned out by program: texts alone. -/
import Derived.Test.YtopolpgligoldabTCDefs
namespace Go.Vi
set_option linter.unusedVariables false
def VC_spec_l1In (n : Int) (lo : Int) (hi : Int) (K : V → Prop) : Prop :=
  (decide (n ≥ lo) = true → K (V.bool (decide (n ≤ hi)))) ∧ (decide (n ≥ lo) = false → K (V.lit false))

def VC_impl_within (n : Int) (lo : Int) (hi : Int) (K : V → Prop) : Prop :=
  (decide (lo ≤ n) = true → K (V.bool (decide (n ≤ hi)))) ∧ (decide (lo ≤ n) = false → K (V.lit false))

def VC_spec_taRows (states : Int) (tints : Int) (K : V → Prop) : Prop :=
  At True ∧
  (inB states (1 : Int) (4 : Int) = true →
      At True ∧
        (inB tints (1 : Int) (4 : Int) = true →
            K (V.bool (decide (IntKind.wrap IntKind.i64 (states * tints) ≤ (4 : Int))))) ∧
          (inB tints (1 : Int) (4 : Int) = false → K (V.lit false))) ∧
    (inB states (1 : Int) (4 : Int) = false → K (V.lit false))

def VC_spec_taPower (n : Int) (by_ : Int) (K : V → Prop) : Prop :=
  (((True ∧ n = n) ∧ (True ∧ by_ = by_) ∧ (True ∧ (1 : Int) = n ^ Int.toNat (by_ - by_)) ∧ True) ∧ True ∧ True) ∧
  At ((0 : Int) ≤ by_ ∧ by_ ≤ by_) ∧
    ∀ (a : Int),
      (0 : Int) ≤ a ∧ a ≤ by_ →
        (decide (a > (0 : Int)) = true →
            (((True ∧ n = n) ∧
                  (True ∧ IntKind.wrap IntKind.i64 (a - (1 : Int)) = IntKind.wrap IntKind.i64 (a - (1 : Int))) ∧
                    (True ∧
                        IntKind.wrap IntKind.i64 (n ^ Int.toNat (by_ - a) * n) =
                          n ^ Int.toNat (by_ - IntKind.wrap IntKind.i64 (a - (1 : Int)))) ∧
                      True) ∧
                True ∧ True) ∧
              At
                (((0 : Int) ≤ IntKind.wrap IntKind.i64 (a - (1 : Int)) ∧
                    IntKind.wrap IntKind.i64 (a - (1 : Int)) ≤ by_) ∧
                  Int.toNat (IntKind.wrap IntKind.i64 (a - (1 : Int))) < Int.toNat a)) ∧
          (decide (a > (0 : Int)) = false → K (V.int IntKind.i64 (n ^ Int.toNat (by_ - a))))

def VC_impl_isTableSize (states : Int) (tints : Int) (K : V → Prop) : Prop :=
  At True ∧
  (inB states (1 : Int) (4 : Int) = true → At True ∧ K (V.bool (inB tints (1 : Int) (4 : Int)))) ∧
    (inB states (1 : Int) (4 : Int) = false → K (V.lit false))

def VC_impl_isCounted (states : Int) (tints : Int) (K : V → Prop) : Prop :=
  At True ∧
  ((inB states (1 : Int) (4 : Int) && inB tints (1 : Int) (4 : Int)) = true →
      K (V.bool (decide (IntKind.wrap IntKind.i64 (states * tints) ≤ (4 : Int))))) ∧
    ((inB states (1 : Int) (4 : Int) && inB tints (1 : Int) (4 : Int)) = false → K (V.lit false))

def VC_spec_CountTables (states : Int) (tints : Int) (K : V → Prop) : Prop :=
  At True ∧
  ((!cntB states tints) = true → K (V.tup [V.int IntKind.i64 (0 : Int), V.lit false])) ∧
    ((!cntB states tints) = false →
      At
          ((0 : Int) ≤ IntKind.wrap IntKind.i64 ((4 : Int) * IntKind.wrap IntKind.i64 (states * tints)) ∧
            IntKind.wrap IntKind.i64 ((4 : Int) * IntKind.wrap IntKind.i64 (states * tints)) ≤ (16 : Int) ∧
              (0 : Int) ≤ IntKind.wrap IntKind.i64 (states * tints) ∧
                IntKind.wrap IntKind.i64 (states * tints) ≤ (4 : Int)) ∧
        K
          (V.tup
            [V.int IntKind.i64
                (IntKind.wrap IntKind.i64 ((4 : Int) * IntKind.wrap IntKind.i64 (states * tints)) ^
                  Int.toNat (IntKind.wrap IntKind.i64 (states * tints))),
              V.lit true]))

def VC_impl_CountTables (states : Int) (tints : Int) (K : V → Prop) : Prop :=
  At True ∧
  ((!cntB states tints) = true → K (V.tup [V.int IntKind.i64 (0 : Int), V.lit false])) ∧
    ((!cntB states tints) = false →
      (((True ∧ IntKind.wrap IntKind.i64 (states * tints) = IntKind.wrap IntKind.i64 (states * tints)) ∧
            (True ∧ (1 : Int) = ((4 : Int) * IntKind.wrap IntKind.i64 (states * tints)) ^ Int.toNat (0 : Int)) ∧
              (True ∧ IntKind.wrap IntKind.i64 (states * tints) = IntKind.wrap IntKind.i64 (states * tints)) ∧
                (True ∧ (0 : Int) = (0 : Int)) ∧ True) ∧
          True ∧ True) ∧
        At ((0 : Int) ≤ (0 : Int) ∧ (0 : Int) ≤ IntKind.wrap IntKind.i64 (states * tints)) ∧
          ∀ (a : Int),
            (0 : Int) ≤ a ∧ a ≤ IntKind.wrap IntKind.i64 (states * tints) →
              (decide (a < IntKind.wrap IntKind.i64 (states * tints)) = true →
                  (((True ∧ IntKind.wrap IntKind.i64 (states * tints) = IntKind.wrap IntKind.i64 (states * tints)) ∧
                        (True ∧
                            IntKind.wrap IntKind.i64
                                (((4 : Int) * IntKind.wrap IntKind.i64 (states * tints)) ^ Int.toNat a *
                                  IntKind.wrap IntKind.i64 ((4 : Int) * IntKind.wrap IntKind.i64 (states * tints))) =
                              ((4 : Int) * IntKind.wrap IntKind.i64 (states * tints)) ^
                                Int.toNat (IntKind.wrap IntKind.i64 (a + (1 : Int)))) ∧
                          (True ∧
                              IntKind.wrap IntKind.i64 (states * tints) = IntKind.wrap IntKind.i64 (states * tints)) ∧
                            (True ∧
                                IntKind.wrap IntKind.i64 (a + (1 : Int)) = IntKind.wrap IntKind.i64 (a + (1 : Int))) ∧
                              True) ∧
                      True ∧ True) ∧
                    At
                      (((0 : Int) ≤ IntKind.wrap IntKind.i64 (a + (1 : Int)) ∧
                          IntKind.wrap IntKind.i64 (a + (1 : Int)) ≤ IntKind.wrap IntKind.i64 (states * tints)) ∧
                        Int.toNat
                            (IntKind.wrap IntKind.i64 (states * tints) - IntKind.wrap IntKind.i64 (a + (1 : Int))) <
                          Int.toNat (IntKind.wrap IntKind.i64 (states * tints) - a))) ∧
                (decide (a < IntKind.wrap IntKind.i64 (states * tints)) = false →
                  K
                    (V.tup
                      [V.int IntKind.i64 (((4 : Int) * IntKind.wrap IntKind.i64 (states * tints)) ^ Int.toNat a),
                        V.lit true])))

def VC_spec_CountUndoable (states : Int) (tints : Int) (K : V → Prop) : Prop :=
  At True ∧
  ((!cntB states tints) = true → K (V.tup [V.int IntKind.i64 (0 : Int), V.lit false])) ∧
    ((!cntB states tints) = false →
      At
          ((0 : Int) ≤ (4 : Int) ∧
            (4 : Int) ≤ (16 : Int) ∧
              (0 : Int) ≤ IntKind.wrap IntKind.i64 (states * tints) ∧
                IntKind.wrap IntKind.i64 (states * tints) ≤ (4 : Int)) ∧
        (((True ∧ IntKind.wrap IntKind.i64 (states * tints) = IntKind.wrap IntKind.i64 (states * tints)) ∧
              (True ∧
                  (4 : Int) ^ Int.toNat (IntKind.wrap IntKind.i64 (states * tints)) =
                    (4 : Int) ^ Int.toNat (IntKind.wrap IntKind.i64 (states * tints)) *
                      factI (Int.toNat ((2 : Int) - (1 : Int)))) ∧
                (True ∧ (2 : Int) = (2 : Int)) ∧ True) ∧
            True ∧ True) ∧
          At
              ((2 : Int) ≤ (2 : Int) ∧ (2 : Int) ≤ IntKind.wrap IntKind.i64 (states * tints) + (1 : Int) ∨
                (2 : Int) = (2 : Int)) ∧
            ∀ (a : Int),
              (2 : Int) ≤ a ∧ a ≤ IntKind.wrap IntKind.i64 (states * tints) + (1 : Int) ∨ a = (2 : Int) →
                (decide (a ≤ IntKind.wrap IntKind.i64 (states * tints)) = true →
                    (((True ∧ IntKind.wrap IntKind.i64 (states * tints) = IntKind.wrap IntKind.i64 (states * tints)) ∧
                          (True ∧
                              IntKind.wrap IntKind.i64
                                  ((4 : Int) ^ Int.toNat (IntKind.wrap IntKind.i64 (states * tints)) *
                                      factI (Int.toNat (a - (1 : Int))) *
                                    a) =
                                (4 : Int) ^ Int.toNat (IntKind.wrap IntKind.i64 (states * tints)) *
                                  factI (Int.toNat (IntKind.wrap IntKind.i64 (a + (1 : Int)) - (1 : Int)))) ∧
                            (True ∧
                                IntKind.wrap IntKind.i64 (a + (1 : Int)) = IntKind.wrap IntKind.i64 (a + (1 : Int))) ∧
                              True) ∧
                        True ∧ True) ∧
                      At
                        (((2 : Int) ≤ IntKind.wrap IntKind.i64 (a + (1 : Int)) ∧
                              IntKind.wrap IntKind.i64 (a + (1 : Int)) ≤
                                IntKind.wrap IntKind.i64 (states * tints) + (1 : Int) ∨
                            IntKind.wrap IntKind.i64 (a + (1 : Int)) = (2 : Int)) ∧
                          Int.toNat
                              (IntKind.wrap IntKind.i64 (states * tints) + (1 : Int) -
                                IntKind.wrap IntKind.i64 (a + (1 : Int))) <
                            Int.toNat (IntKind.wrap IntKind.i64 (states * tints) + (1 : Int) - a))) ∧
                  (decide (a ≤ IntKind.wrap IntKind.i64 (states * tints)) = false →
                    K
                      (V.tup
                        [V.int IntKind.i64
                            ((4 : Int) ^ Int.toNat (IntKind.wrap IntKind.i64 (states * tints)) *
                              factI (Int.toNat (a - (1 : Int)))),
                          V.lit true])))

def VC_impl_CountUndoable (states : Int) (tints : Int) (K : V → Prop) : Prop :=
  At True ∧
  ((!cntB states tints) = true → K (V.tup [V.int IntKind.i64 (0 : Int), V.lit false])) ∧
    ((!cntB states tints) = false →
      (((True ∧ (1 : Int) = (4 : Int) ^ Int.toNat (0 : Int) * factI (Int.toNat (0 : Int))) ∧
            (True ∧ IntKind.wrap IntKind.i64 (states * tints) = IntKind.wrap IntKind.i64 (states * tints)) ∧
              (True ∧ (0 : Int) = (0 : Int)) ∧ True) ∧
          True ∧ True) ∧
        At ((0 : Int) ≤ (0 : Int) ∧ (0 : Int) ≤ IntKind.wrap IntKind.i64 (states * tints)) ∧
          ∀ (a : Int),
            (0 : Int) ≤ a ∧ a ≤ IntKind.wrap IntKind.i64 (states * tints) →
              (decide (a < IntKind.wrap IntKind.i64 (states * tints)) = true →
                  (((True ∧
                          IntKind.wrap IntKind.i64
                              ((4 : Int) ^ Int.toNat a * factI (Int.toNat a) *
                                IntKind.wrap IntKind.i64 ((4 : Int) * IntKind.wrap IntKind.i64 (a + (1 : Int)))) =
                            (4 : Int) ^ Int.toNat (IntKind.wrap IntKind.i64 (a + (1 : Int))) *
                              factI (Int.toNat (IntKind.wrap IntKind.i64 (a + (1 : Int))))) ∧
                        (True ∧ IntKind.wrap IntKind.i64 (states * tints) = IntKind.wrap IntKind.i64 (states * tints)) ∧
                          (True ∧ IntKind.wrap IntKind.i64 (a + (1 : Int)) = IntKind.wrap IntKind.i64 (a + (1 : Int))) ∧
                            True) ∧
                      True ∧ True) ∧
                    At
                      (((0 : Int) ≤ IntKind.wrap IntKind.i64 (a + (1 : Int)) ∧
                          IntKind.wrap IntKind.i64 (a + (1 : Int)) ≤ IntKind.wrap IntKind.i64 (states * tints)) ∧
                        Int.toNat
                            (IntKind.wrap IntKind.i64 (states * tints) - IntKind.wrap IntKind.i64 (a + (1 : Int))) <
                          Int.toNat (IntKind.wrap IntKind.i64 (states * tints) - a))) ∧
                (decide (a < IntKind.wrap IntKind.i64 (states * tints)) = false →
                  K (V.tup [V.int IntKind.i64 ((4 : Int) ^ Int.toNat a * factI (Int.toNat a)), V.lit true])))

end Go.Vi
