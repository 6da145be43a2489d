/- The conditions, reckoned out by program: texts alone. -/
import Derived.Test.YtioppaofihbmpaaWXDefs
namespace Go.Vi
set_option linter.unusedVariables false
def VC_spec_l1In (n : Int) (lo : Int) (hi : Int) (K : V → Prop) : Prop :=
  (decide (n ≥ lo) = true → K (V.bool (decide (n ≤ hi)))) ∧ (decide (n ≥ lo) = false → K (V.lit false))

def VC_impl_within (n : Int) (lo : Int) (hi : Int) (K : V → Prop) : Prop :=
  (decide (lo ≤ n) = true → K (V.bool (decide (n ≤ hi)))) ∧ (decide (lo ≤ n) = false → K (V.lit false))

def VC_impl_isGrid (a : Int) (b : Int) (K : V → Prop) : Prop :=
  At True ∧
  (inB a (3 : Int) (6 : Int) = true → At True ∧ K (V.bool (inB b (3 : Int) (6 : Int)))) ∧
    (inB a (3 : Int) (6 : Int) = false → K (V.lit false))

def VC_laws_eqWorm (aw : Int) (ah : Int) (ar : List UInt8) (an : List UInt8) (ax : Int) (ay : Int) (ad : Int) (bw : Int) (bh : Int) (br : List UInt8) (bn : List UInt8) (bx : Int) (by_ : Int) (bd : Int) (K : V → Prop) : Prop :=
  ((aw != bw) = true → K (V.lit false)) ∧
  ((aw != bw) = false →
    ((ah != bh) = true → K (V.lit false)) ∧
      ((ah != bh) = false →
        ((!ar == br) = true → K (V.lit false)) ∧
          ((!ar == br) = false →
            ((!an == bn) = true → K (V.lit false)) ∧
              ((!an == bn) = false →
                ((ax != bx) = true → K (V.lit false)) ∧
                  ((ax != bx) = false →
                    ((ay != by_) = true → K (V.lit false)) ∧
                      ((ay != by_) = false →
                        ((ad != bd) = true → K (V.lit false)) ∧ ((ad != bd) = false → K (V.lit true))))))))

def VC_spec_wmOnes (n : Int) (K : V → Prop) : Prop :=
  (((True ∧ n = n) ∧ nilB = List.replicate (Int.toNat (n - n)) (49 : UInt8) ∧ True) ∧ True ∧ True) ∧
  At ((0 : Int) ≤ n ∧ n ≤ n ∧ n ≤ (1000 : Int)) ∧
    ∀ (a : Int),
      (0 : Int) ≤ a ∧ a ≤ n ∧ n ≤ (1000 : Int) →
        (decide (a > (0 : Int)) = true →
            At
                (List.length (List.replicate (Int.toNat (n - a)) (49 : UInt8)) +
                    List.length (Array.toList #[(49 : UInt8)]) ≤
                  (9223372036854775807 : Nat)) ∧
              (((True ∧ IntKind.wrap IntKind.i64 (a - (1 : Int)) = IntKind.wrap IntKind.i64 (a - (1 : Int))) ∧
                    List.replicate (Int.toNat (n - a)) (49 : UInt8) ++ Array.toList #[(49 : UInt8)] =
                        List.replicate (Int.toNat (n - IntKind.wrap IntKind.i64 (a - (1 : Int)))) (49 : UInt8) ∧
                      True) ∧
                  True ∧ True) ∧
                At
                  (((0 : Int) ≤ IntKind.wrap IntKind.i64 (a - (1 : Int)) ∧
                      IntKind.wrap IntKind.i64 (a - (1 : Int)) ≤ n ∧ n ≤ (1000 : Int)) ∧
                    Int.toNat (IntKind.wrap IntKind.i64 (a - (1 : Int))) < Int.toNat a)) ∧
          (decide (a > (0 : Int)) = false → K (V.str (List.replicate (Int.toNat (n - a)) (49 : UInt8))))

def VC_spec_FreshWorm (a : Int) (b : Int) (K : V → Prop) : Prop :=
  At True ∧
  ((!inB a (3 : Int) (6 : Int)) = true →
      K
        (V.tup
          [V.agg
              [V.int IntKind.i64 (0 : Int), V.int IntKind.i64 (0 : Int), V.str (Array.toList #[]),
                V.str (Array.toList #[]), V.int IntKind.i64 (0 : Int), V.int IntKind.i64 (0 : Int),
                V.int IntKind.i64 (0 : Int)],
            V.lit false])) ∧
    ((!inB a (3 : Int) (6 : Int)) = false →
      At True ∧
        ((!inB b (3 : Int) (6 : Int)) = true →
            K
              (V.tup
                [V.agg
                    [V.int IntKind.i64 (0 : Int), V.int IntKind.i64 (0 : Int), V.str (Array.toList #[]),
                      V.str (Array.toList #[]), V.int IntKind.i64 (0 : Int), V.int IntKind.i64 (0 : Int),
                      V.int IntKind.i64 (0 : Int)],
                  V.lit false])) ∧
          ((!inB b (3 : Int) (6 : Int)) = false →
            At ((0 : Int) ≤ IntKind.wrap IntKind.i64 (a * b) ∧ IntKind.wrap IntKind.i64 (a * b) ≤ (1000 : Int)) ∧
              At ((0 : Int) ≤ IntKind.wrap IntKind.i64 (a * b) ∧ IntKind.wrap IntKind.i64 (a * b) ≤ (1000 : Int)) ∧
                K
                  (V.tup
                    [V.agg
                        [V.int IntKind.i64 a, V.int IntKind.i64 b,
                          V.str (List.replicate (Int.toNat (IntKind.wrap IntKind.i64 (a * b))) (49 : UInt8)),
                          V.str (List.replicate (Int.toNat (IntKind.wrap IntKind.i64 (a * b))) (49 : UInt8)),
                          V.int IntKind.i64 (0 : Int), V.int IntKind.i64 (0 : Int), V.int IntKind.i64 (0 : Int)],
                      V.lit true])))

def VC_impl_FreshWorm (a : Int) (b : Int) (K : V → Prop) : Prop :=
  At True ∧
  ((!(inB a (3 : Int) (6 : Int) && inB b (3 : Int) (6 : Int))) = true →
      K
        (V.tup
          [V.agg
              [V.int IntKind.i64 (0 : Int), V.int IntKind.i64 (0 : Int), V.str (Array.toList #[]),
                V.str (Array.toList #[]), V.int IntKind.i64 (0 : Int), V.int IntKind.i64 (0 : Int),
                V.int IntKind.i64 (0 : Int)],
            V.lit false])) ∧
    ((!(inB a (3 : Int) (6 : Int) && inB b (3 : Int) (6 : Int))) = false →
      At
          ((0 : Int) ≤ IntKind.wrap IntKind.i64 (a * b) ∧
            IntKind.wrap IntKind.i64 (a * b) ≤ (9223372036854775807 : Int) ∧
              List.length (Array.toList #[(49 : UInt8)]) * Int.toNat (IntKind.wrap IntKind.i64 (a * b)) ≤
                (140737488355328 : Nat)) ∧
        K
          (V.tup
            [V.agg
                [V.int IntKind.i64 a, V.int IntKind.i64 b,
                  V.str (Lib.repeatL (Array.toList #[(49 : UInt8)]) (Int.toNat (IntKind.wrap IntKind.i64 (a * b)))),
                  V.str (Lib.repeatL (Array.toList #[(49 : UInt8)]) (Int.toNat (IntKind.wrap IntKind.i64 (a * b)))),
                  V.int IntKind.i64 (0 : Int), V.int IntKind.i64 (0 : Int), V.int IntKind.i64 (0 : Int)],
              V.lit true]))

end Go.Vi
