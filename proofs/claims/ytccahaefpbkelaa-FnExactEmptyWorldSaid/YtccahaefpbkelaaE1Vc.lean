/- The conditions, reckoned out by program: texts alone. -/
import Derived.Test.YtccahaefpbkelaaE1Defs
namespace Go.Vi
set_option linter.unusedVariables false
def VC_spec_woZeros (n : Int) (K : V → Prop) : Prop :=
  (((True ∧ n = n) ∧ Array.toList #[] = List.replicate (Int.toNat (n - n)) (48 : UInt8) ∧ True) ∧ True ∧ True) ∧
  At ((0 : Int) ≤ n ∧ n ≤ n ∧ n ≤ (1000 : Int)) ∧
    ∀ (a : Int),
      (0 : Int) ≤ a ∧ a ≤ n ∧ n ≤ (1000 : Int) →
        (decide (a > (0 : Int)) = true →
            At
                (List.length (List.replicate (Int.toNat (n - a)) (48 : UInt8)) +
                    List.length (Array.toList #[(48 : UInt8)]) ≤
                  (9223372036854775807 : Nat)) ∧
              (((True ∧ IntKind.wrap IntKind.i64 (a - (1 : Int)) = IntKind.wrap IntKind.i64 (a - (1 : Int))) ∧
                    List.replicate (Int.toNat (n - a)) (48 : UInt8) ++ Array.toList #[(48 : UInt8)] =
                        List.replicate (Int.toNat (n - IntKind.wrap IntKind.i64 (a - (1 : Int)))) (48 : UInt8) ∧
                      True) ∧
                  True ∧ True) ∧
                At
                  (((0 : Int) ≤ IntKind.wrap IntKind.i64 (a - (1 : Int)) ∧
                      IntKind.wrap IntKind.i64 (a - (1 : Int)) ≤ n ∧ n ≤ (1000 : Int)) ∧
                    Int.toNat (IntKind.wrap IntKind.i64 (a - (1 : Int))) < Int.toNat a)) ∧
          (decide (a > (0 : Int)) = false → K (V.str (List.replicate (Int.toNat (n - a)) (48 : UInt8))))

def VC_spec_EmptyWorld (r : List UInt8) (w : Int) (h : Int) (K : V → Prop) : Prop :=
  At True ∧
  ((!ruleB r) = true →
      K
        (V.tup
          [V.agg
              [V.str (Array.toList #[]), V.int IntKind.i64 (0 : Int), V.int IntKind.i64 (0 : Int),
                V.str (Array.toList #[]), V.int IntKind.i64 (0 : Int), V.int IntKind.i64 (0 : Int),
                V.int IntKind.i64 (0 : Int)],
            V.lit false])) ∧
    ((!ruleB r) = false →
      At True ∧
        ((!inB w (1 : Int) (9 : Int)) = true →
            K
              (V.tup
                [V.agg
                    [V.str (Array.toList #[]), V.int IntKind.i64 (0 : Int), V.int IntKind.i64 (0 : Int),
                      V.str (Array.toList #[]), V.int IntKind.i64 (0 : Int), V.int IntKind.i64 (0 : Int),
                      V.int IntKind.i64 (0 : Int)],
                  V.lit false])) ∧
          ((!inB w (1 : Int) (9 : Int)) = false →
            At True ∧
              ((!inB h (1 : Int) (9 : Int)) = true →
                  K
                    (V.tup
                      [V.agg
                          [V.str (Array.toList #[]), V.int IntKind.i64 (0 : Int), V.int IntKind.i64 (0 : Int),
                            V.str (Array.toList #[]), V.int IntKind.i64 (0 : Int), V.int IntKind.i64 (0 : Int),
                            V.int IntKind.i64 (0 : Int)],
                        V.lit false])) ∧
                ((!inB h (1 : Int) (9 : Int)) = false →
                  At ((0 : Int) ≤ IntKind.wrap IntKind.i64 (w * h) ∧ IntKind.wrap IntKind.i64 (w * h) ≤ (1000 : Int)) ∧
                    K
                      (V.tup
                        [V.agg
                            [V.str r, V.int IntKind.i64 w, V.int IntKind.i64 h,
                              V.str (List.replicate (Int.toNat (IntKind.wrap IntKind.i64 (w * h))) (48 : UInt8)),
                              V.int IntKind.i64 (0 : Int), V.int IntKind.i64 (0 : Int), V.int IntKind.i64 (0 : Int)],
                          V.lit true]))))

def VC_impl_EmptyWorld (r : List UInt8) (w : Int) (h : Int) (K : V → Prop) : Prop :=
  At True ∧
  ((!ruleB r) = true →
      K
        (V.tup
          [V.agg
              [V.str (Array.toList #[]), V.int IntKind.i64 (0 : Int), V.int IntKind.i64 (0 : Int),
                V.str (Array.toList #[]), V.int IntKind.i64 (0 : Int), V.int IntKind.i64 (0 : Int),
                V.int IntKind.i64 (0 : Int)],
            V.lit false])) ∧
    ((!ruleB r) = false →
      At True ∧
        (inB w (1 : Int) (9 : Int) = true →
            At True ∧
              ((!inB h (1 : Int) (9 : Int)) = true →
                  K
                    (V.tup
                      [V.agg
                          [V.str (Array.toList #[]), V.int IntKind.i64 (0 : Int), V.int IntKind.i64 (0 : Int),
                            V.str (Array.toList #[]), V.int IntKind.i64 (0 : Int), V.int IntKind.i64 (0 : Int),
                            V.int IntKind.i64 (0 : Int)],
                        V.lit false])) ∧
                ((!inB h (1 : Int) (9 : Int)) = false →
                  At
                      ((0 : Int) ≤ IntKind.wrap IntKind.i64 (w * h) ∧
                        IntKind.wrap IntKind.i64 (w * h) ≤ (9223372036854775807 : Int) ∧
                          List.length (Array.toList #[(48 : UInt8)]) * Int.toNat (IntKind.wrap IntKind.i64 (w * h)) ≤
                            (140737488355328 : Nat)) ∧
                    K
                      (V.tup
                        [V.agg
                            [V.str r, V.int IntKind.i64 w, V.int IntKind.i64 h,
                              V.str
                                (Lib.repeatL (Array.toList #[(48 : UInt8)])
                                  (Int.toNat (IntKind.wrap IntKind.i64 (w * h)))),
                              V.int IntKind.i64 (0 : Int), V.int IntKind.i64 (0 : Int), V.int IntKind.i64 (0 : Int)],
                          V.lit true]))) ∧
          (inB w (1 : Int) (9 : Int) = false →
            K
              (V.tup
                [V.agg
                    [V.str (Array.toList #[]), V.int IntKind.i64 (0 : Int), V.int IntKind.i64 (0 : Int),
                      V.str (Array.toList #[]), V.int IntKind.i64 (0 : Int), V.int IntKind.i64 (0 : Int),
                      V.int IntKind.i64 (0 : Int)],
                  V.lit false])))

end Go.Vi
