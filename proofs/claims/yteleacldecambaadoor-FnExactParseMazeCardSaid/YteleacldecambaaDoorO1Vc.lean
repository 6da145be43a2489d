/- The conditions, reckoned out by program: texts alone. -/
import Derived.Test.YteleacldecambaaDoorO1Defs
namespace Go.Vi
set_option linter.unusedVariables false
def VC_spec_miText (mw : Int) (mh : Int) (mc : List UInt8) (mu : Bool) (K : V → Prop) : Prop :=
  True ∧
  At ((0 : Int) ≤ mw ∧ mw ≤ (9 : Int)) ∧
    At (List.length (num1 mw) + List.length (Array.toList #[(120 : UInt8)]) ≤ (9223372036854775807 : Nat)) ∧
      At ((0 : Int) ≤ mh ∧ mh ≤ (9 : Int)) ∧
        At
            (List.length (num1 mw ++ Array.toList #[(120 : UInt8)]) + List.length (num1 mh) ≤
              (9223372036854775807 : Nat)) ∧
          At
              (List.length (num1 mw ++ Array.toList #[(120 : UInt8)] ++ num1 mh) +
                  List.length (Array.toList #[(58 : UInt8)]) ≤
                (9223372036854775807 : Nat)) ∧
            At
                (List.length (num1 mw ++ Array.toList #[(120 : UInt8)] ++ num1 mh ++ Array.toList #[(58 : UInt8)]) +
                    List.length mc ≤
                  (9223372036854775807 : Nat)) ∧
              (mu = true →
                  At
                      (List.length
                            (num1 mw ++ Array.toList #[(120 : UInt8)] ++ num1 mh ++ Array.toList #[(58 : UInt8)] ++
                              mc) +
                          List.length (Array.toList #[(33 : UInt8)]) ≤
                        (9223372036854775807 : Nat)) ∧
                    K
                      (V.str
                        (num1 mw ++ Array.toList #[(120 : UInt8)] ++ num1 mh ++ Array.toList #[(58 : UInt8)] ++ mc ++
                          Array.toList #[(33 : UInt8)]))) ∧
                (mu = false →
                  K (V.str (num1 mw ++ Array.toList #[(120 : UInt8)] ++ num1 mh ++ Array.toList #[(58 : UInt8)] ++ mc)))

def VC_spec_MazeText (mw : Int) (mh : Int) (mc : List UInt8) (mu : Bool) (K : V → Prop) : Prop :=
  At True ∧
  ((!mzB { w := mw, h := mh, c := mc, t := mu }) = true → K (V.tup [V.str (Array.toList #[]), V.lit false])) ∧
    ((!mzB { w := mw, h := mh, c := mc, t := mu }) = false →
      At (mzB { w := mw, h := mh, c := mc, t := mu } = true) ∧
        K (V.tup [V.str (textM { w := mw, h := mh, c := mc, t := mu }), V.lit true]))

def VC_impl_MazeText (mw : Int) (mh : Int) (mc : List UInt8) (mu : Bool) (K : V → Prop) : Prop :=
  At True ∧
  ((!mzB { w := mw, h := mh, c := mc, t := mu }) = true → K (V.tup [V.str (Array.toList #[]), V.lit false])) ∧
    ((!mzB { w := mw, h := mh, c := mc, t := mu }) = false →
      True ∧
        At ((0 : Int) ≤ mw ∧ mw ≤ (9 : Int)) ∧
          At (List.length (num1 mw) + List.length (Array.toList #[(120 : UInt8)]) ≤ (9223372036854775807 : Nat)) ∧
            At ((0 : Int) ≤ mh ∧ mh ≤ (9 : Int)) ∧
              At
                  (List.length (num1 mw ++ Array.toList #[(120 : UInt8)]) + List.length (num1 mh) ≤
                    (9223372036854775807 : Nat)) ∧
                At
                    (List.length (num1 mw ++ Array.toList #[(120 : UInt8)] ++ num1 mh) +
                        List.length (Array.toList #[(58 : UInt8)]) ≤
                      (9223372036854775807 : Nat)) ∧
                  At
                      (List.length
                            (num1 mw ++ Array.toList #[(120 : UInt8)] ++ num1 mh ++ Array.toList #[(58 : UInt8)]) +
                          List.length mc ≤
                        (9223372036854775807 : Nat)) ∧
                    (mu = true →
                        At
                            (List.length
                                  (num1 mw ++ Array.toList #[(120 : UInt8)] ++ num1 mh ++
                                      Array.toList #[(58 : UInt8)] ++
                                    mc) +
                                List.length (Array.toList #[(33 : UInt8)]) ≤
                              (9223372036854775807 : Nat)) ∧
                          K
                            (V.tup
                              [V.str
                                  (num1 mw ++ Array.toList #[(120 : UInt8)] ++ num1 mh ++
                                        Array.toList #[(58 : UInt8)] ++
                                      mc ++
                                    Array.toList #[(33 : UInt8)]),
                                V.lit true])) ∧
                      (mu = false →
                        K
                          (V.tup
                            [V.str
                                (num1 mw ++ Array.toList #[(120 : UInt8)] ++ num1 mh ++ Array.toList #[(58 : UInt8)] ++
                                  mc),
                              V.lit true])))

end Go.Vi
