/- The conditions, reckoned out by program: texts alone. -/
import Derived.Test.YtllocclgllappabTODefs
namespace Go.Vi
set_option linter.unusedVariables false
def VC_impl_IsProgram (s : List UInt8) (K : V → Prop) : Prop :=
  At ((↑(List.length s) : Int) ≤ (9223372036854775807 : Int)) ∧ K (V.bool (progB s))

def VC_spec_OtherProgram (s : List UInt8) (K : V → Prop) : Prop :=
  At ((↑(List.length s) : Int) ≤ (9223372036854775807 : Int)) ∧
  ((!progB s) = true → K (V.tup [V.str (Array.toList #[]), V.lit false])) ∧
    ((!progB s) = false → At (List.length s ≤ (1000 : Nat)) ∧ K (V.tup [V.str (othR s), V.lit true]))

def VC_impl_OtherProgram (s : List UInt8) (K : V → Prop) : Prop :=
  At ((↑(List.length s) : Int) ≤ (9223372036854775807 : Int)) ∧
  ((!progB s) = true → K (V.tup [V.str (Array.toList #[]), V.lit false])) ∧
    ((!progB s) = false → At (List.length s ≤ (1000 : Nat)) ∧ K (V.tup [V.str (othR s), V.lit true]))

def VC_spec_JoinPrograms (s : List UInt8) (t : List UInt8) (K : V → Prop) : Prop :=
  At ((↑(List.length s) : Int) ≤ (9223372036854775807 : Int)) ∧
  ((!progB s) = true → K (V.tup [V.str (Array.toList #[]), V.lit false])) ∧
    ((!progB s) = false →
      At ((↑(List.length t) : Int) ≤ (9223372036854775807 : Int)) ∧
        ((!progB t) = true → K (V.tup [V.str (Array.toList #[]), V.lit false])) ∧
          ((!progB t) = false →
            At (List.length s + List.length t ≤ (9223372036854775807 : Nat)) ∧
              At ((↑(List.length (s ++ t)) : Int) ≤ (9223372036854775807 : Int)) ∧
                ((!progB (s ++ t)) = true → K (V.tup [V.str (Array.toList #[]), V.lit false])) ∧
                  ((!progB (s ++ t)) = false →
                    At (List.length s + List.length t ≤ (9223372036854775807 : Nat)) ∧
                      K (V.tup [V.str (s ++ t), V.lit true]))))

def VC_impl_JoinPrograms (s : List UInt8) (t : List UInt8) (K : V → Prop) : Prop :=
  At ((↑(List.length s) : Int) ≤ (9223372036854775807 : Int)) ∧
  ((!progB s) = true → K (V.tup [V.str (Array.toList #[]), V.lit false])) ∧
    ((!progB s) = false →
      At ((↑(List.length t) : Int) ≤ (9223372036854775807 : Int)) ∧
        ((!progB t) = true → K (V.tup [V.str (Array.toList #[]), V.lit false])) ∧
          ((!progB t) = false →
            At (List.length s + List.length t ≤ (9223372036854775807 : Nat)) ∧
              At ((↑(List.length (s ++ t)) : Int) ≤ (9223372036854775807 : Int)) ∧
                ((!progB (s ++ t)) = true → K (V.tup [V.str (Array.toList #[]), V.lit false])) ∧
                  ((!progB (s ++ t)) = false →
                    At (List.length s + List.length t ≤ (9223372036854775807 : Nat)) ∧
                      K (V.tup [V.str (s ++ t), V.lit true]))))

end Go.Vi
