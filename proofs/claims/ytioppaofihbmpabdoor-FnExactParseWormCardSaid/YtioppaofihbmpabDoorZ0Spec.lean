/- Closed forms of the functions of this chapter. -/
import Derived.Test.YtioppaofihbmpabDoorZ0Defs
namespace Go.Vi
set_option linter.unusedVariables false
def F_spec_l1Split : GSpec := fun args m =>
  match args, m with
  | [.str s, .int .u8 b], [] => some (0 ≤ b ∧ b < 256 ∧ s.length ≤ 1048576, .row 0 (splL (UInt8.ofNat b.toNat) s).length, [⟨.strs (splL (UInt8.ofNat b.toNat) s), 9, .row⟩])
  | _, _ => none
def F_spec_l1Read : FSpec := fun args m =>
  match args, m with
  | [.str s], [] => some (s.length ≤ 1048576, .int .i64 (readF s))
  | _, _ => none
end Go.Vi
