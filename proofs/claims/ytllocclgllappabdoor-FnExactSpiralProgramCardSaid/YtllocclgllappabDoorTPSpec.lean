/- Closed forms of the functions of this chapter. -/
import Derived.Test.YtllocclgllappabDoorTPDefs
namespace Go.Vi
set_option linter.unusedVariables false
def F_spec_l1In : FSpec := fun args m =>
  match args, m with
  | [.int .i64 n, .int .i64 lo, .int .i64 hi], [] => some (True, .bool (inB n lo hi))
  | _, _ => none
def F_impl_within : FSpec := fun args m =>
  match args, m with
  | [.int .i64 n, .int .i64 lo, .int .i64 hi], [] => some (True, .bool (inB n lo hi))
  | _, _ => none
def F_impl_digit : FSpec := fun args m =>
  match args, m with
  | [.int .u8 b], [] => some (0 ≤ b ∧ b < 256, .int .i64 (b - 48))
  | _, _ => none
def F_impl_isSign : FSpec := fun args m =>
  match args, m with
  | [.int .u8 b], [] => some (True, .bool (signI b))
  | _, _ => none
def F_spec_woRule : FSpec := fun args m =>
  match args, m with
  | [.str s], [] => some (True, .bool (ruleB s))
  | _, _ => none
def F_spec_tuGood : FSpec := fun args m =>
  match args, m with
  | [.str s], [] => some ((s.length : Int) ≤ 9223372036854775807, .bool (progB s))
  | _, _ => none
def F_impl_partsOf : GSpec := fun args m =>
  match args, m with
  | [.str s], [] => some ((s.length : Int) ≤ 9223372036854775807, .tup [.row 0 (partsN s), .bool (progB s)], [⟨.recs [.int .i64, .int .u8] (partsC s), 38, .rows 2⟩])
  | _, _ => none
end Go.Vi
