/- Closed forms of the functions of this chapter. -/
import Derived.Test.YtllocclgllappabTODefs
namespace Go.Vi
set_option linter.unusedVariables false
def F_impl_IsProgram : FSpec := fun args m =>
  match args, m with
  | [.str s], [] => some ((s.length : Int) ≤ 9223372036854775807, .bool (progB s))
  | _, _ => none
def F_spec_OtherProgram : FSpec := fun args m =>
  match args, m with
  | [.str s], [] => some ((s.length : Int) ≤ 9223372036854775807, .tup [.str (bif progB s then othR s else []), .bool (progB s)])
  | _, _ => none
def F_impl_OtherProgram : FSpec := fun args m =>
  match args, m with
  | [.str s], [] => some ((s.length : Int) ≤ 9223372036854775807, .tup [.str (bif progB s then othR s else []), .bool (progB s)])
  | _, _ => none
def F_spec_JoinPrograms : FSpec := fun args m =>
  match args, m with
  | [.str s, .str t], [] => some ((s.length : Int) ≤ 9223372036854775807 ∧ (t.length : Int) ≤ 9223372036854775807, .tup [.str (joinS s t), .bool (joinB s t)])
  | _, _ => none
def F_impl_JoinPrograms : FSpec := fun args m =>
  match args, m with
  | [.str s, .str t], [] => some ((s.length : Int) ≤ 9223372036854775807 ∧ (t.length : Int) ≤ 9223372036854775807, .tup [.str (joinS s t), .bool (joinB s t)])
  | _, _ => none
end Go.Vi
