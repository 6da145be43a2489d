/- Closed forms of the functions of this chapter. -/
import Derived.Test.YtllocclgllappabDoorTXDefs
namespace Go.Vi
set_option linter.unusedVariables false
def F_spec_woOther : FSpec := fun args m =>
  match args, m with
  | [.str s], [] => some (s.length ≤ 1000, .str (othR s))
  | _, _ => none
def F_impl_exchanged : FSpec := fun args m =>
  match args, m with
  | [.str s], [] => some (s.length ≤ 1000, .str (othR s))
  | _, _ => none
end Go.Vi
