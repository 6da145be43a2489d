/- Closed forms of the functions of this chapter. -/
import Derived.Test.YteleacldecambaaDoorZ1Defs
namespace Go.Vi
set_option linter.unusedVariables false
def F_strings_CutSuffix : FSpec := fun args m =>
  match args, m with
  | [.str s, .str t], [] => some (t = [33] ∧ s.length ≤ 1048576, .tup [.str (cutM s), .bool (endM s)])
  | _, _ => none
def F_spec_ParseMaze : FSpec := fun args m =>
  match args, m with
  | [.str s], [] => some (s.length ≤ 1048576, .tup [mzV (okMz s), .bool (okM s)])
  | _, _ => none
def F_impl_ParseMaze : FSpec := fun args m =>
  match args, m with
  | [.str s], [] => some (s.length ≤ 1048576, .tup [mzV (okMz s), .bool (okM s)])
  | _, _ => none
end Go.Vi
