/- Closed forms of the functions of this chapter. -/
import Derived.Test.YteleacldecambaaDoorZ2Defs
namespace Go.Vi
set_option linter.unusedVariables false
def F_strings_genSplit : GSpec := fun args m =>
  match args, m with
  | [.str s, .str t, .int .i64 v, .int .i64 n], [] => some (t = [58] ∧ v = 0 ∧ n = 5 ∧ s.length ≤ 1048576, .row 0 (spN s).length, [⟨.strs (spN s), 9, .row⟩])
  | _, _ => none
def F_spec_ParseWorld : FSpec := fun args m =>
  match args, m with
  | [.str s], [] => some (s.length ≤ 1048576, okV (okW s) (parW s))
  | _, _ => none
def F_impl_ParseWorld : FSpec := fun args m =>
  match args, m with
  | [.str s], [] => some (s.length ≤ 1048576, okV (okW s) (parW s))
  | _, _ => none
end Go.Vi
