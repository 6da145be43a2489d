/- Closed forms of the functions of this chapter. -/
import Derived.Test.YtllocclgllappabDoorTSDefs
namespace Go.Vi
set_option linter.unusedVariables false
def F_spec_l1Rising : FSpec := fun args m =>
  match args, m with
  | [.row 0 n, .int .i64 lo, .int .i64 hi], [⟨.ints .i64 (a), 3, .row⟩] => some (a.length = n ∧ n ≤ 2000000, .bool (risB a lo hi))
  | _, _ => none
def F_spec_l1Has : FSpec := fun args m =>
  match args, m with
  | [.row 0 n, .int .i64 v], [⟨.ints .i64 (a), 3, .row⟩] => some (a.length = n ∧ n ≤ 2000000, .bool (hasI a v))
  | _, _ => none
def F_impl_areNumbersOfParts : FSpec := fun args m =>
  match args, m with
  | [.row 0 n, .int .i64 p], [⟨.ints .i64 (a), 3, .row⟩] => some (a.length = n ∧ n ≤ 2000000, .bool (risB a 1 p))
  | _, _ => none
def F_laws_toIntS : GSpec := fun args m =>
  match args, m with
  | [.row 0 n], [⟨.ints .i64 a, e, k⟩] => some (a.length = n ∧ n ≤ 2000000, .row 1 n, [⟨.ints .i64 a, e, k⟩, ⟨.ints .i64 (a), 3, .row⟩])
  | _, _ => none
def F_spec_SpiralProgram : FSpec := fun args m =>
  match args, m with
  | [.int .i64 p, .row 0 n], [⟨.ints .i64 (a), 3, .row⟩] => some (a.length = n ∧ n ≤ 2000000, .tup [.str (spS p a), .bool (spB p a)])
  | _, _ => none
def F_impl_SpiralProgram : FSpec := fun args m =>
  match args, m with
  | [.int .i64 p, .row 0 n], [⟨.ints .i64 (a), 3, .row⟩] => some (a.length = n ∧ n ≤ 2000000, .tup [.str (spS p a), .bool (spB p a)])
  | _, _ => none
end Go.Vi
