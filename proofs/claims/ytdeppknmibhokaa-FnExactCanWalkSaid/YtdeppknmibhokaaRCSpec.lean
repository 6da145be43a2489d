/- Closed forms of the functions of this chapter. -/
import Derived.Test.YtdeppknmibhokaaRCDefs
namespace Go.Vi
set_option linter.unusedVariables false
def F_spec_l1Has : FSpec := fun args m =>
  match args, m with
  | [.row 0 n, .int .i64 v], [⟨.ints .i64 a, e, k⟩] => some (a.length = n ∧ n ≤ 2000000, .bool (hasI a v))
  | _, _ => none
def F_slices_Index_int_int : FSpec := fun args m =>
  match args, m with
  | [.row 0 n, .int .i64 v], [⟨.ints .i64 a, e, k⟩] => some (a.length = n ∧ n ≤ 2000000, .int .i64 (idxI a v))
  | _, _ => none
def F_slices_Contains_int_int : FSpec := fun args m =>
  match args, m with
  | [.row 0 n, .int .i64 v], [⟨.ints .i64 (a), 3, .row⟩] => some (a.length = n ∧ n ≤ 2000000, .bool (hasI a v))
  | _, _ => none
def F_spec_roNode : FSpec := fun args m =>
  match args, m with
  | [.agg [.row 0 n, .row 1 m], .int .i64 node], [⟨.mat .i64 3 (l), 23, .mat⟩, ⟨.ints .i64 (ro), 3, .row⟩] => some (l.length = n ∧ ro.length = m ∧ smallM l ∧ m ≤ 2000000, .bool (routeB l ro && inB node 0 (n - 1)))
  | _, _ => none
def F_spec_CanWalk : FSpec := fun args m =>
  match args, m with
  | [.agg [.row 0 n, .row 1 m], .int .i64 aat, .int .i64 goal], [⟨.mat .i64 3 (l), 23, .mat⟩, ⟨.ints .i64 (ro), 3, .row⟩] => some (l.length = n ∧ ro.length = m ∧ smallM l ∧ m ≤ 2000000, .tup [.bool (canB l ro n aat goal && hasI (qAt l aat l.length) goal), .bool (canB l ro n aat goal)])
  | _, _ => none
def F_impl_CanWalk : FSpec := fun args m =>
  match args, m with
  | [.agg [.row 0 n, .row 1 m], .int .i64 aat, .int .i64 goal], [⟨.mat .i64 3 (l), 23, .mat⟩, ⟨.ints .i64 (ro), 3, .row⟩] => some (l.length = n ∧ ro.length = m ∧ smallM l ∧ m ≤ 2000000, .tup [.bool (canB l ro n aat goal && hasI (qAt l aat l.length) goal), .bool (canB l ro n aat goal)])
  | _, _ => none
end Go.Vi
