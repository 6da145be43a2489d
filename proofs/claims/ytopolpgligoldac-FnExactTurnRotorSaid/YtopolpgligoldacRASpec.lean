/- Closed forms of the functions of this chapter. -/
import Derived.Test.YtopolpgligoldacRADefs
namespace Go.Vi
set_option linter.unusedVariables false
def F_spec_l1In : FSpec := fun args m =>
  match args, m with
  | [.int .i64 n, .int .i64 lo, .int .i64 hi], [] => some (True, .bool (inB n lo hi))
  | _, _ => none
def F_impl_within : FSpec := fun args m =>
  match args, m with
  | [.int .i64 n, .int .i64 lo, .int .i64 hi], [] => some (True, .bool (inB n lo hi))
  | _, _ => none
def F_laws_szIntS : FSpec := fun args m =>
  match args, m with
  | [.row 0 n, .int .i64 left], [⟨.ints .i64 a, e, k⟩] => some (0 ≤ left ∧ left ≤ 1048576 ∧ (n : Int) ≤ 9223372036854775807, .int .i64 (szI n left))
  | _, _ => none
def F_laws_szIntSS : FSpec := fun args m =>
  match args, m with
  | [.row 0 n, .int .i64 left], [⟨.mat .i64 3 (l), 23, .amat⟩] => some (0 ≤ left ∧ left ≤ 1048576 ∧ (n : Int) ≤ 9223372036854775807 ∧ l.length = n ∧ ∀ r ∈ l, (r.length : Int) ≤ 9223372036854775807, .int .i64 (szM l left))
  | _, _ => none
def F_laws_szRoute : FSpec := fun args m =>
  match args, m with
  | [.agg [.row 0 n, .row 1 m], .int .i64 left], [⟨.mat .i64 3 (l), 23, .amat⟩, ⟨.ints .i64 (ro), 3, .arg 1⟩] => some (0 ≤ left ∧ left ≤ 1048576 ∧ (n : Int) ≤ 9223372036854775807 ∧ l.length = n ∧ (∀ r ∈ l, (r.length : Int) ≤ 9223372036854775807) ∧ ro.length = m ∧ (m : Int) ≤ 9223372036854775807, .int .i64 (szR l ro left))
  | _, _ => none
def F_laws_toIntS : GSpec := fun args m =>
  match args, m with
  | [.row 0 n], [⟨.ints .i64 a, e, k⟩] => some (a.length = n ∧ n ≤ 2000000, .row 1 n, [⟨.ints .i64 a, e, k⟩, ⟨.ints .i64 (a), 3, .row⟩])
  | _, _ => none
def F_laws_toIntSS : GSpec := fun args m =>
  match args, m with
  | [.row 0 n], [⟨.mat .i64 3 (l), 23, .amat⟩] => some (l.length = n ∧ smallM l, .row 1 n, [⟨.mat .i64 3 (l), 23, .amat⟩, ⟨.mat .i64 3 (l), 23, .mat⟩])
  | _, _ => none
def F_laws_toRoute : GSpec := fun args m =>
  match args, m with
  | [.agg [.row 0 n, .row 1 m]], [⟨.mat .i64 3 (l), 23, .amat⟩, ⟨.ints .i64 (ro), 3, .arg 1⟩] => some (l.length = n ∧ ro.length = m ∧ smallM l ∧ m ≤ 2000000, .agg [.row 2 n, .row 3 m], [⟨.mat .i64 3 (l), 23, .amat⟩, ⟨.ints .i64 (ro), 3, .arg 1⟩, ⟨.mat .i64 3 (l), 23, .mat⟩, ⟨.ints .i64 (ro), 3, .row⟩])
  | _, _ => none
def F_laws_eqIntS : FSpec := fun args m =>
  match args, m with
  | [.row 0 n, .row 1 m], [⟨.ints .i64 a, e, k⟩, ⟨.ints .i64 b, f, q⟩] => some (a.length = n ∧ b.length = m ∧ n ≤ 2000000 ∧ m ≤ 2000000, .bool (a == b))
  | _, _ => none
def F_laws_eqIntSS : FSpec := fun args m =>
  match args, m with
  | [.row 0 n, .row 1 m], [⟨.mat .i64 3 (l), 23, .mat⟩, ⟨.mat .i64 3 (j), 23, .mat⟩] => some (l.length = n ∧ j.length = m ∧ smallM l ∧ smallM j, .bool (l == j))
  | _, _ => none
def F_laws_eqRoute : FSpec := fun args m =>
  match args, m with
  | [.agg [.row 0 n, .row 1 m], .agg [.row 2 u, .row 3 v]], [⟨.mat .i64 3 (l), 23, .mat⟩, ⟨.ints .i64 (ro), 3, .row⟩, ⟨.mat .i64 3 (j), 23, .mat⟩, ⟨.ints .i64 (so), 3, .row⟩] => some (l.length = n ∧ ro.length = m ∧ smallM l ∧ m ≤ 2000000 ∧ j.length = u ∧ so.length = v ∧ smallM j ∧ v ≤ 2000000, .bool (l == j && ro == so))
  | _, _ => none
def F_spec_l1All : FSpec := fun args m =>
  match args, m with
  | [.row 0 n, .int .i64 lo, .int .i64 hi], [⟨.ints .i64 a, e, k⟩] => some (a.length = n ∧ n ≤ 2000000, .bool (allB a lo hi))
  | _, _ => none
def F_spec_roGood : FSpec := fun args m =>
  match args, m with
  | [.agg [.row 0 n, .row 1 m]], [⟨.mat .i64 3 (l), 23, .mat⟩, ⟨.ints .i64 (ro), 3, .row⟩] => some (l.length = n ∧ ro.length = m ∧ smallM l ∧ m ≤ 2000000, .bool (routeB l ro))
  | _, _ => none
def F_impl_isNode : FSpec := fun args m =>
  match args, m with
  | [.agg [.row 0 n, .row 1 m], .int .i64 node], [⟨.mat .i64 3 (l), 23, .mat⟩, ⟨.ints .i64 (ro), 3, .row⟩] => some (l.length = n ∧ ro.length = m ∧ smallM l ∧ m ≤ 2000000, .bool (inB node 0 (n - 1)))
  | _, _ => none
def F_impl_IsRoute : FSpec := fun args m =>
  match args, m with
  | [.agg [.row 0 n, .row 1 m]], [⟨.mat .i64 3 (l), 23, .mat⟩, ⟨.ints .i64 (ro), 3, .row⟩] => some (l.length = n ∧ ro.length = m ∧ smallM l ∧ m ≤ 2000000, .bool (routeB l ro))
  | _, _ => none
end Go.Vi
