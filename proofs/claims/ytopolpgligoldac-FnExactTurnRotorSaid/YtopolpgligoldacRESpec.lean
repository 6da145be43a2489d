/- Closed forms of the functions of this chapter. -/
import Derived.Test.YtopolpgligoldacREDefs
namespace Go.Vi
set_option linter.unusedVariables false
def F_spec_l1Has : FSpec := fun args m =>
  match args, m with
  | [.row 0 n, .int .i64 v], [⟨.ints .i64 a, e, k⟩] => some (a.length = n ∧ n ≤ 2000000, .bool (hasI a v))
  | _, _ => none
def F_slices_Index_int_int : FSpec := fun args m =>
  match args, m with
  | [.row 0 n, .int .i64 v], [⟨.ints .i64 a, e, k⟩] => some (a.length = n ∧ n ≤ 2000000, .int .i64 (idxI a v))
  | _, _ => none
def F_slices_Contains_int_int : FSpec := fun args m =>
  match args, m with
  | [.row 0 n, .int .i64 v], [⟨.ints .i64 (a), 3, .row⟩] => some (a.length = n ∧ n ≤ 2000000, .bool (hasI a v))
  | _, _ => none
def F_spec_TurnRotor : GSpec := fun args m =>
  match args, m with
  | [.agg [.row 0 n, .row 1 m], .int .i64 x], [⟨.mat .i64 3 (l), 23, .mat⟩, ⟨.ints .i64 (ro), 3, .row⟩] => some (l.length = n ∧ ro.length = m ∧ smallM l ∧ m ≤ 2000000, .tup [.agg [.row 2 (numW l ro n x 1 n), .row 3 (numW l ro n x 1 n)], .bool (wkOk l ro n x 1)], [⟨.mat .i64 3 (l), 23, .mat⟩, ⟨.ints .i64 (ro), 3, .row⟩, ⟨.mat .i64 3 (walkL l ro n x 1), 23, .mat⟩, ⟨.ints .i64 (walkR l ro n x 1), 3, .row⟩])
  | _, _ => none
def F_impl_TurnRotor : GSpec := fun args m =>
  match args, m with
  | [.agg [.row 0 n, .row 1 m], .int .i64 x], [⟨.mat .i64 3 (l), 23, .mat⟩, ⟨.ints .i64 (ro), 3, .row⟩] => some (l.length = n ∧ ro.length = m ∧ smallM l ∧ m ≤ 2000000, .tup [.agg [.row 2 (numW l ro n x 1 n), .row 3 (numW l ro n x 1 n)], .bool (wkOk l ro n x 1)], [⟨.mat .i64 3 (l), 23, .mat⟩, ⟨.ints .i64 (ro), 3, .row⟩, ⟨.mat .i64 3 (walkL l ro n x 1), 23, .mat⟩, ⟨.ints .i64 (walkR l ro n x 1), 3, .row⟩])
  | _, _ => none
def F_spec_ResetRoute : GSpec := fun args m =>
  match args, m with
  | [.agg [.row 0 n, .row 1 m]], [⟨.mat .i64 3 (l), 23, .mat⟩, ⟨.ints .i64 (ro), 3, .row⟩] => some (l.length = n ∧ ro.length = m ∧ smallM l ∧ m ≤ 2000000, .tup [.agg [.row 2 (numZ l ro n), .row 3 (numZ l ro n)], .bool (routeB l ro)], [⟨.mat .i64 3 (l), 23, .mat⟩, ⟨.ints .i64 (ro), 3, .row⟩, ⟨.mat .i64 3 (zeroL l ro), 23, .mat⟩, ⟨.ints .i64 (List.replicate (numZ l ro n) 0), 3, .row⟩])
  | _, _ => none
def F_impl_ResetRoute : GSpec := fun args m =>
  match args, m with
  | [.agg [.row 0 n, .row 1 m]], [⟨.mat .i64 3 (l), 23, .mat⟩, ⟨.ints .i64 (ro), 3, .row⟩] => some (l.length = n ∧ ro.length = m ∧ smallM l ∧ m ≤ 2000000, .tup [.agg [.row 2 (numZ l ro n), .row 3 (numZ l ro n)], .bool (routeB l ro)], [⟨.mat .i64 3 (l), 23, .mat⟩, ⟨.ints .i64 (ro), 3, .row⟩, ⟨.mat .i64 3 (zeroL l ro), 23, .mat⟩, ⟨.ints .i64 (List.replicate (numZ l ro n) 0), 3, .row⟩])
  | _, _ => none
def F_spec_roTo : GSpec := fun args m =>
  match args, m with
  | [.agg [.row 0 n, .row 1 m], .int .i64 x, .row 2 k], [⟨.mat .i64 3 (l), 23, .mat⟩, ⟨.ints .i64 (ro), 3, .row⟩, ⟨.ints .i64 (e), 3, .row⟩] => some (l.length = n ∧ ro.length = m ∧ e.length = k ∧ k ≤ 2000000 ∧ okW l ro x, .tup [.int .i64 (toN l x ro e : Nat), .int .i64 (toA l x ro e)], [⟨.mat .i64 3 (l), 23, .mat⟩, ⟨.dead, 3, .row⟩, ⟨.ints .i64 (e), 3, .row⟩])
  | _, _ => none
def F_impl_walk_goTo : GSpec := fun args m =>
  match args, m with
  | [.ptr 0 0, .row 1 k], [⟨.mixi [.row 2 n, .int .i64 (x)] 10 (q) [], 58, .box⟩, ⟨.ints .i64 (e), 3, .row⟩, ⟨.mat .i64 3 (l), 23, .mat⟩] => some (l.length = n ∧ q.length = 10 ∧ e.length = k ∧ k ≤ 2000000 ∧ okW l q x, .tup [.int .i64 (toN l x q e : Nat), .bool (decide (0 < toN l x q e))], [⟨.dead, 58, .box⟩, ⟨.ints .i64 (e), 3, .row⟩, ⟨.mat .i64 3 (l), 23, .mat⟩])
  | _, _ => none
def F_spec_StepsToNode : FSpec := fun args m =>
  match args, m with
  | [.agg [.row 0 n, .row 1 m], .int .i64 x, .int .i64 goal], [⟨.mat .i64 3 (l), 23, .mat⟩, ⟨.ints .i64 (ro), 3, .row⟩] => some (l.length = n ∧ ro.length = m ∧ smallM l ∧ m ≤ 2000000, .tup [.int .i64 (stN l ro n x goal : Nat), .bool (decide (0 < stN l ro n x goal))])
  | _, _ => none
def F_impl_StepsToNode : FSpec := fun args m =>
  match args, m with
  | [.agg [.row 0 n, .row 1 m], .int .i64 x, .int .i64 goal], [⟨.mat .i64 3 (l), 23, .mat⟩, ⟨.ints .i64 (ro), 3, .row⟩] => some (l.length = n ∧ ro.length = m ∧ smallM l ∧ m ≤ 2000000, .tup [.int .i64 (stN l ro n x goal : Nat), .bool (decide (0 < stN l ro n x goal))])
  | _, _ => none
def F_spec_LinesUsed : GSpec := fun args m =>
  match args, m with
  | [.agg [.row 0 n, .row 1 m], .int .i64 x, .int .i64 steps], [⟨.mat .i64 3 (l), 23, .mat⟩, ⟨.ints .i64 (ro), 3, .row⟩] => some (l.length = n ∧ ro.length = m ∧ smallM l ∧ m ≤ 2000000, .tup [.row 2 (numW l ro n x steps n), .bool (wkOk l ro n x steps)], [⟨.mat .i64 3 (l), 23, .mat⟩, ⟨.ints .i64 (ro), 3, .row⟩, ⟨.mat .i64 3 (usedM l ro n x steps), 23, .mat⟩])
  | _, _ => none
def F_impl_LinesUsed : GSpec := fun args m =>
  match args, m with
  | [.agg [.row 0 n, .row 1 m], .int .i64 x, .int .i64 steps], [⟨.mat .i64 3 (l), 23, .mat⟩, ⟨.ints .i64 (ro), 3, .row⟩] => some (l.length = n ∧ ro.length = m ∧ smallM l ∧ m ≤ 2000000, .tup [.row 2 (numW l ro n x steps n), .bool (wkOk l ro n x steps)], [⟨.mat .i64 3 (l), 23, .mat⟩, ⟨.ints .i64 (ro), 3, .row⟩, ⟨.mat .i64 3 (usedM l ro n x steps), 23, .mat⟩])
  | _, _ => none
end Go.Vi
