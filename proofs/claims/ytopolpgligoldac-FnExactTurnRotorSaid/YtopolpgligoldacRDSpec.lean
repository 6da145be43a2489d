/- Closed forms of the functions of this chapter. -/
import Derived.Test.YtopolpgligoldacRDDefs
namespace Go.Vi
set_option linter.unusedVariables false
def F_spec_roNode : FSpec := fun args m =>
  match args, m with
  | [.agg [.row 0 n, .row 1 m], .int .i64 x], [⟨.mat .i64 3 (l), 23, .mat⟩, ⟨.ints .i64 (ro), 3, .row⟩] => some (l.length = n ∧ ro.length = m ∧ smallM l ∧ m ≤ 2000000, .bool (rtOk l ro n x))
  | _, _ => none
def F_spec_roWalk : FSpec := fun args m =>
  match args, m with
  | [.agg [.row 0 n, .row 1 m], .int .i64 x, .int .i64 steps], [⟨.mat .i64 3 (l), 23, .mat⟩, ⟨.ints .i64 (ro), 3, .row⟩] => some (l.length = n ∧ ro.length = m ∧ smallM l ∧ m ≤ 2000000, .bool (wkOk l ro n x steps))
  | _, _ => none
def F_impl_isWalk : FSpec := fun args m =>
  match args, m with
  | [.int .i64 steps], [] => some (True, .bool (inB steps 0 3000))
  | _, _ => none
def F_spec_roOwn : GSpec := fun args m =>
  match args, m with
  | [.agg [.row 0 n, .row 1 m]], [⟨.mat .i64 3 (l), 23, .mat⟩, ⟨.ints .i64 (ro), 3, .row⟩] => some (l.length = n ∧ ro.length = m ∧ smallM l ∧ m ≤ 2000000 ∧ 0 < m ∧ (∀ r ∈ l, 0 < r.length), .agg [.row 2 n, .row 3 m], [⟨.mat .i64 3 (l), 23, .mat⟩, ⟨.ints .i64 (ro), 3, .row⟩, ⟨.mat .i64 3 (l), 23, .mat⟩, ⟨.ints .i64 (ro), 3, .row⟩])
  | _, _ => none
def F_spec_roStep : GSpec := fun args m =>
  match args, m with
  | [.agg [.row 0 n, .row 1 m], .int .i64 x], [⟨.mat .i64 3 (l), 23, .mat⟩, ⟨.ints .i64 (ro), 3, .row⟩] => some (l.length = n ∧ ro.length = m ∧ okW l ro x, .int .i64 (atNext l x ro), [⟨.mat .i64 3 (l), 23, .mat⟩, ⟨.ints .i64 (roNext l x ro), 3, .row⟩])
  | _, _ => none
def F_impl_walk_goOn : GSpec := fun args m =>
  match args, m with
  | [.ptr 0 0], [⟨.mixi [.row 1 n, .int .i64 (x)] 10 (q) [], 58, .box⟩, ⟨.mat .i64 3 (l), 23, .mat⟩] => some (l.length = n ∧ q.length = 10 ∧ okW l q x, .int .i64 (q.getD x.toNat 0), [⟨.mixi [.row 1 n, .int .i64 (atNext l x q)] 10 (roNext l x q) [], 58, .box⟩, ⟨.mat .i64 3 (l), 23, .mat⟩])
  | _, _ => none
def F_impl_walk_routeNow : GSpec := fun args m =>
  match args, m with
  | [.ptr 0 0], [⟨.mixi [.row 1 n, .int .i64 (x)] 10 (q) [], 58, .box⟩, ⟨.mat .i64 3 (l), 23, .mat⟩] => some (l.length = n ∧ q.length = 10 ∧ okW l q x, .agg [.row 2 n, .row 3 n], [⟨.mixi [.row 1 n, .int .i64 (x)] 10 (q) [], 58, .box⟩, ⟨.mat .i64 3 (l), 23, .mat⟩, ⟨.mat .i64 3 (l), 23, .mat⟩, ⟨.ints .i64 (q.take n), 3, .row⟩])
  | _, _ => none
def F_spec_WalkAfter : GSpec := fun args m =>
  match args, m with
  | [.agg [.row 0 n, .row 1 m], .int .i64 x, .int .i64 steps], [⟨.mat .i64 3 (l), 23, .mat⟩, ⟨.ints .i64 (ro), 3, .row⟩] => some (l.length = n ∧ ro.length = m ∧ smallM l ∧ m ≤ 2000000, .tup [.agg [.row 2 (numW l ro n x steps n), .row 3 (numW l ro n x steps n)], .int .i64 (walkA l ro n x steps), .bool (wkOk l ro n x steps)], [⟨.mat .i64 3 (l), 23, .mat⟩, ⟨.ints .i64 (ro), 3, .row⟩, ⟨.mat .i64 3 (walkL l ro n x steps), 23, .mat⟩, ⟨.ints .i64 (walkR l ro n x steps), 3, .row⟩])
  | _, _ => none
def F_impl_WalkAfter : GSpec := fun args m =>
  match args, m with
  | [.agg [.row 0 n, .row 1 m], .int .i64 x, .int .i64 steps], [⟨.mat .i64 3 (l), 23, .mat⟩, ⟨.ints .i64 (ro), 3, .row⟩] => some (l.length = n ∧ ro.length = m ∧ smallM l ∧ m ≤ 2000000, .tup [.agg [.row 2 (numW l ro n x steps n), .row 3 (numW l ro n x steps n)], .int .i64 (walkA l ro n x steps), .bool (wkOk l ro n x steps)], [⟨.mat .i64 3 (l), 23, .mat⟩, ⟨.ints .i64 (ro), 3, .row⟩, ⟨.mat .i64 3 (walkL l ro n x steps), 23, .mat⟩, ⟨.ints .i64 (walkR l ro n x steps), 3, .row⟩])
  | _, _ => none
def F_spec_StepRoute : GSpec := fun args m =>
  match args, m with
  | [.agg [.row 0 n, .row 1 m], .int .i64 x], [⟨.mat .i64 3 (l), 23, .mat⟩, ⟨.ints .i64 (ro), 3, .row⟩] => some (l.length = n ∧ ro.length = m ∧ smallM l ∧ m ≤ 2000000, .tup [.agg [.row 2 (numW l ro n x 1 n), .row 3 (numW l ro n x 1 n)], .int .i64 (walkA l ro n x 1), .bool (wkOk l ro n x 1)], [⟨.mat .i64 3 (l), 23, .mat⟩, ⟨.ints .i64 (ro), 3, .row⟩, ⟨.mat .i64 3 (walkL l ro n x 1), 23, .mat⟩, ⟨.ints .i64 (walkR l ro n x 1), 3, .row⟩])
  | _, _ => none
def F_impl_StepRoute : GSpec := fun args m =>
  match args, m with
  | [.agg [.row 0 n, .row 1 m], .int .i64 x], [⟨.mat .i64 3 (l), 23, .mat⟩, ⟨.ints .i64 (ro), 3, .row⟩] => some (l.length = n ∧ ro.length = m ∧ smallM l ∧ m ≤ 2000000, .tup [.agg [.row 2 (numW l ro n x 1 n), .row 3 (numW l ro n x 1 n)], .int .i64 (walkA l ro n x 1), .bool (wkOk l ro n x 1)], [⟨.mat .i64 3 (l), 23, .mat⟩, ⟨.ints .i64 (ro), 3, .row⟩, ⟨.mat .i64 3 (walkL l ro n x 1), 23, .mat⟩, ⟨.ints .i64 (walkR l ro n x 1), 3, .row⟩])
  | _, _ => none
def F_spec_roTrack : GSpec := fun args m =>
  match args, m with
  | [.agg [.row 0 n, .row 1 m], .int .i64 x, .int .i64 steps], [⟨.mat .i64 3 (l), 23, .mat⟩, ⟨.ints .i64 (ro), 3, .row⟩] => some (l.length = n ∧ ro.length = m ∧ smallM l ∧ m ≤ 2000000 ∧ wkOk l ro n x steps = true, .row 2 steps.toNat, [⟨.mat .i64 3 (l), 23, .mat⟩, ⟨.ints .i64 (ro), 3, .row⟩, ⟨.ints .i64 (trk l x ro steps.toNat), 3, .row⟩])
  | _, _ => none
def F_spec_TrackOfWalk : GSpec := fun args m =>
  match args, m with
  | [.agg [.row 0 n, .row 1 m], .int .i64 x, .int .i64 steps], [⟨.mat .i64 3 (l), 23, .mat⟩, ⟨.ints .i64 (ro), 3, .row⟩] => some (l.length = n ∧ ro.length = m ∧ smallM l ∧ m ≤ 2000000, .tup [.row 2 (numT l ro n x steps), .bool (tkOk l ro n x steps)], [⟨.mat .i64 3 (l), 23, .mat⟩, ⟨.ints .i64 (ro), 3, .row⟩, ⟨.ints .i64 (trackR l ro n x steps), 3, .row⟩])
  | _, _ => none
def F_impl_TrackOfWalk : GSpec := fun args m =>
  match args, m with
  | [.agg [.row 0 n, .row 1 m], .int .i64 x, .int .i64 steps], [⟨.mat .i64 3 (l), 23, .mat⟩, ⟨.ints .i64 (ro), 3, .row⟩] => some (l.length = n ∧ ro.length = m ∧ smallM l ∧ m ≤ 2000000, .tup [.row 2 (numT l ro n x steps), .bool (tkOk l ro n x steps)], [⟨.mat .i64 3 (l), 23, .mat⟩, ⟨.ints .i64 (ro), 3, .row⟩, ⟨.ints .i64 (trackR l ro n x steps), 3, .row⟩])
  | _, _ => none
def F_spec_VisitsOfWalk : GSpec := fun args m =>
  match args, m with
  | [.agg [.row 0 n, .row 1 m], .int .i64 x, .int .i64 steps], [⟨.mat .i64 3 (l), 23, .mat⟩, ⟨.ints .i64 (ro), 3, .row⟩] => some (l.length = n ∧ ro.length = m ∧ smallM l ∧ m ≤ 2000000, .tup [.row 2 (numW l ro n x steps n), .bool (wkOk l ro n x steps)], [⟨.mat .i64 3 (l), 23, .mat⟩, ⟨.ints .i64 (ro), 3, .row⟩, ⟨.ints .i64 (visitR l ro n x steps), 3, .row⟩])
  | _, _ => none
def F_impl_VisitsOfWalk : GSpec := fun args m =>
  match args, m with
  | [.agg [.row 0 n, .row 1 m], .int .i64 x, .int .i64 steps], [⟨.mat .i64 3 (l), 23, .mat⟩, ⟨.ints .i64 (ro), 3, .row⟩] => some (l.length = n ∧ ro.length = m ∧ smallM l ∧ m ≤ 2000000, .tup [.row 2 (numW l ro n x steps n), .bool (wkOk l ro n x steps)], [⟨.mat .i64 3 (l), 23, .mat⟩, ⟨.ints .i64 (ro), 3, .row⟩, ⟨.ints .i64 (visitR l ro n x steps), 3, .row⟩])
  | _, _ => none
end Go.Vi
