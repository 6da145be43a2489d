/- Closed forms of the functions of this chapter. -/
import Derived.Test.YtllocclgllappaaTVDefs
namespace Go.Vi
set_option linter.unusedVariables false
def F_spec_tuFew : FSpec := fun args m =>
  match args, m with
  | [.str s, .int .i64 k], [] => some ((s.length : Int) ≤ 9223372036854775807, .bool (fewB s k))
  | _, _ => none
def F_impl_turtle_point : FSpec := fun args m =>
  match args, m with
  | [.agg [.int .i64 x, .int .i64 y, .int .i64 w]], [] => some (True, .agg [.int .i64 x, .int .i64 y])
  | _, _ => none
def F_spec_tuCorners : GSpec := fun args m =>
  match args, m with
  | [.str s, .int .i64 k], [] => some (fewB s k = true, .row 0 (repN s k + 1), [⟨.mat .i64 3 (cnM (repS s k) (repN s k + 1)), 34, .mat⟩])
  | _, _ => none
def F_spec_CornersAfter : GSpec := fun args m =>
  match args, m with
  | [.str s, .int .i64 k], [] => some ((s.length : Int) ≤ 9223372036854775807, .tup [.row 0 (cnN s k), .bool (fewB s k)], [⟨.mat .i64 3 (cnR s k), 34, .mat⟩])
  | _, _ => none
def F_impl_cornersOf : GSpec := fun args m =>
  match args, m with
  | [.str s, .int .i64 k], [] => some ((s.length : Int) ≤ 9223372036854775807, .tup [.row 0 (cnN s k), .bool (fewB s k)], [⟨.ints .i64 (cfR s k), 65, .rows 2⟩])
  | _, _ => none
def F_impl_CornersAfter : GSpec := fun args m =>
  match args, m with
  | [.str s, .int .i64 k], [] => some ((s.length : Int) ≤ 9223372036854775807, .tup [.row 0 (cnN s k), .bool (fewB s k)], [⟨.mat .i64 3 (cnR s k), 34, .mat⟩])
  | _, _ => none
def F_spec_l1Least : FSpec := fun args m =>
  match args, m with
  | [.int .i64 a, .int .i64 b], [] => some (True, .int .i64 (leI a b))
  | _, _ => none
def F_spec_l1Most : FSpec := fun args m =>
  match args, m with
  | [.int .i64 a, .int .i64 b], [] => some (True, .int .i64 (moI a b))
  | _, _ => none
def F_spec_tuBox : GSpec := fun args m =>
  match args, m with
  | [.row 0 n], [⟨.mat .i64 3 (l), 34, .mat⟩] => some (l.length = n ∧ 1 ≤ n ∧ n ≤ 1000 ∧ twoM l, .row 1 4, [⟨.mat .i64 3 (l), 34, .mat⟩, ⟨.ints .i64 (bx4 (bxM l n)), 3, .row⟩])
  | _, _ => none
def F_impl_boxOf : GSpec := fun args m =>
  match args, m with
  | [.row 0 n], [⟨.ints .i64 (f), 65, .rows 2⟩] => some (f.length = n * 2 ∧ 1 ≤ n ∧ n ≤ 1000, .row 1 4, [⟨.ints .i64 (f), 65, .rows 2⟩, ⟨.ints .i64 (bx4 (bxF f n)), 3, .row⟩])
  | _, _ => none
def F_spec_BoxAfter : GSpec := fun args m =>
  match args, m with
  | [.str s, .int .i64 k], [] => some ((s.length : Int) ≤ 9223372036854775807, .tup [.row 0 (bxN s k), .bool (fewB s k)], [⟨.ints .i64 (bxR s k), 3, .row⟩])
  | _, _ => none
def F_impl_BoxAfter : GSpec := fun args m =>
  match args, m with
  | [.str s, .int .i64 k], [] => some ((s.length : Int) ≤ 9223372036854775807, .tup [.row 0 (bxN s k), .bool (fewB s k)], [⟨.ints .i64 (bxR s k), 3, .row⟩])
  | _, _ => none
def F_spec_TwiceArea : FSpec := fun args m =>
  match args, m with
  | [.str s], [] => some ((s.length : Int) ≤ 9223372036854775807, .tup [.int .i64 (arF s), .bool (clB s)])
  | _, _ => none
def F_impl_TwiceArea : FSpec := fun args m =>
  match args, m with
  | [.str s], [] => some ((s.length : Int) ≤ 9223372036854775807, .tup [.int .i64 (arF s), .bool (clB s)])
  | _, _ => none
def F_strings_Contains : FSpec := fun args m =>
  match args, m with
  | [.str s, .str t], [] => some (t = [85], .bool (hasU s))
  | _, _ => none
def F_spec_WindingOf : FSpec := fun args m =>
  match args, m with
  | [.str s], [] => some ((s.length : Int) ≤ 9223372036854775807, .tup [.int .i64 (wiF s), .bool (wiB s)])
  | _, _ => none
def F_impl_WindingOf : FSpec := fun args m =>
  match args, m with
  | [.str s], [] => some ((s.length : Int) ≤ 9223372036854775807, .tup [.int .i64 (wiF s), .bool (wiB s)])
  | _, _ => none
end Go.Vi
