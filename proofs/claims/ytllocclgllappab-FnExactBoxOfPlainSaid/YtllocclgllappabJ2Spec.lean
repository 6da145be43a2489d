/- Closed forms of the functions of this chapter. -/
import Derived.Test.YtllocclgllappabJ2Defs
namespace Go.Vi
set_option linter.unusedVariables false
def F_spec_l1Least : FSpec := fun args m =>
  match args, m with
  | [.int .i64 a, .int .i64 b], [] => some (True, .int .i64 (if a < b then a else b))
  | _, _ => none
def F_spec_l1Most : FSpec := fun args m =>
  match args, m with
  | [.int .i64 a, .int .i64 b], [] => some (True, .int .i64 (if b < a then a else b))
  | _, _ => none
def F_spec_enBox : GSpec := fun args m =>
  match args, m with
  | [.agg [.str pr, .row 0 n, .int .i64 px, .int .i64 py, .int .i64 pd]], [⟨.ints .i64 a, 52, .rows 3⟩] => some (a.length = n * 3 ∧ n ≤ 2000000, .row 1 4, [⟨.ints .i64 a, 52, .rows 3⟩, ⟨.ints .i64 (boxF a px py n), 3, .row⟩])
  | _, _ => none
def F_spec_BoxOfPlain : GSpec := fun args m =>
  match args, m with
  | [.agg [.str pr, .row 0 n, .int .i64 px, .int .i64 py, .int .i64 pd]], [⟨.ints .i64 a, 52, .rows 3⟩] => some (a.length = n * 3 ∧ n ≤ 2000000, .tup [.row 1 (boxP (goodP pr n a px py pd) n a px py).length, .bool (goodP pr n a px py pd)], [⟨.ints .i64 a, 52, .rows 3⟩, ⟨.ints .i64 (boxP (goodP pr n a px py pd) n a px py), 3, .row⟩])
  | _, _ => none
def F_impl_boxOf : GSpec := fun args m =>
  match args, m with
  | [.row 0 n], [⟨.ints .i64 (f), 49, .rows 2⟩] => some (f.length = n * 2 ∧ 1 ≤ n ∧ n ≤ 2000001, .row 1 4, [⟨.ints .i64 (f), 49, .rows 2⟩, ⟨.ints .i64 (bx4 (bxF f n)), 3, .row⟩])
  | _, _ => none
def F_impl_BoxOfPlain : GSpec := fun args m =>
  match args, m with
  | [.agg [.str pr, .row 0 n, .int .i64 px, .int .i64 py, .int .i64 pd]], [⟨.ints .i64 a, 52, .rows 3⟩] => some (a.length = n * 3 ∧ n ≤ 2000000, .tup [.row 1 (boxP (goodP pr n a px py pd) n a px py).length, .bool (goodP pr n a px py pd)], [⟨.ints .i64 a, 52, .rows 3⟩, ⟨.ints .i64 (boxP (goodP pr n a px py pd) n a px py), 3, .row⟩])
  | _, _ => none
def F_laws_eqIntS : FSpec := fun args m =>
  match args, m with
  | [.row 0 n, .row 1 m], [⟨.ints .i64 a, 3, .row⟩, ⟨.ints .i64 b, 3, .row⟩] => some (n = a.length ∧ m = b.length ∧ n ≤ 1000 ∧ m ≤ 1000, .bool (a == b))
  | _, _ => none
def F_laws_markIntS : GSpec := fun args m =>
  match args, m with
  | [.row 0 n, .int .i64 k], [⟨.ints .i64 a, 3, .row⟩] => some (n = a.length ∧ n ≤ 1000 ∧ 0 ≤ k ∧ k ≤ 1000, .int .i64 (k + n), [⟨.ints .i64 (ramp k n), 3, .row⟩])
  | _, _ => none
def F_laws_heldIntS : FSpec := fun args m =>
  match args, m with
  | [.row 0 n, .int .i64 k], [⟨.ints .i64 a, 3, .row⟩] => some (n = a.length ∧ n ≤ 1000 ∧ 0 ≤ k ∧ k ≤ 1000, .int .i64 (bif a == ramp k n then k + n else -1))
  | _, _ => none
end Go.Vi
