/- Closed forms of the functions of this chapter. -/
import Derived.Test.YtopolpgligoldaaDoorTBDefs
namespace Go.Vi
set_option linter.unusedVariables false
def F_spec_RowOf : FSpec := fun args m =>
  match args, m with
  | [.agg [.int .i64 s, .int .i64 i, .row 0 n], .int .i64 p, .int .i64 q], [⟨.recs [.int .i64, .str, .int .i64] c, 43, .rows 3⟩] => some (is3 c n ∧ n ≤ 2000000, .tup [.agg [.int .i64 (rofF s i (rows3 c) p q).a, .str (rofF s i (rows3 c) p q).t, .int .i64 (rofF s i (rows3 c) p q).b], .bool (rofB s i (rows3 c) p q)])
  | _, _ => none
def F_impl_RowOf : FSpec := fun args m =>
  match args, m with
  | [.agg [.int .i64 s, .int .i64 i, .row 0 n], .int .i64 p, .int .i64 q], [⟨.recs [.int .i64, .str, .int .i64] c, 43, .rows 3⟩, ⟨.vals [.str g0, .str g1, .str g2, .str g3], 9, .gl 0⟩] => some (is3 c n ∧ n ≤ 2000000 ∧ isSg g0 g1 g2 g3, .tup [.agg [.int .i64 (rofF s i (rows3 c) p q).a, .str (rofF s i (rows3 c) p q).t, .int .i64 (rofF s i (rows3 c) p q).b], .bool (rofB s i (rows3 c) p q)])
  | _, _ => none
end Go.Vi
