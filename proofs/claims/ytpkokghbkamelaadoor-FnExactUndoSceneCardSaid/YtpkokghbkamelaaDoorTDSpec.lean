/- Closed forms of the functions of this chapter. -/
import Derived.Test.YtpkokghbkamelaaDoorTDDefs
namespace Go.Vi
set_option linter.unusedVariables false
def F_spec_taUndo : FSpec := fun args m =>
 match args, m with
 | [.agg [.int .i64 s, .int .i64 i, .row 0 n]], [⟨.recs [.int .i64, .str, .int .i64] c, 96, .rows 3⟩] => some (is3 c n /\ n <= 2000000, .bool (undoB (rows3 c)))
 | _, _ => none
def F_impl_outcomeOf : FSpec := fun args m =>
 match args, m with
 | [.agg [.int .i64 ra, .str rt, .int .i64 rb]], [] => some (True, .agg [.int .i64 ra, .int .i64 rb])
 | _, _ => none
def F_impl_outcome : FSpec := fun args m =>
 match args, m with
 | [.row 0 n, .fn 112 [], .agg [.int .i64 p, .int .i64 q]], [⟨.recs [.int .i64, .str, .int .i64] c, 96, .rows 3⟩] => some (is3 c n /\ n <= 2000000, .int .i64 (fwF (rows3 c) p q 0))
 | _, _ => none
def F_impl_CanUndo : FSpec := fun args m =>
 match args, m with
 | [.agg [.int .i64 s, .int .i64 i, .row 0 n]], [⟨.recs [.int .i64, .str, .int .i64] c, 96, .rows 3⟩, ⟨.vals [.str g0, .str g1, .str g2, .str g3], 9, .gl 0⟩] => some (is3 c n /\ n <= 2000000 /\ isSg g0 g1 g2 g3, .tup [.bool (tabB s i (rows3 c) && undoB (rows3 c)), .bool (tabB s i (rows3 c))])
 | _, _ => none
end Go.Vi
