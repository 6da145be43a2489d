/- Closed forms of the functions of this chapter. -/
import Derived.Test.YtickpjdnncpnmaaDoorPDDefs
namespace Go.Vi
set_option linter.unusedVariables false
def F_impl_greatestOf : FSpec := fun args m =>
 match args, m with
 | [.int .i64 k, .int .i64 cols, .int .i64 cells], [] => some (0 <= cols /\ cols <= 1000 /\ 0 <= cells /\ cells <= 1000, .tup [.int .i64 (gA k cells), .int .i64 (gB k cols cells)])
 | _, _ => none
end Go.Vi
