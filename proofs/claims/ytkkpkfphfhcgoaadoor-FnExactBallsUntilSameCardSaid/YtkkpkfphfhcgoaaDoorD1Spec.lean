/- Closed forms of the functions of this chapter. -/
import Derived.Test.YtkkpkfphfhcgoaaDoorD1Defs
namespace Go.Vi
set_option linter.unusedVariables false
def F_spec_BallsUntilSame : FSpec := fun args m =>
  match args, m with
  | [.agg [.int .i64 mw, .int .i64 mh, .str mc, .bool mu], .int .i64 k], [] => some (True, .tup [.int .i64 (bsN mw mh mc mu k), .bool (bsB mw mh mc mu k)])
  | _, _ => none
def F_impl_BallsUntilSame : FSpec := fun args m =>
  match args, m with
  | [.agg [.int .i64 mw, .int .i64 mh, .str mc, .bool mu], .int .i64 k], [] => some (True, .tup [.int .i64 (bsN mw mh mc mu k), .bool (bsB mw mh mc mu k)])
  | _, _ => none
end Go.Vi
