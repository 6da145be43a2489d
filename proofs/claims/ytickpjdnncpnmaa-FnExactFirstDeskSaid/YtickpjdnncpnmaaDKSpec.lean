/- Closed forms of the functions of this chapter. -/
import Derived.Test.YtickpjdnncpnmaaDKDefs
namespace Go.Vi
set_option linter.unusedVariables false
def F_impl_isSign : FSpec := fun args m =>
 match args, m with
 | [.int .u8 b], [] => some (True, .bool (signI b))
 | _, _ => none
def F_spec_tuGood : FSpec := fun args m =>
 match args, m with
 | [.str s], [] => some ((s.length : Int) <= 9223372036854775807, .bool (progB s))
 | _, _ => none
def F_impl_partsOf : GSpec := fun args m =>
 match args, m with
 | [.str s], [] => some ((s.length : Int) <= 9223372036854775807, .tup [.row 0 (partsN s), .bool (progB s)], [⟨.recs [.int .i64, .int .u8] (partsC s), 84, .rows 2⟩])
 | _, _ => none
def F_impl_IsProgram : FSpec := fun args m =>
 match args, m with
 | [.str s], [] => some ((s.length : Int) <= 9223372036854775807, .bool (progB s))
 | _, _ => none
def F_spec_IsDesk : FSpec := fun args m =>
 match args, m with
 | [.agg [.str dwRule, .int .i64 dwWidth, .int .i64 dwHeight, .str dwCells, .int .i64 dwX, .int .i64 dwY, .int .i64 dwWay, .str dkRule, .int .i64 dkWidth, .int .i64 dkHeight, .str dkCells, .int .i64 dkX, .int .i64 dkY, .int .i64 dkWay, .str dProgram]], [] => some ((dProgram.length : Int) <= 9223372036854775807, .bool (goodB ⟨dwRule, dwWidth, dwHeight, dwCells, dwX, dwY, dwWay⟩ && goodB ⟨dkRule, dkWidth, dkHeight, dkCells, dkX, dkY, dkWay⟩ && progB dProgram))
 | _, _ => none
def F_impl_IsDesk : FSpec := fun args m =>
 match args, m with
 | [.agg [.str dwRule, .int .i64 dwWidth, .int .i64 dwHeight, .str dwCells, .int .i64 dwX, .int .i64 dwY, .int .i64 dwWay, .str dkRule, .int .i64 dkWidth, .int .i64 dkHeight, .str dkCells, .int .i64 dkX, .int .i64 dkY, .int .i64 dkWay, .str dProgram]], [] => some ((dProgram.length : Int) <= 9223372036854775807, .bool (goodB ⟨dwRule, dwWidth, dwHeight, dwCells, dwX, dwY, dwWay⟩ && goodB ⟨dkRule, dkWidth, dkHeight, dkCells, dkX, dkY, dkWay⟩ && progB dProgram))
 | _, _ => none
end Go.Vi
