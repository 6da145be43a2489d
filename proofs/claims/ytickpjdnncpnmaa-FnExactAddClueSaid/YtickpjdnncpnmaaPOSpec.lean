/- Closed forms of the functions of this chapter. -/
import Derived.Test.YtickpjdnncpnmaaPODefs
namespace Go.Vi
set_option linter.unusedVariables false
def F_spec_AddClue : GSpec := fun args m =>
 match args, m with
 | [.agg [.str pr, .int .i64 pw, .int .i64 ph, .row 0 n], .agg [.int .i64 cx, .int .i64 cy, .int .i64 ck]], [⟨.ints .i64 a, 34, .rows 3⟩] => some (a.length = n * 3 /\ n <= 2000000, .tup [.agg [.str (acR pr pw ph n a cx cy ck), .int .i64 (acW pr pw ph n a cx cy ck), .int .i64 (acH pr pw ph n a cx cy ck), .row 1 (acN pr pw ph n a cx cy ck)], .bool (acG pr pw ph n a cx cy ck)], [⟨.ints .i64 a, 34, .rows 3⟩, ⟨.ints .i64 (acB pr pw ph n a cx cy ck), 34, .rows 3⟩])
 | _, _ => none
def F_impl_AddClue : GSpec := fun args m =>
 match args, m with
 | [.agg [.str pr, .int .i64 pw, .int .i64 ph, .row 0 n], .agg [.int .i64 cx, .int .i64 cy, .int .i64 ck]], [⟨.ints .i64 a, 34, .rows 3⟩] => some (a.length = n * 3 /\ n <= 2000000, .tup [.agg [.str (acR pr pw ph n a cx cy ck), .int .i64 (acW pr pw ph n a cx cy ck), .int .i64 (acH pr pw ph n a cx cy ck), .row 1 (acN pr pw ph n a cx cy ck)], .bool (acG pr pw ph n a cx cy ck)], [⟨.ints .i64 a, 34, .rows 3⟩, ⟨.ints .i64 (acB pr pw ph n a cx cy ck), 34, .rows 3⟩])
 | _, _ => none
end Go.Vi
