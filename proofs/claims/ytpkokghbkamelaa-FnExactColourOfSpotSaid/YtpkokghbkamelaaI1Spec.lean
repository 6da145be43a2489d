/- Closed forms of the functions of this chapter. -/
import Derived.Test.YtpkokghbkamelaaI1Defs
namespace Go.Vi
set_option linter.unusedVariables false
def F_laws_szSpotS : FSpec := fun args m =>
 match args, m with
 | [.row 0 n, .int .i64 left], [⟨.ints .i64 a, 65, .arg 3⟩] => some (0 <= left /\ left <= 1000000000 /\ (n : Int) <= 9223372036854775807, .int .i64 (szS n left))
 | _, _ => none
def F_laws_szPlain : FSpec := fun args m =>
 match args, m with
 | [.agg [.str pr, .row 0 n, .int .i64 px, .int .i64 py, .int .i64 pd], .int .i64 left], [⟨.ints .i64 a, 65, .arg 3⟩] => some (0 <= left /\ left <= 1000000000 /\ (n : Int) <= 9223372036854775807 /\ (pr.length : Int) <= 9223372036854775807, .int .i64 (szP pr n left))
 | _, _ => none
def F_laws_toSpot : FSpec := fun args m =>
 match args, m with
 | [.agg [.int .i64 ax, .int .i64 ay, .int .i64 ak]], [] => some (True, .agg [.int .i64 ax, .int .i64 ay, .int .i64 ak])
 | _, _ => none
def F_laws_toSpotS : GSpec := fun args m =>
 match args, m with
 | [.row 0 n], [⟨.ints .i64 a, 65, .arg 3⟩] => some (a.length = n * 3 /\ n <= 2000000, .row 1 n, [⟨.ints .i64 a, 65, .arg 3⟩, ⟨.ints .i64 a, 63, .rows 3⟩])
 | _, _ => none
def F_laws_toPlain : GSpec := fun args m =>
 match args, m with
 | [.agg [.str pr, .row 0 n, .int .i64 px, .int .i64 py, .int .i64 pd]], [⟨.ints .i64 a, 65, .arg 3⟩] => some (a.length = n * 3 /\ n <= 2000000, .agg [.str pr, .row 1 n, .int .i64 px, .int .i64 py, .int .i64 pd], [⟨.ints .i64 a, 65, .arg 3⟩, ⟨.ints .i64 a, 63, .rows 3⟩])
 | _, _ => none
def F_spec_enFar : FSpec := fun args m =>
 match args, m with
 | [.int .i64 n], [] => some (True, .bool (inB n (-1000) 1000))
 | _, _ => none
def F_spec_enLess : FSpec := fun args m =>
 match args, m with
 | [.agg [.int .i64 ax, .int .i64 ay, .int .i64 ak], .agg [.int .i64 bx, .int .i64 by_, .int .i64 bk]], [] => some (True, .bool (lessS ax ay bx by_))
 | _, _ => none
def F_cmp_Compare_int : FSpec := fun args m =>
 match args, m with
 | [.int .i64 a, .int .i64 b], [] => some (True, .int .i64 (cmp3 a b))
 | _, _ => none
def F_cmp_Or_int : FSpec := fun args m =>
 match args, m with
 | [.row 0 n], [⟨.ints .i64 a, 3, .row⟩] => some (n = a.length /\ n <= 100, .int .i64 (orF a))
 | _, _ => none
def F_impl_compareSpots : FSpec := fun args m =>
 match args, m with
 | [.agg [.int .i64 ax, .int .i64 ay, .int .i64 ak], .agg [.int .i64 bx, .int .i64 by_, .int .i64 bk]], [] => some (True, .int .i64 (cmpS ax ay bx by_))
 | _, _ => none
def F_spec_enGood : FSpec := fun args m =>
 match args, m with
 | [.agg [.str pr, .row 0 n, .int .i64 px, .int .i64 py, .int .i64 pd]], [⟨.ints .i64 a, 63, .rows 3⟩] => some (a.length = n * 3 /\ n <= 2000000, .bool (goodP pr n a px py pd))
 | _, _ => none
def F_impl_IsPlain : FSpec := fun args m =>
 match args, m with
 | [.agg [.str pr, .row 0 n, .int .i64 px, .int .i64 py, .int .i64 pd]], [⟨.ints .i64 a, 63, .rows 3⟩] => some (a.length = n * 3 /\ n <= 2000000, .bool (goodP pr n a px py pd))
 | _, _ => none
end Go.Vi
