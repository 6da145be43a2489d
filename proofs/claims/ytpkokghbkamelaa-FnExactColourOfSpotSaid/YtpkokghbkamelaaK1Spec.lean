/- Closed forms of the functions of this chapter. -/
import Derived.Test.YtpkokghbkamelaaK1Defs
namespace Go.Vi
set_option linter.unusedVariables false
def F_impl_isNearPlace : FSpec := fun args m =>
 match args, m with
 | [.int .i64 x, .int .i64 y], [] => some (True, .bool (farB x && farB y))
 | _, _ => none
def F_impl_endlessOf : GSpec := fun args m =>
 match args, m with
 | [.agg [.str pr, .row 0 n, .int .i64 px, .int .i64 py, .int .i64 pd]], [⟨.ints .i64 a, 63, .rows 3⟩] => some (a.length = n * 3 /\ n <= 2000000, .ptr 1 0, [⟨.ints .i64 a, 63, .rows 3⟩, ⟨.vals [.str pr, .mp 2, .int .i64 px, .int .i64 py, .int .i64 pd], 50, .box⟩, ⟨.map (mapOf a n), 44, .map⟩])
 | _, _ => none
def F_spec_enAt : FSpec := fun args m =>
 match args, m with
 | [.row 0 n, .int .i64 x, .int .i64 y], [⟨.ints .i64 a, 63, .rows 3⟩] => some (a.length = n * 3 /\ n <= 2000000 /\ srtd a n, .tup [.int .i64 (lowF a n x y), .bool (isF a n x y)])
 | _, _ => none
def F_spec_enColour : FSpec := fun args m =>
 match args, m with
 | [.agg [.str pr, .row 0 n, .int .i64 px, .int .i64 py, .int .i64 pd], .int .i64 x, .int .i64 y], [⟨.ints .i64 a, 63, .rows 3⟩] => some (a.length = n * 3 /\ n <= 2000000 /\ srtd a n, .int .i64 (bif isF a n x y then spK a (lowF a n x y).toNat else 0))
 | _, _ => none
def F_spec_enCell : FSpec := fun args m =>
 match args, m with
 | [.agg [.str pr, .row 0 n, .int .i64 px, .int .i64 py, .int .i64 pd], .int .i64 x, .int .i64 y], [⟨.ints .i64 a, 63, .rows 3⟩] => some (a.length = n * 3 /\ n <= 2000000, .bool (goodP pr n a px py pd && (farB x && farB y)))
 | _, _ => none
def F_spec_ColourOfSpot : FSpec := fun args m =>
 match args, m with
 | [.agg [.str pr, .row 0 n, .int .i64 px, .int .i64 py, .int .i64 pd], .int .i64 x, .int .i64 y], [⟨.ints .i64 a, 63, .rows 3⟩] => some (a.length = n * 3 /\ n <= 2000000, .tup [.int .i64 (colP (goodP pr n a px py pd && (farB x && farB y)) a n x y), .bool (goodP pr n a px py pd && (farB x && farB y))])
 | _, _ => none
def F_impl_ColourOfSpot : FSpec := fun args m =>
 match args, m with
 | [.agg [.str pr, .row 0 n, .int .i64 px, .int .i64 py, .int .i64 pd], .int .i64 x, .int .i64 y], [⟨.ints .i64 a, 63, .rows 3⟩] => some (a.length = n * 3 /\ n <= 2000000, .tup [.int .i64 (colP (goodP pr n a px py pd && (farB x && farB y)) a n x y), .bool (goodP pr n a px py pd && (farB x && farB y))])
 | _, _ => none
end Go.Vi
