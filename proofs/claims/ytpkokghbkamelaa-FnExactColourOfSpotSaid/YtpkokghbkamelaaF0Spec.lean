/- Closed forms of the functions of this chapter. -/
import Derived.Test.YtpkokghbkamelaaF0Defs
namespace Go.Vi
set_option linter.unusedVariables false
def F_laws_eqSpot : FSpec := fun args m =>
 match args, m with
 | [.agg [.int .i64 ax, .int .i64 ay, .int .i64 ak], .agg [.int .i64 bx, .int .i64 by_, .int .i64 bk]], [] => some (True, .bool (ax == bx && ay == by_ && ak == bk))
 | _, _ => none
def F_laws_eqSpotS : FSpec := fun args m =>
 match args, m with
 | [.row 0 n, .row 1 m], [⟨.ints .i64 a, 63, .rows 3⟩, ⟨.ints .i64 b, 63, .rows 3⟩] => some (a.length = 3 * n /\ b.length = 3 * m /\ n <= 2000000 /\ m <= 2000000, .bool (a == b))
 | _, _ => none
def F_laws_eqPlain : FSpec := fun args m =>
 match args, m with
 | [.agg [.str ar, .row 0 an, .int .i64 ax, .int .i64 ay, .int .i64 ad], .agg [.str cr, .row 1 cn, .int .i64 cx, .int .i64 cy, .int .i64 cd]], [⟨.ints .i64 a, 63, .rows 3⟩, ⟨.ints .i64 b, 63, .rows 3⟩] => some (a.length = 3 * an /\ b.length = 3 * cn /\ an <= 2000000 /\ cn <= 2000000, .bool (ar == cr && a == b && ax == cx && ay == cy && ad == cd))
 | _, _ => none
def F_laws_markSpotS : GSpec := fun args m =>
 match args, m with
 | [.row 0 n, .int .i64 k], [⟨.ints .i64 a, 63, .rows 3⟩] => some (a.length = 3 * n /\ n <= 2000000 /\ 0 <= k /\ k <= 1000, .int .i64 (k + (3 * n : Nat)), [⟨.ints .i64 (ramp k (3 * n)), 63, .rows 3⟩])
 | _, _ => none
def F_laws_heldSpotS : FSpec := fun args m =>
 match args, m with
 | [.row 0 n, .int .i64 k], [⟨.ints .i64 a, 63, .rows 3⟩] => some (a.length = 3 * n /\ n <= 2000000 /\ 0 <= k /\ k <= 1000, .int .i64 (bif a == ramp k (3 * n) then k + (3 * n : Nat) else -1))
 | _, _ => none
end Go.Vi
