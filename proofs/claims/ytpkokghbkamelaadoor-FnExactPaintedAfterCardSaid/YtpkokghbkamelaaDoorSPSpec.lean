/- Closed forms of the functions of this chapter. -/
import Derived.Test.YtpkokghbkamelaaDoorSPDefs
namespace Go.Vi
set_option linter.unusedVariables false
def F_strings_Count : FSpec := fun args m =>
 match args, m with
 | [.str s, .str q], [] => some (q.length = 1, .int .i64 (cntC (q.getD 0 0) s))
 | _, _ => none
def F_spec_PaintedAfter : FSpec := fun args m =>
 match args, m with
 | [.agg [.int .i64 s, .int .i64 i, .row 0 n, .int .i64 w, .int .i64 h, .str u, .int .i64 x, .int .i64 y, .int .i64 d, .int .i64 q], .int .i64 m], [⟨.recs [.int .i64, .str, .int .i64] c, 96, .rows 3⟩] => some (is3 c n /\ n <= 2000000, .tup [.int .i64 (paN (aftX (sceneB s i (rows3 c) w h u x y d q && inB m 0 3000) i (rows3 c) m.toNat ⟨w, h, u, x, y, d, q⟩).u), .bool (sceneB s i (rows3 c) w h u x y d q && inB m 0 3000)])
 | _, _ => none
def F_impl_PaintedAfter : FSpec := fun args m =>
 match args, m with
 | [.agg [.int .i64 s, .int .i64 i, .row 0 n, .int .i64 w, .int .i64 h, .str u, .int .i64 x, .int .i64 y, .int .i64 d, .int .i64 q], .int .i64 m], [⟨.recs [.int .i64, .str, .int .i64] c, 96, .rows 3⟩, ⟨.vals [.str g0, .str g1, .str g2, .str g3], 9, .gl 0⟩] => some (is3 c n /\ n <= 2000000 /\ isSg g0 g1 g2 g3, .tup [.int .i64 (paN (aftX (sceneB s i (rows3 c) w h u x y d q && inB m 0 3000) i (rows3 c) m.toNat ⟨w, h, u, x, y, d, q⟩).u), .bool (sceneB s i (rows3 c) w h u x y d q && inB m 0 3000)])
 | _, _ => none
end Go.Vi
