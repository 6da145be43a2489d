/- Closed forms of the functions of this chapter. -/
import Derived.Test.YtpkokghbkamelaaDoorTZDefs
namespace Go.Vi
set_option linter.unusedVariables false
def F_laws_eqScene : FSpec := fun args m =>
 match args, m with
 | [.agg [.int .i64 s, .int .i64 i, .row 0 n, .int .i64 w, .int .i64 h, .str u, .int .i64 x, .int .i64 y, .int .i64 d, .int .i64 q], .agg [.int .i64 s_, .int .i64 i_, .row 1 n_, .int .i64 w_, .int .i64 h_, .str u_, .int .i64 x_, .int .i64 y_, .int .i64 d_, .int .i64 q_]], [⟨.recs [.int .i64, .str, .int .i64] c, 96, .rows 3⟩, ⟨.recs [.int .i64, .str, .int .i64] c_, 96, .rows 3⟩] => some (is3 c n /\ is3 c_ n_ /\ n <= 2000000 /\ n_ <= 2000000, .bool (s == s_ && i == i_ && rows3 c == rows3 c_ && w == w_ && h == h_ && u == u_ && x == x_ && y == y_ && d == d_ && q == q_))
 | _, _ => none
def F_laws_markScene : GSpec := fun args m =>
 match args, m with
 | [.agg [.int .i64 s, .int .i64 i, .row 0 n, .int .i64 w, .int .i64 h, .str u, .int .i64 x, .int .i64 y, .int .i64 d, .int .i64 q], .int .i64 k], [⟨.recs [.int .i64, .str, .int .i64] c, 96, .rows 3⟩] => some (is3 c n /\ n <= 2000000 /\ 0 <= k /\ k <= 1000000, .int .i64 (k + (3 * n : Nat)), [⟨.recs [.int .i64, .str, .int .i64] (flat3 (mkR k n)), 96, .rows 3⟩])
 | _, _ => none
def F_laws_heldScene : FSpec := fun args m =>
 match args, m with
 | [.agg [.int .i64 s, .int .i64 i, .row 0 n, .int .i64 w, .int .i64 h, .str u, .int .i64 x, .int .i64 y, .int .i64 d, .int .i64 q], .int .i64 k], [⟨.recs [.int .i64, .str, .int .i64] c, 96, .rows 3⟩] => some (is3 c n /\ n <= 2000000 /\ 0 <= k /\ k <= 1000000, .int .i64 (bif decide (rows3 c = mkR k n) then k + (3 * n : Nat) else -1))
 | _, _ => none
def F_impl_isSize : FSpec := fun args m =>
 match args, m with
 | [.int .i64 a, .int .i64 b], [] => some (True, .bool (inB a 1 9 && inB b 1 9))
 | _, _ => none
end Go.Vi
