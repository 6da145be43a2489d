/- Closed forms of the functions of this chapter. -/
import Derived.Test.YtpkokghbkamelaaDoorSCDefs
namespace Go.Vi
set_option linter.unusedVariables false
def F_impl_digit : FSpec := fun args m =>
 match args, m with
 | [.int .u8 b], [] => some (0 <= b /\ b < 256, .int .i64 (b - 48))
 | _, _ => none
def F_impl_isWay : FSpec := fun args m =>
 match args, m with
 | [.int .i64 a], [] => some (True, .bool (inB a 0 3))
 | _, _ => none
def F_impl_hasCell : FSpec := fun args m =>
 match args, m with
 | [.agg [.str wr, .int .i64 ww, .int .i64 wh, .str wc, .int .i64 wx, .int .i64 wy, .int .i64 wd], .int .i64 x, .int .i64 y], [] => some (inB ww 1 9 = true /\ inB wh 1 9 = true, .bool (inB x 0 (ww - 1) && inB y 0 (wh - 1)))
 | _, _ => none
def F_impl_areColours : FSpec := fun args m =>
 match args, m with
 | [.str s, .int .i64 k], [] => some (-1000 <= k /\ k <= 1000 /\ s.length <= 1000, .bool (colsB s k))
 | _, _ => none
def F_laws_szScene : FSpec := fun args m =>
 match args, m with
 | [.agg [.int .i64 s, .int .i64 i, .row 0 n, .int .i64 w, .int .i64 h, .str u, .int .i64 x, .int .i64 y, .int .i64 d, .int .i64 q], .int .i64 left], [⟨.recs [.int .i64, .str, .int .i64] c, 139, .arg 3⟩] => some ((0 <= left /\ left <= 1048576) /\ ((n : Int) <= 9223372036854775807 /\ is3 c n /\ ∀ r ∈ rows3 c, (r.t.length : Int) <= 9223372036854775807) /\ (u.length : Int) <= 9223372036854775807, .int .i64 (szS (rows3 c) u left))
 | _, _ => none
def F_laws_toScene : GSpec := fun args m =>
 match args, m with
 | [.agg [.int .i64 s, .int .i64 i, .row 0 n, .int .i64 w, .int .i64 h, .str u, .int .i64 x, .int .i64 y, .int .i64 d, .int .i64 q]], [⟨.recs [.int .i64, .str, .int .i64] c, 139, .arg 3⟩] => some (is3 c n /\ n <= 2000000, .agg [.int .i64 s, .int .i64 i, .row 1 n, .int .i64 w, .int .i64 h, .str u, .int .i64 x, .int .i64 y, .int .i64 d, .int .i64 q], [⟨.recs [.int .i64, .str, .int .i64] c, 139, .arg 3⟩, ⟨.recs [.int .i64, .str, .int .i64] c, 96, .rows 3⟩])
 | _, _ => none
def F_spec_taScene : FSpec := fun args m =>
 match args, m with
 | [.agg [.int .i64 s, .int .i64 i, .row 0 n, .int .i64 w, .int .i64 h, .str u, .int .i64 x, .int .i64 y, .int .i64 d, .int .i64 q]], [⟨.recs [.int .i64, .str, .int .i64] c, 96, .rows 3⟩] => some (is3 c n /\ n <= 2000000, .bool (sceneB s i (rows3 c) w h u x y d q))
 | _, _ => none
def F_spec_IsScene : FSpec := fun args m =>
 match args, m with
 | [.agg [.int .i64 s, .int .i64 i, .row 0 n, .int .i64 w, .int .i64 h, .str u, .int .i64 x, .int .i64 y, .int .i64 d, .int .i64 q]], [⟨.recs [.int .i64, .str, .int .i64] c, 96, .rows 3⟩] => some (is3 c n /\ n <= 2000000, .bool (sceneB s i (rows3 c) w h u x y d q))
 | _, _ => none
def F_impl_actorOf : FSpec := fun args m =>
 match args, m with
 | [.agg [.int .i64 s, .int .i64 i, .row 0 n, .int .i64 w, .int .i64 h, .str u, .int .i64 x, .int .i64 y, .int .i64 d, .int .i64 q]], [⟨.recs [.int .i64, .str, .int .i64] c, 96, .rows 3⟩] => some (is3 c n /\ n <= 2000000, .agg [.str [], .int .i64 w, .int .i64 h, .str u, .int .i64 x, .int .i64 y, .int .i64 d, .int .i64 q])
 | _, _ => none
def F_impl_IsScene : FSpec := fun args m =>
 match args, m with
 | [.agg [.int .i64 s, .int .i64 i, .row 0 n, .int .i64 w, .int .i64 h, .str u, .int .i64 x, .int .i64 y, .int .i64 d, .int .i64 q]], [⟨.recs [.int .i64, .str, .int .i64] c, 96, .rows 3⟩, ⟨.vals [.str g0, .str g1, .str g2, .str g3], 9, .gl 0⟩] => some (is3 c n /\ n <= 2000000 /\ isSg g0 g1 g2 g3, .bool (sceneB s i (rows3 c) w h u x y d q))
 | _, _ => none
end Go.Vi
