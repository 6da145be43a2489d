/- Closed forms of the functions of this chapter. -/
import Derived.Test.YtpkokghbkamelaaDoorTYDefs
namespace Go.Vi
set_option linter.unusedVariables false
def F_spec_l1Num : FSpec := fun args m =>
 match args, m with
 | [.int .i64 n], [] => some (0 <= n /\ n <= 9, .str (num1 n))
 | _, _ => none
def F_strconv_FormatInt : FSpec := fun args m =>
 match args, m with
 | [.int .i64 n, .int .i64 b], [] => some (b = 10 /\ 0 <= n /\ n <= 9, .str (num1 n))
 | _, _ => none
def F_strconv_Itoa : FSpec := fun args m =>
 match args, m with
 | [.int .i64 n], [] => some (0 <= n /\ n <= 9, .str (num1 n))
 | _, _ => none
def F_spec_taText : FSpec := fun args m =>
 match args, m with
 | [.agg [.int .i64 s, .int .i64 i, .row 0 n]], [⟨.recs [.int .i64, .str, .int .i64] c, 96, .rows 3⟩] => some (is3 c n /\ n <= 2000000 /\ tabB s i (rows3 c) = true, .str (txT s i (rows3 c)))
 | _, _ => none
def F_spec_TableText : FSpec := fun args m =>
 match args, m with
 | [.agg [.int .i64 s, .int .i64 i, .row 0 n]], [⟨.recs [.int .i64, .str, .int .i64] c, 96, .rows 3⟩] => some (is3 c n /\ n <= 2000000, .tup [.str (bif tabB s i (rows3 c) then txT s i (rows3 c) else []), .bool (tabB s i (rows3 c))])
 | _, _ => none
def F_impl_TableText : FSpec := fun args m =>
 match args, m with
 | [.agg [.int .i64 s, .int .i64 i, .row 0 n]], [⟨.recs [.int .i64, .str, .int .i64] c, 96, .rows 3⟩, ⟨.vals [.str g0, .str g1, .str g2, .str g3], 9, .gl 0⟩] => some (is3 c n /\ n <= 2000000 /\ isSg g0 g1 g2 g3, .tup [.str (bif tabB s i (rows3 c) then txT s i (rows3 c) else []), .bool (tabB s i (rows3 c))])
 | _, _ => none
end Go.Vi
