/- Closed forms of the functions of this chapter. -/
import Derived.Test.YtpkokghbkamelaaDoorTADefs
namespace Go.Vi
set_option linter.unusedVariables false
def F_spec_l1In : FSpec := fun args m =>
 match args, m with
 | [.int .i64 n, .int .i64 lo, .int .i64 hi], [] => some (True, .bool (inB n lo hi))
 | _, _ => none
def F_impl_within : FSpec := fun args m =>
 match args, m with
 | [.int .i64 n, .int .i64 lo, .int .i64 hi], [] => some (True, .bool (inB n lo hi))
 | _, _ => none
def F_spec_woRule : FSpec := fun args m =>
 match args, m with
 | [.str s], [] => some (True, .bool (ruleB s))
 | _, _ => none
def F_spec_taSign : FSpec := fun args m =>
 match args, m with
 | [.str s], [] => some (True, .bool (tsB s))
 | _, _ => none
def F_impl_quartersOfTurn : FSpec := fun args m =>
 match args, m with
 | [.str s], [⟨.vals [.str g0, .str g1, .str g2, .str g3], 9, .gl 0⟩] => some (isSg g0 g1 g2 g3, .int .i64 (qtI s))
 | _, _ => none
def F_laws_szRow : FSpec := fun args m =>
 match args, m with
 | [.agg [.int .i64 ra, .str rt, .int .i64 rb], .int .i64 left], [] => some ((0 <= left /\ left <= 1048576) /\ (rt.length : Int) <= 9223372036854775807, .int .i64 (szI rt.length left))
 | _, _ => none
def F_laws_szRowS : FSpec := fun args m =>
 match args, m with
 | [.row 0 n, .int .i64 left], [⟨.recs [.int .i64, .str, .int .i64] c, 139, .arg 3⟩] => some ((0 <= left /\ left <= 1048576) /\ (n : Int) <= 9223372036854775807 /\ is3 c n /\ ∀ r ∈ rows3 c, (r.t.length : Int) <= 9223372036854775807, .int .i64 (szT (rows3 c) left))
 | _, _ => none
def F_laws_szTable : FSpec := fun args m =>
 match args, m with
 | [.agg [.int .i64 s, .int .i64 i, .row 0 n], .int .i64 left], [⟨.recs [.int .i64, .str, .int .i64] c, 139, .arg 3⟩] => some ((0 <= left /\ left <= 1048576) /\ (n : Int) <= 9223372036854775807 /\ is3 c n /\ ∀ r ∈ rows3 c, (r.t.length : Int) <= 9223372036854775807, .int .i64 (szT (rows3 c) left))
 | _, _ => none
def F_laws_toRow : FSpec := fun args m =>
 match args, m with
 | [.agg [.int .i64 ra, .str rt, .int .i64 rb]], [] => some (True, .agg [.int .i64 ra, .str rt, .int .i64 rb])
 | _, _ => none
def F_laws_toRowS : GSpec := fun args m =>
 match args, m with
 | [.row 0 n], [⟨.recs [.int .i64, .str, .int .i64] c, 139, .arg 3⟩] => some (is3 c n /\ n <= 2000000, .row 1 n, [⟨.recs [.int .i64, .str, .int .i64] c, 139, .arg 3⟩, ⟨.recs [.int .i64, .str, .int .i64] c, 96, .rows 3⟩])
 | _, _ => none
def F_laws_toTable : GSpec := fun args m =>
 match args, m with
 | [.agg [.int .i64 s, .int .i64 i, .row 0 n]], [⟨.recs [.int .i64, .str, .int .i64] c, 139, .arg 3⟩] => some (is3 c n /\ n <= 2000000, .agg [.int .i64 s, .int .i64 i, .row 1 n], [⟨.recs [.int .i64, .str, .int .i64] c, 139, .arg 3⟩, ⟨.recs [.int .i64, .str, .int .i64] c, 96, .rows 3⟩])
 | _, _ => none
def F_laws_eqRow : FSpec := fun args m =>
 match args, m with
 | [.agg [.int .i64 ra, .str rt, .int .i64 rb], .agg [.int .i64 qa, .str qt, .int .i64 qb]], [] => some (True, .bool (ra == qa && rt == qt && rb == qb))
 | _, _ => none
def F_laws_eqRowS : FSpec := fun args m =>
 match args, m with
 | [.row 0 n, .row 1 m], [⟨.recs [.int .i64, .str, .int .i64] c, 96, .rows 3⟩, ⟨.recs [.int .i64, .str, .int .i64] d, 96, .rows 3⟩] => some (is3 c n /\ is3 d m /\ n <= 2000000 /\ m <= 2000000, .bool (rows3 c == rows3 d))
 | _, _ => none
def F_laws_eqTable : FSpec := fun args m =>
 match args, m with
 | [.agg [.int .i64 s, .int .i64 i, .row 0 n], .agg [.int .i64 p, .int .i64 q, .row 1 m]], [⟨.recs [.int .i64, .str, .int .i64] c, 96, .rows 3⟩, ⟨.recs [.int .i64, .str, .int .i64] d, 96, .rows 3⟩] => some (is3 c n /\ is3 d m /\ n <= 2000000 /\ m <= 2000000, .bool (s == p && i == q && rows3 c == rows3 d))
 | _, _ => none
def F_spec_taGood : FSpec := fun args m =>
 match args, m with
 | [.agg [.int .i64 s, .int .i64 i, .row 0 n]], [⟨.recs [.int .i64, .str, .int .i64] c, 96, .rows 3⟩] => some (is3 c n /\ n <= 2000000, .bool (tabB s i (rows3 c)))
 | _, _ => none
def F_impl_isTableSize : FSpec := fun args m =>
 match args, m with
 | [.int .i64 a, .int .i64 b], [] => some (True, .bool (inB a 1 4 && inB b 1 4))
 | _, _ => none
def F_impl_IsTable : FSpec := fun args m =>
 match args, m with
 | [.agg [.int .i64 s, .int .i64 i, .row 0 n]], [⟨.recs [.int .i64, .str, .int .i64] c, 96, .rows 3⟩, ⟨.vals [.str g0, .str g1, .str g2, .str g3], 9, .gl 0⟩] => some (is3 c n /\ n <= 2000000 /\ isSg g0 g1 g2 g3, .bool (tabB s i (rows3 c)))
 | _, _ => none
end Go.Vi
