/- Closed forms of the functions of this chapter. -/
import Derived.Test.YtickpjdnncpnmaaDoorPADefs
namespace Go.Vi
set_option linter.unusedVariables false
def F_spec_pzPower : FSpec := fun args m =>
 match args, m with
 | [.str s, .int .i64 n], [] => some (1 <= s.length /\ s.length <= 6 /\ 0 <= n /\ n <= 9, .int .i64 (pow300 s.length n.toNat))
 | _, _ => none
def F_spec_pzSize : FSpec := fun args m =>
 match args, m with
 | [.str s, .int .i64 w, .int .i64 h], [] => some (True, .bool (sizeB s w h))
 | _, _ => none
def F_impl_isSize : FSpec := fun args m =>
 match args, m with
 | [.int .i64 w, .int .i64 h], [] => some (True, .bool (inB w 1 9 && inB h 1 9))
 | _, _ => none
def F_impl_CountBoards : FSpec := fun args m =>
 match args, m with
 | [.str s, .int .i64 w, .int .i64 h], [] => some (True, .tup [.int .i64 (cntB s w h), .bool (sizeB s w h)])
 | _, _ => none
def F_spec_pzClue : FSpec := fun args m =>
 match args, m with
 | [.str s, .int .i64 cells, .agg [.int .i64 cx, .int .i64 cy, .int .i64 ck]], [] => some (s.length <= 1000 /\ 0 <= cells /\ cells <= 1000, .bool (clueB cx cy ck s.length cells))
 | _, _ => none
end Go.Vi
