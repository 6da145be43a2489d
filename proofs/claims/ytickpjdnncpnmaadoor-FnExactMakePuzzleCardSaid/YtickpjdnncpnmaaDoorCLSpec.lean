/- Closed forms of the functions of this chapter. -/
import Derived.Test.YtickpjdnncpnmaaDoorCLDefs
namespace Go.Vi
set_option linter.unusedVariables false
def F_laws_eqClue : FSpec := fun args m =>
 match args, m with
 | [.agg [.int .i64 ax, .int .i64 ay, .int .i64 ak], .agg [.int .i64 bx, .int .i64 by_, .int .i64 bk]], [] => some (True, .bool (ax == bx && ay == by_ && ak == bk))
 | _, _ => none
def F_laws_eqClueS : FSpec := fun args m =>
 match args, m with
 | [.row 0 n, .row 1 m], [⟨.ints .i64 a, 83, .rows 3⟩, ⟨.ints .i64 b, 83, .rows 3⟩] => some (a.length = 3 * n /\ b.length = 3 * m /\ n <= 2000000 /\ m <= 2000000, .bool (a == b))
 | _, _ => none
def F_laws_eqPuzzle : FSpec := fun args m =>
 match args, m with
 | [.agg [.str ar, .int .i64 aw, .int .i64 ah, .row 0 n], .agg [.str cr, .int .i64 cw, .int .i64 ch, .row 1 m]], [⟨.ints .i64 a, 83, .rows 3⟩, ⟨.ints .i64 b, 83, .rows 3⟩] => some (a.length = 3 * n /\ b.length = 3 * m /\ n <= 2000000 /\ m <= 2000000, .bool (ar == cr && a == b && aw == cw && ah == ch))
 | _, _ => none
def F_laws_markClueS : GSpec := fun args m =>
 match args, m with
 | [.row 0 n, .int .i64 k], [⟨.ints .i64 a, 83, .rows 3⟩] => some (a.length = 3 * n /\ n <= 2000000 /\ 0 <= k /\ k <= 1000, .int .i64 (k + (3 * n : Nat)), [⟨.ints .i64 (ramp k (3 * n)), 83, .rows 3⟩])
 | _, _ => none
def F_laws_heldClueS : FSpec := fun args m =>
 match args, m with
 | [.row 0 n, .int .i64 k], [⟨.ints .i64 a, 83, .rows 3⟩] => some (a.length = 3 * n /\ n <= 2000000 /\ 0 <= k /\ k <= 1000, .int .i64 (bif a == ramp k (3 * n) then k + (3 * n : Nat) else -1))
 | _, _ => none
def F_laws_markPuzzle : GSpec := fun args m =>
 match args, m with
 | [.agg [.str pr, .int .i64 pw, .int .i64 ph, .row 0 n], .int .i64 k], [⟨.ints .i64 a, 83, .rows 3⟩] => some (a.length = 3 * n /\ n <= 2000000 /\ 0 <= k /\ k <= 1000, .int .i64 (k + (3 * n : Nat)), [⟨.ints .i64 (ramp k (3 * n)), 83, .rows 3⟩])
 | _, _ => none
def F_laws_heldPuzzle : FSpec := fun args m =>
 match args, m with
 | [.agg [.str pr, .int .i64 pw, .int .i64 ph, .row 0 n], .int .i64 k], [⟨.ints .i64 a, 83, .rows 3⟩] => some (a.length = 3 * n /\ n <= 2000000 /\ 0 <= k /\ k <= 1000, .int .i64 (bif a == ramp k (3 * n) then k + (3 * n : Nat) else -1))
 | _, _ => none
def F_laws_szClueS : FSpec := fun args m =>
 match args, m with
 | [.row 0 n, .int .i64 left], [⟨.ints .i64 a, 99, .arg 3⟩] => some (0 <= left /\ left <= 1000000000 /\ (n : Int) <= 9223372036854775807, .int .i64 (szS n left))
 | _, _ => none
def F_laws_szPuzzle : FSpec := fun args m =>
 match args, m with
 | [.agg [.str pr, .int .i64 pw, .int .i64 ph, .row 0 n], .int .i64 left], [⟨.ints .i64 a, 99, .arg 3⟩] => some (0 <= left /\ left <= 1000000000 /\ (n : Int) <= 9223372036854775807 /\ (pr.length : Int) <= 9223372036854775807, .int .i64 (szP pr n left))
 | _, _ => none
def F_laws_toClue : FSpec := fun args m =>
 match args, m with
 | [.agg [.int .i64 ax, .int .i64 ay, .int .i64 ak]], [] => some (True, .agg [.int .i64 ax, .int .i64 ay, .int .i64 ak])
 | _, _ => none
def F_laws_toClueS : GSpec := fun args m =>
 match args, m with
 | [.row 0 n], [⟨.ints .i64 a, 99, .arg 3⟩] => some (a.length = n * 3 /\ n <= 2000000, .row 1 n, [⟨.ints .i64 a, 99, .arg 3⟩, ⟨.ints .i64 a, 83, .rows 3⟩])
 | _, _ => none
def F_laws_toPuzzle : GSpec := fun args m =>
 match args, m with
 | [.agg [.str pr, .int .i64 pw, .int .i64 ph, .row 0 n]], [⟨.ints .i64 a, 99, .arg 3⟩] => some (a.length = n * 3 /\ n <= 2000000, .agg [.str pr, .int .i64 pw, .int .i64 ph, .row 1 n], [⟨.ints .i64 a, 99, .arg 3⟩, ⟨.ints .i64 a, 83, .rows 3⟩])
 | _, _ => none
end Go.Vi
