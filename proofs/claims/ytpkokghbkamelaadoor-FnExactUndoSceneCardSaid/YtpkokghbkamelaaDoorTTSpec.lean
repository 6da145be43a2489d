/- Closed forms of the functions of this chapter. -/
import Derived.Test.YtpkokghbkamelaaDoorTTDefs
namespace Go.Vi
set_option linter.unusedVariables false
def F_laws_markText : FSpec := fun args m =>
 match args, m with
 | [.int .i64 k], [] => some (0 <= k /\ k <= 100000000, .str (mtx k))
 | _, _ => none
def F_laws_markRowS : GSpec := fun args m =>
 match args, m with
 | [.row 0 n, .int .i64 k], [⟨.recs [.int .i64, .str, .int .i64] c, 96, .rows 3⟩] => some (is3 c n /\ n <= 2000000 /\ 0 <= k /\ k <= 1000000, .int .i64 (k + (3 * n : Nat)), [⟨.recs [.int .i64, .str, .int .i64] (flat3 (mkR k n)), 96, .rows 3⟩])
 | _, _ => none
def F_laws_markTable : GSpec := fun args m =>
 match args, m with
 | [.agg [.int .i64 s, .int .i64 i, .row 0 n], .int .i64 k], [⟨.recs [.int .i64, .str, .int .i64] c, 96, .rows 3⟩] => some (is3 c n /\ n <= 2000000 /\ 0 <= k /\ k <= 1000000, .int .i64 (k + (3 * n : Nat)), [⟨.recs [.int .i64, .str, .int .i64] (flat3 (mkR k n)), 96, .rows 3⟩])
 | _, _ => none
def F_laws_heldRowS : FSpec := fun args m =>
 match args, m with
 | [.row 0 n, .int .i64 k], [⟨.recs [.int .i64, .str, .int .i64] c, 96, .rows 3⟩] => some (is3 c n /\ n <= 2000000 /\ 0 <= k /\ k <= 1000000, .int .i64 (bif decide (rows3 c = mkR k n) then k + (3 * n : Nat) else -1))
 | _, _ => none
def F_laws_heldTable : FSpec := fun args m =>
 match args, m with
 | [.agg [.int .i64 s, .int .i64 i, .row 0 n], .int .i64 k], [⟨.recs [.int .i64, .str, .int .i64] c, 96, .rows 3⟩] => some (is3 c n /\ n <= 2000000 /\ 0 <= k /\ k <= 1000000, .int .i64 (bif decide (rows3 c = mkR k n) then k + (3 * n : Nat) else -1))
 | _, _ => none
def F_impl_Row : GSpec := fun args m =>
 match args, m with
 | [.row 0 n], [⟨.recs [.int .i64, .str, .int .i64] c, 96, .rows 3⟩] => some (is3 c n /\ n <= 2000000 /\ 1 <= n, .row 1 n, [⟨.recs [.int .i64, .str, .int .i64] c, 96, .rows 3⟩, ⟨.recs [.int .i64, .str, .int .i64] c, 96, .rows 3⟩])
 | _, _ => none
def F_impl_copied : GSpec := fun args m =>
 match args, m with
 | [.agg [.int .i64 s, .int .i64 i, .row 0 n]], [⟨.recs [.int .i64, .str, .int .i64] c, 96, .rows 3⟩] => some (is3 c n /\ n <= 2000000 /\ 1 <= n, .agg [.int .i64 s, .int .i64 i, .row 1 n], [⟨.recs [.int .i64, .str, .int .i64] c, 96, .rows 3⟩, ⟨.recs [.int .i64, .str, .int .i64] c, 96, .rows 3⟩])
 | _, _ => none
end Go.Vi
