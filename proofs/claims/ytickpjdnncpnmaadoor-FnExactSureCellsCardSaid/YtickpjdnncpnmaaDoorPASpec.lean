/- Closed forms of the functions of this chapter. -/
import Derived.Test.YtickpjdnncpnmaaDoorPADefs
namespace Go.Vi
set_option linter.unusedVariables false
def F_spec_pzPower : FSpec := fun args m =>
 match args, m with
 | [.str s, .int .i64 n], [] => some (1 <= s.length /\ s.length <= 6 /\ 0 <= n /\ n <= 9, .int .i64 (pow300 s.length n.toNat))
 | _, _ => none
def F_spec_pzSize : FSpec := fun args m =>
 match args, m with
 | [.str s, .int .i64 w, .int .i64 h], [] => some (True, .bool (sizeB s w h))
 | _, _ => none
def F_impl_isSize : FSpec := fun args m =>
 match args, m with
 | [.int .i64 w, .int .i64 h], [] => some (True, .bool (inB w 1 9 && inB h 1 9))
 | _, _ => none
def F_impl_CountBoards : FSpec := fun args m =>
 match args, m with
 | [.str s, .int .i64 w, .int .i64 h], [] => some (True, .tup [.int .i64 (cntB s w h), .bool (sizeB s w h)])
 | _, _ => none
def F_spec_pzClue : FSpec := fun args m =>
 match args, m with
 | [.str s, .int .i64 cells, .agg [.int .i64 cx, .int .i64 cy, .int .i64 ck]], [] => some (s.length <= 1000 /\ 0 <= cells /\ cells <= 1000, .bool (clueB cx cy ck s.length cells))
 | _, _ => none
def F_spec_pzGood : FSpec := fun args m =>
 match args, m with
 | [.agg [.str pr, .int .i64 pw, .int .i64 ph, .row 0 n]], [⟨.ints .i64 a, 83, .rows 3⟩] => some (a.length = n * 3 /\ n <= 2000000, .bool (goodZ pr pw ph n a))
 | _, _ => none
def F_impl_IsPuzzle : FSpec := fun args m =>
 match args, m with
 | [.agg [.str pr, .int .i64 pw, .int .i64 ph, .row 0 n]], [⟨.ints .i64 a, 83, .rows 3⟩] => some (a.length = n * 3 /\ n <= 2000000, .bool (goodZ pr pw ph n a))
 | _, _ => none
def F_impl_firstClues : FSpec := fun args m =>
 match args, m with
 | [.int .i64 n], [] => some (0 <= n /\ n <= 60, .int .u64 ((2 ^ n.toNat - 1 : Nat) : Int))
 | _, _ => none
def F_impl_oneClue : FSpec := fun args m =>
 match args, m with
 | [.int .i64 n], [] => some (0 <= n /\ n <= 60, .int .u64 ((2 ^ n.toNat : Nat) : Int))
 | _, _ => none
def F_impl_clueSet_hasAll : FSpec := fun args m =>
 match args, m with
 | [.int .u64 s, .int .u64 o], [] => some (0 <= s /\ s < 18446744073709551616 /\ 0 <= o /\ o < 18446744073709551616, .bool (allIn2 s o))
 | _, _ => none
def F_impl_clueSet_without : FSpec := fun args m =>
 match args, m with
 | [.int .u64 s, .int .i64 n], [] => some (0 <= s /\ s < 18446744073709551616 /\ 0 <= n /\ n <= 60, .int .u64 (wout s n.toNat))
 | _, _ => none
def F_impl_allClues : FSpec := fun args m =>
 match args, m with
 | [.agg [.str pr, .int .i64 pw, .int .i64 ph, .row 0 n]], [⟨.ints .i64 a, 83, .rows 3⟩] => some (n <= 60, .int .u64 ((2 ^ n - 1 : Nat) : Int))
 | _, _ => none
def F_impl_withClues : GSpec := fun args m =>
 match args, m with
 | [.agg [.str pr, .int .i64 pw, .int .i64 ph, .row 0 n], .int .u64 m], [⟨.ints .i64 a, 83, .rows 3⟩] => some (a.length = n * 3 /\ n <= 60 /\ 0 <= m /\ m < 18446744073709551616, .agg [.str pr, .int .i64 pw, .int .i64 ph, .row 1 (keepN m n)], [⟨.ints .i64 a, 83, .rows 3⟩, ⟨.ints .i64 (keepL a m n), 83, .rows 3⟩])
 | _, _ => none
def F_spec_pzWithout : GSpec := fun args m =>
 match args, m with
 | [.row 0 n, .int .i64 k], [⟨.ints .i64 a, 83, .rows 3⟩] => some (a.length = n * 3 /\ n <= 2000000 /\ 0 <= k /\ k < n, .row 1 (n - 1), [⟨.ints .i64 a, 83, .rows 3⟩, ⟨.ints .i64 (wo3 a k.toNat), 83, .rows 3⟩])
 | _, _ => none
end Go.Vi
