/- Closed forms of the functions of this chapter. -/
import Derived.Test.YtehglmfhohinbaaDoorTNDefs
namespace Go.Vi
set_option linter.unusedVariables false
def F_laws_toIntS : GSpec := fun args m =>
  match args, m with
  | [.row 0 n], [⟨.ints .i64 a, e, k⟩] => some (a.length = n ∧ n ≤ 2000000, .row 1 n, [⟨.ints .i64 a, e, k⟩, ⟨.ints .i64 (a), 3, .row⟩])
  | _, _ => none
def F_laws_eqIntS : FSpec := fun args m =>
  match args, m with
  | [.row 0 n, .row 1 m], [⟨.ints .i64 a, e, k⟩, ⟨.ints .i64 b, f, q⟩] => some (a.length = n ∧ b.length = m ∧ n ≤ 2000000 ∧ m ≤ 2000000, .bool (a == b))
  | _, _ => none
def F_laws_markIntS : GSpec := fun args m =>
  match args, m with
  | [.row 0 n, .int .i64 k], [⟨.ints .i64 (a), 3, .row⟩] => some (a.length = n ∧ n ≤ 2000000 ∧ 0 ≤ k ∧ k ≤ 1000000000000000, .int .i64 (k + (n : Nat)), [⟨.ints .i64 (ramp k n), 3, .row⟩])
  | _, _ => none
def F_spec_l1Has : FSpec := fun args m =>
  match args, m with
  | [.row 0 n, .int .i64 v], [⟨.ints .i64 a, e, k⟩] => some (a.length = n ∧ n ≤ 2000000, .bool (hasI a v))
  | _, _ => none
def F_slices_Index_int_int : FSpec := fun args m =>
  match args, m with
  | [.row 0 n, .int .i64 v], [⟨.ints .i64 a, e, k⟩] => some (a.length = n ∧ n ≤ 2000000, .int .i64 (idxI a v))
  | _, _ => none
def F_slices_Contains_int_int : FSpec := fun args m =>
  match args, m with
  | [.row 0 n, .int .i64 v], [⟨.ints .i64 (a), 3, .row⟩] => some (a.length = n ∧ n ≤ 2000000, .bool (hasI a v))
  | _, _ => none
def F_spec_l1All : FSpec := fun args m =>
  match args, m with
  | [.row 0 n, .int .i64 lo, .int .i64 hi], [⟨.ints .i64 (a), 3, .row⟩] => some (a.length = n ∧ n ≤ 2000000, .bool (allB a lo hi))
  | _, _ => none
def F_spec_taOrder : FSpec := fun args m =>
  match args, m with
  | [.int .i64 p, .row 0 n], [⟨.ints .i64 (a), 3, .row⟩] => some (a.length = n ∧ n ≤ 2000000 ∧ 1 ≤ p ∧ p ≤ 4, .bool (ordB p a))
  | _, _ => none
def F_impl_isOrder : FSpec := fun args m =>
  match args, m with
  | [.row 0 n, .int .i64 p], [⟨.ints .i64 (a), 3, .row⟩] => some (a.length = n ∧ n ≤ 2000000 ∧ 1 ≤ p ∧ p ≤ 4, .bool (ordB p a))
  | _, _ => none
def F_impl_RenameTints_1 : FSpec := fun args m =>
  match args, m with
  | [.int .i64 p, .int .i64 q, .ptr 0 0], [⟨.vals [.row 1 n], 25, .box⟩, ⟨.ints .i64 (a), 3, .row⟩] => some (a.length = n ∧ n ≤ 2000000 ∧ 0 ≤ q ∧ q < (n : Int), .tup [.int .i64 p, .int .i64 (a.getD q.toNat 0)])
  | _, _ => none
def F_impl_RenameStates_1 : FSpec := fun args m =>
  match args, m with
  | [.int .i64 p, .int .i64 q, .ptr 0 0], [⟨.vals [.row 1 n], 25, .box⟩, ⟨.ints .i64 (a), 3, .row⟩] => some (a.length = n ∧ n ≤ 2000000 ∧ 0 ≤ p ∧ p < (n : Int), .tup [.int .i64 (a.getD p.toNat 0), .int .i64 q])
  | _, _ => none
def F_spec_RenameTints : GSpec := fun args m =>
  match args, m with
  | [.agg [.int .i64 s, .int .i64 i, .row 0 n], .row 1 m], [⟨.recs [.int .i64, .str, .int .i64] c, 47, .rows 3⟩, ⟨.ints .i64 (a), 3, .row⟩] => some (is3 c n ∧ n ≤ 2000000 ∧ a.length = m ∧ m ≤ 2000000, .tup [.agg [.int .i64 (zI (gdT s i (rows3 c) a) s), .int .i64 (zI (gdT s i (rows3 c) a) i), .row 2 (rnT s i (rows3 c) a).length], .bool (gdT s i (rows3 c) a)], [⟨.recs [.int .i64, .str, .int .i64] c, 47, .rows 3⟩, ⟨.ints .i64 (a), 3, .row⟩, ⟨.recs [.int .i64, .str, .int .i64] (flat3 (rnT s i (rows3 c) a)), 47, .rows 3⟩])
  | _, _ => none
def F_impl_RenameTints : GSpec := fun args m =>
  match args, m with
  | [.agg [.int .i64 s, .int .i64 i, .row 0 n], .row 1 m], [⟨.recs [.int .i64, .str, .int .i64] c, 47, .rows 3⟩, ⟨.ints .i64 (a), 3, .row⟩, ⟨.vals [.str g0, .str g1, .str g2, .str g3], 9, .gl 0⟩] => some (is3 c n ∧ n ≤ 2000000 ∧ a.length = m ∧ m ≤ 2000000 ∧ isSg g0 g1 g2 g3, .tup [.agg [.int .i64 (zI (gdT s i (rows3 c) a) s), .int .i64 (zI (gdT s i (rows3 c) a) i), .row 3 (rnT s i (rows3 c) a).length], .bool (gdT s i (rows3 c) a)], [⟨.recs [.int .i64, .str, .int .i64] c, 47, .rows 3⟩, ⟨.ints .i64 (a), 3, .row⟩, ⟨.vals [.str g0, .str g1, .str g2, .str g3], 9, .gl 0⟩, ⟨.recs [.int .i64, .str, .int .i64] (flat3 (rnT s i (rows3 c) a)), 47, .rows 3⟩])
  | _, _ => none
def F_spec_RenameStates : GSpec := fun args m =>
  match args, m with
  | [.agg [.int .i64 s, .int .i64 i, .row 0 n], .row 1 m], [⟨.recs [.int .i64, .str, .int .i64] c, 47, .rows 3⟩, ⟨.ints .i64 (a), 3, .row⟩] => some (is3 c n ∧ n ≤ 2000000 ∧ a.length = m ∧ m ≤ 2000000, .tup [.agg [.int .i64 (zI (gdS s i (rows3 c) a) s), .int .i64 (zI (gdS s i (rows3 c) a) i), .row 2 (rnS s i (rows3 c) a).length], .bool (gdS s i (rows3 c) a)], [⟨.recs [.int .i64, .str, .int .i64] c, 47, .rows 3⟩, ⟨.ints .i64 (a), 3, .row⟩, ⟨.recs [.int .i64, .str, .int .i64] (flat3 (rnS s i (rows3 c) a)), 47, .rows 3⟩])
  | _, _ => none
def F_impl_RenameStates : GSpec := fun args m =>
  match args, m with
  | [.agg [.int .i64 s, .int .i64 i, .row 0 n], .row 1 m], [⟨.recs [.int .i64, .str, .int .i64] c, 47, .rows 3⟩, ⟨.ints .i64 (a), 3, .row⟩, ⟨.vals [.str g0, .str g1, .str g2, .str g3], 9, .gl 0⟩] => some (is3 c n ∧ n ≤ 2000000 ∧ a.length = m ∧ m ≤ 2000000 ∧ isSg g0 g1 g2 g3, .tup [.agg [.int .i64 (zI (gdS s i (rows3 c) a) s), .int .i64 (zI (gdS s i (rows3 c) a) i), .row 3 (rnS s i (rows3 c) a).length], .bool (gdS s i (rows3 c) a)], [⟨.recs [.int .i64, .str, .int .i64] c, 47, .rows 3⟩, ⟨.ints .i64 (a), 3, .row⟩, ⟨.vals [.str g0, .str g1, .str g2, .str g3], 9, .gl 0⟩, ⟨.recs [.int .i64, .str, .int .i64] (flat3 (rnS s i (rows3 c) a)), 47, .rows 3⟩])
  | _, _ => none
end Go.Vi
