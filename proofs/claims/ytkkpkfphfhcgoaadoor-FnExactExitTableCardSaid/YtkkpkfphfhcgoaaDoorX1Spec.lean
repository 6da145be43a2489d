/- Closed forms of the functions of this chapter. -/
import Derived.Test.YtkkpkfphfhcgoaaDoorX1Defs
namespace Go.Vi
set_option linter.unusedVariables false
def F_laws_eqIntS : FSpec := fun args m =>
  match args, m with
  | [.row 0 n, .row 1 m], [⟨.ints .i64 a, 3, .row⟩, ⟨.ints .i64 b, 3, .row⟩] => some (n = a.length ∧ m = b.length ∧ n ≤ 1000 ∧ m ≤ 1000, .bool (a == b))
  | _, _ => none
def F_laws_markIntS : GSpec := fun args m =>
  match args, m with
  | [.row 0 n, .int .i64 k], [⟨.ints .i64 a, 3, .row⟩] => some (n = a.length ∧ n ≤ 1000 ∧ 0 ≤ k ∧ k ≤ 1000, .int .i64 (k + n), [⟨.ints .i64 (ramp k n), 3, .row⟩])
  | _, _ => none
def F_laws_heldIntS : FSpec := fun args m =>
  match args, m with
  | [.row 0 n, .int .i64 k], [⟨.ints .i64 a, 3, .row⟩] => some (n = a.length ∧ n ≤ 1000 ∧ 0 ≤ k ∧ k ≤ 1000, .int .i64 (bif a == ramp k n then k + n else -1))
  | _, _ => none
def F_spec_ExitTable : GSpec := fun args m =>
  match args, m with
  | [.agg [.int .i64 mw, .int .i64 mh, .str mc, .bool mu]], [] => some (True, .tup [.row 0 (etL mw mh mc mu).length, .bool (mzB ⟨mw, mh, mc, mu⟩)], [⟨.ints .i64 (etL mw mh mc mu), 3, .row⟩])
  | _, _ => none
def F_impl_ExitTable : GSpec := fun args m =>
  match args, m with
  | [.agg [.int .i64 mw, .int .i64 mh, .str mc, .bool mu]], [] => some (True, .tup [.row 0 (etL mw mh mc mu).length, .bool (mzB ⟨mw, mh, mc, mu⟩)], [⟨.ints .i64 (etL mw mh mc mu), 3, .row⟩])
  | _, _ => none
end Go.Vi
