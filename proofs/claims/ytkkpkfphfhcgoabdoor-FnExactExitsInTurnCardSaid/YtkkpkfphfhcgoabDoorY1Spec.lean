/- Closed forms of the functions of this chapter. -/
import Derived.Test.YtkkpkfphfhcgoabDoorY1Defs
namespace Go.Vi
set_option linter.unusedVariables false
def F_laws_eqIntS : FSpec := fun args m =>
  match args, m with
  | [.row 0 n, .row 1 m], [⟨.ints .i64 a, 3, .row⟩, ⟨.ints .i64 b, 3, .row⟩] => some (n = a.length ∧ m = b.length ∧ n ≤ 1000 ∧ m ≤ 1000, .bool (a == b))
  | _, _ => none
def F_laws_markIntS : GSpec := fun args m =>
  match args, m with
  | [.row 0 n, .int .i64 k], [⟨.ints .i64 a, 3, .row⟩] => some (n = a.length ∧ n ≤ 1000 ∧ 0 ≤ k ∧ k ≤ 1000, .int .i64 (k + n), [⟨.ints .i64 (ramp k n), 3, .row⟩])
  | _, _ => none
def F_laws_heldIntS : FSpec := fun args m =>
  match args, m with
  | [.row 0 n, .int .i64 k], [⟨.ints .i64 a, 3, .row⟩] => some (n = a.length ∧ n ≤ 1000 ∧ 0 ≤ k ∧ k ≤ 1000, .int .i64 (bif a == ramp k n then k + n else -1))
  | _, _ => none
def F_spec_ExitsInTurn : GSpec := fun args m =>
  match args, m with
  | [.agg [.int .i64 mw, .int .i64 mh, .str mc, .bool mu], .int .i64 k, .int .i64 balls], [] => some (True, .tup [.row 0 (eiL mw mh mc mu k balls).length, .bool (eiB mw mh mc mu k balls)], [⟨.ints .i64 (eiL mw mh mc mu k balls), 3, .row⟩])
  | _, _ => none
def F_impl_ExitsInTurn : GSpec := fun args m =>
  match args, m with
  | [.agg [.int .i64 mw, .int .i64 mh, .str mc, .bool mu], .int .i64 k, .int .i64 balls], [] => some (True, .tup [.row 0 (eiL mw mh mc mu k balls).length, .bool (eiB mw mh mc mu k balls)], [⟨.ints .i64 (eiL mw mh mc mu k balls), 3, .row⟩])
  | _, _ => none
end Go.Vi
