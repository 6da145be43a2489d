/- Closed forms of the functions of this chapter. -/
import Derived.Test.YtioppaofihbmpabDoorSSDefs
namespace Go.Vi
set_option linter.unusedVariables false
def F_laws_eqStringS : FSpec := fun args m =>
  match args, m with
  | [.row 0 n, .row 1 m], [⟨.strs (a), e, k⟩, ⟨.strs (b), f, q⟩] => some (a.length = n ∧ b.length = m ∧ n ≤ 2000000 ∧ m ≤ 2000000, .bool (a == b))
  | _, _ => none
def F_laws_markText : FSpec := fun args m =>
  match args, m with
  | [.int .i64 k], [] => some (0 ≤ k ∧ k ≤ 100000000, .str (mtx k))
  | _, _ => none
def F_laws_markStringS : GSpec := fun args m =>
  match args, m with
  | [.row 0 n, .int .i64 k], [⟨.strs (a), 9, .row⟩] => some (a.length = n ∧ n ≤ 2000000 ∧ 0 ≤ k ∧ k ≤ 10000000, .int .i64 (k + (n : Nat)), [⟨.strs (rampS k n), 9, .row⟩])
  | _, _ => none
def F_laws_heldStringS : FSpec := fun args m =>
  match args, m with
  | [.row 0 n, .int .i64 q], [⟨.strs (a), 9, .row⟩] => some (a.length = n ∧ n ≤ 2000000 ∧ 0 ≤ q ∧ q ≤ 10000000, .int .i64 (bif a == rampS q n then q + (n : Nat) else -1))
  | _, _ => none
end Go.Vi
