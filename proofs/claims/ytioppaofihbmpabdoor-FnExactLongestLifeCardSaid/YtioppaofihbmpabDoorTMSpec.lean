/- Closed forms of the functions of this chapter. -/
import Derived.Test.YtioppaofihbmpabDoorTMDefs
namespace Go.Vi
set_option linter.unusedVariables false
def F_laws_eqIntS : FSpec := fun args m =>
  match args, m with
  | [.row 0 n, .row 1 m], [⟨.ints .i64 a, e, k⟩, ⟨.ints .i64 b, f, q⟩] => some (a.length = n ∧ b.length = m ∧ n ≤ 2000000 ∧ m ≤ 2000000, .bool (a == b))
  | _, _ => none
def F_laws_eqIntSS : FSpec := fun args m =>
  match args, m with
  | [.row 0 n, .row 1 m], [⟨.mat .i64 3 (l), 33, .mat⟩, ⟨.mat .i64 3 (j), 33, .mat⟩] => some (l.length = n ∧ j.length = m ∧ smallM l ∧ smallM j, .bool (l == j))
  | _, _ => none
def F_laws_markIntS : GSpec := fun args m =>
  match args, m with
  | [.row 0 n, .int .i64 k], [⟨.ints .i64 (a), 3, .row⟩] => some (a.length = n ∧ n ≤ 2000000 ∧ 0 ≤ k ∧ k ≤ 1000000000000000, .int .i64 (k + (n : Nat)), [⟨.ints .i64 (ramp k n), 3, .row⟩])
  | _, _ => none
def F_laws_markIntSS : GSpec := fun args m =>
  match args, m with
  | [.row 0 n, .int .i64 k], [⟨.mat .i64 3 (l), 33, .mat⟩] => some (l.length = n ∧ smallM l ∧ 0 ≤ k ∧ k ≤ 1000000, .int .i64 (k + (totL l : Nat)), [⟨.mat .i64 3 (rampM k l), 33, .mat⟩])
  | _, _ => none
def F_laws_heldIntS : FSpec := fun args m =>
  match args, m with
  | [.row 0 n, .int .i64 q], [⟨.ints .i64 a, e, k⟩] => some (a.length = n ∧ n ≤ 2000000 ∧ 0 ≤ q ∧ q ≤ 1000000000000000, .int .i64 (bif a == ramp q n then q + (n : Nat) else -1))
  | _, _ => none
def F_laws_heldIntSS : FSpec := fun args m =>
  match args, m with
  | [.row 0 n, .int .i64 q], [⟨.mat .i64 3 (l), 33, .mat⟩] => some (l.length = n ∧ smallM l ∧ 0 ≤ q ∧ q ≤ 1000000, .int .i64 (bif l == rampM q l then q + (totL l : Nat) else -1))
  | _, _ => none
end Go.Vi
