/- Closed forms of the functions of this chapter. -/
import Derived.Test.YtopolpgligoldacRBDefs
namespace Go.Vi
set_option linter.unusedVariables false
def F_laws_markIntS : GSpec := fun args m =>
  match args, m with
  | [.row 0 n, .int .i64 k], [⟨.ints .i64 (a), 3, .row⟩] => some (a.length = n ∧ n ≤ 2000000 ∧ 0 ≤ k ∧ k ≤ 1000000000000000, .int .i64 (k + (n : Nat)), [⟨.ints .i64 (ramp k n), 3, .row⟩])
  | _, _ => none
def F_laws_markIntSS : GSpec := fun args m =>
  match args, m with
  | [.row 0 n, .int .i64 k], [⟨.mat .i64 3 (l), 23, .mat⟩] => some (l.length = n ∧ smallM l ∧ 0 ≤ k ∧ k ≤ 1000000, .int .i64 (k + (totL l : Nat)), [⟨.mat .i64 3 (rampM k l), 23, .mat⟩])
  | _, _ => none
def F_laws_markRoute : GSpec := fun args m =>
  match args, m with
  | [.agg [.row 0 n, .row 1 m], .int .i64 k], [⟨.mat .i64 3 (l), 23, .mat⟩, ⟨.ints .i64 (ro), 3, .row⟩] => some (l.length = n ∧ ro.length = m ∧ smallM l ∧ m ≤ 2000000 ∧ 0 ≤ k ∧ k ≤ 1000, .int .i64 (k + (totL l : Nat) + (m : Nat)), [⟨.mat .i64 3 (rampM k l), 23, .mat⟩, ⟨.ints .i64 (ramp (k + (totL l : Nat)) m), 3, .row⟩])
  | _, _ => none
def F_laws_heldIntS : FSpec := fun args m =>
  match args, m with
  | [.row 0 n, .int .i64 q], [⟨.ints .i64 a, e, k⟩] => some (a.length = n ∧ n ≤ 2000000 ∧ 0 ≤ q ∧ q ≤ 1000000000000000, .int .i64 (bif a == ramp q n then q + (n : Nat) else -1))
  | _, _ => none
def F_laws_heldIntSS : FSpec := fun args m =>
  match args, m with
  | [.row 0 n, .int .i64 q], [⟨.mat .i64 3 (l), 23, .mat⟩] => some (l.length = n ∧ smallM l ∧ 0 ≤ q ∧ q ≤ 1000000, .int .i64 (bif l == rampM q l then q + (totL l : Nat) else -1))
  | _, _ => none
def F_laws_heldRoute : FSpec := fun args m =>
  match args, m with
  | [.agg [.row 0 n, .row 1 m], .int .i64 q], [⟨.mat .i64 3 (l), 23, .mat⟩, ⟨.ints .i64 (ro), 3, .row⟩] => some (l.length = n ∧ ro.length = m ∧ smallM l ∧ m ≤ 2000000 ∧ 0 ≤ q ∧ q ≤ 1000, .int .i64 (bif l == rampM q l && ro == ramp (q + (totL l : Nat)) m then q + (totL l : Nat) + (m : Nat) else -1))
  | _, _ => none
def F_spec_RingRoute : GSpec := fun args m =>
  match args, m with
  | [.int .i64 nodes], [] => some (True, .tup [.agg [.row 0 (ringN nodes), .row 1 (ringN nodes)], .bool (inB nodes 1 10)], [⟨.mat .i64 3 (ringM nodes (ringN nodes)), 23, .mat⟩, ⟨.ints .i64 (List.replicate (ringN nodes) 0), 3, .row⟩])
  | _, _ => none
def F_impl_RingRoute : GSpec := fun args m =>
  match args, m with
  | [.int .i64 nodes], [] => some (True, .tup [.agg [.row 0 (ringN nodes), .row 1 (ringN nodes)], .bool (inB nodes 1 10)], [⟨.mat .i64 3 (ringM nodes (ringN nodes)), 23, .mat⟩, ⟨.ints .i64 (List.replicate (ringN nodes) 0), 3, .row⟩])
  | _, _ => none
end Go.Vi
