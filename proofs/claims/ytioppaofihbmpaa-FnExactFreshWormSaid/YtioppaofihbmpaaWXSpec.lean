/- Closed forms of the functions of this chapter. -/
import Derived.Test.YtioppaofihbmpaaWXDefs
namespace Go.Vi
set_option linter.unusedVariables false
def F_spec_l1In : FSpec := fun args m =>
  match args, m with
  | [.int .i64 n, .int .i64 lo, .int .i64 hi], [] => some (True, .bool (inB n lo hi))
  | _, _ => none
def F_impl_within : FSpec := fun args m =>
  match args, m with
  | [.int .i64 n, .int .i64 lo, .int .i64 hi], [] => some (True, .bool (inB n lo hi))
  | _, _ => none
def F_impl_isGrid : FSpec := fun args m =>
  match args, m with
  | [.int .i64 a, .int .i64 b], [] => some (True, .bool (inB a 3 6 && inB b 3 6))
  | _, _ => none
def F_laws_eqWorm : FSpec := fun args m =>
  match args, m with
  | [.agg [.int .i64 aw, .int .i64 ah, .str ar, .str an, .int .i64 ax, .int .i64 ay, .int .i64 ad], .agg [.int .i64 bw, .int .i64 bh, .str br, .str bn, .int .i64 bx, .int .i64 by_, .int .i64 bd]], [] => some (True, .bool (eqWo ⟨aw, ah, ar, an, ax, ay, ad⟩ ⟨bw, bh, br, bn, bx, by_, bd⟩))
  | _, _ => none
def F_strings_Repeat : FSpec := fun args m =>
  match args, m with
  | [.str s, .int .i64 n], [] => some (0 ≤ n ∧ n ≤ 9223372036854775807 ∧ s.length * n.toNat ≤ 140737488355328, .str (Go.Lib.repeatL s n.toNat))
  | _, _ => none
def F_spec_wmOnes : FSpec := fun args m =>
  match args, m with
  | [.int .i64 n], [] => some (0 ≤ n ∧ n ≤ 1000, .str (List.replicate n.toNat 49))
  | _, _ => none
def F_spec_FreshWorm : FSpec := fun args m =>
  match args, m with
  | [.int .i64 a, .int .i64 b], [] => some (True, okWo (inB a 3 6 && inB b 3 6) ⟨a, b, List.replicate (a * b).toNat 49, List.replicate (a * b).toNat 49, 0, 0, 0⟩)
  | _, _ => none
def F_impl_FreshWorm : FSpec := fun args m =>
  match args, m with
  | [.int .i64 a, .int .i64 b], [] => some (True, okWo (inB a 3 6 && inB b 3 6) ⟨a, b, List.replicate (a * b).toNat 49, List.replicate (a * b).toNat 49, 0, 0, 0⟩)
  | _, _ => none
end Go.Vi
