/- Closed forms of the functions of this chapter. -/
import Derived.Test.YtccahaefpbkelaaE1Defs
namespace Go.Vi
def F_strings_Repeat : FSpec := fun args m =>
  match args, m with
  | [.str s, .int .i64 n], [] => some (0 ≤ n ∧ n ≤ 9223372036854775807 ∧ s.length * n.toNat ≤ 140737488355328, .str (Go.Lib.repeatL s n.toNat))
  | _, _ => none
def F_spec_woZeros : FSpec := fun args m =>
  match args, m with
  | [.int .i64 n], [] => some (0 ≤ n ∧ n ≤ 1000, .str (List.replicate n.toNat 48))
  | _, _ => none
def F_spec_EmptyWorld : FSpec := fun args m =>
  match args, m with
  | [.str r, .int .i64 w, .int .i64 h], [] => some (True, okV (emptyB r w h) ⟨r, w, h, List.replicate (w * h).toNat 48, 0, 0, 0⟩)
  | _, _ => none
def F_impl_EmptyWorld : FSpec := fun args m =>
  match args, m with
  | [.str r, .int .i64 w, .int .i64 h], [] => some (True, okV (emptyB r w h) ⟨r, w, h, List.replicate (w * h).toNat 48, 0, 0, 0⟩)
  | _, _ => none
end Go.Vi
