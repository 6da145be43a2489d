/- Closed forms of the functions of this chapter. -/
import Derived.Test.YtopolpgligoldabTCDefs
namespace Go.Vi
set_option linter.unusedVariables false
def F_spec_l1In : FSpec := fun args m =>
  match args, m with
  | [.int .i64 n, .int .i64 lo, .int .i64 hi], [] => some (True, .bool (inB n lo hi))
  | _, _ => none
def F_impl_within : FSpec := fun args m =>
  match args, m with
  | [.int .i64 n, .int .i64 lo, .int .i64 hi], [] => some (True, .bool (inB n lo hi))
  | _, _ => none
def F_spec_taRows : FSpec := fun args m =>
  match args, m with
  | [.int .i64 states, .int .i64 tints], [] => some (True, .bool (cntB states tints))
  | _, _ => none
def F_spec_taPower : FSpec := fun args m =>
  match args, m with
  | [.int .i64 n, .int .i64 by_], [] => some (0 ≤ n ∧ n ≤ 16 ∧ 0 ≤ by_ ∧ by_ ≤ 4, .int .i64 (n ^ by_.toNat))
  | _, _ => none
def F_impl_isTableSize : FSpec := fun args m =>
  match args, m with
  | [.int .i64 states, .int .i64 tints], [] => some (True, .bool (inB states 1 4 && inB tints 1 4))
  | _, _ => none
def F_impl_isCounted : FSpec := fun args m =>
  match args, m with
  | [.int .i64 states, .int .i64 tints], [] => some (True, .bool (cntB states tints))
  | _, _ => none
def F_spec_CountTables : FSpec := fun args m =>
  match args, m with
  | [.int .i64 states, .int .i64 tints], [] => some (True, .tup [.int .i64 (ctF states tints), .bool (cntB states tints)])
  | _, _ => none
def F_impl_CountTables : FSpec := fun args m =>
  match args, m with
  | [.int .i64 states, .int .i64 tints], [] => some (True, .tup [.int .i64 (ctF states tints), .bool (cntB states tints)])
  | _, _ => none
def F_spec_CountUndoable : FSpec := fun args m =>
  match args, m with
  | [.int .i64 states, .int .i64 tints], [] => some (True, .tup [.int .i64 (cuF states tints), .bool (cntB states tints)])
  | _, _ => none
def F_impl_CountUndoable : FSpec := fun args m =>
  match args, m with
  | [.int .i64 states, .int .i64 tints], [] => some (True, .tup [.int .i64 (cuF states tints), .bool (cntB states tints)])
  | _, _ => none
end Go.Vi
