/- Closed forms of the functions of this chapter. -/
import Derived.Test.YtdeppknmibhokabFADefs
namespace Go.Vi
set_option linter.unusedVariables false
def F_spec_l1In : FSpec := fun args m =>
  match args, m with
  | [.int .i64 n, .int .i64 lo, .int .i64 hi], [] => some (True, .bool (inB n lo hi))
  | _, _ => none
def F_impl_within : FSpec := fun args m =>
  match args, m with
  | [.int .i64 n, .int .i64 lo, .int .i64 hi], [] => some (True, .bool (inB n lo hi))
  | _, _ => none
def F_spec_l1Least : FSpec := fun args m =>
  match args, m with
  | [.int .i64 a, .int .i64 b], [] => some (True, .int .i64 (min a b))
  | _, _ => none
def F_spec_l1Most : FSpec := fun args m =>
  match args, m with
  | [.int .i64 a, .int .i64 b], [] => some (True, .int .i64 (max a b))
  | _, _ => none
def F_spec_roFill : FSpec := fun args m =>
  match args, m with
  | [.int .i64 walkers], [] => some (1 ≤ walkers ∧ walkers ≤ 40, .tup [.int .i64 (fLo walkers), .int .i64 (fHi walkers), .int .i64 (fSt walkers)])
  | _, _ => none
def F_impl_filledBy : FSpec := fun args m =>
  match args, m with
  | [.int .i64 walkers], [] => some (True, .tup [.agg [.int .i64 (bif inB walkers 1 40 then fLo walkers else 0), .int .i64 (bif inB walkers 1 40 then fHi walkers else 0), .int .i64 (bif inB walkers 1 40 then fSt walkers else 0)], .bool (inB walkers 1 40)])
  | _, _ => none
def F_spec_FillLine : FSpec := fun args m =>
  match args, m with
  | [.int .i64 walkers], [] => some (True, .tup [.int .i64 (bif inB walkers 1 40 then fLo walkers else 0), .int .i64 (bif inB walkers 1 40 then fHi walkers else 0), .bool (inB walkers 1 40)])
  | _, _ => none
def F_spec_FillSteps : FSpec := fun args m =>
  match args, m with
  | [.int .i64 walkers], [] => some (True, .tup [.int .i64 (bif inB walkers 1 40 then fSt walkers else 0), .bool (inB walkers 1 40)])
  | _, _ => none
def F_impl_FillLine : FSpec := fun args m =>
  match args, m with
  | [.int .i64 walkers], [] => some (True, .tup [.int .i64 (bif inB walkers 1 40 then fLo walkers else 0), .int .i64 (bif inB walkers 1 40 then fHi walkers else 0), .bool (inB walkers 1 40)])
  | _, _ => none
def F_impl_FillSteps : FSpec := fun args m =>
  match args, m with
  | [.int .i64 walkers], [] => some (True, .tup [.int .i64 (bif inB walkers 1 40 then fSt walkers else 0), .bool (inB walkers 1 40)])
  | _, _ => none
end Go.Vi
