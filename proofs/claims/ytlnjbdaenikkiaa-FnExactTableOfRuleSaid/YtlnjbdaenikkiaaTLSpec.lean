/- Closed forms of the functions of this chapter. -/
import Derived.Test.YtlnjbdaenikkiaaTLDefs
namespace Go.Vi
set_option linter.unusedVariables false
def F_impl_IsRule : FSpec := fun args m =>
  match args, m with
  | [.str s], [] => some (True, .bool (ruleB s))
  | _, _ => none
def F_spec_TableOfRule : GSpec := fun args m =>
  match args, m with
  | [.str s], [] => some (True, .tup [.agg [.int .i64 (bif rlB s then 1 else 0), .int .i64 (bif rlB s then s.length else 0), .row 0 (rlR s).length], .bool (rlB s)], [⟨.recs [.int .i64, .str, .int .i64] (flat3 (rlR s)), 31, .rows 3⟩])
  | _, _ => none
def F_impl_TableOfRule : GSpec := fun args m =>
  match args, m with
  | [.str s], [] => some (True, .tup [.agg [.int .i64 (bif rlB s then 1 else 0), .int .i64 (bif rlB s then s.length else 0), .row 0 (rlR s).length], .bool (rlB s)], [⟨.recs [.int .i64, .str, .int .i64] (flat3 (rlR s)), 31, .rows 3⟩])
  | _, _ => none
end Go.Vi
