/- Closed forms of the functions of this chapter. -/
import Derived.Test.YtbdhilflnfllaabCSDefs
namespace Go.Vi
set_option linter.unusedVariables false
def F_impl_sumOf : FSpec := fun args m =>
  match args, m with
  | [.str s], [] => some (s.length ≤ 1000, .int .i64 (sumC s))
  | _, _ => none
def F_spec_ColourSum : FSpec := fun args m =>
  match args, m with
  | [.agg [.str wr, .int .i64 ww, .int .i64 wh, .str wc, .int .i64 wx, .int .i64 wy, .int .i64 wd]], [] => some (True, .tup [.int .i64 (bif goodB ⟨wr, ww, wh, wc, wx, wy, wd⟩ then sumC wc % wr.length else 0), .bool (goodB ⟨wr, ww, wh, wc, wx, wy, wd⟩)])
  | _, _ => none
def F_impl_ColourSum : FSpec := fun args m =>
  match args, m with
  | [.agg [.str wr, .int .i64 ww, .int .i64 wh, .str wc, .int .i64 wx, .int .i64 wy, .int .i64 wd]], [] => some (True, .tup [.int .i64 (bif goodB ⟨wr, ww, wh, wc, wx, wy, wd⟩ then sumC wc % wr.length else 0), .bool (goodB ⟨wr, ww, wh, wc, wx, wy, wd⟩)])
  | _, _ => none
end Go.Vi
