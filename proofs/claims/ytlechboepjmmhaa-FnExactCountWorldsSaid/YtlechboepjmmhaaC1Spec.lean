/- Closed forms of the functions of this chapter. -/
import Derived.Test.YtlechboepjmmhaaC1Defs
namespace Go.Vi
set_option linter.unusedVariables false
def F_spec_ColourSum : FSpec := fun args m =>
  match args, m with
  | [.agg [.str wr, .int .i64 ww, .int .i64 wh, .str wc, .int .i64 wx, .int .i64 wy, .int .i64 wd]], [] => some (True, .tup [.int .i64 (bif goodB ⟨wr, ww, wh, wc, wx, wy, wd⟩ then sumC wc % wr.length else 0), .bool (goodB ⟨wr, ww, wh, wc, wx, wy, wd⟩)])
  | _, _ => none
def F_impl_ColourSum : FSpec := fun args m =>
  match args, m with
  | [.agg [.str wr, .int .i64 ww, .int .i64 wh, .str wc, .int .i64 wx, .int .i64 wy, .int .i64 wd]], [] => some (True, .tup [.int .i64 (bif goodB ⟨wr, ww, wh, wc, wx, wy, wd⟩ then sumC wc % wr.length else 0), .bool (goodB ⟨wr, ww, wh, wc, wx, wy, wd⟩)])
  | _, _ => none
def F_spec_loMany : FSpec := fun args m =>
  match args, m with
  | [.str s, .int .i64 w, .int .i64 h], [] => some ((ruleB s && inB w 1 9 && inB h 1 9) = true, .int .i64 (manyW s w h))
  | _, _ => none
def F_spec_loAsked : FSpec := fun args m =>
  match args, m with
  | [.str s, .int .i64 w, .int .i64 h], [] => some (True, .bool (asked s w h))
  | _, _ => none
def F_spec_CountWorlds : FSpec := fun args m =>
  match args, m with
  | [.str s, .int .i64 w, .int .i64 h], [] => some (True, .tup [.int .i64 (bif asked s w h then manyW s w h else 0), .bool (asked s w h)])
  | _, _ => none
def F_impl_CountWorlds : FSpec := fun args m =>
  match args, m with
  | [.str s, .int .i64 w, .int .i64 h], [] => some (True, .tup [.int .i64 (bif asked s w h then manyW s w h else 0), .bool (asked s w h)])
  | _, _ => none
end Go.Vi
