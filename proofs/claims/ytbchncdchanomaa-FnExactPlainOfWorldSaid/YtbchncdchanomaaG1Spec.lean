/- Closed forms of the functions of this chapter. -/
import Derived.Test.YtbchncdchanomaaG1Defs
namespace Go.Vi
set_option linter.unusedVariables false
def F_spec_PlainOfWorld : GSpec := fun args m =>
  match args, m with
  | [.agg [.str wr, .int .i64 ww, .int .i64 wh, .str wc, .int .i64 wx, .int .i64 wy, .int .i64 wd]], [] => some (True, .tup [.agg [.str (bif goodB ⟨wr, ww, wh, wc, wx, wy, wd⟩ then wr else []), .row 0 (bif goodB ⟨wr, ww, wh, wc, wx, wy, wd⟩ then cntS ⟨wr, ww, wh, wc, wx, wy, wd⟩ (ww * wh).toNat else 0), .int .i64 (bif goodB ⟨wr, ww, wh, wc, wx, wy, wd⟩ then wx else 0), .int .i64 (bif goodB ⟨wr, ww, wh, wc, wx, wy, wd⟩ then wy else 0), .int .i64 (bif goodB ⟨wr, ww, wh, wc, wx, wy, wd⟩ then wd else 0)], .bool (goodB ⟨wr, ww, wh, wc, wx, wy, wd⟩)], [⟨.ints .i64 (bif goodB ⟨wr, ww, wh, wc, wx, wy, wd⟩ then spF ⟨wr, ww, wh, wc, wx, wy, wd⟩ (ww * wh).toNat else nilI), 61, .rows 3⟩])
  | _, _ => none
def F_impl_PlainOfWorld : GSpec := fun args m =>
  match args, m with
  | [.agg [.str wr, .int .i64 ww, .int .i64 wh, .str wc, .int .i64 wx, .int .i64 wy, .int .i64 wd]], [] => some (True, .tup [.agg [.str (bif goodB ⟨wr, ww, wh, wc, wx, wy, wd⟩ then wr else []), .row 0 (bif goodB ⟨wr, ww, wh, wc, wx, wy, wd⟩ then cntS ⟨wr, ww, wh, wc, wx, wy, wd⟩ (ww * wh).toNat else 0), .int .i64 (bif goodB ⟨wr, ww, wh, wc, wx, wy, wd⟩ then wx else 0), .int .i64 (bif goodB ⟨wr, ww, wh, wc, wx, wy, wd⟩ then wy else 0), .int .i64 (bif goodB ⟨wr, ww, wh, wc, wx, wy, wd⟩ then wd else 0)], .bool (goodB ⟨wr, ww, wh, wc, wx, wy, wd⟩)], [⟨.ints .i64 (bif goodB ⟨wr, ww, wh, wc, wx, wy, wd⟩ then spF ⟨wr, ww, wh, wc, wx, wy, wd⟩ (ww * wh).toNat else nilI), 61, .rows 3⟩])
  | _, _ => none
end Go.Vi
