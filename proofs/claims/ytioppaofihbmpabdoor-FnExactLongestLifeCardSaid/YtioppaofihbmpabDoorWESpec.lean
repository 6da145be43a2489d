/- Closed forms of the functions of this chapter. -/
import Derived.Test.YtioppaofihbmpabDoorWEDefs
namespace Go.Vi
set_option linter.unusedVariables false
def F_spec_OddNodes : GSpec := fun args m =>
  match args, m with
  | [.agg [.int .i64 mw, .int .i64 mh, .str mr, .str mn, .int .i64 mx, .int .i64 my, .int .i64 md]], [] => some (True, .tup [.row 0 (odR ⟨mw, mh, mr, mn, mx, my, md⟩).length, .bool (womB ⟨mw, mh, mr, mn, mx, my, md⟩)], [⟨.ints .i64 (odR ⟨mw, mh, mr, mn, mx, my, md⟩), 3, .row⟩])
  | _, _ => none
def F_impl_OddNodes : GSpec := fun args m =>
  match args, m with
  | [.agg [.int .i64 mw, .int .i64 mh, .str mr, .str mn, .int .i64 mx, .int .i64 my, .int .i64 md]], [] => some (True, .tup [.row 0 (odR ⟨mw, mh, mr, mn, mx, my, md⟩).length, .bool (womB ⟨mw, mh, mr, mn, mx, my, md⟩)], [⟨.ints .i64 (odR ⟨mw, mh, mr, mn, mx, my, md⟩), 3, .row⟩])
  | _, _ => none
def F_spec_LongestLife : GSpec := fun args m =>
  match args, m with
  | [.agg [.int .i64 mw, .int .i64 mh, .str mr, .str mn, .int .i64 mx, .int .i64 my, .int .i64 md]], [] => some (True, .tup [.row 0 (llR ⟨mw, mh, mr, mn, mx, my, md⟩).length, .int .i64 (llN ⟨mw, mh, mr, mn, mx, my, md⟩), .bool (womB ⟨mw, mh, mr, mn, mx, my, md⟩)], [⟨.strs (llR ⟨mw, mh, mr, mn, mx, my, md⟩), 9, .row⟩])
  | _, _ => none
def F_impl_LongestLife : GSpec := fun args m =>
  match args, m with
  | [.agg [.int .i64 mw, .int .i64 mh, .str mr, .str mn, .int .i64 mx, .int .i64 my, .int .i64 md]], [⟨.vals [.str g0, .str g1, .str g2, .str g3, .str g4, .str g5], 9, .gl 0⟩] => some (isTs g0 g1 g2 g3 g4 g5, .tup [.row 1 (llR ⟨mw, mh, mr, mn, mx, my, md⟩).length, .int .i64 (llN ⟨mw, mh, mr, mn, mx, my, md⟩), .bool (womB ⟨mw, mh, mr, mn, mx, my, md⟩)], [⟨.vals [.str g0, .str g1, .str g2, .str g3, .str g4, .str g5], 9, .gl 0⟩, ⟨.strs (llR ⟨mw, mh, mr, mn, mx, my, md⟩), 9, .row⟩])
  | _, _ => none
end Go.Vi
