/- Closed forms of the functions of this chapter. -/
import Derived.Test.YtbchncdchanomabB1Defs
namespace Go.Vi
set_option linter.unusedVariables false
def F_spec_woReverse : FSpec := fun args m =>
  match args, m with
  | [.str s], [] => some (s.length ≤ 1000, .str s.reverse)
  | _, _ => none
def F_impl_backwards : FSpec := fun args m =>
  match args, m with
  | [.str s], [] => some (s.length ≤ 1000, .str s.reverse)
  | _, _ => none
def F_spec_BackWorld : FSpec := fun args m =>
  match args, m with
  | [.agg [.str wr, .int .i64 ww, .int .i64 wh, .str wc, .int .i64 wx, .int .i64 wy, .int .i64 wd]], [] => some (True, okV (goodB ⟨wr, ww, wh, wc, wx, wy, wd⟩) (bkWd ⟨wr, ww, wh, wc, wx, wy, wd⟩))
  | _, _ => none
def F_impl_BackWorld : FSpec := fun args m =>
  match args, m with
  | [.agg [.str wr, .int .i64 ww, .int .i64 wh, .str wc, .int .i64 wx, .int .i64 wy, .int .i64 wd]], [] => some (True, okV (goodB ⟨wr, ww, wh, wc, wx, wy, wd⟩) (bkWd ⟨wr, ww, wh, wc, wx, wy, wd⟩))
  | _, _ => none
def F_spec_CountColours : GSpec := fun args m =>
  match args, m with
  | [.agg [.str wr, .int .i64 ww, .int .i64 wh, .str wc, .int .i64 wx, .int .i64 wy, .int .i64 wd]], [] => some (True, .tup [.row 0 (cntW ⟨wr, ww, wh, wc, wx, wy, wd⟩).length, .bool (goodB ⟨wr, ww, wh, wc, wx, wy, wd⟩)], [⟨.ints .i64 (cntW ⟨wr, ww, wh, wc, wx, wy, wd⟩), 3, .row⟩])
  | _, _ => none
def F_impl_CountColours : GSpec := fun args m =>
  match args, m with
  | [.agg [.str wr, .int .i64 ww, .int .i64 wh, .str wc, .int .i64 wx, .int .i64 wy, .int .i64 wd]], [] => some (True, .tup [.row 0 (cntW ⟨wr, ww, wh, wc, wx, wy, wd⟩).length, .bool (goodB ⟨wr, ww, wh, wc, wx, wy, wd⟩)], [⟨.ints .i64 (cntW ⟨wr, ww, wh, wc, wx, wy, wd⟩), 3, .row⟩])
  | _, _ => none
def F_laws_eqIntS : FSpec := fun args m =>
  match args, m with
  | [.row 0 n, .row 1 m], [⟨.ints .i64 a, 3, .row⟩, ⟨.ints .i64 b, 3, .row⟩] => some (n = a.length ∧ m = b.length ∧ n ≤ 1000 ∧ m ≤ 1000, .bool (a == b))
  | _, _ => none
def F_laws_markIntS : GSpec := fun args m =>
  match args, m with
  | [.row 0 n, .int .i64 k], [⟨.ints .i64 a, 3, .row⟩] => some (n = a.length ∧ n ≤ 1000 ∧ 0 ≤ k ∧ k ≤ 1000, .int .i64 (k + n), [⟨.ints .i64 (ramp k n), 3, .row⟩])
  | _, _ => none
def F_laws_heldIntS : FSpec := fun args m =>
  match args, m with
  | [.row 0 n, .int .i64 k], [⟨.ints .i64 a, 3, .row⟩] => some (n = a.length ∧ n ≤ 1000 ∧ 0 ≤ k ∧ k ≤ 1000, .int .i64 (bif a == ramp k n then k + n else -1))
  | _, _ => none
end Go.Vi
