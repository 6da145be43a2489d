/- Closed forms of the functions of this chapter. -/
import Derived.Test.YtbdhilflnfllaabPBDefs
namespace Go.Vi
set_option linter.unusedVariables false
def F_spec_CountBoards : FSpec := fun args m =>
  match args, m with
  | [.str s, .int .i64 w, .int .i64 h], [] => some (True, .tup [.int .i64 (cntB s w h), .bool (sizeB s w h)])
  | _, _ => none
def F_spec_AddClue : GSpec := fun args m =>
  match args, m with
  | [.agg [.str pr, .int .i64 pw, .int .i64 ph, .row 0 n], .agg [.int .i64 cx, .int .i64 cy, .int .i64 ck]], [⟨.ints .i64 a, 37, .rows 3⟩] => some (a.length = n * 3 ∧ n ≤ 2000000, .tup [.agg [.str (bif okA (goodZ pr pw ph n a) n pr pw ph cx cy ck then pr else []), .int .i64 (bif okA (goodZ pr pw ph n a) n pr pw ph cx cy ck then pw else 0), .int .i64 (bif okA (goodZ pr pw ph n a) n pr pw ph cx cy ck then ph else 0), .row 1 (bif okA (goodZ pr pw ph n a) n pr pw ph cx cy ck then n + 1 else 0)], .bool (okA (goodZ pr pw ph n a) n pr pw ph cx cy ck)], [⟨.ints .i64 a, 37, .rows 3⟩, ⟨.ints .i64 (bif okA (goodZ pr pw ph n a) n pr pw ph cx cy ck then a ++ [cx, cy, ck] else []), 37, .rows 3⟩])
  | _, _ => none
def F_impl_AddClue : GSpec := fun args m =>
  match args, m with
  | [.agg [.str pr, .int .i64 pw, .int .i64 ph, .row 0 n], .agg [.int .i64 cx, .int .i64 cy, .int .i64 ck]], [⟨.ints .i64 a, 37, .rows 3⟩] => some (a.length = n * 3 ∧ n ≤ 2000000, .tup [.agg [.str (bif okA (goodZ pr pw ph n a) n pr pw ph cx cy ck then pr else []), .int .i64 (bif okA (goodZ pr pw ph n a) n pr pw ph cx cy ck then pw else 0), .int .i64 (bif okA (goodZ pr pw ph n a) n pr pw ph cx cy ck then ph else 0), .row 1 (bif okA (goodZ pr pw ph n a) n pr pw ph cx cy ck then n + 1 else 0)], .bool (okA (goodZ pr pw ph n a) n pr pw ph cx cy ck)], [⟨.ints .i64 a, 37, .rows 3⟩, ⟨.ints .i64 (bif okA (goodZ pr pw ph n a) n pr pw ph cx cy ck then a ++ [cx, cy, ck] else []), 37, .rows 3⟩])
  | _, _ => none
end Go.Vi
