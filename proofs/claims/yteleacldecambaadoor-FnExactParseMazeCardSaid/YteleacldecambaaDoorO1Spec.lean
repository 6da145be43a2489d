/- Closed forms of the functions of this chapter. -/
import Derived.Test.YteleacldecambaaDoorO1Defs
namespace Go.Vi
set_option linter.unusedVariables false
def F_spec_miText : FSpec := fun args m =>
  match args, m with
  | [.agg [.int .i64 mw, .int .i64 mh, .str mc, .bool mu]], [] => some (mzB ⟨mw, mh, mc, mu⟩ = true, .str (textM ⟨mw, mh, mc, mu⟩))
  | _, _ => none
def F_spec_MazeText : FSpec := fun args m =>
  match args, m with
  | [.agg [.int .i64 mw, .int .i64 mh, .str mc, .bool mu]], [] => some (True, .tup [.str (bif mzB ⟨mw, mh, mc, mu⟩ then textM ⟨mw, mh, mc, mu⟩ else []), .bool (mzB ⟨mw, mh, mc, mu⟩)])
  | _, _ => none
def F_impl_MazeText : FSpec := fun args m =>
  match args, m with
  | [.agg [.int .i64 mw, .int .i64 mh, .str mc, .bool mu]], [] => some (True, .tup [.str (bif mzB ⟨mw, mh, mc, mu⟩ then textM ⟨mw, mh, mc, mu⟩ else []), .bool (mzB ⟨mw, mh, mc, mu⟩)])
  | _, _ => none
end Go.Vi
