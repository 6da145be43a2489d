/- Closed forms of the functions of this chapter. -/
import Derived.Test.YtioppaofihbmpabDoorW1Defs
namespace Go.Vi
def F_spec_l1Num : FSpec := fun args m =>
  match args, m with
  | [.int .i64 n], [] => some (0 ≤ n ∧ n ≤ 9, .str (num1 n))
  | _, _ => none
def F_strconv_FormatInt : FSpec := fun args m =>
  match args, m with
  | [.int .i64 n, .int .i64 b], [] => some (b = 10 ∧ 0 ≤ n ∧ n ≤ 9, .str (num1 n))
  | _, _ => none
def F_strconv_Itoa : FSpec := fun args m =>
  match args, m with
  | [.int .i64 n], [] => some (0 ≤ n ∧ n ≤ 9, .str (num1 n))
  | _, _ => none
def F_spec_woText : FSpec := fun args m =>
  match args, m with
  | [.agg [.str wr, .int .i64 ww, .int .i64 wh, .str wc, .int .i64 wx, .int .i64 wy, .int .i64 wd]], [] => some (goodB ⟨wr, ww, wh, wc, wx, wy, wd⟩ = true, .str (textW ⟨wr, ww, wh, wc, wx, wy, wd⟩))
  | _, _ => none
def F_spec_WorldText : FSpec := fun args m =>
  match args, m with
  | [.agg [.str wr, .int .i64 ww, .int .i64 wh, .str wc, .int .i64 wx, .int .i64 wy, .int .i64 wd]], [] => some (True, .tup [.str (bif goodB ⟨wr, ww, wh, wc, wx, wy, wd⟩ then textW ⟨wr, ww, wh, wc, wx, wy, wd⟩ else []), .bool (goodB ⟨wr, ww, wh, wc, wx, wy, wd⟩)])
  | _, _ => none
def F_impl_WorldText : FSpec := fun args m =>
  match args, m with
  | [.agg [.str wr, .int .i64 ww, .int .i64 wh, .str wc, .int .i64 wx, .int .i64 wy, .int .i64 wd]], [] => some (True, .tup [.str (bif goodB ⟨wr, ww, wh, wc, wx, wy, wd⟩ then textW ⟨wr, ww, wh, wc, wx, wy, wd⟩ else []), .bool (goodB ⟨wr, ww, wh, wc, wx, wy, wd⟩)])
  | _, _ => none
end Go.Vi
