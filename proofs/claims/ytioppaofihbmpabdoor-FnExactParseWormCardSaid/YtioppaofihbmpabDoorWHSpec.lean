/- Closed forms of the functions of this chapter. -/
import Derived.Test.YtioppaofihbmpabDoorWHDefs
namespace Go.Vi
set_option linter.unusedVariables false
def F_spec_wmGood : FSpec := fun args m =>
  match args, m with
  | [.agg [.int .i64 mw, .int .i64 mh, .str mr, .str mn, .int .i64 mx, .int .i64 my, .int .i64 md]], [] => some (True, .bool (womB ⟨mw, mh, mr, mn, mx, my, md⟩))
  | _, _ => none
def F_strings_Trim : FSpec := fun args m =>
  match args, m with
  | [.str s, .str q], [] => some (q = [48, 49] ∧ (s.length : Int) ≤ 9223372036854775807, .str (Go.Lib.trimS s q))
  | _, _ => none
def F_impl_isGrid : FSpec := fun args m =>
  match args, m with
  | [.int .i64 a, .int .i64 b], [] => some (True, .bool (inB a 3 6 && inB b 3 6))
  | _, _ => none
def F_impl_hasNode : FSpec := fun args m =>
  match args, m with
  | [.agg [.int .i64 mw, .int .i64 mh, .str mr, .str mn, .int .i64 mx, .int .i64 my, .int .i64 md], .int .i64 x, .int .i64 y], [] => some (inB mw 3 6 = true ∧ inB mh 3 6 = true, .bool (inB x 0 (mw - 1) && inB y 0 (mh - 1)))
  | _, _ => none
def F_impl_isWay : FSpec := fun args m =>
  match args, m with
  | [.int .i64 d], [] => some (True, .bool (inB d 0 3))
  | _, _ => none
def F_impl_areLines : FSpec := fun args m =>
  match args, m with
  | [.str s, .int .i64 n], [] => some (n ≤ 1000, .bool (((s.length : Int) == n) && binB s))
  | _, _ => none
def F_impl_IsWorm : FSpec := fun args m =>
  match args, m with
  | [.agg [.int .i64 mw, .int .i64 mh, .str mr, .str mn, .int .i64 mx, .int .i64 my, .int .i64 md]], [] => some (True, .bool (womB ⟨mw, mh, mr, mn, mx, my, md⟩))
  | _, _ => none
def F_laws_szWorm : FSpec := fun args m =>
  match args, m with
  | [.agg [.int .i64 mw, .int .i64 mh, .str mr, .str mn, .int .i64 mx, .int .i64 my, .int .i64 md], .int .i64 left], [] => some (0 ≤ left ∧ left ≤ 1000000000 ∧ (mr.length : Int) ≤ 9223372036854775807 ∧ (mn.length : Int) ≤ 9223372036854775807, .int .i64 (szWo mr mn left))
  | _, _ => none
def F_laws_toWorm : FSpec := fun args m =>
  match args, m with
  | [.agg [.int .i64 mw, .int .i64 mh, .str mr, .str mn, .int .i64 mx, .int .i64 my, .int .i64 md]], [] => some (True, woV ⟨mw, mh, mr, mn, mx, my, md⟩)
  | _, _ => none
def F_laws_eqWorm : FSpec := fun args m =>
  match args, m with
  | [.agg [.int .i64 aw, .int .i64 ah, .str ar, .str an, .int .i64 ax, .int .i64 ay, .int .i64 ad], .agg [.int .i64 bw, .int .i64 bh, .str br, .str bn, .int .i64 bx, .int .i64 by_, .int .i64 bd]], [] => some (True, .bool (eqWo ⟨aw, ah, ar, an, ax, ay, ad⟩ ⟨bw, bh, br, bn, bx, by_, bd⟩))
  | _, _ => none
def F_spec_wmText : FSpec := fun args m =>
  match args, m with
  | [.agg [.int .i64 mw, .int .i64 mh, .str mr, .str mn, .int .i64 mx, .int .i64 my, .int .i64 md]], [] => some (womB ⟨mw, mh, mr, mn, mx, my, md⟩ = true, .str (textM ⟨mw, mh, mr, mn, mx, my, md⟩))
  | _, _ => none
def F_spec_WormText : FSpec := fun args m =>
  match args, m with
  | [.agg [.int .i64 mw, .int .i64 mh, .str mr, .str mn, .int .i64 mx, .int .i64 my, .int .i64 md]], [] => some (True, .tup [.str (bif womB ⟨mw, mh, mr, mn, mx, my, md⟩ then textM ⟨mw, mh, mr, mn, mx, my, md⟩ else []), .bool (womB ⟨mw, mh, mr, mn, mx, my, md⟩)])
  | _, _ => none
def F_impl_WormText : FSpec := fun args m =>
  match args, m with
  | [.agg [.int .i64 mw, .int .i64 mh, .str mr, .str mn, .int .i64 mx, .int .i64 my, .int .i64 md]], [] => some (True, .tup [.str (bif womB ⟨mw, mh, mr, mn, mx, my, md⟩ then textM ⟨mw, mh, mr, mn, mx, my, md⟩ else []), .bool (womB ⟨mw, mh, mr, mn, mx, my, md⟩)])
  | _, _ => none
def F_strings_genSplit : GSpec := fun args m =>
  match args, m with
  | [.str s, .str t, .int .i64 v, .int .i64 n], [] => some (t = [58] ∧ v = 0 ∧ n = 5 ∧ s.length ≤ 1048576, .row 0 (spN s).length, [⟨.strs (spN s), 9, .row⟩])
  | _, _ => none
def F_spec_ParseWorm : FSpec := fun args m =>
  match args, m with
  | [.str s], [] => some (s.length ≤ 1048576, okWo (okT s) (parT s))
  | _, _ => none
def F_impl_ParseWorm : FSpec := fun args m =>
  match args, m with
  | [.str s], [] => some (s.length ≤ 1048576, okWo (okT s) (parT s))
  | _, _ => none
end Go.Vi
