/- Closed forms of the functions of this chapter. -/
import Derived.Test.YtioppaofihbmpabDoorWADefs
namespace Go.Vi
set_option linter.unusedVariables false
def F_spec_l1In : FSpec := fun args m =>
  match args, m with
  | [.int .i64 n, .int .i64 lo, .int .i64 hi], [] => some (True, .bool (inB n lo hi))
  | _, _ => none
def F_impl_within : FSpec := fun args m =>
  match args, m with
  | [.int .i64 n, .int .i64 lo, .int .i64 hi], [] => some (True, .bool (inB n lo hi))
  | _, _ => none
def F_spec_wmGood : FSpec := fun args m =>
  match args, m with
  | [.agg [.int .i64 mw, .int .i64 mh, .str mr, .str mn, .int .i64 mx, .int .i64 my, .int .i64 md]], [] => some (True, .bool (womB ⟨mw, mh, mr, mn, mx, my, md⟩))
  | _, _ => none
def F_strings_Trim : FSpec := fun args m =>
  match args, m with
  | [.str s, .str q], [] => some (q = [48, 49] ∧ (s.length : Int) ≤ 9223372036854775807, .str (Go.Lib.trimS s q))
  | _, _ => none
def F_impl_isGrid : FSpec := fun args m =>
  match args, m with
  | [.int .i64 a, .int .i64 b], [] => some (True, .bool (inB a 3 6 && inB b 3 6))
  | _, _ => none
def F_impl_hasNode : FSpec := fun args m =>
  match args, m with
  | [.agg [.int .i64 mw, .int .i64 mh, .str mr, .str mn, .int .i64 mx, .int .i64 my, .int .i64 md], .int .i64 x, .int .i64 y], [] => some (inB mw 3 6 = true ∧ inB mh 3 6 = true, .bool (inB x 0 (mw - 1) && inB y 0 (mh - 1)))
  | _, _ => none
def F_impl_isWay : FSpec := fun args m =>
  match args, m with
  | [.int .i64 d], [] => some (True, .bool (inB d 0 3))
  | _, _ => none
def F_impl_areLines : FSpec := fun args m =>
  match args, m with
  | [.str s, .int .i64 n], [] => some (n ≤ 1000, .bool (((s.length : Int) == n) && binB s))
  | _, _ => none
def F_impl_IsWorm : FSpec := fun args m =>
  match args, m with
  | [.agg [.int .i64 mw, .int .i64 mh, .str mr, .str mn, .int .i64 mx, .int .i64 my, .int .i64 md]], [] => some (True, .bool (womB ⟨mw, mh, mr, mn, mx, my, md⟩))
  | _, _ => none
def F_laws_szWorm : FSpec := fun args m =>
  match args, m with
  | [.agg [.int .i64 mw, .int .i64 mh, .str mr, .str mn, .int .i64 mx, .int .i64 my, .int .i64 md], .int .i64 left], [] => some (0 ≤ left ∧ left ≤ 1000000000 ∧ (mr.length : Int) ≤ 9223372036854775807 ∧ (mn.length : Int) ≤ 9223372036854775807, .int .i64 (szWo mr mn left))
  | _, _ => none
def F_laws_toWorm : FSpec := fun args m =>
  match args, m with
  | [.agg [.int .i64 mw, .int .i64 mh, .str mr, .str mn, .int .i64 mx, .int .i64 my, .int .i64 md]], [] => some (True, woV ⟨mw, mh, mr, mn, mx, my, md⟩)
  | _, _ => none
def F_laws_eqWorm : FSpec := fun args m =>
  match args, m with
  | [.agg [.int .i64 aw, .int .i64 ah, .str ar, .str an, .int .i64 ax, .int .i64 ay, .int .i64 ad], .agg [.int .i64 bw, .int .i64 bh, .str br, .str bn, .int .i64 bx, .int .i64 by_, .int .i64 bd]], [] => some (True, .bool (eqWo ⟨aw, ah, ar, an, ax, ay, ad⟩ ⟨bw, bh, br, bn, bx, by_, bd⟩))
  | _, _ => none
def F_spec_wmTastes : GSpec := fun args m =>
  match args, m with
  | [], [] => some (True, .row 0 6, [⟨.strs tastes, 9, .row⟩])
  | _, _ => none
def F_spec_wmTaste : FSpec := fun args m =>
  match args, m with
  | [.str t], [] => some (True, .bool (tasB t))
  | _, _ => none
def F_impl_IsTaste : FSpec := fun args m =>
  match args, m with
  | [.str t], [⟨.vals [.str g0, .str g1, .str g2, .str g3, .str g4, .str g5], 9, .gl 0⟩] => some (isTs g0 g1 g2 g3 g4 g5, .bool (tasB t))
  | _, _ => none
def F_spec_wmCount : FSpec := fun args m =>
  match args, m with
  | [.str s], [] => some (s.length ≤ 1000, .int .i64 (cntB 49 s))
  | _, _ => none
def F_strings_Count : FSpec := fun args m =>
  match args, m with
  | [.str s, .str q], [] => some (q.length = 1, .int .i64 (cntB (q.getD 0 0) s))
  | _, _ => none
end Go.Vi
