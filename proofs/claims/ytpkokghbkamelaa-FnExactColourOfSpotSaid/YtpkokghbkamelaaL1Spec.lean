/- Closed forms of the functions of this chapter. -/
import Derived.Test.YtpkokghbkamelaaL1Defs
namespace Go.Vi
def F_spec_l1In : FSpec := fun args m =>
 match args, m with
 | [.int .i64 n, .int .i64 lo, .int .i64 hi], [] => some (True, .bool (inB n lo hi))
 | _, _ => none
def F_impl_within : FSpec := fun args m =>
 match args, m with
 | [.int .i64 n, .int .i64 lo, .int .i64 hi], [] => some (True, .bool (inB n lo hi))
 | _, _ => none
def F_impl_digit : FSpec := fun args m =>
 match args, m with
 | [.int .u8 b], [] => some (0 <= b /\ b < 256, .int .i64 (b - 48))
 | _, _ => none
def F_spec_woRule : FSpec := fun args m =>
 match args, m with
 | [.str s], [] => some (True, .bool (ruleB s))
 | _, _ => none
def F_impl_IsRule : FSpec := fun args m =>
 match args, m with
 | [.str s], [] => some (True, .bool (ruleB s))
 | _, _ => none
def F_spec_woGood : FSpec := fun args m =>
 match args, m with
 | [.agg [.str wr, .int .i64 ww, .int .i64 wh, .str wc, .int .i64 wx, .int .i64 wy, .int .i64 wd]], [] => some (True, .bool (goodB ⟨wr, ww, wh, wc, wx, wy, wd⟩))
 | _, _ => none
def F_impl_areColours : FSpec := fun args m =>
 match args, m with
 | [.str s, .int .i64 n], [] => some (-1000 <= n /\ n <= 1000 /\ s.length <= 1000, .bool (colsB s n))
 | _, _ => none
def F_impl_IsWorld : FSpec := fun args m =>
 match args, m with
 | [.agg [.str wr, .int .i64 ww, .int .i64 wh, .str wc, .int .i64 wx, .int .i64 wy, .int .i64 wd]], [] => some (True, .bool (goodB ⟨wr, ww, wh, wc, wx, wy, wd⟩))
 | _, _ => none
def F_spec_woColour : FSpec := fun args m =>
 match args, m with
 | [.agg [.str wr, .int .i64 ww, .int .i64 wh, .str wc, .int .i64 wx, .int .i64 wy, .int .i64 wd], .int .i64 x, .int .i64 y], [] => some (goodB ⟨wr, ww, wh, wc, wx, wy, wd⟩ = true /\ hasB ⟨wr, ww, wh, wc, wx, wy, wd⟩ x y = true, .int .i64 (colAt ⟨wr, ww, wh, wc, wx, wy, wd⟩ x y))
 | _, _ => none
def F_impl_board_colour : FSpec := fun args m =>
 match args, m with
 | [.agg [.str wr, .int .i64 ww, .int .i64 wh, .str wc, .int .i64 wx, .int .i64 wy, .int .i64 wd], .int .i64 x, .int .i64 y], [] => some (goodB ⟨wr, ww, wh, wc, wx, wy, wd⟩ = true /\ hasB ⟨wr, ww, wh, wc, wx, wy, wd⟩ x y = true, .int .i64 (colAt ⟨wr, ww, wh, wc, wx, wy, wd⟩ x y))
 | _, _ => none
def F_laws_szWorld : FSpec := fun args m =>
 match args, m with
 | [.agg [.str wr, .int .i64 ww, .int .i64 wh, .str wc, .int .i64 wx, .int .i64 wy, .int .i64 wd], .int .i64 left], [] => some (0 <= left /\ left <= 1000000000 /\ (wr.length : Int) <= 9223372036854775807 /\ (wc.length : Int) <= 9223372036854775807, .int .i64 (szW ⟨wr, ww, wh, wc, wx, wy, wd⟩ left))
 | _, _ => none
def F_laws_eqWorld : FSpec := fun args m =>
 match args, m with
 | [.agg [.str ar, .int .i64 aw, .int .i64 ah, .str ac, .int .i64 ax, .int .i64 ay, .int .i64 ad], .agg [.str br, .int .i64 bw, .int .i64 bh, .str bc, .int .i64 bx, .int .i64 by_, .int .i64 bd]], [] => some (True, .bool (eqW ⟨ar, aw, ah, ac, ax, ay, ad⟩ ⟨br, bw, bh, bc, bx, by_, bd⟩))
 | _, _ => none
def F_spec_ColourAt : FSpec := fun args m =>
 match args, m with
 | [.agg [.str wr, .int .i64 ww, .int .i64 wh, .str wc, .int .i64 wx, .int .i64 wy, .int .i64 wd], .int .i64 x, .int .i64 y], [] => some (True, .tup [.int .i64 (bif goodB ⟨wr, ww, wh, wc, wx, wy, wd⟩ && hasB ⟨wr, ww, wh, wc, wx, wy, wd⟩ x y then colAt ⟨wr, ww, wh, wc, wx, wy, wd⟩ x y else 0), .bool (goodB ⟨wr, ww, wh, wc, wx, wy, wd⟩ && hasB ⟨wr, ww, wh, wc, wx, wy, wd⟩ x y)])
 | _, _ => none
def F_impl_ColourAt : FSpec := fun args m =>
 match args, m with
 | [.agg [.str wr, .int .i64 ww, .int .i64 wh, .str wc, .int .i64 wx, .int .i64 wy, .int .i64 wd], .int .i64 x, .int .i64 y], [] => some (True, .tup [.int .i64 (bif goodB ⟨wr, ww, wh, wc, wx, wy, wd⟩ && hasB ⟨wr, ww, wh, wc, wx, wy, wd⟩ x y then colAt ⟨wr, ww, wh, wc, wx, wy, wd⟩ x y else 0), .bool (goodB ⟨wr, ww, wh, wc, wx, wy, wd⟩ && hasB ⟨wr, ww, wh, wc, wx, wy, wd⟩ x y)])
 | _, _ => none
def F_spec_PlaceAnt : FSpec := fun args m =>
 match args, m with
 | [.agg [.str wr, .int .i64 ww, .int .i64 wh, .str wc, .int .i64 wx, .int .i64 wy, .int .i64 wd], .int .i64 x, .int .i64 y, .int .i64 d], [] => some (True, okV (goodB ⟨wr, ww, wh, wc, wx, wy, wd⟩ && hasB ⟨wr, ww, wh, wc, wx, wy, wd⟩ x y && inB d 0 3) { (⟨wr, ww, wh, wc, wx, wy, wd⟩ : Wd) with x := x, y := y, d := d })
 | _, _ => none
def F_impl_PlaceAnt : FSpec := fun args m =>
 match args, m with
 | [.agg [.str wr, .int .i64 ww, .int .i64 wh, .str wc, .int .i64 wx, .int .i64 wy, .int .i64 wd], .int .i64 x, .int .i64 y, .int .i64 d], [] => some (True, okV (goodB ⟨wr, ww, wh, wc, wx, wy, wd⟩ && hasB ⟨wr, ww, wh, wc, wx, wy, wd⟩ x y && inB d 0 3) { (⟨wr, ww, wh, wc, wx, wy, wd⟩ : Wd) with x := x, y := y, d := d })
 | _, _ => none
end Go.Vi
