/- Closed forms of the functions of this chapter. -/
import Derived.Test.YtccahaefpbkelaaDoorP1Defs
namespace Go.Vi
def F_spec_PaintCell : FSpec := fun args m =>
  match args, m with
  | [.agg [.str wr, .int .i64 ww, .int .i64 wh, .str wc, .int .i64 wx, .int .i64 wy, .int .i64 wd], .int .i64 x, .int .i64 y, .int .i64 k], [] => some (True, okV (paintB ⟨wr, ww, wh, wc, wx, wy, wd⟩ x y k) { (⟨wr, ww, wh, wc, wx, wy, wd⟩ : Wd) with c := paintC ⟨wr, ww, wh, wc, wx, wy, wd⟩ x y k })
  | _, _ => none
def F_impl_PaintCell : FSpec := fun args m =>
  match args, m with
  | [.agg [.str wr, .int .i64 ww, .int .i64 wh, .str wc, .int .i64 wx, .int .i64 wy, .int .i64 wd], .int .i64 x, .int .i64 y, .int .i64 k], [] => some (True, okV (paintB ⟨wr, ww, wh, wc, wx, wy, wd⟩ x y k) { (⟨wr, ww, wh, wc, wx, wy, wd⟩ : Wd) with c := paintC ⟨wr, ww, wh, wc, wx, wy, wd⟩ x y k })
  | _, _ => none
end Go.Vi
