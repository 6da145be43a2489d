/- Closed forms of the functions of this chapter. -/
import Derived.Test.YtbchncdchanomabDoorT1Defs
namespace Go.Vi
def F_spec_TurnsAfter : FSpec := fun args m =>
  match args, m with
  | [.agg [.str wr, .int .i64 ww, .int .i64 wh, .str wc, .int .i64 wx, .int .i64 wy, .int .i64 wd], .int .i64 steps], [] => some (True, .tup [.str (bif goodB ⟨wr, ww, wh, wc, wx, wy, wd⟩ && inB steps 0 3000 then turnsW steps.toNat ⟨wr, ww, wh, wc, wx, wy, wd⟩ else []), .bool (goodB ⟨wr, ww, wh, wc, wx, wy, wd⟩ && inB steps 0 3000)])
  | _, _ => none
def F_impl_TurnsAfter : FSpec := fun args m =>
  match args, m with
  | [.agg [.str wr, .int .i64 ww, .int .i64 wh, .str wc, .int .i64 wx, .int .i64 wy, .int .i64 wd], .int .i64 steps], [] => some (True, .tup [.str (bif goodB ⟨wr, ww, wh, wc, wx, wy, wd⟩ && inB steps 0 3000 then turnsW steps.toNat ⟨wr, ww, wh, wc, wx, wy, wd⟩ else []), .bool (goodB ⟨wr, ww, wh, wc, wx, wy, wd⟩ && inB steps 0 3000)])
  | _, _ => none
end Go.Vi
