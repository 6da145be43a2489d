/- Closed forms of the functions of this chapter. -/
import Derived.Test.YtioppaofihbmpabDoorWPDefs
namespace Go.Vi
set_option linter.unusedVariables false
def F_impl_crawler_reach (mm : Nat) : GSpec := fun args m =>
  match args, m with
  | [.agg [.str cr, .int .i64 cw, .int .i64 ch, .str cc, .int .i64 cx, .int .i64 cy, .int .i64 cd, .str cl], .int .i64 k, .row 0 n], [⟨.bools l, 4, .row⟩] => some (offs l < mm ∧ crB (⟨cr, cw, ch, cc, cx, cy, cd, cl⟩ : Cr) = true ∧ (l.length : Int) = cw * ch ∧ n = l.length ∧ 0 ≤ k ∧ k < cw * ch, .tup [], [⟨.bools (rch (gC (⟨cr, cw, ch, cc, cx, cy, cd, cl⟩ : Cr)) k l), 4, .row⟩])
  | _, _ => none
def F_spec_PiecesLeft : FSpec := fun args m =>
  match args, m with
  | [.agg [.int .i64 mw, .int .i64 mh, .str mr, .str mn, .int .i64 mx, .int .i64 my, .int .i64 md]], [] => some (True, .tup [.int .i64 (bif womB ⟨mw, mh, mr, mn, mx, my, md⟩ then pieW ⟨mw, mh, mr, mn, mx, my, md⟩ else 0), .bool (womB ⟨mw, mh, mr, mn, mx, my, md⟩)])
  | _, _ => none
def F_impl_PiecesLeft : FSpec := fun args m =>
  match args, m with
  | [.agg [.int .i64 mw, .int .i64 mh, .str mr, .str mn, .int .i64 mx, .int .i64 my, .int .i64 md]], [] => some (True, .tup [.int .i64 (bif womB ⟨mw, mh, mr, mn, mx, my, md⟩ then pieW ⟨mw, mh, mr, mn, mx, my, md⟩ else 0), .bool (womB ⟨mw, mh, mr, mn, mx, my, md⟩)])
  | _, _ => none
end Go.Vi
