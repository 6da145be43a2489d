/- Closed forms of the functions of this chapter. -/
import Derived.Test.YtioppaofihbmpabDoorWBDefs
namespace Go.Vi
set_option linter.unusedVariables false
def F_spec_l1Mod : FSpec := fun args m =>
  match args, m with
  | [.int .i64 n, .int .i64 m], [] => some (1 ≤ m ∧ m ≤ 1000 ∧ -1000000 ≤ n ∧ n ≤ 1000000, .int .i64 (n % m))
  | _, _ => none
def F_spec_woTurn : FSpec := fun args m =>
  match args, m with
  | [.int .u8 b], [] => some (True, .int .i64 (turnI b))
  | _, _ => none
def F_impl_quarters : FSpec := fun args m =>
  match args, m with
  | [.int .u8 b], [] => some (True, .int .i64 (turnI b))
  | _, _ => none
def F_impl_direction : FSpec := fun args m =>
  match args, m with
  | [.int .i64 d], [] => some (True, .tup [.int .i64 (dirX d), .int .i64 (dirY d)])
  | _, _ => none
def F_impl_board_turned : FSpec := fun args m =>
  match args, m with
  | [.agg [.str br, .int .i64 bw, .int .i64 bh, .str bc, .int .i64 bx, .int .i64 by_, .int .i64 bd], .int .i64 q], [] => some (0 ≤ bd ∧ bd ≤ 3 ∧ 0 ≤ q ∧ q ≤ 4, bdV (trnC (⟨br, bw, bh, bc, bx, by_, bd, []⟩ : Cr) q))
  | _, _ => none
def F_impl_board_moved : FSpec := fun args m =>
  match args, m with
  | [.agg [.str br, .int .i64 bw, .int .i64 bh, .str bc, .int .i64 bx, .int .i64 by_, .int .i64 bd], .int .i64 k], [] => some (boxC (⟨br, bw, bh, bc, bx, by_, bd, []⟩ : Cr) = true ∧ k = 1, bdV (movC (⟨br, bw, bh, bc, bx, by_, bd, []⟩ : Cr)))
  | _, _ => none
def F_impl_crawler_nodes : FSpec := fun args m =>
  match args, m with
  | [.agg [.str cr, .int .i64 cw, .int .i64 ch, .str cc, .int .i64 cx, .int .i64 cy, .int .i64 cd, .str cl]], [] => some (boxC (⟨cr, cw, ch, cc, cx, cy, cd, cl⟩ : Cr) = true, .int .i64 (cw * ch))
  | _, _ => none
def F_impl_crawler_node : FSpec := fun args m =>
  match args, m with
  | [.agg [.str cr, .int .i64 cw, .int .i64 ch, .str cc, .int .i64 cx, .int .i64 cy, .int .i64 cd, .str cl]], [] => some (boxC (⟨cr, cw, ch, cc, cx, cy, cd, cl⟩ : Cr) = true, .int .i64 (cy * cw + cx))
  | _, _ => none
def F_impl_crawler_seenFrom : FSpec := fun args m =>
  match args, m with
  | [.agg [.str cr, .int .i64 cw, .int .i64 ch, .str cc, .int .i64 cx, .int .i64 cy, .int .i64 cd, .str cl], .int .i64 k, .int .i64 q], [] => some (inB cw 3 6 = true ∧ 0 ≤ k ∧ k ≤ 1000, crV (seeC (⟨cr, cw, ch, cc, cx, cy, cd, cl⟩ : Cr) k q))
  | _, _ => none
def F_impl_crawler_heading : FSpec := fun args m =>
  match args, m with
  | [.agg [.str cr, .int .i64 cw, .int .i64 ch, .str cc, .int .i64 cx, .int .i64 cy, .int .i64 cd, .str cl], .int .i64 q], [] => some (0 ≤ cd ∧ cd ≤ 3 ∧ 0 ≤ q ∧ q ≤ 4, crV (trnC (⟨cr, cw, ch, cc, cx, cy, cd, cl⟩ : Cr) q))
  | _, _ => none
def F_impl_crawler_crawled : FSpec := fun args m =>
  match args, m with
  | [.agg [.str cr, .int .i64 cw, .int .i64 ch, .str cc, .int .i64 cx, .int .i64 cy, .int .i64 cd, .str cl]], [] => some (boxC (⟨cr, cw, ch, cc, cx, cy, cd, cl⟩ : Cr) = true, crV (movC (⟨cr, cw, ch, cc, cx, cy, cd, cl⟩ : Cr)))
  | _, _ => none
def F_impl_crawler_lineAhead : FSpec := fun args m =>
  match args, m with
  | [.agg [.str cr, .int .i64 cw, .int .i64 ch, .str cc, .int .i64 cx, .int .i64 cy, .int .i64 cd, .str cl]], [] => some (boxC (⟨cr, cw, ch, cc, cx, cy, cd, cl⟩ : Cr) = true ∧ 0 ≤ cd ∧ cd ≤ 3, .int .i64 (lnI cw ch cx cy cd))
  | _, _ => none
def F_impl_crawler_hasLineAhead : FSpec := fun args m =>
  match args, m with
  | [.agg [.str cr, .int .i64 cw, .int .i64 ch, .str cc, .int .i64 cx, .int .i64 cy, .int .i64 cd, .str cl]], [] => some (crB (⟨cr, cw, ch, cc, cx, cy, cd, cl⟩ : Cr) = true, .bool (hasA (⟨cr, cw, ch, cc, cx, cy, cd, cl⟩ : Cr)))
  | _, _ => none
def F_impl_crawler_withLineAhead : FSpec := fun args m =>
  match args, m with
  | [.agg [.str cr, .int .i64 cw, .int .i64 ch, .str cc, .int .i64 cx, .int .i64 cy, .int .i64 cd, .str cl], .str s], [] => some (crB (⟨cr, cw, ch, cc, cx, cy, cd, cl⟩ : Cr) = true ∧ s.length = 1, crV (setA (⟨cr, cw, ch, cc, cx, cy, cd, cl⟩ : Cr) s))
  | _, _ => none
def F_impl_crawler_worm : FSpec := fun args m =>
  match args, m with
  | [.agg [.str cr, .int .i64 cw, .int .i64 ch, .str cc, .int .i64 cx, .int .i64 cy, .int .i64 cd, .str cl]], [] => some (crB (⟨cr, cw, ch, cc, cx, cy, cd, cl⟩ : Cr) = true, woV (wormC (⟨cr, cw, ch, cc, cx, cy, cd, cl⟩ : Cr)))
  | _, _ => none
def F_impl_crawlerOf : FSpec := fun args m =>
  match args, m with
  | [.agg [.int .i64 mw, .int .i64 mh, .str mr, .str mn, .int .i64 mx, .int .i64 my, .int .i64 md]], [] => some (womB ⟨mw, mh, mr, mn, mx, my, md⟩ = true, crV (crOf ⟨mw, mh, mr, mn, mx, my, md⟩))
  | _, _ => none
def F_impl_crawler_linesAt : FSpec := fun args m =>
  match args, m with
  | [.agg [.str cr, .int .i64 cw, .int .i64 ch, .str cc, .int .i64 cx, .int .i64 cy, .int .i64 cd, .str cl], .int .i64 k], [] => some (crB (⟨cr, cw, ch, cc, cx, cy, cd, cl⟩ : Cr) = true ∧ 0 ≤ k ∧ k < cw * ch, .int .i64 (cntA (⟨cr, cw, ch, cc, cx, cy, cd, cl⟩ : Cr) k 4))
  | _, _ => none
def F_impl_crawler_goOn : FSpec := fun args m =>
  match args, m with
  | [.agg [.str cr, .int .i64 cw, .int .i64 ch, .str cc, .int .i64 cx, .int .i64 cy, .int .i64 cd, .str cl], .str t], [] => some (crB (⟨cr, cw, ch, cc, cx, cy, cd, cl⟩ : Cr) = true ∧ tasB t = true, .tup [crV (goR (⟨cr, cw, ch, cc, cx, cy, cd, cl⟩ : Cr) t), .int .i32 (goS (⟨cr, cw, ch, cc, cx, cy, cd, cl⟩ : Cr) t), .bool (goB (⟨cr, cw, ch, cc, cx, cy, cd, cl⟩ : Cr) t)])
  | _, _ => none
def F_spec_wmLine : FSpec := fun args m =>
  match args, m with
  | [.agg [.int .i64 mw, .int .i64 mh, .str mr, .str mn, .int .i64 mx, .int .i64 my, .int .i64 md], .int .i64 x, .int .i64 y, .int .i64 q], [] => some (womB ⟨mw, mh, mr, mn, mx, my, md⟩ = true ∧ inB x 0 (mw - 1) = true ∧ inB y 0 (mh - 1) = true ∧ inB q 0 3 = true, .tup [.bool (dnB q), .int .i64 (atI mw mh x y q)])
  | _, _ => none
def F_spec_wmHas : FSpec := fun args m =>
  match args, m with
  | [.agg [.int .i64 mw, .int .i64 mh, .str mr, .str mn, .int .i64 mx, .int .i64 my, .int .i64 md], .int .i64 x, .int .i64 y, .int .i64 q], [] => some (womB ⟨mw, mh, mr, mn, mx, my, md⟩ = true ∧ inB x 0 (mw - 1) = true ∧ inB y 0 (mh - 1) = true ∧ inB q 0 3 = true, .bool (hasW ⟨mw, mh, mr, mn, mx, my, md⟩ x y q))
  | _, _ => none
def F_spec_wmAt : FSpec := fun args m =>
  match args, m with
  | [.agg [.int .i64 mw, .int .i64 mh, .str mr, .str mn, .int .i64 mx, .int .i64 my, .int .i64 md], .int .i64 x, .int .i64 y], [] => some (womB ⟨mw, mh, mr, mn, mx, my, md⟩ = true ∧ inB x 0 (mw - 1) = true ∧ inB y 0 (mh - 1) = true, .int .i64 (cntW ⟨mw, mh, mr, mn, mx, my, md⟩ x y 4))
  | _, _ => none
def F_spec_wmSet : GSpec := fun args m =>
  match args, m with
  | [.ptr 0 0, .int .i64 x, .int .i64 y, .int .i64 q, .str s], [⟨.vals [.int .i64 mw, .int .i64 mh, .str mr, .str mn, .int .i64 mx, .int .i64 my, .int .i64 md], e, .box⟩] => some (womB ⟨mw, mh, mr, mn, mx, my, md⟩ = true ∧ inB x 0 (mw - 1) = true ∧ inB y 0 (mh - 1) = true ∧ inB q 0 3 = true ∧ s.length = 1, .tup [], [⟨.vals (woL (setW ⟨mw, mh, mr, mn, mx, my, md⟩ x y q s)), e, .box⟩])
  | _, _ => none
def F_spec_wmGo : GSpec := fun args m =>
  match args, m with
  | [.ptr 0 0, .int .i64 q, .int .i64 k], [⟨.vals [.int .i64 mw, .int .i64 mh, .str mr, .str mn, .int .i64 mx, .int .i64 my, .int .i64 md], e, .box⟩] => some (inB mw 3 6 = true ∧ inB mh 3 6 = true ∧ inB mx 0 (mw - 1) = true ∧ inB my 0 (mh - 1) = true ∧ (k = 1 ∨ k = -1), .tup [], [⟨.vals (woL (goW ⟨mw, mh, mr, mn, mx, my, md⟩ q k)), e, .box⟩])
  | _, _ => none
def F_spec_wmEat : GSpec := fun args m =>
  match args, m with
  | [.ptr 0 0, .str t], [⟨.vals [.int .i64 mw, .int .i64 mh, .str mr, .str mn, .int .i64 mx, .int .i64 my, .int .i64 md], e, .box⟩] => some (womB ⟨mw, mh, mr, mn, mx, my, md⟩ = true ∧ tasB t = true, .str (eatS ⟨mw, mh, mr, mn, mx, my, md⟩ t), [⟨.vals (woL (nxtW t ⟨mw, mh, mr, mn, mx, my, md⟩)), e, .box⟩])
  | _, _ => none
def F_spec_wmAsked : FSpec := fun args m =>
  match args, m with
  | [.agg [.int .i64 mw, .int .i64 mh, .str mr, .str mn, .int .i64 mx, .int .i64 my, .int .i64 md], .str t], [] => some (True, .bool (womB ⟨mw, mh, mr, mn, mx, my, md⟩ && tasB t))
  | _, _ => none
def F_spec_LinesAt : FSpec := fun args m =>
  match args, m with
  | [.agg [.int .i64 mw, .int .i64 mh, .str mr, .str mn, .int .i64 mx, .int .i64 my, .int .i64 md], .int .i64 x, .int .i64 y], [] => some (True, laV ⟨mw, mh, mr, mn, mx, my, md⟩ x y)
  | _, _ => none
def F_impl_LinesAt : FSpec := fun args m =>
  match args, m with
  | [.agg [.int .i64 mw, .int .i64 mh, .str mr, .str mn, .int .i64 mx, .int .i64 my, .int .i64 md], .int .i64 x, .int .i64 y], [] => some (True, laV ⟨mw, mh, mr, mn, mx, my, md⟩ x y)
  | _, _ => none
def F_spec_EatLine : FSpec := fun args m =>
  match args, m with
  | [.agg [.int .i64 mw, .int .i64 mh, .str mr, .str mn, .int .i64 mx, .int .i64 my, .int .i64 md], .str t], [] => some (True, okWo (eatB ⟨mw, mh, mr, mn, mx, my, md⟩ t) (nxtW t ⟨mw, mh, mr, mn, mx, my, md⟩))
  | _, _ => none
def F_spec_WormAfter : FSpec := fun args m =>
  match args, m with
  | [.agg [.int .i64 mw, .int .i64 mh, .str mr, .str mn, .int .i64 mx, .int .i64 my, .int .i64 md], .str t, .int .i64 k], [] => some (True, okWo (aftB ⟨mw, mh, mr, mn, mx, my, md⟩ t k) (iterW t k.toNat ⟨mw, mh, mr, mn, mx, my, md⟩))
  | _, _ => none
def F_impl_WormAfter : FSpec := fun args m =>
  match args, m with
  | [.agg [.int .i64 mw, .int .i64 mh, .str mr, .str mn, .int .i64 mx, .int .i64 my, .int .i64 md], .str t, .int .i64 k], [⟨.vals [.str g0, .str g1, .str g2, .str g3, .str g4, .str g5], 9, .gl 0⟩] => some (isTs g0 g1 g2 g3 g4 g5, okWo (aftB ⟨mw, mh, mr, mn, mx, my, md⟩ t k) (iterW t k.toNat ⟨mw, mh, mr, mn, mx, my, md⟩))
  | _, _ => none
def F_impl_EatLine : FSpec := fun args m =>
  match args, m with
  | [.agg [.int .i64 mw, .int .i64 mh, .str mr, .str mn, .int .i64 mx, .int .i64 my, .int .i64 md], .str t], [⟨.vals [.str g0, .str g1, .str g2, .str g3, .str g4, .str g5], 9, .gl 0⟩] => some (isTs g0 g1 g2 g3 g4 g5, okWo (eatB ⟨mw, mh, mr, mn, mx, my, md⟩ t) (nxtW t ⟨mw, mh, mr, mn, mx, my, md⟩))
  | _, _ => none
def F_spec_GiveBack : FSpec := fun args m =>
  match args, m with
  | [.agg [.int .i64 mw, .int .i64 mh, .str mr, .str mn, .int .i64 mx, .int .i64 my, .int .i64 md], .int .i64 q], [] => some (True, okWo (bakB ⟨mw, mh, mr, mn, mx, my, md⟩ q) (bakW ⟨mw, mh, mr, mn, mx, my, md⟩ q))
  | _, _ => none
def F_impl_GiveBack : FSpec := fun args m =>
  match args, m with
  | [.agg [.int .i64 mw, .int .i64 mh, .str mr, .str mn, .int .i64 mx, .int .i64 my, .int .i64 md], .int .i64 q], [] => some (True, okWo (bakB ⟨mw, mh, mr, mn, mx, my, md⟩ q) (bakW ⟨mw, mh, mr, mn, mx, my, md⟩ q))
  | _, _ => none
end Go.Vi
