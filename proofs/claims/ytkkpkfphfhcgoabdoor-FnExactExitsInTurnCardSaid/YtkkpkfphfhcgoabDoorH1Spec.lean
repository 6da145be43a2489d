/- Closed forms of the functions of this chapter. -/
import Derived.Test.YtkkpkfphfhcgoabDoorH1Defs
namespace Go.Vi
set_option linter.unusedVariables false
def F_impl_roll_goOut : GSpec := fun args m =>
  match args, m with
  | [.ptr 0 0], [⟨.mix [.int .i64 mw, .int .i64 mh, .str mc, .bool mu] 81 l [.int .i64 bx, .int .i64 by_, .int .i64 bd, .int .i64 en, .int .i64 hn], 70, .box⟩] => some (rlP mw mh l bx by_ bd, .bool (!inR mw mh (outR mu mw mh (rlO mw mh l bx by_ bd) en hn).r), [rollB mw mh mc mu (outR mu mw mh (rlO mw mh l bx by_ bd) en hn) 70])
  | _, _ => none
def F_impl_endOf : FSpec := fun args m =>
  match args, m with
  | [.agg [.int .i64 mw, .int .i64 mh, .str mc, .bool mu], .agg [.int .i64 bx, .int .i64 by_, .int .i64 bd]], [] => some ((1 ≤ mw ∧ mw ≤ 9) ∧ (1 ≤ mh ∧ mh ≤ 9) ∧ (-1 ≤ bx ∧ bx ≤ 9) ∧ (-1 ≤ by_ ∧ by_ ≤ 9), .int .i64 (endR mw mh ⟨mc, bx, by_, bd⟩))
  | _, _ => none
def F_impl_roll_send : GSpec := fun args m =>
  match args, m with
  | [.ptr 0 0, .int .i64 k], [⟨.mix [.int .i64 mw, .int .i64 mh, .str mc, .bool mu] 81 l [.int .i64 bx, .int .i64 by_, .int .i64 bd, .int .i64 en, .int .i64 hn], 70, .box⟩] => some (sdP mw mh l k, .int .i64 (endR mw mh (sdR mu mw mh l k en hn).r), [rollB mw mh mc mu (sdR mu mw mh l k en hn) 70])
  | _, _ => none
def F_spec_miAt : FSpec := fun args m =>
  match args, m with
  | [.agg [.int .i64 mw, .int .i64 mh, .str mc, .bool mu], .agg [.int .i64 bx, .int .i64 by_, .int .i64 bd]], [] => some (blB ⟨mw, mh, mc, mu⟩ bx by_ bd = true, .int .u8 (cellR mw ⟨mc, bx, by_, bd⟩).toNat)
  | _, _ => none
def F_spec_miOut : FSpec := fun args m =>
  match args, m with
  | [.agg [.int .i64 mw, .int .i64 mh, .str mc, .bool mu], .agg [.int .i64 bx, .int .i64 by_, .int .i64 bd]], [] => some ((1 ≤ mw ∧ mw ≤ 9) ∧ (1 ≤ mh ∧ mh ≤ 9) ∧ (-1 ≤ bx ∧ bx ≤ 9) ∧ (-1 ≤ by_ ∧ by_ ≤ 9), .int .i64 (outP mw mh bx by_))
  | _, _ => none
def F_spec_miRun : FSpec := fun args m =>
  match args, m with
  | [.agg [.int .i64 mw, .int .i64 mh, .str mc, .bool mu], .agg [.int .i64 bx, .int .i64 by_, .int .i64 bd]], [] => some (blB ⟨mw, mh, mc, mu⟩ bx by_ bd = true, runV mw mh mc mu bx by_ bd)
  | _, _ => none
def F_spec_ExitOf : FSpec := fun args m =>
  match args, m with
  | [.agg [.int .i64 mw, .int .i64 mh, .str mc, .bool mu], .agg [.int .i64 bx, .int .i64 by_, .int .i64 bd]], [] => some (True, .tup [.int .i64 (exE mw mh mc mu bx by_ bd), .bool (exB mw mh mc mu bx by_ bd)])
  | _, _ => none
def F_impl_ExitOf : FSpec := fun args m =>
  match args, m with
  | [.agg [.int .i64 mw, .int .i64 mh, .str mc, .bool mu], .agg [.int .i64 bx, .int .i64 by_, .int .i64 bd]], [] => some (True, .tup [.int .i64 (exE mw mh mc mu bx by_ bd), .bool (exB mw mh mc mu bx by_ bd)])
  | _, _ => none
def F_spec_HitsOfBall : FSpec := fun args m =>
  match args, m with
  | [.agg [.int .i64 mw, .int .i64 mh, .str mc, .bool mu], .agg [.int .i64 bx, .int .i64 by_, .int .i64 bd]], [] => some (True, .tup [.int .i64 (exK mw mh mc mu bx by_ bd), .bool (exB mw mh mc mu bx by_ bd)])
  | _, _ => none
def F_impl_HitsOfBall : FSpec := fun args m =>
  match args, m with
  | [.agg [.int .i64 mw, .int .i64 mh, .str mc, .bool mu], .agg [.int .i64 bx, .int .i64 by_, .int .i64 bd]], [] => some (True, .tup [.int .i64 (exK mw mh mc mu bx by_ bd), .bool (exB mw mh mc mu bx by_ bd)])
  | _, _ => none
def F_spec_MazeAfterBall : FSpec := fun args m =>
  match args, m with
  | [.agg [.int .i64 mw, .int .i64 mh, .str mc, .bool mu], .agg [.int .i64 bx, .int .i64 by_, .int .i64 bd]], [] => some (True, .tup [.agg [.int .i64 (exW mw mh mc mu bx by_ bd), .int .i64 (exH mw mh mc mu bx by_ bd), .str (exC mw mh mc mu bx by_ bd), .bool (exU mw mh mc mu bx by_ bd)], .bool (exB mw mh mc mu bx by_ bd)])
  | _, _ => none
def F_impl_MazeAfterBall : FSpec := fun args m =>
  match args, m with
  | [.agg [.int .i64 mw, .int .i64 mh, .str mc, .bool mu], .agg [.int .i64 bx, .int .i64 by_, .int .i64 bd]], [] => some (True, .tup [.agg [.int .i64 (exW mw mh mc mu bx by_ bd), .int .i64 (exH mw mh mc mu bx by_ bd), .str (exC mw mh mc mu bx by_ bd), .bool (exU mw mh mc mu bx by_ bd)], .bool (exB mw mh mc mu bx by_ bd)])
  | _, _ => none
def F_spec_l1Most : FSpec := fun args m =>
  match args, m with
  | [.int .i64 a, .int .i64 b], [] => some (True, .int .i64 (if a < b then b else a))
  | _, _ => none
def F_spec_LongestTrack : FSpec := fun args m =>
  match args, m with
  | [.agg [.int .i64 mw, .int .i64 mh, .str mc, .bool mu]], [] => some (True, .tup [.int .i64 (ltE mw mh mc mu), .bool (ltB mw mh mc mu)])
  | _, _ => none
def F_impl_LongestTrack : FSpec := fun args m =>
  match args, m with
  | [.agg [.int .i64 mw, .int .i64 mh, .str mc, .bool mu]], [] => some (True, .tup [.int .i64 (ltE mw mh mc mu), .bool (ltB mw mh mc mu)])
  | _, _ => none
end Go.Vi
