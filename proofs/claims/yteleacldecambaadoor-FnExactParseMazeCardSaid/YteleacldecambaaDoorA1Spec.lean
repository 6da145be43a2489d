/- Closed forms of the functions of this chapter. -/
import Derived.Test.YteleacldecambaaDoorA1Defs
namespace Go.Vi
set_option linter.unusedVariables false
def F_spec_miGood : FSpec := fun args m =>
  match args, m with
  | [.agg [.int .i64 mw, .int .i64 mh, .str mc, .bool mu]], [] => some (True, .bool (mzB ⟨mw, mh, mc, mu⟩))
  | _, _ => none
def F_strings_Trim : FSpec := fun args m =>
  match args, m with
  | [.str s, .str q], [] => some (q = [46, 90, 83] ∧ (s.length : Int) ≤ 9223372036854775807, .str (Go.Lib.trimS s q))
  | _, _ => none
def F_impl_IsMaze : FSpec := fun args m =>
  match args, m with
  | [.agg [.int .i64 mw, .int .i64 mh, .str mc, .bool mu]], [] => some (True, .bool (mzB ⟨mw, mh, mc, mu⟩))
  | _, _ => none
def F_laws_szMaze : FSpec := fun args m =>
  match args, m with
  | [.agg [.int .i64 mw, .int .i64 mh, .str mc, .bool mu], .int .i64 left], [] => some (0 ≤ left ∧ left ≤ 1000000000 ∧ (mc.length : Int) ≤ 9223372036854775807, .int .i64 (szM mc left))
  | _, _ => none
def F_laws_toMaze : FSpec := fun args m =>
  match args, m with
  | [.agg [.int .i64 mw, .int .i64 mh, .str mc, .bool mu]], [] => some (True, mzV ⟨mw, mh, mc, mu⟩)
  | _, _ => none
def F_laws_toBall : FSpec := fun args m =>
  match args, m with
  | [.agg [.int .i64 bx, .int .i64 by_, .int .i64 bd]], [] => some (True, blV bx by_ bd)
  | _, _ => none
def F_laws_eqMaze : FSpec := fun args m =>
  match args, m with
  | [.agg [.int .i64 aw, .int .i64 ah, .str ac, .bool au], .agg [.int .i64 bw, .int .i64 bh, .str bc, .bool bu]], [] => some (True, .bool (eqM ⟨aw, ah, ac, au⟩ ⟨bw, bh, bc, bu⟩))
  | _, _ => none
def F_laws_eqBall : FSpec := fun args m =>
  match args, m with
  | [.agg [.int .i64 ax, .int .i64 ay, .int .i64 ad], .agg [.int .i64 bx, .int .i64 by_, .int .i64 bd]], [] => some (True, .bool (ax == bx && ay == by_ && ad == bd))
  | _, _ => none
def F_spec_miBall : FSpec := fun args m =>
  match args, m with
  | [.agg [.int .i64 mw, .int .i64 mh, .str mc, .bool mu], .agg [.int .i64 bx, .int .i64 by_, .int .i64 bd]], [] => some (True, .bool (blB ⟨mw, mh, mc, mu⟩ bx by_ bd))
  | _, _ => none
def F_impl_IsBall : FSpec := fun args m =>
  match args, m with
  | [.agg [.int .i64 mw, .int .i64 mh, .str mc, .bool mu], .agg [.int .i64 bx, .int .i64 by_, .int .i64 bd]], [] => some (True, .bool (blB ⟨mw, mh, mc, mu⟩ bx by_ bd))
  | _, _ => none
def F_spec_miEntry : FSpec := fun args m =>
  match args, m with
  | [.agg [.int .i64 mw, .int .i64 mh, .str mc, .bool mu], .int .i64 k], [] => some ((1 ≤ mw ∧ mw ≤ 9) ∧ (1 ≤ mh ∧ mh ≤ 9) ∧ 0 ≤ k ∧ k < 2 * (mw + mh), blV (entX mw mh k) (entY mw mh k) (entD mw mh k))
  | _, _ => none
def F_impl_entry : FSpec := fun args m =>
  match args, m with
  | [.agg [.int .i64 mw, .int .i64 mh, .str mc, .bool mu], .int .i64 k], [] => some ((1 ≤ mw ∧ mw ≤ 9) ∧ (1 ≤ mh ∧ mh ≤ 9) ∧ 0 ≤ k ∧ k < 2 * (mw + mh), blV (entX mw mh k) (entY mw mh k) (entD mw mh k))
  | _, _ => none
def F_spec_miEnd : FSpec := fun args m =>
  match args, m with
  | [.agg [.int .i64 mw, .int .i64 mh, .str mc, .bool mu], .int .i64 k], [] => some (True, .bool (enB ⟨mw, mh, mc, mu⟩ k))
  | _, _ => none
def F_spec_miHit : FSpec := fun args m =>
  match args, m with
  | [.agg [.int .i64 mw, .int .i64 mh, .str mc, .bool mu], .agg [.int .i64 bx, .int .i64 by_, .int .i64 bd]], [] => some (blB ⟨mw, mh, mc, mu⟩ bx by_ bd = true, .tup [mzV ⟨mw, mh, (hitR mu mw ⟨mc, bx, by_, bd⟩).c, mu⟩, blV (hitR mu mw ⟨mc, bx, by_, bd⟩).x (hitR mu mw ⟨mc, bx, by_, bd⟩).y (hitR mu mw ⟨mc, bx, by_, bd⟩).d])
  | _, _ => none
def F_impl_otherMirror : FSpec := fun args m =>
  match args, m with
  | [.int .u8 b], [] => some (True, .int .u8 (mirI b))
  | _, _ => none
def F_impl_wayBehind : FSpec := fun args m =>
  match args, m with
  | [.int .u8 b, .int .i64 d], [] => some (0 ≤ d ∧ d ≤ 3, .int .i64 (wayI b d))
  | _, _ => none
def F_impl_direction : FSpec := fun args m =>
  match args, m with
  | [.int .i64 d], [] => some (0 ≤ d ∧ d ≤ 3, .tup [.int .i64 (dxW d), .int .i64 (dyW d)])
  | _, _ => none
def F_impl_roll_goOn : GSpec := fun args m =>
  match args, m with
  | [.ptr 0 0], [⟨.mix [.int .i64 mw, .int .i64 mh, .str mc, .bool mu] 81 l [.int .i64 bx, .int .i64 by_, .int .i64 bd, .int .i64 en, .int .i64 hn], 57, .box⟩] => some (rlP mw mh l bx by_ bd, .bool (inR mw mh (hitR mu mw (rlO mw mh l bx by_ bd))), [rollB mw mh mc mu (stepN mu mw ⟨(rlO mw mh l bx by_ bd), en, hn⟩) 57])
  | _, _ => none
def F_spec_CountMirrors : FSpec := fun args m =>
  match args, m with
  | [.agg [.int .i64 mw, .int .i64 mh, .str mc, .bool mu]], [] => some (True, .tup [.int .i64 (bif mzB ⟨mw, mh, mc, mu⟩ then cntB 90 mc else 0), .int .i64 (bif mzB ⟨mw, mh, mc, mu⟩ then cntB 83 mc else 0), .bool (mzB ⟨mw, mh, mc, mu⟩)])
  | _, _ => none
def F_strings_Count : FSpec := fun args m =>
  match args, m with
  | [.str s, .str q], [] => some (q.length = 1, .int .i64 (cntB (q.getD 0 0) s))
  | _, _ => none
def F_impl_CountMirrors : FSpec := fun args m =>
  match args, m with
  | [.agg [.int .i64 mw, .int .i64 mh, .str mc, .bool mu]], [] => some (True, .tup [.int .i64 (bif mzB ⟨mw, mh, mc, mu⟩ then cntB 90 mc else 0), .int .i64 (bif mzB ⟨mw, mh, mc, mu⟩ then cntB 83 mc else 0), .bool (mzB ⟨mw, mh, mc, mu⟩)])
  | _, _ => none
def F_spec_EntryOf : FSpec := fun args m =>
  match args, m with
  | [.agg [.int .i64 mw, .int .i64 mh, .str mc, .bool mu], .int .i64 k], [] => some (True, entV (enB ⟨mw, mh, mc, mu⟩ k) mw mh k)
  | _, _ => none
def F_impl_EntryOf : FSpec := fun args m =>
  match args, m with
  | [.agg [.int .i64 mw, .int .i64 mh, .str mc, .bool mu], .int .i64 k], [] => some (True, entV (enB ⟨mw, mh, mc, mu⟩ k) mw mh k)
  | _, _ => none
def F_spec_HitCell : FSpec := fun args m =>
  match args, m with
  | [.agg [.int .i64 mw, .int .i64 mh, .str mc, .bool mu], .agg [.int .i64 bx, .int .i64 by_, .int .i64 bd]], [] => some (True, hitAt mw mh mc mu bx by_ bd)
  | _, _ => none
def F_impl_HitCell : FSpec := fun args m =>
  match args, m with
  | [.agg [.int .i64 mw, .int .i64 mh, .str mc, .bool mu], .agg [.int .i64 bx, .int .i64 by_, .int .i64 bd]], [] => some (True, hitAt mw mh mc mu bx by_ bd)
  | _, _ => none
end Go.Vi
