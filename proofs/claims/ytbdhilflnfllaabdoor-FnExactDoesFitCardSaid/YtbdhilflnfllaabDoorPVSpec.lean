/- Closed forms of the functions of this chapter. -/
import Derived.Test.YtbdhilflnfllaabDoorPVDefs
namespace Go.Vi
set_option linter.unusedVariables false
def F_impl_led : FSpec := fun args m =>
  match args, m with
  | [.agg [.str wr, .int .i64 ww, .int .i64 wh, .str wc, .int .i64 wx, .int .i64 wy, .int .i64 wd], .int .i64 s, .fn 81 []], [] => some (goodB ⟨wr, ww, wh, wc, wx, wy, wd⟩ = true ∧ 0 ≤ s ∧ s ≤ 3000, wdV (iterW stepW s.toNat ⟨wr, ww, wh, wc, wx, wy, wd⟩))
  | _, _ => none
def F_impl_sumOf : FSpec := fun args m =>
  match args, m with
  | [.str s], [] => some (s.length ≤ 1000, .int .i64 (sumC s))
  | _, _ => none
def F_strings_Count : FSpec := fun args m =>
  match args, m with
  | [.str s, .str q], [] => some (q.length = 1, .int .i64 (cntC (q.getD 0 0) s))
  | _, _ => none
def F_spec_pzValue : FSpec := fun args m =>
  match args, m with
  | [.int .i64 k, .int .i64 a, .agg [.str wr, .int .i64 ww, .int .i64 wh, .str wc, .int .i64 wx, .int .i64 wy, .int .i64 wd]], [] => some (askK k a ⟨wr, ww, wh, wc, wx, wy, wd⟩ = true, .int .i64 (valK k a ⟨wr, ww, wh, wc, wx, wy, wd⟩))
  | _, _ => none
def F_spec_pzFits : FSpec := fun args m =>
  match args, m with
  | [.agg [.int .i64 cx, .int .i64 cy, .int .i64 ck], .agg [.str wr, .int .i64 ww, .int .i64 wh, .str wc, .int .i64 wx, .int .i64 wy, .int .i64 wd]], [] => some (goodB ⟨wr, ww, wh, wc, wx, wy, wd⟩ = true ∧ clueB cx cy ck wr.length (ww * wh) = true, .bool (fitB cx cy ck ⟨wr, ww, wh, wc, wx, wy, wd⟩))
  | _, _ => none
def F_impl_clueFrom : FSpec := fun args m =>
  match args, m with
  | [.agg [.str wr, .int .i64 ww, .int .i64 wh, .str wc, .int .i64 wx, .int .i64 wy, .int .i64 wd], .int .i64 k, .int .i64 a], [] => some (askK k a ⟨wr, ww, wh, wc, wx, wy, wd⟩ = true, .agg [.int .i64 k, .int .i64 (bif k == 4 then valK 4 0 ⟨wr, ww, wh, wc, wx, wy, wd⟩ else a), .int .i64 (bif k == 4 then 0 else valK k a ⟨wr, ww, wh, wc, wx, wy, wd⟩)])
  | _, _ => none
def F_impl_doesFit : FSpec := fun args m =>
  match args, m with
  | [.agg [.int .i64 cx, .int .i64 cy, .int .i64 ck], .agg [.str wr, .int .i64 ww, .int .i64 wh, .str wc, .int .i64 wx, .int .i64 wy, .int .i64 wd]], [] => some (goodB ⟨wr, ww, wh, wc, wx, wy, wd⟩ = true ∧ clueB cx cy ck wr.length (ww * wh) = true, .bool (fitB cx cy ck ⟨wr, ww, wh, wc, wx, wy, wd⟩))
  | _, _ => none
end Go.Vi
