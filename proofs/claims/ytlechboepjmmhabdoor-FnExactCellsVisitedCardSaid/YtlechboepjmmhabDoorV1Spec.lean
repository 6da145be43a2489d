/- Closed forms of the functions of this chapter. -/
import Derived.Test.YtlechboepjmmhabDoorV1Defs
namespace Go.Vi
set_option linter.unusedVariables false
def F_spec_woSteps : FSpec := fun args m =>
  match args, m with
  | [.agg [.str wr, .int .i64 ww, .int .i64 wh, .str wc, .int .i64 wx, .int .i64 wy, .int .i64 wd], .int .i64 steps], [] => some (True, .bool (goodB ⟨wr, ww, wh, wc, wx, wy, wd⟩ && inB steps 0 3000))
  | _, _ => none
def F_spec_loVisits : GSpec := fun args m =>
  match args, m with
  | [.agg [.str wr, .int .i64 ww, .int .i64 wh, .str wc, .int .i64 wx, .int .i64 wy, .int .i64 wd], .int .i64 steps], [] => some (goodB ⟨wr, ww, wh, wc, wx, wy, wd⟩ = true ∧ 0 ≤ steps ∧ steps ≤ 4000, .row 0 (visF steps.toNat ⟨wr, ww, wh, wc, wx, wy, wd⟩).length, [⟨.ints .i64 (visF steps.toNat ⟨wr, ww, wh, wc, wx, wy, wd⟩), 3, .row⟩])
  | _, _ => none
def F_impl_trackOf : GSpec := fun args m =>
  match args, m with
  | [.agg [.str wr, .int .i64 ww, .int .i64 wh, .str wc, .int .i64 wx, .int .i64 wy, .int .i64 wd], .int .i64 steps], [] => some (goodB ⟨wr, ww, wh, wc, wx, wy, wd⟩ = true ∧ 0 ≤ steps ∧ steps ≤ 4000, .row 0 (trkF steps.toNat ⟨wr, ww, wh, wc, wx, wy, wd⟩).length, [⟨.ints .i64 (trkF steps.toNat ⟨wr, ww, wh, wc, wx, wy, wd⟩), 3, .row⟩])
  | _, _ => none
def F_impl_visitsOf : GSpec := fun args m =>
  match args, m with
  | [.agg [.str wr, .int .i64 ww, .int .i64 wh, .str wc, .int .i64 wx, .int .i64 wy, .int .i64 wd], .int .i64 steps], [] => some (goodB ⟨wr, ww, wh, wc, wx, wy, wd⟩ = true ∧ 0 ≤ steps ∧ steps ≤ 4000, .row 0 (visF steps.toNat ⟨wr, ww, wh, wc, wx, wy, wd⟩).length, [⟨.ints .i64 (visF steps.toNat ⟨wr, ww, wh, wc, wx, wy, wd⟩), 3, .row⟩])
  | _, _ => none
def F_slices_Index_int_int : FSpec := fun args m =>
  match args, m with
  | [.row 0 n, .int .i64 v], [⟨.ints .i64 a, 3, .row⟩] => some (n = a.length ∧ n ≤ 10000, .int .i64 (idxF v a))
  | _, _ => none
def F_slices_Max_int_int : FSpec := fun args m =>
  match args, m with
  | [.row 0 n], [⟨.ints .i64 a, 3, .row⟩] => some (n = a.length ∧ n ≤ 10000 ∧ 1 ≤ n, .int .i64 (maxL a))
  | _, _ => none
def F_spec_VisitsAfter : GSpec := fun args m =>
  match args, m with
  | [.agg [.str wr, .int .i64 ww, .int .i64 wh, .str wc, .int .i64 wx, .int .i64 wy, .int .i64 wd], .int .i64 steps], [] => some (True, .tup [.row 0 (visW (goodB ⟨wr, ww, wh, wc, wx, wy, wd⟩ && inB steps 0 3000) steps ⟨wr, ww, wh, wc, wx, wy, wd⟩).length, .bool (goodB ⟨wr, ww, wh, wc, wx, wy, wd⟩ && inB steps 0 3000)], [⟨.ints .i64 (visW (goodB ⟨wr, ww, wh, wc, wx, wy, wd⟩ && inB steps 0 3000) steps ⟨wr, ww, wh, wc, wx, wy, wd⟩), 3, .row⟩])
  | _, _ => none
def F_impl_VisitsAfter : GSpec := fun args m =>
  match args, m with
  | [.agg [.str wr, .int .i64 ww, .int .i64 wh, .str wc, .int .i64 wx, .int .i64 wy, .int .i64 wd], .int .i64 steps], [] => some (True, .tup [.row 0 (visW (goodB ⟨wr, ww, wh, wc, wx, wy, wd⟩ && inB steps 0 3000) steps ⟨wr, ww, wh, wc, wx, wy, wd⟩).length, .bool (goodB ⟨wr, ww, wh, wc, wx, wy, wd⟩ && inB steps 0 3000)], [⟨.ints .i64 (visW (goodB ⟨wr, ww, wh, wc, wx, wy, wd⟩ && inB steps 0 3000) steps ⟨wr, ww, wh, wc, wx, wy, wd⟩), 3, .row⟩])
  | _, _ => none
def F_spec_TrackAfter : GSpec := fun args m =>
  match args, m with
  | [.agg [.str wr, .int .i64 ww, .int .i64 wh, .str wc, .int .i64 wx, .int .i64 wy, .int .i64 wd], .int .i64 steps], [] => some (True, .tup [.row 0 (trkW (goodB ⟨wr, ww, wh, wc, wx, wy, wd⟩ && inB steps 0 200) steps ⟨wr, ww, wh, wc, wx, wy, wd⟩).length, .bool (goodB ⟨wr, ww, wh, wc, wx, wy, wd⟩ && inB steps 0 200)], [⟨.ints .i64 (trkW (goodB ⟨wr, ww, wh, wc, wx, wy, wd⟩ && inB steps 0 200) steps ⟨wr, ww, wh, wc, wx, wy, wd⟩), 3, .row⟩])
  | _, _ => none
def F_impl_TrackAfter : GSpec := fun args m =>
  match args, m with
  | [.agg [.str wr, .int .i64 ww, .int .i64 wh, .str wc, .int .i64 wx, .int .i64 wy, .int .i64 wd], .int .i64 steps], [] => some (True, .tup [.row 0 (trkW (goodB ⟨wr, ww, wh, wc, wx, wy, wd⟩ && inB steps 0 200) steps ⟨wr, ww, wh, wc, wx, wy, wd⟩).length, .bool (goodB ⟨wr, ww, wh, wc, wx, wy, wd⟩ && inB steps 0 200)], [⟨.ints .i64 (trkW (goodB ⟨wr, ww, wh, wc, wx, wy, wd⟩ && inB steps 0 200) steps ⟨wr, ww, wh, wc, wx, wy, wd⟩), 3, .row⟩])
  | _, _ => none
def F_spec_CellsVisited : FSpec := fun args m =>
  match args, m with
  | [.agg [.str wr, .int .i64 ww, .int .i64 wh, .str wc, .int .i64 wx, .int .i64 wy, .int .i64 wd], .int .i64 steps], [] => some (True, .tup [.int .i64 (cntP (visW (goodB ⟨wr, ww, wh, wc, wx, wy, wd⟩ && inB steps 0 3000) steps ⟨wr, ww, wh, wc, wx, wy, wd⟩)), .bool (goodB ⟨wr, ww, wh, wc, wx, wy, wd⟩ && inB steps 0 3000)])
  | _, _ => none
def F_impl_CellsVisited : FSpec := fun args m =>
  match args, m with
  | [.agg [.str wr, .int .i64 ww, .int .i64 wh, .str wc, .int .i64 wx, .int .i64 wy, .int .i64 wd], .int .i64 steps], [] => some (True, .tup [.int .i64 (cntP (visW (goodB ⟨wr, ww, wh, wc, wx, wy, wd⟩ && inB steps 0 3000) steps ⟨wr, ww, wh, wc, wx, wy, wd⟩)), .bool (goodB ⟨wr, ww, wh, wc, wx, wy, wd⟩ && inB steps 0 3000)])
  | _, _ => none
def F_spec_MostVisited : FSpec := fun args m =>
  match args, m with
  | [.agg [.str wr, .int .i64 ww, .int .i64 wh, .str wc, .int .i64 wx, .int .i64 wy, .int .i64 wd], .int .i64 steps], [] => some (True, .tup [.int .i64 (bif goodB ⟨wr, ww, wh, wc, wx, wy, wd⟩ && inB steps 1 3000 then idxF (maxL (visF steps.toNat ⟨wr, ww, wh, wc, wx, wy, wd⟩)) (visF steps.toNat ⟨wr, ww, wh, wc, wx, wy, wd⟩) else 0), .bool (goodB ⟨wr, ww, wh, wc, wx, wy, wd⟩ && inB steps 1 3000)])
  | _, _ => none
def F_impl_MostVisited : FSpec := fun args m =>
  match args, m with
  | [.agg [.str wr, .int .i64 ww, .int .i64 wh, .str wc, .int .i64 wx, .int .i64 wy, .int .i64 wd], .int .i64 steps], [] => some (True, .tup [.int .i64 (bif goodB ⟨wr, ww, wh, wc, wx, wy, wd⟩ && inB steps 1 3000 then idxF (maxL (visF steps.toNat ⟨wr, ww, wh, wc, wx, wy, wd⟩)) (visF steps.toNat ⟨wr, ww, wh, wc, wx, wy, wd⟩) else 0), .bool (goodB ⟨wr, ww, wh, wc, wx, wy, wd⟩ && inB steps 1 3000)])
  | _, _ => none
def F_spec_CoverSteps : FSpec := fun args m =>
  match args, m with
  | [.agg [.str wr, .int .i64 ww, .int .i64 wh, .str wc, .int .i64 wx, .int .i64 wy, .int .i64 wd]], [] => some (True, .tup [.int .i64 (optI (covW (goodB ⟨wr, ww, wh, wc, wx, wy, wd⟩) ⟨wr, ww, wh, wc, wx, wy, wd⟩)), .bool (covW (goodB ⟨wr, ww, wh, wc, wx, wy, wd⟩) ⟨wr, ww, wh, wc, wx, wy, wd⟩).isSome])
  | _, _ => none
def F_impl_CoverSteps : FSpec := fun args m =>
  match args, m with
  | [.agg [.str wr, .int .i64 ww, .int .i64 wh, .str wc, .int .i64 wx, .int .i64 wy, .int .i64 wd]], [] => some (True, .tup [.int .i64 (optI (covW (goodB ⟨wr, ww, wh, wc, wx, wy, wd⟩) ⟨wr, ww, wh, wc, wx, wy, wd⟩)), .bool (covW (goodB ⟨wr, ww, wh, wc, wx, wy, wd⟩) ⟨wr, ww, wh, wc, wx, wy, wd⟩).isSome])
  | _, _ => none
def F_spec_NeverVisited : GSpec := fun args m =>
  match args, m with
  | [.agg [.str wr, .int .i64 ww, .int .i64 wh, .str wc, .int .i64 wx, .int .i64 wy, .int .i64 wd]], [] => some (True, .tup [.row 0 (nevW (goodB ⟨wr, ww, wh, wc, wx, wy, wd⟩) ⟨wr, ww, wh, wc, wx, wy, wd⟩).length, .bool ((untilW (goodB ⟨wr, ww, wh, wc, wx, wy, wd⟩) (pPer ⟨wr, ww, wh, wc, wx, wy, wd⟩) 1 ⟨wr, ww, wh, wc, wx, wy, wd⟩).isSome)], [⟨.ints .i64 (nevW (goodB ⟨wr, ww, wh, wc, wx, wy, wd⟩) ⟨wr, ww, wh, wc, wx, wy, wd⟩), 3, .row⟩])
  | _, _ => none
def F_impl_NeverVisited : GSpec := fun args m =>
  match args, m with
  | [.agg [.str wr, .int .i64 ww, .int .i64 wh, .str wc, .int .i64 wx, .int .i64 wy, .int .i64 wd]], [] => some (True, .tup [.row 0 (nevW (goodB ⟨wr, ww, wh, wc, wx, wy, wd⟩) ⟨wr, ww, wh, wc, wx, wy, wd⟩).length, .bool ((untilW (goodB ⟨wr, ww, wh, wc, wx, wy, wd⟩) (pPer ⟨wr, ww, wh, wc, wx, wy, wd⟩) 1 ⟨wr, ww, wh, wc, wx, wy, wd⟩).isSome)], [⟨.ints .i64 (nevW (goodB ⟨wr, ww, wh, wc, wx, wy, wd⟩) ⟨wr, ww, wh, wc, wx, wy, wd⟩), 3, .row⟩])
  | _, _ => none
def F_laws_eqIntS : FSpec := fun args m =>
  match args, m with
  | [.row 0 n, .row 1 m], [⟨.ints .i64 a, 3, .row⟩, ⟨.ints .i64 b, 3, .row⟩] => some (n = a.length ∧ m = b.length ∧ n ≤ 10000 ∧ m ≤ 10000, .bool (a == b))
  | _, _ => none
def F_laws_markIntS : GSpec := fun args m =>
  match args, m with
  | [.row 0 n, .int .i64 k], [⟨.ints .i64 a, 3, .row⟩] => some (n = a.length ∧ n ≤ 10000 ∧ 0 ≤ k ∧ k ≤ 10000, .int .i64 (k + n), [⟨.ints .i64 (ramp k n), 3, .row⟩])
  | _, _ => none
def F_laws_heldIntS : FSpec := fun args m =>
  match args, m with
  | [.row 0 n, .int .i64 k], [⟨.ints .i64 a, 3, .row⟩] => some (n = a.length ∧ n ≤ 10000 ∧ 0 ≤ k ∧ k ≤ 10000, .int .i64 (bif a == ramp k n then k + n else -1))
  | _, _ => none
end Go.Vi
