/- Closed forms of the functions of this chapter. -/
import Derived.Test.YtioppaofihbmpabDoorWCDefs
namespace Go.Vi
set_option linter.unusedVariables false
def F_spec_wmLife : GSpec := fun args m =>
  match args, m with
  | [.agg [.int .i64 mw, .int .i64 mh, .str mr, .str mn, .int .i64 mx, .int .i64 my, .int .i64 md], .str t], [] => some (womB ⟨mw, mh, mr, mn, mx, my, md⟩ = true ∧ tasB t = true, .tup [woV (iterW t (lifK t ⟨mw, mh, mr, mn, mx, my, md⟩) ⟨mw, mh, mr, mn, mx, my, md⟩), .str (mealsW t ⟨mw, mh, mr, mn, mx, my, md⟩ (lifK t ⟨mw, mh, mr, mn, mx, my, md⟩)), .row 0 (lifK t ⟨mw, mh, mr, mn, mx, my, md⟩ + 1)], [⟨.ints .i64 ((trackW t ⟨mw, mh, mr, mn, mx, my, md⟩ (lifK t ⟨mw, mh, mr, mn, mx, my, md⟩))), 3, .row⟩])
  | _, _ => none
def F_impl_lived : GSpec := fun args m =>
  match args, m with
  | [.agg [.int .i64 mw, .int .i64 mh, .str mr, .str mn, .int .i64 mx, .int .i64 my, .int .i64 md], .str t], [⟨.vals [.str g0, .str g1, .str g2, .str g3, .str g4, .str g5], 9, .gl 0⟩] => some (isTs g0 g1 g2 g3 g4 g5, .tup [.agg [.row 1 (mlR t ⟨mw, mh, mr, mn, mx, my, md⟩).length, .row 2 (tkR t ⟨mw, mh, mr, mn, mx, my, md⟩).length, .int .i64 (dthW t ⟨mw, mh, mr, mn, mx, my, md⟩).w, .int .i64 (dthW t ⟨mw, mh, mr, mn, mx, my, md⟩).h, .str (dthW t ⟨mw, mh, mr, mn, mx, my, md⟩).r, .str (dthW t ⟨mw, mh, mr, mn, mx, my, md⟩).n, .int .i64 (dthW t ⟨mw, mh, mr, mn, mx, my, md⟩).x, .int .i64 (dthW t ⟨mw, mh, mr, mn, mx, my, md⟩).y, .int .i64 (dthW t ⟨mw, mh, mr, mn, mx, my, md⟩).d], .bool (askB t ⟨mw, mh, mr, mn, mx, my, md⟩)], [⟨.vals [.str g0, .str g1, .str g2, .str g3, .str g4, .str g5], 9, .gl 0⟩, ⟨.ints .i32 (mlR t ⟨mw, mh, mr, mn, mx, my, md⟩), 21, .row⟩, ⟨.ints .i64 (tkR t ⟨mw, mh, mr, mn, mx, my, md⟩), 3, .row⟩])
  | _, _ => none
def F_spec_LifeOf : FSpec := fun args m =>
  match args, m with
  | [.agg [.int .i64 mw, .int .i64 mh, .str mr, .str mn, .int .i64 mx, .int .i64 my, .int .i64 md], .str t], [] => some (True, .tup [.int .i64 (mlR t ⟨mw, mh, mr, mn, mx, my, md⟩).length, .bool (askB t ⟨mw, mh, mr, mn, mx, my, md⟩)])
  | _, _ => none
def F_impl_LifeOf : FSpec := fun args m =>
  match args, m with
  | [.agg [.int .i64 mw, .int .i64 mh, .str mr, .str mn, .int .i64 mx, .int .i64 my, .int .i64 md], .str t], [⟨.vals [.str g0, .str g1, .str g2, .str g3, .str g4, .str g5], 9, .gl 0⟩] => some (isTs g0 g1 g2 g3 g4 g5, .tup [.int .i64 (mlR t ⟨mw, mh, mr, mn, mx, my, md⟩).length, .bool (askB t ⟨mw, mh, mr, mn, mx, my, md⟩)])
  | _, _ => none
def F_spec_DeathOf : FSpec := fun args m =>
  match args, m with
  | [.agg [.int .i64 mw, .int .i64 mh, .str mr, .str mn, .int .i64 mx, .int .i64 my, .int .i64 md], .str t], [] => some (True, okWo (askB t ⟨mw, mh, mr, mn, mx, my, md⟩) (iterW t (lifK t ⟨mw, mh, mr, mn, mx, my, md⟩) ⟨mw, mh, mr, mn, mx, my, md⟩))
  | _, _ => none
def F_impl_DeathOf : FSpec := fun args m =>
  match args, m with
  | [.agg [.int .i64 mw, .int .i64 mh, .str mr, .str mn, .int .i64 mx, .int .i64 my, .int .i64 md], .str t], [⟨.vals [.str g0, .str g1, .str g2, .str g3, .str g4, .str g5], 9, .gl 0⟩] => some (isTs g0 g1 g2 g3 g4 g5, okWo (askB t ⟨mw, mh, mr, mn, mx, my, md⟩) (iterW t (lifK t ⟨mw, mh, mr, mn, mx, my, md⟩) ⟨mw, mh, mr, mn, mx, my, md⟩))
  | _, _ => none
def F_spec_MealsOfWorm : FSpec := fun args m =>
  match args, m with
  | [.agg [.int .i64 mw, .int .i64 mh, .str mr, .str mn, .int .i64 mx, .int .i64 my, .int .i64 md], .str t], [] => some (True, .tup [.str (mlS t ⟨mw, mh, mr, mn, mx, my, md⟩), .bool (askB t ⟨mw, mh, mr, mn, mx, my, md⟩)])
  | _, _ => none
def F_impl_MealsOfWorm : FSpec := fun args m =>
  match args, m with
  | [.agg [.int .i64 mw, .int .i64 mh, .str mr, .str mn, .int .i64 mx, .int .i64 my, .int .i64 md], .str t], [⟨.vals [.str g0, .str g1, .str g2, .str g3, .str g4, .str g5], 9, .gl 0⟩] => some (isTs g0 g1 g2 g3 g4 g5, .tup [.str (mlS t ⟨mw, mh, mr, mn, mx, my, md⟩), .bool (askB t ⟨mw, mh, mr, mn, mx, my, md⟩)])
  | _, _ => none
def F_spec_TrackOfWorm : GSpec := fun args m =>
  match args, m with
  | [.agg [.int .i64 mw, .int .i64 mh, .str mr, .str mn, .int .i64 mx, .int .i64 my, .int .i64 md], .str t], [] => some (True, .tup [.row 0 (tkR t ⟨mw, mh, mr, mn, mx, my, md⟩).length, .bool (askB t ⟨mw, mh, mr, mn, mx, my, md⟩)], [⟨.ints .i64 (tkR t ⟨mw, mh, mr, mn, mx, my, md⟩), 3, .row⟩])
  | _, _ => none
def F_impl_TrackOfWorm : GSpec := fun args m =>
  match args, m with
  | [.agg [.int .i64 mw, .int .i64 mh, .str mr, .str mn, .int .i64 mx, .int .i64 my, .int .i64 md], .str t], [⟨.vals [.str g0, .str g1, .str g2, .str g3, .str g4, .str g5], 9, .gl 0⟩] => some (isTs g0 g1 g2 g3 g4 g5, .tup [.row 1 (tkR t ⟨mw, mh, mr, mn, mx, my, md⟩).length, .bool (askB t ⟨mw, mh, mr, mn, mx, my, md⟩)], [⟨.vals [.str g0, .str g1, .str g2, .str g3, .str g4, .str g5], 9, .gl 0⟩, ⟨.ints .i64 (tkR t ⟨mw, mh, mr, mn, mx, my, md⟩), 3, .row⟩])
  | _, _ => none
end Go.Vi
