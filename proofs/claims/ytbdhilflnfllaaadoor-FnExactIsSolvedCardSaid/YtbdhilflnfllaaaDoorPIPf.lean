import Derived.Test.YtbdhilflnfllaaaDoorPXPf
/- Solved puzzles. -/
namespace Go.Vi
def solI (r : List UInt8) (w h : Int) (n : Nat) (a : List Int) : List (List UInt8) := bif goodZ r w h n a then solZ r w h n a else []
end Go.Vi

/- Closed forms of the functions of this chapter. -/
namespace Go.Vi
set_option linter.unusedVariables false
def F_impl_CountSolutions : FSpec := fun args m =>
  match args, m with
  | [.agg [.str pr, .int .i64 pw, .int .i64 ph, .row 0 n]], [⟨.ints .i64 a, 74, .rows 3⟩] => some (a.length = n * 3 ∧ n ≤ 2000000, .tup [.int .i64 (solI pr pw ph n a).length, .bool (goodZ pr pw ph n a)])
  | _, _ => none
def F_spec_IsSolved : FSpec := fun args m =>
  match args, m with
  | [.agg [.str pr, .int .i64 pw, .int .i64 ph, .row 0 n]], [⟨.ints .i64 a, 74, .rows 3⟩] => some (a.length = n * 3 ∧ n ≤ 2000000, .tup [.bool (((solI pr pw ph n a).length : Int) == 1), .bool (goodZ pr pw ph n a)])
  | _, _ => none
def F_impl_IsSolved : FSpec := fun args m =>
  match args, m with
  | [.agg [.str pr, .int .i64 pw, .int .i64 ph, .row 0 n]], [⟨.ints .i64 a, 74, .rows 3⟩] => some (a.length = n * 3 ∧ n ≤ 2000000, .tup [.bool (((solI pr pw ph n a).length : Int) == 1), .bool (goodZ pr pw ph n a)])
  | _, _ => none
end Go.Vi

/- The conditions, reckoned out by program: texts alone. -/
namespace Go.Vi
set_option linter.unusedVariables false
def VC_impl_CountSolutions (pr : List UInt8) (pw : Int) (ph : Int) (n : Nat) (a : List Int) (K : V → List Blk → Prop) : Prop :=
  At (List.length a = n * (3 : Nat) ∧ n ≤ (2000000 : Nat)) ∧
  K
    (V.tup
      [V.int IntKind.i64 (↑(List.length (bif goodZ pr pw ph n a then solZ pr pw ph n a else [])) : Int),
        V.bool (goodZ pr pw ph n a)])
    [{ cs := Cells.ints IntKind.i64 a, elem := 74, kind := Kind.rows (3 : Nat) },
      { cs := Cells.vals [V.str pr, V.int IntKind.i64 pw, V.int IntKind.i64 ph, V.row (0 : Nat) n], elem := 31,
        kind := Kind.box },
      { cs := Cells.strs (bif goodZ pr pw ph n a then solZ pr pw ph n a else []), elem := 9, kind := Kind.row }]

def VC_spec_IsSolved (pr : List UInt8) (pw : Int) (ph : Int) (n : Nat) (a : List Int) (K : V → List Blk → Prop) : Prop :=
  At (List.length a = n * (3 : Nat) ∧ n ≤ (2000000 : Nat)) ∧
  ((!goodZ pr pw ph n a) = true →
      K (V.tup [V.lit false, V.lit false])
        [{ cs := Cells.ints IntKind.i64 a, elem := 74, kind := Kind.rows (3 : Nat) },
          { cs := Cells.vals [V.str pr, V.int IntKind.i64 pw, V.int IntKind.i64 ph, V.row (0 : Nat) n],
            elem := 31, kind := Kind.box }]) ∧
    ((!goodZ pr pw ph n a) = false →
      At (goodZ pr pw ph n a = true ∧ List.length a = n * (3 : Nat)) ∧
        K (V.tup [V.bool ((↑(List.length (solZ pr pw ph n a)) : Int) == (1 : Int)), V.lit true])
          [{ cs := Cells.ints IntKind.i64 a, elem := 74, kind := Kind.rows (3 : Nat) },
            { cs := Cells.vals [V.str pr, V.int IntKind.i64 pw, V.int IntKind.i64 ph, V.row (0 : Nat) n],
              elem := 31, kind := Kind.box }])

def VC_impl_IsSolved (pr : List UInt8) (pw : Int) (ph : Int) (n : Nat) (a : List Int) (K : V → List Blk → Prop) : Prop :=
  At (List.length a = n * (3 : Nat) ∧ n ≤ (2000000 : Nat)) ∧
  K (V.tup [V.bool ((↑(List.length (solI pr pw ph n a)) : Int) == (1 : Int)), V.bool (goodZ pr pw ph n a)])
    [{ cs := Cells.ints IntKind.i64 a, elem := 74, kind := Kind.rows (3 : Nat) },
      { cs := Cells.vals [V.str pr, V.int IntKind.i64 pw, V.int IntKind.i64 ph, V.row (0 : Nat) n], elem := 31,
        kind := Kind.box }]

end Go.Vi

/- Solved puzzles: the conditions hold. -/
namespace Go.Vi
theorem retG_ni {a : List Int} {e : TypeId} {k : Int} {c : Bool} {rest : List Blk} : retG 1 (.tup [.int .i64 k, .bool c]) [⟨.ints .i64 a, e, .rows 3⟩] (.tup [.int .i64 k, .bool c]) (⟨.ints .i64 a, e, .rows 3⟩ :: rest) := by
  unfold retG leSel leSelBy autoSel
  simp [pairsL, pairsV, idPairs, pairsIn, selOf, lookN, selMem, chkB, nodupSel, hasSel, prefSel, leSt, leL, leV, nilToL, V.nilTo, selL, V.sel, Cells.selN, leMem, leCells, memUnder, underL, V.under]
theorem retG_bb {a : List Int} {e : TypeId} {k c : Bool} {v x : V} {rest : List Blk} (h1 : v = .lit k ∨ v = .bool k) (hx : x = .lit c ∨ x = .bool c) : retG 1 (.tup [.bool k, .bool c]) [⟨.ints .i64 a, e, .rows 3⟩] (.tup [v, x]) (⟨.ints .i64 a, e, .rows 3⟩ :: rest) := by
  rcases h1 with rfl | rfl <;> rcases hx with rfl | rfl
  all_goals
    unfold retG leSel leSelBy autoSel
    simp [pairsL, pairsV, idPairs, pairsIn, selOf, lookN, selMem, chkB, nodupSel, hasSel, prefSel, leSt, leL, leV, nilToL, V.nilTo, selL, V.sel, Cells.selN, leMem, leCells, memUnder, underL, V.under]
theorem solI_no {r : List UInt8} {w h : Int} {n : Nat} {a : List Int} (hg : goodZ r w h n a = false) : solI r w h n a = [] := by
  unfold solI
  rw [hg]
  rfl
theorem solI_yes {r : List UInt8} {w h : Int} {n : Nat} {a : List Int} (hg : goodZ r w h n a = true) : solI r w h n a = solZ r w h n a := by
  unfold solI
  rw [hg]
  rfl
theorem vc_impl_CountSolutions (pr : List UInt8) (pw ph : Int) (n : Nat) (a : List Int) (h : a.length = n * 3 ∧ n ≤ 2000000) : VC_impl_CountSolutions pr pw ph n a (retG 1 (.tup [.int .i64 (solI pr pw ph n a).length, .bool (goodZ pr pw ph n a)]) [⟨.ints .i64 a, 74, .rows 3⟩]) := by
  unfold VC_impl_CountSolutions
  exact ⟨⟨h⟩, retG_ni⟩
theorem vc_spec_IsSolved (pr : List UInt8) (pw ph : Int) (n : Nat) (a : List Int) (h : a.length = n * 3 ∧ n ≤ 2000000) : VC_spec_IsSolved pr pw ph n a (retG 1 (.tup [.bool (((solI pr pw ph n a).length : Int) == 1), .bool (goodZ pr pw ph n a)]) [⟨.ints .i64 a, 74, .rows 3⟩]) := by
  unfold VC_spec_IsSolved
  refine ⟨⟨h⟩, fun hg => ?_, fun hg => ?_⟩
  · rw [Bool.not_eq_true'] at hg
    rw [hg, solI_no hg]
    exact retG_bb (.inl rfl) (.inl rfl)
  · rw [Bool.not_eq_false'] at hg
    rw [hg, solI_yes hg]
    exact ⟨⟨rfl, h.1⟩, retG_bb (.inr rfl) (.inl rfl)⟩
theorem vc_impl_IsSolved (pr : List UInt8) (pw ph : Int) (n : Nat) (a : List Int) (h : a.length = n * 3 ∧ n ≤ 2000000) : VC_impl_IsSolved pr pw ph n a (retG 1 (.tup [.bool (((solI pr pw ph n a).length : Int) == 1), .bool (goodZ pr pw ph n a)]) [⟨.ints .i64 a, 74, .rows 3⟩]) := by
  unfold VC_impl_IsSolved
  exact ⟨⟨h⟩, retG_bb (.inr rfl) (.inr rfl)⟩
end Go.Vi
