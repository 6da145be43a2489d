import Derived.Test.YtbdhilflnfllaaaDoorPXPf
/- Solutions counted. -/
namespace Go.Vi
def solB (r : List UInt8) (w h : Int) (n : Nat) (a : List Int) : List (List UInt8) := bif goodZ r w h n a then solZ r w h n a else []
end Go.Vi

/- Closed forms of the functions of this chapter. -/
namespace Go.Vi
set_option linter.unusedVariables false
def F_spec_CountSolutions : FSpec := fun args m =>
  match args, m with
  | [.agg [.str pr, .int .i64 pw, .int .i64 ph, .row 0 n]], [⟨.ints .i64 a, 74, .rows 3⟩] => some (a.length = n * 3 ∧ n ≤ 2000000, .tup [.int .i64 (solB pr pw ph n a).length, .bool (goodZ pr pw ph n a)])
  | _, _ => none
def F_impl_CountSolutions : FSpec := fun args m =>
  match args, m with
  | [.agg [.str pr, .int .i64 pw, .int .i64 ph, .row 0 n]], [⟨.ints .i64 a, 74, .rows 3⟩] => some (a.length = n * 3 ∧ n ≤ 2000000, .tup [.int .i64 (solB pr pw ph n a).length, .bool (goodZ pr pw ph n a)])
  | _, _ => none
def F_spec_FirstSolution : FSpec := fun args m =>
  match args, m with
  | [.agg [.str pr, .int .i64 pw, .int .i64 ph, .row 0 n]], [⟨.ints .i64 a, 74, .rows 3⟩] => some (a.length = n * 3 ∧ n ≤ 2000000, .tup [.str ((solB pr pw ph n a).getD 0 []), .bool (decide (0 < (solB pr pw ph n a).length))])
  | _, _ => none
def F_impl_FirstSolution : FSpec := fun args m =>
  match args, m with
  | [.agg [.str pr, .int .i64 pw, .int .i64 ph, .row 0 n]], [⟨.ints .i64 a, 74, .rows 3⟩] => some (a.length = n * 3 ∧ n ≤ 2000000, .tup [.str ((solB pr pw ph n a).getD 0 []), .bool (decide (0 < (solB pr pw ph n a).length))])
  | _, _ => none
end Go.Vi

/- The conditions, reckoned out by program: texts alone. -/
namespace Go.Vi
set_option linter.unusedVariables false
def VC_spec_CountSolutions (pr : List UInt8) (pw : Int) (ph : Int) (n : Nat) (a : List Int) (K : V → List Blk → Prop) : Prop :=
  At (List.length a = n * (3 : Nat) ∧ n ≤ (2000000 : Nat)) ∧
  ((!goodZ pr pw ph n a) = true →
      K (V.tup [V.int IntKind.i64 (0 : Int), V.lit false])
        [{ cs := Cells.ints IntKind.i64 a, elem := 74, kind := Kind.rows (3 : Nat) },
          { cs := Cells.vals [V.str pr, V.int IntKind.i64 pw, V.int IntKind.i64 ph, V.row (0 : Nat) n],
            elem := 31, kind := Kind.box }]) ∧
    ((!goodZ pr pw ph n a) = false →
      At (goodZ pr pw ph n a = true ∧ List.length a = n * (3 : Nat)) ∧
        K (V.tup [V.int IntKind.i64 (↑(List.length (solZ pr pw ph n a)) : Int), V.lit true])
          [{ cs := Cells.ints IntKind.i64 a, elem := 74, kind := Kind.rows (3 : Nat) },
            { cs := Cells.vals [V.str pr, V.int IntKind.i64 pw, V.int IntKind.i64 ph, V.row (0 : Nat) n],
              elem := 31, kind := Kind.box },
            { cs := Cells.strs (solZ pr pw ph n a), elem := 9, kind := Kind.row }])

def VC_impl_CountSolutions (pr : List UInt8) (pw : Int) (ph : Int) (n : Nat) (a : List Int) (K : V → List Blk → Prop) : Prop :=
  At (List.length a = n * (3 : Nat) ∧ n ≤ (2000000 : Nat)) ∧
  K
    (V.tup
      [V.int IntKind.i64 (↑(List.length (bif goodZ pr pw ph n a then solZ pr pw ph n a else [])) : Int),
        V.bool (goodZ pr pw ph n a)])
    [{ cs := Cells.ints IntKind.i64 a, elem := 74, kind := Kind.rows (3 : Nat) },
      { cs := Cells.vals [V.str pr, V.int IntKind.i64 pw, V.int IntKind.i64 ph, V.row (0 : Nat) n], elem := 31,
        kind := Kind.box },
      { cs := Cells.strs (bif goodZ pr pw ph n a then solZ pr pw ph n a else []), elem := 9, kind := Kind.row }]

def VC_spec_FirstSolution (pr : List UInt8) (pw : Int) (ph : Int) (n : Nat) (a : List Int) (K : V → List Blk → Prop) : Prop :=
  At (List.length a = n * (3 : Nat) ∧ n ≤ (2000000 : Nat)) ∧
  ((!goodZ pr pw ph n a) = true →
      K (V.tup [V.str (Array.toList #[]), V.lit false])
        [{ cs := Cells.ints IntKind.i64 a, elem := 74, kind := Kind.rows (3 : Nat) },
          { cs := Cells.vals [V.str pr, V.int IntKind.i64 pw, V.int IntKind.i64 ph, V.row (0 : Nat) n],
            elem := 31, kind := Kind.box }]) ∧
    ((!goodZ pr pw ph n a) = false →
      At (goodZ pr pw ph n a = true ∧ List.length a = n * (3 : Nat)) ∧
        (((↑(List.length (solZ pr pw ph n a)) : Int) == (0 : Int)) = true →
            K (V.tup [V.str (Array.toList #[]), V.lit false])
              [{ cs := Cells.ints IntKind.i64 a, elem := 74, kind := Kind.rows (3 : Nat) },
                { cs := Cells.vals [V.str pr, V.int IntKind.i64 pw, V.int IntKind.i64 ph, V.row (0 : Nat) n],
                  elem := 31, kind := Kind.box },
                { cs := Cells.strs (solZ pr pw ph n a), elem := 9, kind := Kind.row }]) ∧
          (((↑(List.length (solZ pr pw ph n a)) : Int) == (0 : Int)) = false →
            At ((0 : Int) ≤ (0 : Int) ∧ (0 : Int) < (↑(List.length (solZ pr pw ph n a)) : Int)) ∧
              At (Int.toNat (0 : Int) < List.length (solZ pr pw ph n a)) ∧
                K (V.tup [V.str (List.getD (solZ pr pw ph n a) (Int.toNat (0 : Int)) []), V.lit true])
                  [{ cs := Cells.ints IntKind.i64 a, elem := 74, kind := Kind.rows (3 : Nat) },
                    { cs := Cells.vals [V.str pr, V.int IntKind.i64 pw, V.int IntKind.i64 ph, V.row (0 : Nat) n],
                      elem := 31, kind := Kind.box },
                    { cs := Cells.strs (solZ pr pw ph n a), elem := 9, kind := Kind.row }]))

def VC_impl_FirstSolution (pr : List UInt8) (pw : Int) (ph : Int) (n : Nat) (a : List Int) (K : V → List Blk → Prop) : Prop :=
  At (List.length a = n * (3 : Nat) ∧ n ≤ (2000000 : Nat)) ∧
  (((↑(List.length (bif goodZ pr pw ph n a then solZ pr pw ph n a else [])) : Int) == (0 : Int)) = true →
      K (V.tup [V.str (Array.toList #[]), V.lit false])
        [{ cs := Cells.ints IntKind.i64 a, elem := 74, kind := Kind.rows (3 : Nat) },
          { cs := Cells.vals [V.str pr, V.int IntKind.i64 pw, V.int IntKind.i64 ph, V.row (0 : Nat) n],
            elem := 31, kind := Kind.box },
          { cs := Cells.strs (bif goodZ pr pw ph n a then solZ pr pw ph n a else []), elem := 9,
            kind := Kind.row }]) ∧
    (((↑(List.length (bif goodZ pr pw ph n a then solZ pr pw ph n a else [])) : Int) == (0 : Int)) = false →
      At
          ((0 : Int) ≤ (0 : Int) ∧
            (0 : Int) < (↑(List.length (bif goodZ pr pw ph n a then solZ pr pw ph n a else [])) : Int)) ∧
        At (Int.toNat (0 : Int) < List.length (bif goodZ pr pw ph n a then solZ pr pw ph n a else [])) ∧
          K
            (V.tup
              [V.str (List.getD (bif goodZ pr pw ph n a then solZ pr pw ph n a else []) (Int.toNat (0 : Int)) []),
                V.lit true])
            [{ cs := Cells.ints IntKind.i64 a, elem := 74, kind := Kind.rows (3 : Nat) },
              { cs := Cells.vals [V.str pr, V.int IntKind.i64 pw, V.int IntKind.i64 ph, V.row (0 : Nat) n],
                elem := 31, kind := Kind.box },
              { cs := Cells.strs (bif goodZ pr pw ph n a then solZ pr pw ph n a else []), elem := 9,
                kind := Kind.row }])

end Go.Vi

/- Solutions counted: the conditions hold. -/
namespace Go.Vi
theorem retG_nb {a : List Int} {e : TypeId} {k k' : Int} {c : Bool} {x : V} {rest : List Blk} (h1 : k' = k) (hx : x = .lit c ∨ x = .bool c) : retG 1 (.tup [.int .i64 k, .bool c]) [⟨.ints .i64 a, e, .rows 3⟩] (.tup [.int .i64 k', x]) (⟨.ints .i64 a, e, .rows 3⟩ :: rest) := by
  subst h1
  rcases hx with rfl | rfl
  all_goals
    unfold retG leSel leSelBy autoSel
    simp [pairsL, pairsV, idPairs, pairsIn, selOf, lookN, selMem, chkB, nodupSel, hasSel, prefSel, leSt, leL, leV, nilToL, V.nilTo, selL, V.sel, Cells.selN, leMem, leCells, memUnder, underL, V.under]
theorem retG_tb {a : List Int} {e : TypeId} {k k' : List UInt8} {c : Bool} {x : V} {rest : List Blk} (h1 : k' = k) (hx : x = .lit c ∨ x = .bool c) : retG 1 (.tup [.str k, .bool c]) [⟨.ints .i64 a, e, .rows 3⟩] (.tup [.str k', x]) (⟨.ints .i64 a, e, .rows 3⟩ :: rest) := by
  subst h1
  rcases hx with rfl | rfl
  all_goals
    unfold retG leSel leSelBy autoSel
    simp [pairsL, pairsV, idPairs, pairsIn, selOf, lookN, selMem, chkB, nodupSel, hasSel, prefSel, leSt, leL, leV, nilToL, V.nilTo, selL, V.sel, Cells.selN, leMem, leCells, memUnder, underL, V.under]
theorem solB_no {r : List UInt8} {w h : Int} {n : Nat} {a : List Int} (hg : goodZ r w h n a = false) : solB r w h n a = [] := by
  unfold solB
  rw [hg]
  rfl
theorem solB_yes {r : List UInt8} {w h : Int} {n : Nat} {a : List Int} (hg : goodZ r w h n a = true) : solB r w h n a = solZ r w h n a := by
  unfold solB
  rw [hg]
  rfl
theorem vc_spec_CountSolutions (pr : List UInt8) (pw ph : Int) (n : Nat) (a : List Int) (h : a.length = n * 3 ∧ n ≤ 2000000) : VC_spec_CountSolutions pr pw ph n a (retG 1 (.tup [.int .i64 (solB pr pw ph n a).length, .bool (goodZ pr pw ph n a)]) [⟨.ints .i64 a, 74, .rows 3⟩]) := by
  unfold VC_spec_CountSolutions
  refine ⟨⟨h⟩, fun hg => ?_, fun hg => ?_⟩
  · rw [Bool.not_eq_true'] at hg
    rw [hg, solB_no hg]
    exact retG_nb rfl (.inl rfl)
  · rw [Bool.not_eq_false'] at hg
    rw [hg, solB_yes hg]
    exact ⟨⟨rfl, h.1⟩, retG_nb rfl (.inl rfl)⟩
theorem vc_impl_CountSolutions (pr : List UInt8) (pw ph : Int) (n : Nat) (a : List Int) (h : a.length = n * 3 ∧ n ≤ 2000000) : VC_impl_CountSolutions pr pw ph n a (retG 1 (.tup [.int .i64 (solB pr pw ph n a).length, .bool (goodZ pr pw ph n a)]) [⟨.ints .i64 a, 74, .rows 3⟩]) := by
  unfold VC_impl_CountSolutions
  exact ⟨⟨h⟩, retG_nb rfl (.inr rfl)⟩
theorem len0 {l : List (List UInt8)} (h : ((l.length : Int) == 0) = true) : l = [] := by
  rw [beq_iff_eq] at h
  exact List.eq_nil_of_length_eq_zero (by omega)
theorem len1 {l : List (List UInt8)} (h : ((l.length : Int) == 0) = false) : 0 < l.length := by
  rw [beq_eq_false_iff_ne] at h
  omega
theorem vc_spec_FirstSolution (pr : List UInt8) (pw ph : Int) (n : Nat) (a : List Int) (h : a.length = n * 3 ∧ n ≤ 2000000) : VC_spec_FirstSolution pr pw ph n a (retG 1 (.tup [.str ((solB pr pw ph n a).getD 0 []), .bool (decide (0 < (solB pr pw ph n a).length))]) [⟨.ints .i64 a, 74, .rows 3⟩]) := by
  unfold VC_spec_FirstSolution
  refine ⟨⟨h⟩, fun hg => ?_, fun hg => ?_⟩
  · rw [Bool.not_eq_true'] at hg
    rw [solB_no hg]
    exact retG_tb rfl (.inl rfl)
  · rw [Bool.not_eq_false'] at hg
    rw [solB_yes hg]
    refine ⟨⟨hg, h.1⟩, fun hl => ?_, fun hl => ?_⟩
    · rw [len0 hl]
      exact retG_tb rfl (.inl rfl)
    · have hl := len1 hl
      rw [decide_eq_true hl]
      exact ⟨⟨by omega, by omega⟩, ⟨hl⟩, retG_tb rfl (.inl rfl)⟩
theorem vc_impl_FirstSolution (pr : List UInt8) (pw ph : Int) (n : Nat) (a : List Int) (h : a.length = n * 3 ∧ n ≤ 2000000) : VC_impl_FirstSolution pr pw ph n a (retG 1 (.tup [.str ((solB pr pw ph n a).getD 0 []), .bool (decide (0 < (solB pr pw ph n a).length))]) [⟨.ints .i64 a, 74, .rows 3⟩]) := by
  unfold VC_impl_FirstSolution
  rw [show (bif goodZ pr pw ph n a then solZ pr pw ph n a else []) = solB pr pw ph n a from rfl]
  refine ⟨⟨h⟩, fun hl => ?_, fun hl => ?_⟩
  · rw [len0 hl]
    exact retG_tb rfl (.inl rfl)
  · have hl := len1 hl
    rw [decide_eq_true hl]
    exact ⟨⟨by omega, by omega⟩, ⟨hl⟩, retG_tb rfl (.inl rfl)⟩
end Go.Vi
