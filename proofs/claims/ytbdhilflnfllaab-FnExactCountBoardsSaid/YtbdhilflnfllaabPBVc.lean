/- The conditions, reckoned out by program: texts alone. -/
import Derived.Test.YtbdhilflnfllaabPBDefs
namespace Go.Vi
set_option linter.unusedVariables false
def VC_spec_CountBoards (s : List UInt8) (w : Int) (h : Int) (K : V → Prop) : Prop :=
  At True ∧
  ((!sizeB s w h) = true → K (V.tup [V.int IntKind.i64 (0 : Int), V.lit false])) ∧
    ((!sizeB s w h) = false →
      At
          ((1 : Nat) ≤ List.length s ∧
            List.length s ≤ (6 : Nat) ∧
              (0 : Int) ≤ IntKind.wrap IntKind.i64 (w * h) ∧ IntKind.wrap IntKind.i64 (w * h) ≤ (9 : Int)) ∧
        K
          (V.tup
            [V.int IntKind.i64 (pow300 (List.length s) (Int.toNat (IntKind.wrap IntKind.i64 (w * h)))), V.lit true]))

def VC_spec_AddClue_q1 (cx : Int) (cy : Int) (ck : Int) (pr : List UInt8) (pw : Int) (ph : Int) (n : Nat) (a : List Int) : Prop := (At ((List.length (([] : List Int) ++ List.take (n * (3 : Nat)) a) = ((0 : Nat) + n) * (3 : Nat) ∧ (1 : Nat) * (3 : Nat) ≤ List.length [cx, cy, ck]) ∧ posM (rowKind (3 : Nat)) (1 : Nat) ∧ (0 : Nat) + n + (1 : Nat) ≤ (1000000000 : Nat)) ∧ ((True ∧ (((1 : Nat) = (1 : Nat) ∧ (0 : Nat) = (0 : Nat)) ∧ ((2 : Nat) = (2 : Nat) ∧ (0 : Nat) = (0 : Nat)) ∧ ((3 : Nat) = (3 : Nat) ∧ (0 : Nat) = (0 : Nat)) ∧ true = true ∧ True) ∧ ((True ∧ IntKind.i64 = IntKind.i64 ∧ a = a) ∧ (True ∧ pr = pr ∧ (True ∧ pw = pw) ∧ (True ∧ ph = ph) ∧ ((0 : Nat) = (0 : Nat) ∧ n = n) ∧ True) ∧ (True ∧ (True ∧ cx = cx) ∧ (True ∧ cy = cy) ∧ (True ∧ ck = ck) ∧ True) ∧ (True ∧ pr = pr ∧ (True ∧ pw = pw) ∧ (True ∧ ph = ph) ∧ ((4 : Nat) = (4 : Nat) ∧ (0 : Nat) + n + (1 : Nat) = n + (1 : Nat)) ∧ True) ∧ (True ∧ IntKind.i64 = IntKind.i64 ∧ ([] : List Int) ++ List.take (n * (3 : Nat)) a ++ List.take ((1 : Nat) * (3 : Nat)) [cx, cy, ck] = a ++ [cx, cy, ck]) ∧ True) ∧ True) ∧ True) ∧ True)
def VC_spec_AddClue (cx : Int) (cy : Int) (ck : Int) (pr : List UInt8) (pw : Int) (ph : Int) (n : Nat) (a : List Int) (K : V → List Blk → Prop) : Prop := At (List.length a = n * (3 
  : Nat) ∧ n ≤ (2000000 : Nat)) ∧ ((!goodZ pr pw ph n a) = true → K (V.tup [V.agg [V.str (Array.toList #[]), V.int IntKind.i64 (0 : Int), V.int IntKind.i64 (0 : Int), V.raw (Value.slice 
  none (0 : Nat) (0 : Nat))], V.lit false]) [{ cs := Cells.ints IntKind.i64 a, elem := 37, kind := Kind.rows (3 : Nat) }, { cs := Cells.vals [V.str pr, V.int IntKind.i64 pw, V.int IntKind.i64 ph, V.row (0 : Nat) n], elem := 33, kind := Kind.box }, 
  { cs := Cells.vals [V.int IntKind.i64 cx, V.int IntKind.i64 cy, V.int IntKind.i64 ck], elem := 37, kind := Kind.box }, { cs := Cells.vals [V.str (Array.toList #[]), V.int IntKind.i64 (0 : Int), V.int IntKind.i64 (0 : Int), V.raw (Value.slice none (0 : Nat) (0 : Nat))], elem := 33, kind := Kind.box }]) 
  ∧ ((!goodZ pr pw ph n a) = false → At (List.length pr ≤ (1000 : Nat) ∧ (0 : Int) ≤ IntKind.wrap IntKind.i64 (pw * ph) ∧ IntKind.wrap IntKind.i64 (pw * ph) ≤ (1000 : Int)) ∧ ((!clueB 
  cx cy ck (↑(List.length pr) : Int) (IntKind.wrap IntKind.i64 (pw * ph))) = true → K (V.tup [V.agg [V.str (Array.toList #[]), V.int IntKind.i64 (0 : Int), V.int IntKind.i64 (0 : Int), 
  V.raw (Value.slice none (0 : Nat) (0 : Nat))], V.lit false]) [{ cs := Cells.ints IntKind.i64 a, elem := 37, kind := Kind.rows (3 : Nat) }, { cs := Cells.vals [V.str pr, V.int IntKind.i64 pw, V.int IntKind.i64 ph, V.row (0 : Nat) n], elem := 33, kind := Kind.box }, 
  { cs := Cells.vals [V.int IntKind.i64 cx, V.int IntKind.i64 cy, V.int IntKind.i64 ck], elem := 37, kind := Kind.box }, { cs := Cells.vals [V.str (Array.toList #[]), V.int IntKind.i64 (0 : Int), V.int IntKind.i64 (0 : Int), V.raw (Value.slice none (0 : Nat) (0 : Nat))], elem := 33, kind := Kind.box }]) 
  ∧ ((!clueB cx cy ck (↑(List.length pr) : Int) (IntKind.wrap IntKind.i64 (pw * ph))) = false → (((↑n : Int) == (6 : Int)) = true → K (V.tup [V.agg [V.str (Array.toList #[]), V.int IntKind.i64 
  (0 : Int), V.int IntKind.i64 (0 : Int), V.raw (Value.slice none (0 : Nat) (0 : Nat))], V.lit false]) [{ cs := Cells.ints IntKind.i64 a, elem := 37, kind := Kind.rows (3 : Nat) }, 
  { cs := Cells.vals [V.str pr, V.int IntKind.i64 pw, V.int IntKind.i64 ph, V.row (0 : Nat) n], elem := 33, kind := Kind.box }, { cs := Cells.vals [V.int IntKind.i64 cx, V.int IntKind.i64 cy, V.int IntKind.i64 ck], elem := 37, kind := Kind.box }, 
  { cs := Cells.vals [V.str (Array.toList #[]), V.int IntKind.i64 (0 : Int), V.int IntKind.i64 (0 : Int), V.raw (Value.slice none (0 : Nat) (0 : Nat))], elem := 33, kind := Kind.box }]) 
  ∧ (((↑n : Int) == (6 : Int)) = false → (((((At ((List.length ([] : List Int) = (0 : Nat) * (3 : Nat) ∧ n * (3 : Nat) ≤ List.length a) ∧ posM (rowKind (3 : Nat)) n ∧ (0 : Nat) + n ≤ 
  (1000000000 : Nat)) ∧ (((VC_spec_AddClue_q1 cx cy ck pr pw ph n a) ∧ True) ∧ True) ∧ True) ∧ ((At ((List.length ([] : List Int) = (0 : Nat) * (3 : Nat) ∧ n * (3 : Nat) ≤ List.length 
  a) ∧ posM (rowKind (3 : Nat)) n ∧ (0 : Nat) + n ≤ (1000000000 : Nat)) ∧ ((VC_spec_AddClue_q1 cx cy ck pr pw ph n a) ∧ True) ∧ True) ∧ ((At ((List.length ([] : List Int) = (0 : Nat) 
  * (3 : Nat) ∧ n * (3 : Nat) ≤ List.length a) ∧ posM (rowKind (3 : Nat)) n ∧ (0 : Nat) + n ≤ (1000000000 : Nat)) ∧ (VC_spec_AddClue_q1 cx cy ck pr pw ph n a) ∧ True) ∧ True) ∧ True) 
  ∧ True) ∧ (((At ((List.length ([] : List Int) = (0 : Nat) * (3 : Nat) ∧ n * (3 : Nat) ≤ List.length a) ∧ posM (rowKind (3 : Nat)) n ∧ (0 : Nat) + n ≤ (1000000000 : Nat)) ∧ ((VC_spec_AddClue_q1 
  cx cy ck pr pw ph n a) ∧ True) ∧ True) ∧ ((At ((List.length ([] : List Int) = (0 : Nat) * (3 : Nat) ∧ n * (3 : Nat) ≤ List.length a) ∧ posM (rowKind (3 : Nat)) n ∧ (0 : Nat) + n ≤ (1000000000 
  : Nat)) ∧ (VC_spec_AddClue_q1 cx cy ck pr pw ph n a) ∧ True) ∧ True) ∧ True) ∧ (((At ((List.length ([] : List Int) = (0 : Nat) * (3 : Nat) ∧ n * (3 : Nat) ≤ List.length a) ∧ posM (rowKind 
  (3 : Nat)) n ∧ (0 : Nat) + n ≤ (1000000000 : Nat)) ∧ (VC_spec_AddClue_q1 cx cy ck pr pw ph n a) ∧ True) ∧ True) ∧ True) ∧ True) ∧ True) ∧ (((At ((List.length ([] : List Int) = (0 : 
  Nat) * (3 : Nat) ∧ n * (3 : Nat) ≤ List.length a) ∧ posM (rowKind (3 : Nat)) n ∧ (0 : Nat) + n ≤ (1000000000 : Nat)) ∧ (((VC_spec_AddClue_q1 cx cy ck pr pw ph n a) ∧ True) ∧ True) ∧ 
  True) ∧ ((At ((List.length ([] : List Int) = (0 : Nat) * (3 : Nat) ∧ n * (3 : Nat) ≤ List.length a) ∧ posM (rowKind (3 : Nat)) n ∧ (0 : Nat) + n ≤ (1000000000 : Nat)) ∧ ((VC_spec_AddClue_q1 
  cx cy ck pr pw ph n a) ∧ True) ∧ True) ∧ ((At ((List.length ([] : List Int) = (0 : Nat) * (3 : Nat) ∧ n * (3 : Nat) ≤ List.length a) ∧ posM (rowKind (3 : Nat)) n ∧ (0 : Nat) + n ≤ (1000000000 
  : Nat)) ∧ (VC_spec_AddClue_q1 cx cy ck pr pw ph n a) ∧ True) ∧ True) ∧ True) ∧ True) ∧ (((At ((List.length ([] : List Int) = (0 : Nat) * (3 : Nat) ∧ n * (3 : Nat) ≤ List.length a) ∧ 
  posM (rowKind (3 : Nat)) n ∧ (0 : Nat) + n ≤ (1000000000 : Nat)) ∧ ((VC_spec_AddClue_q1 cx cy ck pr pw ph n a) ∧ True) ∧ True) ∧ ((At ((List.length ([] : List Int) = (0 : Nat) * (3 
  : Nat) ∧ n * (3 : Nat) ≤ List.length a) ∧ posM (rowKind (3 : Nat)) n ∧ (0 : Nat) + n ≤ (1000000000 : Nat)) ∧ (VC_spec_AddClue_q1 cx cy ck pr pw ph n a) ∧ True) ∧ True) ∧ True) ∧ (((At 
  ((List.length ([] : List Int) = (0 : Nat) * (3 : Nat) ∧ n * (3 : Nat) ≤ List.length a) ∧ posM (rowKind (3 : Nat)) n ∧ (0 : Nat) + n ≤ (1000000000 : Nat)) ∧ (VC_spec_AddClue_q1 cx cy 
  ck pr pw ph n a) ∧ True) ∧ True) ∧ True) ∧ True) ∧ True) ∧ ((((At ((List.length ([] : List Int) = (0 : Nat) * (3 : Nat) ∧ n * (3 : Nat) ≤ List.length a) ∧ posM (rowKind (3 : Nat)) n 
  ∧ (0 : Nat) + n ≤ (1000000000 : Nat)) ∧ ((VC_spec_AddClue_q1 cx cy ck pr pw ph n a) ∧ True) ∧ True) ∧ ((At ((List.length ([] : List Int) = (0 : Nat) * (3 : Nat) ∧ n * (3 : Nat) ≤ List.length 
  a) ∧ posM (rowKind (3 : Nat)) n ∧ (0 : Nat) + n ≤ (1000000000 : Nat)) ∧ (VC_spec_AddClue_q1 cx cy ck pr pw ph n a) ∧ True) ∧ True) ∧ True) ∧ (((At ((List.length ([] : List Int) = (0 
  : Nat) * (3 : Nat) ∧ n * (3 : Nat) ≤ List.length a) ∧ posM (rowKind (3 : Nat)) n ∧ (0 : Nat) + n ≤ (1000000000 : Nat)) ∧ (VC_spec_AddClue_q1 cx cy ck pr pw ph n a) ∧ True) ∧ True) ∧ 
  True) ∧ True) ∧ (((At ((List.length ([] : List Int) = (0 : Nat) * (3 : Nat) ∧ n * (3 : Nat) ≤ List.length a) ∧ posM (rowKind (3 : Nat)) n ∧ (0 : Nat) + n ≤ (1000000000 : Nat)) ∧ ((VC_spec_AddClue_q1 
  cx cy ck pr pw ph n a) ∧ True) ∧ True) ∧ ((At ((List.length ([] : List Int) = (0 : Nat) * (3 : Nat) ∧ n * (3 : Nat) ≤ List.length a) ∧ posM (rowKind (3 : Nat)) n ∧ (0 : Nat) + n ≤ (1000000000 
  : Nat)) ∧ (VC_spec_AddClue_q1 cx cy ck pr pw ph n a) ∧ True) ∧ True) ∧ True) ∧ (((At ((List.length ([] : List Int) = (0 : Nat) * (3 : Nat) ∧ n * (3 : Nat) ≤ List.length a) ∧ posM (rowKind 
  (3 : Nat)) n ∧ (0 : Nat) + n ≤ (1000000000 : Nat)) ∧ (VC_spec_AddClue_q1 cx cy ck pr pw ph n a) ∧ True) ∧ True) ∧ True) ∧ True) ∧ ((((At ((List.length ([] : List Int) = (0 : Nat) * 
  (3 : Nat) ∧ n * (3 : Nat) ≤ List.length a) ∧ posM (rowKind (3 : Nat)) n ∧ (0 : Nat) + n ≤ (1000000000 : Nat)) ∧ (VC_spec_AddClue_q1 cx cy ck pr pw ph n a) ∧ True) ∧ True) ∧ True) ∧ 
  (((At ((List.length ([] : List Int) = (0 : Nat) * (3 : Nat) ∧ n * (3 : Nat) ≤ List.length a) ∧ posM (rowKind (3 : Nat)) n ∧ (0 : Nat) + n ≤ (1000000000 : Nat)) ∧ (VC_spec_AddClue_q1 
  cx cy ck pr pw ph n a) ∧ True) ∧ True) ∧ True) ∧ True) ∧ True) ∧ True) ∧ ((((At ((List.length ([] : List Int) = (0 : Nat) * (3 : Nat) ∧ n * (3 : Nat) ≤ List.length a) ∧ posM (rowKind 
  (3 : Nat)) n ∧ (0 : Nat) + n ≤ (1000000000 : Nat)) ∧ (((VC_spec_AddClue_q1 cx cy ck pr pw ph n a) ∧ True) ∧ True) ∧ True) ∧ ((At ((List.length ([] : List Int) = (0 : Nat) * (3 : Nat) 
  ∧ n * (3 : Nat) ≤ List.length a) ∧ posM (rowKind (3 : Nat)) n ∧ (0 : Nat) + n ≤ (1000000000 : Nat)) ∧ ((VC_spec_AddClue_q1 cx cy ck pr pw ph n a) ∧ True) ∧ True) ∧ ((At ((List.length 
  ([] : List Int) = (0 : Nat) * (3 : Nat) ∧ n * (3 : Nat) ≤ List.length a) ∧ posM (rowKind (3 : Nat)) n ∧ (0 : Nat) + n ≤ (1000000000 : Nat)) ∧ (VC_spec_AddClue_q1 cx cy ck pr pw ph n 
  a) ∧ True) ∧ True) ∧ True) ∧ True) ∧ (((At ((List.length ([] : List Int) = (0 : Nat) * (3 : Nat) ∧ n * (3 : Nat) ≤ List.length a) ∧ posM (rowKind (3 : Nat)) n ∧ (0 : Nat) + n ≤ (1000000000 
  : Nat)) ∧ ((VC_spec_AddClue_q1 cx cy ck pr pw ph n a) ∧ True) ∧ True) ∧ ((At ((List.length ([] : List Int) = (0 : Nat) * (3 : Nat) ∧ n * (3 : Nat) ≤ List.length a) ∧ posM (rowKind (3 
  : Nat)) n ∧ (0 : Nat) + n ≤ (1000000000 : Nat)) ∧ (VC_spec_AddClue_q1 cx cy ck pr pw ph n a) ∧ True) ∧ True) ∧ True) ∧ (((At ((List.length ([] : List Int) = (0 : Nat) * (3 : Nat) ∧ 
  n * (3 : Nat) ≤ List.length a) ∧ posM (rowKind (3 : Nat)) n ∧ (0 : Nat) + n ≤ (1000000000 : Nat)) ∧ (VC_spec_AddClue_q1 cx cy ck pr pw ph n a) ∧ True) ∧ True) ∧ True) ∧ True) ∧ True) 
  ∧ (((At ((List.length ([] : List Int) = (0 : Nat) * (3 : Nat) ∧ n * (3 : Nat) ≤ List.length a) ∧ posM (rowKind (3 : Nat)) n ∧ (0 : Nat) + n ≤ (1000000000 : Nat)) ∧ (((VC_spec_AddClue_q1 
  cx cy ck pr pw ph n a) ∧ True) ∧ True) ∧ True) ∧ ((At ((List.length ([] : List Int) = (0 : Nat) * (3 : Nat) ∧ n * (3 : Nat) ≤ List.length a) ∧ posM (rowKind (3 : Nat)) n ∧ (0 : Nat) 
  + n ≤ (1000000000 : Nat)) ∧ ((VC_spec_AddClue_q1 cx cy ck pr pw ph n a) ∧ True) ∧ True) ∧ ((At ((List.length ([] : List Int) = (0 : Nat) * (3 : Nat) ∧ n * (3 : Nat) ≤ List.length a) 
  ∧ posM (rowKind (3 : Nat)) n ∧ (0 : Nat) + n ≤ (1000000000 : Nat)) ∧ (VC_spec_AddClue_q1 cx cy ck pr pw ph n a) ∧ True) ∧ True) ∧ True) ∧ True) ∧ (At ((List.length ([] : List Int) = 
  (0 : Nat) * (3 : Nat) ∧ n * (3 : Nat) ≤ List.length a) ∧ posM (rowKind (3 : Nat)) n ∧ (0 : Nat) + n ≤ (1000000000 : Nat)) ∧ ((((VC_spec_AddClue_q1 cx cy ck pr pw ph n a) ∧ True) ∧ True) 
  ∧ True) ∧ ((((VC_spec_AddClue_q1 cx cy ck pr pw ph n a) ∧ True) ∧ True) ∧ (((VC_spec_AddClue_q1 cx cy ck pr pw ph n a) ∧ True) ∧ (VC_spec_AddClue_q1 cx cy ck pr pw ph n a) ∧ True) ∧ 
  True) ∧ True) ∧ (((At ((List.length ([] : List Int) = (0 : Nat) * (3 : Nat) ∧ n * (3 : Nat) ≤ List.length a) ∧ posM (rowKind (3 : Nat)) n ∧ (0 : Nat) + n ≤ (1000000000 : Nat)) ∧ ((VC_spec_AddClue_q1 
  cx cy ck pr pw ph n a) ∧ True) ∧ True) ∧ ((At ((List.length ([] : List Int) = (0 : Nat) * (3 : Nat) ∧ n * (3 : Nat) ≤ List.length a) ∧ posM (rowKind (3 : Nat)) n ∧ (0 : Nat) + n ≤ (1000000000 
  : Nat)) ∧ (VC_spec_AddClue_q1 cx cy ck pr pw ph n a) ∧ True) ∧ True) ∧ True) ∧ (At ((List.length ([] : List Int) = (0 : Nat) * (3 : Nat) ∧ n * (3 : Nat) ≤ List.length a) ∧ posM (rowKind 
  (3 : Nat)) n ∧ (0 : Nat) + n ≤ (1000000000 : Nat)) ∧ (((VC_spec_AddClue_q1 cx cy ck pr pw ph n a) ∧ True) ∧ True) ∧ (((VC_spec_AddClue_q1 cx cy ck pr pw ph n a) ∧ True) ∧ (VC_spec_AddClue_q1 
  cx cy ck pr pw ph n a) ∧ True) ∧ True) ∧ (((At ((List.length ([] : List Int) = (0 : Nat) * (3 : Nat) ∧ n * (3 : Nat) ≤ List.length a) ∧ posM (rowKind (3 : Nat)) n ∧ (0 : Nat) + n ≤ 
  (1000000000 : Nat)) ∧ (VC_spec_AddClue_q1 cx cy ck pr pw ph n a) ∧ True) ∧ True) ∧ (At ((List.length ([] : List Int) = (0 : Nat) * (3 : Nat) ∧ n * (3 : Nat) ≤ List.length a) ∧ posM 
  (rowKind (3 : Nat)) n ∧ (0 : Nat) + n ≤ (1000000000 : Nat)) ∧ ((VC_spec_AddClue_q1 cx cy ck pr pw ph n a) ∧ True) ∧ (VC_spec_AddClue_q1 cx cy ck pr pw ph n a) ∧ True) ∧ True) ∧ True) 
  ∧ True) ∧ ((((At ((List.length ([] : List Int) = (0 : Nat) * (3 : Nat) ∧ n * (3 : Nat) ≤ List.length a) ∧ posM (rowKind (3 : Nat)) n ∧ (0 : Nat) + n ≤ (1000000000 : Nat)) ∧ ((VC_spec_AddClue_q1 
  cx cy ck pr pw ph n a) ∧ True) ∧ True) ∧ ((At ((List.length ([] : List Int) = (0 : Nat) * (3 : Nat) ∧ n * (3 : Nat) ≤ List.length a) ∧ posM (rowKind (3 : Nat)) n ∧ (0 : Nat) + n ≤ (1000000000 
  : Nat)) ∧ (VC_spec_AddClue_q1 cx cy ck pr pw ph n a) ∧ True) ∧ True) ∧ True) ∧ (((At ((List.length ([] : List Int) = (0 : Nat) * (3 : Nat) ∧ n * (3 : Nat) ≤ List.length a) ∧ posM (rowKind 
  (3 : Nat)) n ∧ (0 : Nat) + n ≤ (1000000000 : Nat)) ∧ (VC_spec_AddClue_q1 cx cy ck pr pw ph n a) ∧ True) ∧ True) ∧ True) ∧ True) ∧ (((At ((List.length ([] : List Int) = (0 : Nat) * (3 
  : Nat) ∧ n * (3 : Nat) ≤ List.length a) ∧ posM (rowKind (3 : Nat)) n ∧ (0 : Nat) + n ≤ (1000000000 : Nat)) ∧ ((VC_spec_AddClue_q1 cx cy ck pr pw ph n a) ∧ True) ∧ True) ∧ ((At ((List.length 
  ([] : List Int) = (0 : Nat) * (3 : Nat) ∧ n * (3 : Nat) ≤ List.length a) ∧ posM (rowKind (3 : Nat)) n ∧ (0 : Nat) + n ≤ (1000000000 : Nat)) ∧ (VC_spec_AddClue_q1 cx cy ck pr pw ph n 
  a) ∧ True) ∧ True) ∧ True) ∧ (At ((List.length ([] : List Int) = (0 : Nat) * (3 : Nat) ∧ n * (3 : Nat) ≤ List.length a) ∧ posM (rowKind (3 : Nat)) n ∧ (0 : Nat) + n ≤ (1000000000 : 
  Nat)) ∧ (((VC_spec_AddClue_q1 cx cy ck pr pw ph n a) ∧ True) ∧ True) ∧ (((VC_spec_AddClue_q1 cx cy ck pr pw ph n a) ∧ True) ∧ (VC_spec_AddClue_q1 cx cy ck pr pw ph n a) ∧ True) ∧ True) 
  ∧ (((At ((List.length ([] : List Int) = (0 : Nat) * (3 : Nat) ∧ n * (3 : Nat) ≤ List.length a) ∧ posM (rowKind (3 : Nat)) n ∧ (0 : Nat) + n ≤ (1000000000 : Nat)) ∧ (VC_spec_AddClue_q1 
  cx cy ck pr pw ph n a) ∧ True) ∧ True) ∧ (At ((List.length ([] : List Int) = (0 : Nat) * (3 : Nat) ∧ n * (3 : Nat) ≤ List.length a) ∧ posM (rowKind (3 : Nat)) n ∧ (0 : Nat) + n ≤ (1000000000 
  : Nat)) ∧ ((VC_spec_AddClue_q1 cx cy ck pr pw ph n a) ∧ True) ∧ (VC_spec_AddClue_q1 cx cy ck pr pw ph n a) ∧ True) ∧ True) ∧ True) ∧ ((((At ((List.length ([] : List Int) = (0 : Nat) 
  * (3 : Nat) ∧ n * (3 : Nat) ≤ List.length a) ∧ posM (rowKind (3 : Nat)) n ∧ (0 : Nat) + n ≤ (1000000000 : Nat)) ∧ (VC_spec_AddClue_q1 cx cy ck pr pw ph n a) ∧ True) ∧ True) ∧ True) 
  ∧ (((At ((List.length ([] : List Int) = (0 : Nat) * (3 : Nat) ∧ n * (3 : Nat) ≤ List.length a) ∧ posM (rowKind (3 : Nat)) n ∧ (0 : Nat) + n ≤ (1000000000 : Nat)) ∧ (VC_spec_AddClue_q1 
  cx cy ck pr pw ph n a) ∧ True) ∧ True) ∧ (At ((List.length ([] : List Int) = (0 : Nat) * (3 : Nat) ∧ n * (3 : Nat) ≤ List.length a) ∧ posM (rowKind (3 : Nat)) n ∧ (0 : Nat) + n ≤ (1000000000 
  : Nat)) ∧ ((VC_spec_AddClue_q1 cx cy ck pr pw ph n a) ∧ True) ∧ (VC_spec_AddClue_q1 cx cy ck pr pw ph n a) ∧ True) ∧ True) ∧ True) ∧ True) ∧ True) ∧ ((((At ((List.length ([] : List 
  Int) = (0 : Nat) * (3 : Nat) ∧ n * (3 : Nat) ≤ List.length a) ∧ posM (rowKind (3 : Nat)) n ∧ (0 : Nat) + n ≤ (1000000000 : Nat)) ∧ (((VC_spec_AddClue_q1 cx cy ck pr pw ph n a) ∧ True) 
  ∧ True) ∧ True) ∧ ((At ((List.length ([] : List Int) = (0 : Nat) * (3 : Nat) ∧ n * (3 : Nat) ≤ List.length a) ∧ posM (rowKind (3 : Nat)) n ∧ (0 : Nat) + n ≤ (1000000000 : Nat)) ∧ ((VC_spec_AddClue_q1 
  cx cy ck pr pw ph n a) ∧ True) ∧ True) ∧ ((At ((List.length ([] : List Int) = (0 : Nat) * (3 : Nat) ∧ n * (3 : Nat) ≤ List.length a) ∧ posM (rowKind (3 : Nat)) n ∧ (0 : Nat) + n ≤ (1000000000 
  : Nat)) ∧ (VC_spec_AddClue_q1 cx cy ck pr pw ph n a) ∧ True) ∧ True) ∧ True) ∧ True) ∧ (((At ((List.length ([] : List Int) = (0 : Nat) * (3 : Nat) ∧ n * (3 : Nat) ≤ List.length a) ∧ 
  posM (rowKind (3 : Nat)) n ∧ (0 : Nat) + n ≤ (1000000000 : Nat)) ∧ ((VC_spec_AddClue_q1 cx cy ck pr pw ph n a) ∧ True) ∧ True) ∧ ((At ((List.length ([] : List Int) = (0 : Nat) * (3 
  : Nat) ∧ n * (3 : Nat) ≤ List.length a) ∧ posM (rowKind (3 : Nat)) n ∧ (0 : Nat) + n ≤ (1000000000 : Nat)) ∧ (VC_spec_AddClue_q1 cx cy ck pr pw ph n a) ∧ True) ∧ True) ∧ True) ∧ (((At 
  ((List.length ([] : List Int) = (0 : Nat) * (3 : Nat) ∧ n * (3 : Nat) ≤ List.length a) ∧ posM (rowKind (3 : Nat)) n ∧ (0 : Nat) + n ≤ (1000000000 : Nat)) ∧ (VC_spec_AddClue_q1 cx cy 
  ck pr pw ph n a) ∧ True) ∧ True) ∧ True) ∧ True) ∧ True) ∧ (((At ((List.length ([] : List Int) = (0 : Nat) * (3 : Nat) ∧ n * (3 : Nat) ≤ List.length a) ∧ posM (rowKind (3 : Nat)) n 
  ∧ (0 : Nat) + n ≤ (1000000000 : Nat)) ∧ (((VC_spec_AddClue_q1 cx cy ck pr pw ph n a) ∧ True) ∧ True) ∧ True) ∧ ((At ((List.length ([] : List Int) = (0 : Nat) * (3 : Nat) ∧ n * (3 : 
  Nat) ≤ List.length a) ∧ posM (rowKind (3 : Nat)) n ∧ (0 : Nat) + n ≤ (1000000000 : Nat)) ∧ ((VC_spec_AddClue_q1 cx cy ck pr pw ph n a) ∧ True) ∧ True) ∧ ((At ((List.length ([] : List 
  Int) = (0 : Nat) * (3 : Nat) ∧ n * (3 : Nat) ≤ List.length a) ∧ posM (rowKind (3 : Nat)) n ∧ (0 : Nat) + n ≤ (1000000000 : Nat)) ∧ (VC_spec_AddClue_q1 cx cy ck pr pw ph n a) ∧ True) 
  ∧ True) ∧ True) ∧ True) ∧ (At ((List.length ([] : List Int) = (0 : Nat) * (3 : Nat) ∧ n * (3 : Nat) ≤ List.length a) ∧ posM (rowKind (3 : Nat)) n ∧ (0 : Nat) + n ≤ (1000000000 : Nat)) 
  ∧ ((((VC_spec_AddClue_q1 cx cy ck pr pw ph n a) ∧ True) ∧ True) ∧ True) ∧ ((((VC_spec_AddClue_q1 cx cy ck pr pw ph n a) ∧ True) ∧ True) ∧ (((VC_spec_AddClue_q1 cx cy ck pr pw ph n a) 
  ∧ True) ∧ (VC_spec_AddClue_q1 cx cy ck pr pw ph n a) ∧ True) ∧ True) ∧ True) ∧ (((At ((List.length ([] : List Int) = (0 : Nat) * (3 : Nat) ∧ n * (3 : Nat) ≤ List.length a) ∧ posM (rowKind 
  (3 : Nat)) n ∧ (0 : Nat) + n ≤ (1000000000 : Nat)) ∧ ((VC_spec_AddClue_q1 cx cy ck pr pw ph n a) ∧ True) ∧ True) ∧ ((At ((List.length ([] : List Int) = (0 : Nat) * (3 : Nat) ∧ n * (3 
  : Nat) ≤ List.length a) ∧ posM (rowKind (3 : Nat)) n ∧ (0 : Nat) + n ≤ (1000000000 : Nat)) ∧ (VC_spec_AddClue_q1 cx cy ck pr pw ph n a) ∧ True) ∧ True) ∧ True) ∧ (At ((List.length ([] 
  : List Int) = (0 : Nat) * (3 : Nat) ∧ n * (3 : Nat) ≤ List.length a) ∧ posM (rowKind (3 : Nat)) n ∧ (0 : Nat) + n ≤ (1000000000 : Nat)) ∧ (((VC_spec_AddClue_q1 cx cy ck pr pw ph n a) 
  ∧ True) ∧ True) ∧ (((VC_spec_AddClue_q1 cx cy ck pr pw ph n a) ∧ True) ∧ (VC_spec_AddClue_q1 cx cy ck pr pw ph n a) ∧ True) ∧ True) ∧ (((At ((List.length ([] : List Int) = (0 : Nat) 
  * (3 : Nat) ∧ n * (3 : Nat) ≤ List.length a) ∧ posM (rowKind (3 : Nat)) n ∧ (0 : Nat) + n ≤ (1000000000 : Nat)) ∧ (VC_spec_AddClue_q1 cx cy ck pr pw ph n a) ∧ True) ∧ True) ∧ (At ((List.length 
  ([] : List Int) = (0 : Nat) * (3 : Nat) ∧ n * (3 : Nat) ≤ List.length a) ∧ posM (rowKind (3 : Nat)) n ∧ (0 : Nat) + n ≤ (1000000000 : Nat)) ∧ ((VC_spec_AddClue_q1 cx cy ck pr pw ph 
  n a) ∧ True) ∧ (VC_spec_AddClue_q1 cx cy ck pr pw ph n a) ∧ True) ∧ True) ∧ True) ∧ True) ∧ ((((At ((List.length ([] : List Int) = (0 : Nat) * (3 : Nat) ∧ n * (3 : Nat) ≤ List.length 
  a) ∧ posM (rowKind (3 : Nat)) n ∧ (0 : Nat) + n ≤ (1000000000 : Nat)) ∧ ((VC_spec_AddClue_q1 cx cy ck pr pw ph n a) ∧ True) ∧ True) ∧ ((At ((List.length ([] : List Int) = (0 : Nat) 
  * (3 : Nat) ∧ n * (3 : Nat) ≤ List.length a) ∧ posM (rowKind (3 : Nat)) n ∧ (0 : Nat) + n ≤ (1000000000 : Nat)) ∧ (VC_spec_AddClue_q1 cx cy ck pr pw ph n a) ∧ True) ∧ True) ∧ True) 
  ∧ (((At ((List.length ([] : List Int) = (0 : Nat) * (3 : Nat) ∧ n * (3 : Nat) ≤ List.length a) ∧ posM (rowKind (3 : Nat)) n ∧ (0 : Nat) + n ≤ (1000000000 : Nat)) ∧ (VC_spec_AddClue_q1 
  cx cy ck pr pw ph n a) ∧ True) ∧ True) ∧ True) ∧ True) ∧ (((At ((List.length ([] : List Int) = (0 : Nat) * (3 : Nat) ∧ n * (3 : Nat) ≤ List.length a) ∧ posM (rowKind (3 : Nat)) n ∧ 
  (0 : Nat) + n ≤ (1000000000 : Nat)) ∧ ((VC_spec_AddClue_q1 cx cy ck pr pw ph n a) ∧ True) ∧ True) ∧ ((At ((List.length ([] : List Int) = (0 : Nat) * (3 : Nat) ∧ n * (3 : Nat) ≤ List.length 
  a) ∧ posM (rowKind (3 : Nat)) n ∧ (0 : Nat) + n ≤ (1000000000 : Nat)) ∧ (VC_spec_AddClue_q1 cx cy ck pr pw ph n a) ∧ True) ∧ True) ∧ True) ∧ (At ((List.length ([] : List Int) = (0 : 
  Nat) * (3 : Nat) ∧ n * (3 : Nat) ≤ List.length a) ∧ posM (rowKind (3 : Nat)) n ∧ (0 : Nat) + n ≤ (1000000000 : Nat)) ∧ (((VC_spec_AddClue_q1 cx cy ck pr pw ph n a) ∧ True) ∧ True) ∧ 
  (((VC_spec_AddClue_q1 cx cy ck pr pw ph n a) ∧ True) ∧ (VC_spec_AddClue_q1 cx cy ck pr pw ph n a) ∧ True) ∧ True) ∧ (((At ((List.length ([] : List Int) = (0 : Nat) * (3 : Nat) ∧ n * 
  (3 : Nat) ≤ List.length a) ∧ posM (rowKind (3 : Nat)) n ∧ (0 : Nat) + n ≤ (1000000000 : Nat)) ∧ (VC_spec_AddClue_q1 cx cy ck pr pw ph n a) ∧ True) ∧ True) ∧ (At ((List.length ([] : 
  List Int) = (0 : Nat) * (3 : Nat) ∧ n * (3 : Nat) ≤ List.length a) ∧ posM (rowKind (3 : Nat)) n ∧ (0 : Nat) + n ≤ (1000000000 : Nat)) ∧ ((VC_spec_AddClue_q1 cx cy ck pr pw ph n a) ∧ 
  True) ∧ (VC_spec_AddClue_q1 cx cy ck pr pw ph n a) ∧ True) ∧ True) ∧ True) ∧ ((((At ((List.length ([] : List Int) = (0 : Nat) * (3 : Nat) ∧ n * (3 : Nat) ≤ List.length a) ∧ posM (rowKind 
  (3 : Nat)) n ∧ (0 : Nat) + n ≤ (1000000000 : Nat)) ∧ (VC_spec_AddClue_q1 cx cy ck pr pw ph n a) ∧ True) ∧ True) ∧ True) ∧ (((At ((List.length ([] : List Int) = (0 : Nat) * (3 : Nat) 
  ∧ n * (3 : Nat) ≤ List.length a) ∧ posM (rowKind (3 : Nat)) n ∧ (0 : Nat) + n ≤ (1000000000 : Nat)) ∧ (VC_spec_AddClue_q1 cx cy ck pr pw ph n a) ∧ True) ∧ True) ∧ (At ((List.length 
  ([] : List Int) = (0 : Nat) * (3 : Nat) ∧ n * (3 : Nat) ≤ List.length a) ∧ posM (rowKind (3 : Nat)) n ∧ (0 : Nat) + n ≤ (1000000000 : Nat)) ∧ ((VC_spec_AddClue_q1 cx cy ck pr pw ph 
  n a) ∧ True) ∧ (VC_spec_AddClue_q1 cx cy ck pr pw ph n a) ∧ True) ∧ True) ∧ True) ∧ True) ∧ True) ∧ (((((At ((List.length ([] : List Int) = (0 : Nat) * (3 : Nat) ∧ n * (3 : Nat) ≤ List.length 
  a) ∧ posM (rowKind (3 : Nat)) n ∧ (0 : Nat) + n ≤ (1000000000 : Nat)) ∧ ((VC_spec_AddClue_q1 cx cy ck pr pw ph n a) ∧ True) ∧ True) ∧ ((At ((List.length ([] : List Int) = (0 : Nat) 
  * (3 : Nat) ∧ n * (3 : Nat) ≤ List.length a) ∧ posM (rowKind (3 : Nat)) n ∧ (0 : Nat) + n ≤ (1000000000 : Nat)) ∧ (VC_spec_AddClue_q1 cx cy ck pr pw ph n a) ∧ True) ∧ True) ∧ True) 
  ∧ (((At ((List.length ([] : List Int) = (0 : Nat) * (3 : Nat) ∧ n * (3 : Nat) ≤ List.length a) ∧ posM (rowKind (3 : Nat)) n ∧ (0 : Nat) + n ≤ (1000000000 : Nat)) ∧ (VC_spec_AddClue_q1 
  cx cy ck pr pw ph n a) ∧ True) ∧ True) ∧ True) ∧ True) ∧ (((At ((List.length ([] : List Int) = (0 : Nat) * (3 : Nat) ∧ n * (3 : Nat) ≤ List.length a) ∧ posM (rowKind (3 : Nat)) n ∧ 
  (0 : Nat) + n ≤ (1000000000 : Nat)) ∧ ((VC_spec_AddClue_q1 cx cy ck pr pw ph n a) ∧ True) ∧ True) ∧ ((At ((List.length ([] : List Int) = (0 : Nat) * (3 : Nat) ∧ n * (3 : Nat) ≤ List.length 
  a) ∧ posM (rowKind (3 : Nat)) n ∧ (0 : Nat) + n ≤ (1000000000 : Nat)) ∧ (VC_spec_AddClue_q1 cx cy ck pr pw ph n a) ∧ True) ∧ True) ∧ True) ∧ (((At ((List.length ([] : List Int) = (0 
  : Nat) * (3 : Nat) ∧ n * (3 : Nat) ≤ List.length a) ∧ posM (rowKind (3 : Nat)) n ∧ (0 : Nat) + n ≤ (1000000000 : Nat)) ∧ (VC_spec_AddClue_q1 cx cy ck pr pw ph n a) ∧ True) ∧ True) ∧ 
  True) ∧ True) ∧ ((((At ((List.length ([] : List Int) = (0 : Nat) * (3 : Nat) ∧ n * (3 : Nat) ≤ List.length a) ∧ posM (rowKind (3 : Nat)) n ∧ (0 : Nat) + n ≤ (1000000000 : Nat)) ∧ (VC_spec_AddClue_q1 
  cx cy ck pr pw ph n a) ∧ True) ∧ True) ∧ True) ∧ (((At ((List.length ([] : List Int) = (0 : Nat) * (3 : Nat) ∧ n * (3 : Nat) ≤ List.length a) ∧ posM (rowKind (3 : Nat)) n ∧ (0 : Nat) 
  + n ≤ (1000000000 : Nat)) ∧ (VC_spec_AddClue_q1 cx cy ck pr pw ph n a) ∧ True) ∧ True) ∧ True) ∧ True) ∧ True) ∧ ((((At ((List.length ([] : List Int) = (0 : Nat) * (3 : Nat) ∧ n * (3 
  : Nat) ≤ List.length a) ∧ posM (rowKind (3 : Nat)) n ∧ (0 : Nat) + n ≤ (1000000000 : Nat)) ∧ ((VC_spec_AddClue_q1 cx cy ck pr pw ph n a) ∧ True) ∧ True) ∧ ((At ((List.length ([] : List 
  Int) = (0 : Nat) * (3 : Nat) ∧ n * (3 : Nat) ≤ List.length a) ∧ posM (rowKind (3 : Nat)) n ∧ (0 : Nat) + n ≤ (1000000000 : Nat)) ∧ (VC_spec_AddClue_q1 cx cy ck pr pw ph n a) ∧ True) 
  ∧ True) ∧ True) ∧ (((At ((List.length ([] : List Int) = (0 : Nat) * (3 : Nat) ∧ n * (3 : Nat) ≤ List.length a) ∧ posM (rowKind (3 : Nat)) n ∧ (0 : Nat) + n ≤ (1000000000 : Nat)) ∧ (VC_spec_AddClue_q1 
  cx cy ck pr pw ph n a) ∧ True) ∧ True) ∧ True) ∧ True) ∧ (((At ((List.length ([] : List Int) = (0 : Nat) * (3 : Nat) ∧ n * (3 : Nat) ≤ List.length a) ∧ posM (rowKind (3 : Nat)) n ∧ 
  (0 : Nat) + n ≤ (1000000000 : Nat)) ∧ ((VC_spec_AddClue_q1 cx cy ck pr pw ph n a) ∧ True) ∧ True) ∧ ((At ((List.length ([] : List Int) = (0 : Nat) * (3 : Nat) ∧ n * (3 : Nat) ≤ List.length 
  a) ∧ posM (rowKind (3 : Nat)) n ∧ (0 : Nat) + n ≤ (1000000000 : Nat)) ∧ (VC_spec_AddClue_q1 cx cy ck pr pw ph n a) ∧ True) ∧ True) ∧ True) ∧ (At ((List.length ([] : List Int) = (0 : 
  Nat) * (3 : Nat) ∧ n * (3 : Nat) ≤ List.length a) ∧ posM (rowKind (3 : Nat)) n ∧ (0 : Nat) + n ≤ (1000000000 : Nat)) ∧ (((VC_spec_AddClue_q1 cx cy ck pr pw ph n a) ∧ True) ∧ True) ∧ 
  (((VC_spec_AddClue_q1 cx cy ck pr pw ph n a) ∧ True) ∧ (VC_spec_AddClue_q1 cx cy ck pr pw ph n a) ∧ True) ∧ True) ∧ (((At ((List.length ([] : List Int) = (0 : Nat) * (3 : Nat) ∧ n * 
  (3 : Nat) ≤ List.length a) ∧ posM (rowKind (3 : Nat)) n ∧ (0 : Nat) + n ≤ (1000000000 : Nat)) ∧ (VC_spec_AddClue_q1 cx cy ck pr pw ph n a) ∧ True) ∧ True) ∧ (At ((List.length ([] : 
  List Int) = (0 : Nat) * (3 : Nat) ∧ n * (3 : Nat) ≤ List.length a) ∧ posM (rowKind (3 : Nat)) n ∧ (0 : Nat) + n ≤ (1000000000 : Nat)) ∧ ((VC_spec_AddClue_q1 cx cy ck pr pw ph n a) ∧ 
  True) ∧ (VC_spec_AddClue_q1 cx cy ck pr pw ph n a) ∧ True) ∧ True) ∧ True) ∧ ((((At ((List.length ([] : List Int) = (0 : Nat) * (3 : Nat) ∧ n * (3 : Nat) ≤ List.length a) ∧ posM (rowKind 
  (3 : Nat)) n ∧ (0 : Nat) + n ≤ (1000000000 : Nat)) ∧ (VC_spec_AddClue_q1 cx cy ck pr pw ph n a) ∧ True) ∧ True) ∧ True) ∧ (((At ((List.length ([] : List Int) = (0 : Nat) * (3 : Nat) 
  ∧ n * (3 : Nat) ≤ List.length a) ∧ posM (rowKind (3 : Nat)) n ∧ (0 : Nat) + n ≤ (1000000000 : Nat)) ∧ (VC_spec_AddClue_q1 cx cy ck pr pw ph n a) ∧ True) ∧ True) ∧ (At ((List.length 
  ([] : List Int) = (0 : Nat) * (3 : Nat) ∧ n * (3 : Nat) ≤ List.length a) ∧ posM (rowKind (3 : Nat)) n ∧ (0 : Nat) + n ≤ (1000000000 : Nat)) ∧ ((VC_spec_AddClue_q1 cx cy ck pr pw ph 
  n a) ∧ True) ∧ (VC_spec_AddClue_q1 cx cy ck pr pw ph n a) ∧ True) ∧ True) ∧ True) ∧ True) ∧ ((((At ((List.length ([] : List Int) = (0 : Nat) * (3 : Nat) ∧ n * (3 : Nat) ≤ List.length 
  a) ∧ posM (rowKind (3 : Nat)) n ∧ (0 : Nat) + n ≤ (1000000000 : Nat)) ∧ ((VC_spec_AddClue_q1 cx cy ck pr pw ph n a) ∧ True) ∧ True) ∧ ((At ((List.length ([] : List Int) = (0 : Nat) 
  * (3 : Nat) ∧ n * (3 : Nat) ≤ List.length a) ∧ posM (rowKind (3 : Nat)) n ∧ (0 : Nat) + n ≤ (1000000000 : Nat)) ∧ (VC_spec_AddClue_q1 cx cy ck pr pw ph n a) ∧ True) ∧ True) ∧ True) 
  ∧ (((At ((List.length ([] : List Int) = (0 : Nat) * (3 : Nat) ∧ n * (3 : Nat) ≤ List.length a) ∧ posM (rowKind (3 : Nat)) n ∧ (0 : Nat) + n ≤ (1000000000 : Nat)) ∧ (VC_spec_AddClue_q1 
  cx cy ck pr pw ph n a) ∧ True) ∧ True) ∧ True) ∧ True) ∧ (((At ((List.length ([] : List Int) = (0 : Nat) * (3 : Nat) ∧ n * (3 : Nat) ≤ List.length a) ∧ posM (rowKind (3 : Nat)) n ∧ 
  (0 : Nat) + n ≤ (1000000000 : Nat)) ∧ ((VC_spec_AddClue_q1 cx cy ck pr pw ph n a) ∧ True) ∧ True) ∧ ((At ((List.length ([] : List Int) = (0 : Nat) * (3 : Nat) ∧ n * (3 : Nat) ≤ List.length 
  a) ∧ posM (rowKind (3 : Nat)) n ∧ (0 : Nat) + n ≤ (1000000000 : Nat)) ∧ (VC_spec_AddClue_q1 cx cy ck pr pw ph n a) ∧ True) ∧ True) ∧ True) ∧ (At ((List.length ([] : List Int) = (0 : 
  Nat) * (3 : Nat) ∧ n * (3 : Nat) ≤ List.length a) ∧ posM (rowKind (3 : Nat)) n ∧ (0 : Nat) + n ≤ (1000000000 : Nat)) ∧ (((VC_spec_AddClue_q1 cx cy ck pr pw ph n a) ∧ True) ∧ True) ∧ 
  (((VC_spec_AddClue_q1 cx cy ck pr pw ph n a) ∧ True) ∧ (VC_spec_AddClue_q1 cx cy ck pr pw ph n a) ∧ True) ∧ True) ∧ (((At ((List.length ([] : List Int) = (0 : Nat) * (3 : Nat) ∧ n * 
  (3 : Nat) ≤ List.length a) ∧ posM (rowKind (3 : Nat)) n ∧ (0 : Nat) + n ≤ (1000000000 : Nat)) ∧ (VC_spec_AddClue_q1 cx cy ck pr pw ph n a) ∧ True) ∧ True) ∧ (At ((List.length ([] : 
  List Int) = (0 : Nat) * (3 : Nat) ∧ n * (3 : Nat) ≤ List.length a) ∧ posM (rowKind (3 : Nat)) n ∧ (0 : Nat) + n ≤ (1000000000 : Nat)) ∧ ((VC_spec_AddClue_q1 cx cy ck pr pw ph n a) ∧ 
  True) ∧ (VC_spec_AddClue_q1 cx cy ck pr pw ph n a) ∧ True) ∧ True) ∧ True) ∧ ((((At ((List.length ([] : List Int) = (0 : Nat) * (3 : Nat) ∧ n * (3 : Nat) ≤ List.length a) ∧ posM (rowKind 
  (3 : Nat)) n ∧ (0 : Nat) + n ≤ (1000000000 : Nat)) ∧ (VC_spec_AddClue_q1 cx cy ck pr pw ph n a) ∧ True) ∧ True) ∧ True) ∧ (((At ((List.length ([] : List Int) = (0 : Nat) * (3 : Nat) 
  ∧ n * (3 : Nat) ≤ List.length a) ∧ posM (rowKind (3 : Nat)) n ∧ (0 : Nat) + n ≤ (1000000000 : Nat)) ∧ (VC_spec_AddClue_q1 cx cy ck pr pw ph n a) ∧ True) ∧ True) ∧ (At ((List.length 
  ([] : List Int) = (0 : Nat) * (3 : Nat) ∧ n * (3 : Nat) ≤ List.length a) ∧ posM (rowKind (3 : Nat)) n ∧ (0 : Nat) + n ≤ (1000000000 : Nat)) ∧ ((VC_spec_AddClue_q1 cx cy ck pr pw ph 
  n a) ∧ True) ∧ (VC_spec_AddClue_q1 cx cy ck pr pw ph n a) ∧ True) ∧ True) ∧ True) ∧ True) ∧ (((((At ((List.length ([] : List Int) = (0 : Nat) * (3 : Nat) ∧ n * (3 : Nat) ≤ List.length 
  a) ∧ posM (rowKind (3 : Nat)) n ∧ (0 : Nat) + n ≤ (1000000000 : Nat)) ∧ (VC_spec_AddClue_q1 cx cy ck pr pw ph n a) ∧ True) ∧ True) ∧ True) ∧ (((At ((List.length ([] : List Int) = (0 
  : Nat) * (3 : Nat) ∧ n * (3 : Nat) ≤ List.length a) ∧ posM (rowKind (3 : Nat)) n ∧ (0 : Nat) + n ≤ (1000000000 : Nat)) ∧ (VC_spec_AddClue_q1 cx cy ck pr pw ph n a) ∧ True) ∧ True) ∧ 
  True) ∧ True) ∧ ((((At ((List.length ([] : List Int) = (0 : Nat) * (3 : Nat) ∧ n * (3 : Nat) ≤ List.length a) ∧ posM (rowKind (3 : Nat)) n ∧ (0 : Nat) + n ≤ (1000000000 : Nat)) ∧ (VC_spec_AddClue_q1 
  cx cy ck pr pw ph n a) ∧ True) ∧ True) ∧ True) ∧ (((At ((List.length ([] : List Int) = (0 : Nat) * (3 : Nat) ∧ n * (3 : Nat) ≤ List.length a) ∧ posM (rowKind (3 : Nat)) n ∧ (0 : Nat) 
  + n ≤ (1000000000 : Nat)) ∧ (VC_spec_AddClue_q1 cx cy ck pr pw ph n a) ∧ True) ∧ True) ∧ (At ((List.length ([] : List Int) = (0 : Nat) * (3 : Nat) ∧ n * (3 : Nat) ≤ List.length a) ∧ 
  posM (rowKind (3 : Nat)) n ∧ (0 : Nat) + n ≤ (1000000000 : Nat)) ∧ ((VC_spec_AddClue_q1 cx cy ck pr pw ph n a) ∧ True) ∧ (VC_spec_AddClue_q1 cx cy ck pr pw ph n a) ∧ True) ∧ True) ∧ 
  True) ∧ ((((At ((List.length ([] : List Int) = (0 : Nat) * (3 : Nat) ∧ n * (3 : Nat) ≤ List.length a) ∧ posM (rowKind (3 : Nat)) n ∧ (0 : Nat) + n ≤ (1000000000 : Nat)) ∧ (VC_spec_AddClue_q1 
  cx cy ck pr pw ph n a) ∧ True) ∧ True) ∧ True) ∧ (((At ((List.length ([] : List Int) = (0 : Nat) * (3 : Nat) ∧ n * (3 : Nat) ≤ List.length a) ∧ posM (rowKind (3 : Nat)) n ∧ (0 : Nat) 
  + n ≤ (1000000000 : Nat)) ∧ (VC_spec_AddClue_q1 cx cy ck pr pw ph n a) ∧ True) ∧ True) ∧ (At ((List.length ([] : List Int) = (0 : Nat) * (3 : Nat) ∧ n * (3 : Nat) ≤ List.length a) ∧ 
  posM (rowKind (3 : Nat)) n ∧ (0 : Nat) + n ≤ (1000000000 : Nat)) ∧ ((VC_spec_AddClue_q1 cx cy ck pr pw ph n a) ∧ True) ∧ (VC_spec_AddClue_q1 cx cy ck pr pw ph n a) ∧ True) ∧ True) ∧ 
  True) ∧ True) ∧ True) ∧ True) ∧ K (V.tup [V.agg [V.str pr, V.int IntKind.i64 pw, V.int IntKind.i64 ph, V.row (4 : Nat) (n + (1 : Nat))], V.lit true]) [{ cs := Cells.ints IntKind.i64 a, elem := 37, kind := Kind.rows (3 : Nat) }, 
  { cs := Cells.vals [V.str pr, V.int IntKind.i64 pw, V.int IntKind.i64 ph, V.row (0 : Nat) n], elem := 33, kind := Kind.box }, { cs := Cells.vals [V.int IntKind.i64 cx, V.int IntKind.i64 cy, V.int IntKind.i64 ck], elem := 37, kind := Kind.box }, 
  { cs := Cells.vals [V.str pr, V.int IntKind.i64 pw, V.int IntKind.i64 ph, V.row (4 : Nat) (n + (1 : Nat))], elem := 33, kind := Kind.box }, { cs := Cells.ints IntKind.i64 (a ++ [cx, cy, ck]), elem := 37, kind := Kind.rows (3 : Nat) }])))

def VC_impl_AddClue (cx : Int) (cy : Int) (ck : Int) (pr : List UInt8) (pw : Int) (ph : Int) (n : Nat) (a : List Int) (K : V → List Blk → Prop) : Prop := At (List.length a = n * (3 
  : Nat) ∧ n ≤ (2000000 : Nat)) ∧ ((!goodZ pr pw ph n a) = true → K (V.tup [V.agg [V.str (Array.toList #[]), V.int IntKind.i64 (0 : Int), V.int IntKind.i64 (0 : Int), V.raw (Value.slice 
  none (0 : Nat) (0 : Nat))], V.lit false]) [{ cs := Cells.ints IntKind.i64 a, elem := 37, kind := Kind.rows (3 : Nat) }, { cs := Cells.vals [V.str pr, V.int IntKind.i64 pw, V.int IntKind.i64 ph, V.row (0 : Nat) n], elem := 33, kind := Kind.box }, 
  { cs := Cells.vals [V.int IntKind.i64 cx, V.int IntKind.i64 cy, V.int IntKind.i64 ck], elem := 37, kind := Kind.box }, { cs := Cells.vals [V.str (Array.toList #[]), V.int IntKind.i64 (0 : Int), V.int IntKind.i64 (0 : Int), V.raw (Value.slice none (0 : Nat) (0 : Nat))], elem := 33, kind := Kind.box }]) 
  ∧ ((!goodZ pr pw ph n a) = false → At True ∧ ((!isClueB pr (IntKind.wrap IntKind.i64 (pw * ph)) cx cy ck) = true → K (V.tup [V.agg [V.str (Array.toList #[]), V.int IntKind.i64 (0 : 
  Int), V.int IntKind.i64 (0 : Int), V.raw (Value.slice none (0 : Nat) (0 : Nat))], V.lit false]) [{ cs := Cells.ints IntKind.i64 a, elem := 37, kind := Kind.rows (3 : Nat) }, 
  { cs := Cells.vals [V.str pr, V.int IntKind.i64 pw, V.int IntKind.i64 ph, V.row (0 : Nat) n], elem := 33, kind := Kind.box }, { cs := Cells.vals [V.int IntKind.i64 cx, V.int IntKind.i64 cy, V.int IntKind.i64 ck], elem := 37, kind := Kind.box }, 
  { cs := Cells.vals [V.str (Array.toList #[]), V.int IntKind.i64 (0 : Int), V.int IntKind.i64 (0 : Int), V.raw (Value.slice none (0 : Nat) (0 : Nat))], elem := 33, kind := Kind.box }]) 
  ∧ ((!isClueB pr (IntKind.wrap IntKind.i64 (pw * ph)) cx cy ck) = false → (((↑n : Int) == (6 : Int)) = true → K (V.tup [V.agg [V.str (Array.toList #[]), V.int IntKind.i64 (0 : Int), 
  V.int IntKind.i64 (0 : Int), V.raw (Value.slice none (0 : Nat) (0 : Nat))], V.lit false]) [{ cs := Cells.ints IntKind.i64 a, elem := 37, kind := Kind.rows (3 : Nat) }, { cs := Cells.vals [V.str pr, V.int IntKind.i64 pw, V.int IntKind.i64 ph, V.row (0 : Nat) n], elem := 33, kind := Kind.box }, 
  { cs := Cells.vals [V.int IntKind.i64 cx, V.int IntKind.i64 cy, V.int IntKind.i64 ck], elem := 37, kind := Kind.box }, { cs := Cells.vals [V.str (Array.toList #[]), V.int IntKind.i64 (0 : Int), V.int IntKind.i64 (0 : Int), V.raw (Value.slice none (0 : Nat) (0 : Nat))], elem := 33, kind := Kind.box }]) 
  ∧ (((↑n : Int) == (6 : Int)) = false → (((At ((0 : Int) ≤ (0 : Int) ∧ (0 : Int) ≤ (↑n : Int) ∧ (↑n : Int) ≤ (↑n : Int) ∧ (↑n : Int) ≤ (↑n : Int) ∧ n * (3 : Nat) ≤ Cells.len (Cells.ints 
  IntKind.i64 a)) ∧ (((At (Int.toNat (↑n : Int) - Int.toNat (0 : Int) = Int.toNat (↑n : Int) - Int.toNat (0 : Int) ∧ (List.length (List.take ((Int.toNat (↑n : Int) - Int.toNat (0 : Int)) 
  * (3 : Nat)) (List.drop (Int.toNat (0 : Int) * (3 : Nat)) a)) = (Int.toNat (↑n : Int) - Int.toNat (0 : Int)) * (3 : Nat) ∧ (1 : Nat) * (3 : Nat) ≤ List.length [cx, cy, ck]) ∧ (0 : Nat) 
  < (1 : Nat) ∧ Int.toNat (↑n : Int) - Int.toNat (0 : Int) + (1 : Nat) ≤ (1000000000 : Nat)) ∧ (True ∧ (((1 : Nat) = (1 : Nat) ∧ (0 : Nat) = (0 : Nat)) ∧ ((2 : Nat) = (2 : Nat) ∧ (0 : 
  Nat) = (0 : Nat)) ∧ ((3 : Nat) = (3 : Nat) ∧ (0 : Nat) = (0 : Nat)) ∧ True) ∧ ((True ∧ IntKind.i64 = IntKind.i64 ∧ a = a) ∧ (True ∧ pr = pr ∧ (True ∧ pw = pw) ∧ (True ∧ ph = ph) ∧ ((4 
  : Nat) = (4 : Nat) ∧ Int.toNat (↑n : Int) - Int.toNat (0 : Int) + (1 : Nat) = n + (1 : Nat)) ∧ True) ∧ (True ∧ (True ∧ cx = cx) ∧ (True ∧ cy = cy) ∧ (True ∧ ck = ck) ∧ True) ∧ (True 
  ∧ nilB = nilB ∧ (True ∧ (0 : Int) = (0 : Int)) ∧ (True ∧ (0 : Int) = (0 : Int)) ∧ Value.slice none (0 : Nat) (0 : Nat) = Value.slice none (0 : Nat) (0 : Nat) ∧ True) ∧ (True ∧ IntKind.i64 
  = IntKind.i64 ∧ List.take ((Int.toNat (↑n : Int) - Int.toNat (0 : Int)) * (3 : Nat)) (List.drop (Int.toNat (0 : Int) * (3 : Nat)) a) ++ List.take ((1 : Nat) * (3 : Nat)) [cx, cy, ck] 
  = a ++ [cx, cy, ck]) ∧ True) ∧ True) ∧ True) ∧ True) ∧ True) ∧ True) ∧ ((At ((0 : Int) ≤ (0 : Int) ∧ (0 : Int) ≤ (↑n : Int) ∧ (↑n : Int) ≤ (↑n : Int) ∧ (↑n : Int) ≤ (↑n : Int) ∧ n * 
  (3 : Nat) ≤ Cells.len (Cells.ints IntKind.i64 a)) ∧ ((At (Int.toNat (↑n : Int) - Int.toNat (0 : Int) = Int.toNat (↑n : Int) - Int.toNat (0 : Int) ∧ (List.length (List.take ((Int.toNat 
  (↑n : Int) - Int.toNat (0 : Int)) * (3 : Nat)) (List.drop (Int.toNat (0 : Int) * (3 : Nat)) a)) = (Int.toNat (↑n : Int) - Int.toNat (0 : Int)) * (3 : Nat) ∧ (1 : Nat) * (3 : Nat) ≤ 
  List.length [cx, cy, ck]) ∧ (0 : Nat) < (1 : Nat) ∧ Int.toNat (↑n : Int) - Int.toNat (0 : Int) + (1 : Nat) ≤ (1000000000 : Nat)) ∧ (True ∧ (((1 : Nat) = (1 : Nat) ∧ (0 : Nat) = (0 : 
  Nat)) ∧ ((2 : Nat) = (2 : Nat) ∧ (0 : Nat) = (0 : Nat)) ∧ ((3 : Nat) = (3 : Nat) ∧ (0 : Nat) = (0 : Nat)) ∧ True) ∧ ((True ∧ IntKind.i64 = IntKind.i64 ∧ a = a) ∧ (True ∧ pr = pr ∧ (True 
  ∧ pw = pw) ∧ (True ∧ ph = ph) ∧ ((4 : Nat) = (4 : Nat) ∧ Int.toNat (↑n : Int) - Int.toNat (0 : Int) + (1 : Nat) = n + (1 : Nat)) ∧ True) ∧ (True ∧ (True ∧ cx = cx) ∧ (True ∧ cy = cy) 
  ∧ (True ∧ ck = ck) ∧ True) ∧ (True ∧ nilB = nilB ∧ (True ∧ (0 : Int) = (0 : Int)) ∧ (True ∧ (0 : Int) = (0 : Int)) ∧ Value.slice none (0 : Nat) (0 : Nat) = Value.slice none (0 : Nat) 
  (0 : Nat) ∧ True) ∧ (True ∧ IntKind.i64 = IntKind.i64 ∧ List.take ((Int.toNat (↑n : Int) - Int.toNat (0 : Int)) * (3 : Nat)) (List.drop (Int.toNat (0 : Int) * (3 : Nat)) a) ++ List.take 
  ((1 : Nat) * (3 : Nat)) [cx, cy, ck] = a ++ [cx, cy, ck]) ∧ True) ∧ True) ∧ True) ∧ True) ∧ True) ∧ ((At ((0 : Int) ≤ (0 : Int) ∧ (0 : Int) ≤ (↑n : Int) ∧ (↑n : Int) ≤ (↑n : Int) ∧ 
  (↑n : Int) ≤ (↑n : Int) ∧ n * (3 : Nat) ≤ Cells.len (Cells.ints IntKind.i64 a)) ∧ (At (Int.toNat (↑n : Int) - Int.toNat (0 : Int) = Int.toNat (↑n : Int) - Int.toNat (0 : Int) ∧ (List.length 
  (List.take ((Int.toNat (↑n : Int) - Int.toNat (0 : Int)) * (3 : Nat)) (List.drop (Int.toNat (0 : Int) * (3 : Nat)) a)) = (Int.toNat (↑n : Int) - Int.toNat (0 : Int)) * (3 : Nat) ∧ (1 
  : Nat) * (3 : Nat) ≤ List.length [cx, cy, ck]) ∧ (0 : Nat) < (1 : Nat) ∧ Int.toNat (↑n : Int) - Int.toNat (0 : Int) + (1 : Nat) ≤ (1000000000 : Nat)) ∧ (True ∧ (((1 : Nat) = (1 : Nat) 
  ∧ (0 : Nat) = (0 : Nat)) ∧ ((2 : Nat) = (2 : Nat) ∧ (0 : Nat) = (0 : Nat)) ∧ ((3 : Nat) = (3 : Nat) ∧ (0 : Nat) = (0 : Nat)) ∧ True) ∧ ((True ∧ IntKind.i64 = IntKind.i64 ∧ a = a) ∧ 
  (True ∧ pr = pr ∧ (True ∧ pw = pw) ∧ (True ∧ ph = ph) ∧ ((4 : Nat) = (4 : Nat) ∧ Int.toNat (↑n : Int) - Int.toNat (0 : Int) + (1 : Nat) = n + (1 : Nat)) ∧ True) ∧ (True ∧ (True ∧ cx 
  = cx) ∧ (True ∧ cy = cy) ∧ (True ∧ ck = ck) ∧ True) ∧ (True ∧ nilB = nilB ∧ (True ∧ (0 : Int) = (0 : Int)) ∧ (True ∧ (0 : Int) = (0 : Int)) ∧ Value.slice none (0 : Nat) (0 : Nat) = 
  Value.slice none (0 : Nat) (0 : Nat) ∧ True) ∧ (True ∧ IntKind.i64 = IntKind.i64 ∧ List.take ((Int.toNat (↑n : Int) - Int.toNat (0 : Int)) * (3 : Nat)) (List.drop (Int.toNat (0 : Int) 
  * (3 : Nat)) a) ++ List.take ((1 : Nat) * (3 : Nat)) [cx, cy, ck] = a ++ [cx, cy, ck]) ∧ True) ∧ True) ∧ True) ∧ True) ∧ True) ∧ True) ∧ True) ∧ (((At ((0 : Int) ≤ (0 : Int) ∧ (0 : 
  Int) ≤ (↑n : Int) ∧ (↑n : Int) ≤ (↑n : Int) ∧ (↑n : Int) ≤ (↑n : Int) ∧ n * (3 : Nat) ≤ Cells.len (Cells.ints IntKind.i64 a)) ∧ ((At (Int.toNat (↑n : Int) - Int.toNat (0 : Int) = Int.toNat 
  (↑n : Int) - Int.toNat (0 : Int) ∧ (List.length (List.take ((Int.toNat (↑n : Int) - Int.toNat (0 : Int)) * (3 : Nat)) (List.drop (Int.toNat (0 : Int) * (3 : Nat)) a)) = (Int.toNat (↑n 
  : Int) - Int.toNat (0 : Int)) * (3 : Nat) ∧ (1 : Nat) * (3 : Nat) ≤ List.length [cx, cy, ck]) ∧ (0 : Nat) < (1 : Nat) ∧ Int.toNat (↑n : Int) - Int.toNat (0 : Int) + (1 : Nat) ≤ (1000000000 
  : Nat)) ∧ (True ∧ (((1 : Nat) = (1 : Nat) ∧ (0 : Nat) = (0 : Nat)) ∧ ((2 : Nat) = (2 : Nat) ∧ (0 : Nat) = (0 : Nat)) ∧ ((3 : Nat) = (3 : Nat) ∧ (0 : Nat) = (0 : Nat)) ∧ True) ∧ ((True 
  ∧ IntKind.i64 = IntKind.i64 ∧ a = a) ∧ (True ∧ pr = pr ∧ (True ∧ pw = pw) ∧ (True ∧ ph = ph) ∧ ((4 : Nat) = (4 : Nat) ∧ Int.toNat (↑n : Int) - Int.toNat (0 : Int) + (1 : Nat) = n + 
  (1 : Nat)) ∧ True) ∧ (True ∧ (True ∧ cx = cx) ∧ (True ∧ cy = cy) ∧ (True ∧ ck = ck) ∧ True) ∧ (True ∧ nilB = nilB ∧ (True ∧ (0 : Int) = (0 : Int)) ∧ (True ∧ (0 : Int) = (0 : Int)) ∧ 
  Value.slice none (0 : Nat) (0 : Nat) = Value.slice none (0 : Nat) (0 : Nat) ∧ True) ∧ (True ∧ IntKind.i64 = IntKind.i64 ∧ List.take ((Int.toNat (↑n : Int) - Int.toNat (0 : Int)) * (3 
  : Nat)) (List.drop (Int.toNat (0 : Int) * (3 : Nat)) a) ++ List.take ((1 : Nat) * (3 : Nat)) [cx, cy, ck] = a ++ [cx, cy, ck]) ∧ True) ∧ True) ∧ True) ∧ True) ∧ True) ∧ ((At ((0 : Int) 
  ≤ (0 : Int) ∧ (0 : Int) ≤ (↑n : Int) ∧ (↑n : Int) ≤ (↑n : Int) ∧ (↑n : Int) ≤ (↑n : Int) ∧ n * (3 : Nat) ≤ Cells.len (Cells.ints IntKind.i64 a)) ∧ (At (Int.toNat (↑n : Int) - Int.toNat 
  (0 : Int) = Int.toNat (↑n : Int) - Int.toNat (0 : Int) ∧ (List.length (List.take ((Int.toNat (↑n : Int) - Int.toNat (0 : Int)) * (3 : Nat)) (List.drop (Int.toNat (0 : Int) * (3 : Nat)) 
  a)) = (Int.toNat (↑n : Int) - Int.toNat (0 : Int)) * (3 : Nat) ∧ (1 : Nat) * (3 : Nat) ≤ List.length [cx, cy, ck]) ∧ (0 : Nat) < (1 : Nat) ∧ Int.toNat (↑n : Int) - Int.toNat (0 : Int) 
  + (1 : Nat) ≤ (1000000000 : Nat)) ∧ (True ∧ (((1 : Nat) = (1 : Nat) ∧ (0 : Nat) = (0 : Nat)) ∧ ((2 : Nat) = (2 : Nat) ∧ (0 : Nat) = (0 : Nat)) ∧ ((3 : Nat) = (3 : Nat) ∧ (0 : Nat) = 
  (0 : Nat)) ∧ True) ∧ ((True ∧ IntKind.i64 = IntKind.i64 ∧ a = a) ∧ (True ∧ pr = pr ∧ (True ∧ pw = pw) ∧ (True ∧ ph = ph) ∧ ((4 : Nat) = (4 : Nat) ∧ Int.toNat (↑n : Int) - Int.toNat 
  (0 : Int) + (1 : Nat) = n + (1 : Nat)) ∧ True) ∧ (True ∧ (True ∧ cx = cx) ∧ (True ∧ cy = cy) ∧ (True ∧ ck = ck) ∧ True) ∧ (True ∧ nilB = nilB ∧ (True ∧ (0 : Int) = (0 : Int)) ∧ (True 
  ∧ (0 : Int) = (0 : Int)) ∧ Value.slice none (0 : Nat) (0 : Nat) = Value.slice none (0 : Nat) (0 : Nat) ∧ True) ∧ (True ∧ IntKind.i64 = IntKind.i64 ∧ List.take ((Int.toNat (↑n : Int) 
  - Int.toNat (0 : Int)) * (3 : Nat)) (List.drop (Int.toNat (0 : Int) * (3 : Nat)) a) ++ List.take ((1 : Nat) * (3 : Nat)) [cx, cy, ck] = a ++ [cx, cy, ck]) ∧ True) ∧ True) ∧ True) ∧ 
  True) ∧ True) ∧ True) ∧ (((At ((0 : Int) ≤ (0 : Int) ∧ (0 : Int) ≤ (↑n : Int) ∧ (↑n : Int) ≤ (↑n : Int) ∧ (↑n : Int) ≤ (↑n : Int) ∧ n * (3 : Nat) ≤ Cells.len (Cells.ints IntKind.i64 
  a)) ∧ (At (Int.toNat (↑n : Int) - Int.toNat (0 : Int) = Int.toNat (↑n : Int) - Int.toNat (0 : Int) ∧ (List.length (List.take ((Int.toNat (↑n : Int) - Int.toNat (0 : Int)) * (3 : Nat)) 
  (List.drop (Int.toNat (0 : Int) * (3 : Nat)) a)) = (Int.toNat (↑n : Int) - Int.toNat (0 : Int)) * (3 : Nat) ∧ (1 : Nat) * (3 : Nat) ≤ List.length [cx, cy, ck]) ∧ (0 : Nat) < (1 : Nat) 
  ∧ Int.toNat (↑n : Int) - Int.toNat (0 : Int) + (1 : Nat) ≤ (1000000000 : Nat)) ∧ (True ∧ (((1 : Nat) = (1 : Nat) ∧ (0 : Nat) = (0 : Nat)) ∧ ((2 : Nat) = (2 : Nat) ∧ (0 : Nat) = (0 : 
  Nat)) ∧ ((3 : Nat) = (3 : Nat) ∧ (0 : Nat) = (0 : Nat)) ∧ True) ∧ ((True ∧ IntKind.i64 = IntKind.i64 ∧ a = a) ∧ (True ∧ pr = pr ∧ (True ∧ pw = pw) ∧ (True ∧ ph = ph) ∧ ((4 : Nat) = 
  (4 : Nat) ∧ Int.toNat (↑n : Int) - Int.toNat (0 : Int) + (1 : Nat) = n + (1 : Nat)) ∧ True) ∧ (True ∧ (True ∧ cx = cx) ∧ (True ∧ cy = cy) ∧ (True ∧ ck = ck) ∧ True) ∧ (True ∧ nilB = 
  nilB ∧ (True ∧ (0 : Int) = (0 : Int)) ∧ (True ∧ (0 : Int) = (0 : Int)) ∧ Value.slice none (0 : Nat) (0 : Nat) = Value.slice none (0 : Nat) (0 : Nat) ∧ True) ∧ (True ∧ IntKind.i64 = 
  IntKind.i64 ∧ List.take ((Int.toNat (↑n : Int) - Int.toNat (0 : Int)) * (3 : Nat)) (List.drop (Int.toNat (0 : Int) * (3 : Nat)) a) ++ List.take ((1 : Nat) * (3 : Nat)) [cx, cy, ck] 
  = a ++ [cx, cy, ck]) ∧ True) ∧ True) ∧ True) ∧ True) ∧ True) ∧ True) ∧ True) ∧ True) ∧ K (V.tup [V.agg [V.str pr, V.int IntKind.i64 pw, V.int IntKind.i64 ph, V.row (4 : Nat) (n + (1 
  : Nat))], V.lit true]) [{ cs := Cells.ints IntKind.i64 a, elem := 37, kind := Kind.rows (3 : Nat) }, { cs := Cells.vals [V.str pr, V.int IntKind.i64 pw, V.int IntKind.i64 ph, V.row (4 : Nat) (n + (1 : Nat))], elem := 33, kind := Kind.box }, 
  { cs := Cells.vals [V.int IntKind.i64 cx, V.int IntKind.i64 cy, V.int IntKind.i64 ck], elem := 37, kind := Kind.box }, { cs := Cells.vals [V.str pr, V.int IntKind.i64 pw, V.int IntKind.i64 ph, V.row (4 : Nat) (n + (1 : Nat))], elem := 33, kind := Kind.box }, 
  { cs := Cells.ints IntKind.i64 (a ++ [cx, cy, ck]), elem := 37, kind := Kind.rows (3 : Nat) }])))

end Go.Vi
