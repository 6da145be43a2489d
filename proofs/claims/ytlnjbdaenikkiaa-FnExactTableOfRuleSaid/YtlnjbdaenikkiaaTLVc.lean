/- The conditions, reckoned out by program: texts alone. -/
import Derived.Test.YtlnjbdaenikkiaaTLDefs
namespace Go.Vi
set_option linter.unusedVariables false
def VC_impl_IsRule (s : List UInt8) (K : V → Prop) : Prop := At True ∧ ((!inB (↑(List.length s) : Int) (1 : Int) (6 : Int)) = true → K (V.lit false)) ∧ ((!inB (↑(List.length s) : Int) 
  (1 : Int) (6 : Int)) = false → ((s = s ∧ (True ∧ (↑(List.length s) : Int) = (↑(List.length s) : Int)) ∧ (True ∧ (0 : Int) = (0 : Int)) ∧ True) ∧ True ∧ True) ∧ At (ruleInv s (0 : Int)) 
  ∧ ∀ (a : Int), ruleInv s a → (decide (a < (↑(List.length s) : Int)) = true → At ((0 : Int) ≤ a ∧ a < (↑(List.length s) : Int)) ∧ (((↑(UInt8.toNat (List.getD s (Int.toNat a) (0 : UInt8))) 
  : Int) == (76 : Int)) = true → ((s = s ∧ (True ∧ (↑(List.length s) : Int) = (↑(List.length s) : Int)) ∧ (True ∧ IntKind.wrap IntKind.i64 (a + (1 : Int)) = IntKind.wrap IntKind.i64 (a 
  + (1 : Int))) ∧ True) ∧ True ∧ True) ∧ At (ruleInv s (IntKind.wrap IntKind.i64 (a + (1 : Int))) ∧ Int.toNat ((↑(List.length s) : Int) - IntKind.wrap IntKind.i64 (a + (1 : Int))) < Int.toNat 
  ((↑(List.length s) : Int) - a))) ∧ (((↑(UInt8.toNat (List.getD s (Int.toNat a) (0 : UInt8))) : Int) == (76 : Int)) = false → (((↑(UInt8.toNat (List.getD s (Int.toNat a) (0 : UInt8))) 
  : Int) == (82 : Int)) = true → ((s = s ∧ (True ∧ (↑(List.length s) : Int) = (↑(List.length s) : Int)) ∧ (True ∧ IntKind.wrap IntKind.i64 (a + (1 : Int)) = IntKind.wrap IntKind.i64 (a 
  + (1 : Int))) ∧ True) ∧ True ∧ True) ∧ At (ruleInv s (IntKind.wrap IntKind.i64 (a + (1 : Int))) ∧ Int.toNat ((↑(List.length s) : Int) - IntKind.wrap IntKind.i64 (a + (1 : Int))) < Int.toNat 
  ((↑(List.length s) : Int) - a))) ∧ (((↑(UInt8.toNat (List.getD s (Int.toNat a) (0 : UInt8))) : Int) == (82 : Int)) = false → (((↑(UInt8.toNat (List.getD s (Int.toNat a) (0 : UInt8))) 
  : Int) == (78 : Int)) = true → ((s = s ∧ (True ∧ (↑(List.length s) : Int) = (↑(List.length s) : Int)) ∧ (True ∧ IntKind.wrap IntKind.i64 (a + (1 : Int)) = IntKind.wrap IntKind.i64 (a 
  + (1 : Int))) ∧ True) ∧ True ∧ True) ∧ At (ruleInv s (IntKind.wrap IntKind.i64 (a + (1 : Int))) ∧ Int.toNat ((↑(List.length s) : Int) - IntKind.wrap IntKind.i64 (a + (1 : Int))) < Int.toNat 
  ((↑(List.length s) : Int) - a))) ∧ (((↑(UInt8.toNat (List.getD s (Int.toNat a) (0 : UInt8))) : Int) == (78 : Int)) = false → ((!(↑(UInt8.toNat (List.getD s (Int.toNat a) (0 : UInt8))) 
  : Int) == (85 : Int)) = true → K (V.lit false)) ∧ ((!(↑(UInt8.toNat (List.getD s (Int.toNat a) (0 : UInt8))) : Int) == (85 : Int)) = false → ((s = s ∧ (True ∧ (↑(List.length s) : Int) 
  = (↑(List.length s) : Int)) ∧ (True ∧ IntKind.wrap IntKind.i64 (a + (1 : Int)) = IntKind.wrap IntKind.i64 (a + (1 : Int))) ∧ True) ∧ True ∧ True) ∧ At (ruleInv s (IntKind.wrap IntKind.i64 
  (a + (1 : Int))) ∧ Int.toNat ((↑(List.length s) : Int) - IntKind.wrap IntKind.i64 (a + (1 : Int))) < Int.toNat ((↑(List.length s) : Int) - a))))))) ∧ (decide (a < (↑(List.length s) 
  : Int)) = false → K (V.lit true)))

def VC_spec_TableOfRule (s : List UInt8) (K : V → List Blk → Prop) : Prop := At True ∧ ((!ruleB s) = true → K (V.tup [V.agg [V.int IntKind.i64 (0 : Int), V.int IntKind.i64 (0 : Int), 
  V.raw (Value.slice none (0 : Nat) (0 : Nat))], V.lit false]) [{ cs := Cells.vals [V.int IntKind.i64 (0 : Int), V.int IntKind.i64 (0 : Int), V.raw (Value.slice none (0 : Nat) (0 : Nat))], elem := 24, kind := Kind.box }]) 
  ∧ ((!ruleB s) = false → (decide ((↑(List.length s) : Int) > (4 : Int)) = true → K (V.tup [V.agg [V.int IntKind.i64 (0 : Int), V.int IntKind.i64 (0 : Int), V.raw (Value.slice none (0 
  : Nat) (0 : Nat))], V.lit false]) [{ cs := Cells.vals [V.int IntKind.i64 (0 : Int), V.int IntKind.i64 (0 : Int), V.raw (Value.slice none (0 : Nat) (0 : Nat))], elem := 24, kind := Kind.box }]) 
  ∧ (decide ((↑(List.length s) : Int) > (4 : Int)) = false → (True ∧ (s = s ∧ ((0 : Nat) = (0 : Nat) ∧ (0 : Nat) = (0 : Nat)) ∧ ((1 : Nat) = (1 : Nat) ∧ (0 : Nat) = (0 : Nat)) ∧ ((2 : 
  Nat) = (2 : Nat) ∧ (0 : Nat) = (0 : Nat)) ∧ True) ∧ ((True ∧ (True ∧ (0 : Int) = (0 : Int)) ∧ (True ∧ (0 : Int) = (0 : Int)) ∧ Value.slice none (0 : Nat) (0 : Nat) = Value.slice none 
  (0 : Nat) (0 : Nat) ∧ True) ∧ (True ∧ (True ∧ (1 : Int) = (1 : Int)) ∧ (True ∧ (↑(List.length s) : Int) = (↑(List.length s) : Int)) ∧ ((3 : Nat) = (3 : Nat) ∧ (0 : Nat) = (0 : Nat)) 
  ∧ True) ∧ (True ∧ [(V.gp (0 : Nat) (0 : Nat), V.str s)] = [(V.gp (0 : Nat) (0 : Nat), V.str s)]) ∧ (True ∧ True ∧ [] = flat3 (rlK s (0 : Nat))) ∧ True) ∧ True) ∧ At (rlInv s (0 : Nat)) 
  ∧ ∀ (a : Nat), rlInv s a → (a < List.length s → At (UInt8.toNat (List.getD s a (0 : UInt8)) < (128 : Nat)) ∧ At ((↑(List.length s) : Int) ≠ (0 : Int)) ∧ ((At ((0 : Int) ≤ (↑a : Int) 
  ∧ (↑a : Int) ≤ IntKind.wrap IntKind.i64 ((↑a : Int) + (1 : Int)) ∧ IntKind.wrap IntKind.i64 ((↑a : Int) + (1 : Int)) ≤ (↑(List.length s) : Int)) ∧ ((At ((List.length (flat3 (rlK s a)) 
  = a * (3 : Nat) ∧ (1 : Nat) * (3 : Nat) ≤ List.length [(Sc.mk (Int.tmod (IntKind.wrap IntKind.i64 ((↑a : Int) + (1 : Int))) (↑(List.length s) : Int)) ([])), (Sc.mk ((0 : Int)) (List.drop 
  (Int.toNat (↑a : Int)) (List.take (Int.toNat (IntKind.wrap IntKind.i64 ((↑a : Int) + (1 : Int)))) s))), (Sc.mk ((0 : Int)) ([]))]) ∧ (0 : Nat) < (1 : Nat) ∧ a + (1 : Nat) ≤ (1000000000 
  : Nat)) ∧ ((True ∧ (s = s ∧ ((0 : Nat) = (0 : Nat) ∧ (0 : Nat) = (0 : Nat)) ∧ ((1 : Nat) = (1 : Nat) ∧ (0 : Nat) = (0 : Nat)) ∧ ((2 : Nat) = (2 : Nat) ∧ (0 : Nat) = (0 : Nat)) ∧ True) 
  ∧ ((True ∧ (True ∧ (0 : Int) = (0 : Int)) ∧ (True ∧ (0 : Int) = (0 : Int)) ∧ Value.slice none (0 : Nat) (0 : Nat) = Value.slice none (0 : Nat) (0 : Nat) ∧ True) ∧ (True ∧ (True ∧ (1 
  : Int) = (1 : Int)) ∧ (True ∧ (↑(List.length s) : Int) = (↑(List.length s) : Int)) ∧ ((3 : Nat) = (3 : Nat) ∧ a + (1 : Nat) = a + (1 : Nat)) ∧ True) ∧ (True ∧ [(V.gp (a + (1 : Nat)) 
  (0 : Nat), V.str s)] = [(V.gp (a + (1 : Nat)) (0 : Nat), V.str s)]) ∧ (True ∧ True ∧ flat3 (rlK s a) ++ List.take ((1 : Nat) * (3 : Nat)) [(Sc.mk (Int.tmod (IntKind.wrap IntKind.i64 
  ((↑a : Int) + (1 : Int))) (↑(List.length s) : Int)) ([])), (Sc.mk ((0 : Int)) (List.drop (Int.toNat (↑a : Int)) (List.take (Int.toNat (IntKind.wrap IntKind.i64 ((↑a : Int) + (1 : Int)))) 
  s))), (Sc.mk ((0 : Int)) ([]))] = flat3 (rlK s (a + (1 : Nat)))) ∧ True) ∧ True) ∧ At (rlInv s (a + (1 : Nat)) ∧ List.length s - (a + (1 : Nat)) < List.length s - a)) ∧ True) ∧ True) 
  ∧ True) ∧ True) ∧ (At ((0 : Int) ≤ (↑a : Int) ∧ (↑a : Int) ≤ IntKind.wrap IntKind.i64 ((↑a : Int) + (1 : Int)) ∧ IntKind.wrap IntKind.i64 ((↑a : Int) + (1 : Int)) ≤ (↑(List.length s) 
  : Int)) ∧ (((At ((List.length (flat3 (rlK s a)) = a * (3 : Nat) ∧ (1 : Nat) * (3 : Nat) ≤ List.length [(Sc.mk (Int.tmod (IntKind.wrap IntKind.i64 ((↑a : Int) + (1 : Int))) (↑(List.length 
  s) : Int)) ([])), (Sc.mk ((0 : Int)) (List.drop (Int.toNat (↑a : Int)) (List.take (Int.toNat (IntKind.wrap IntKind.i64 ((↑a : Int) + (1 : Int)))) s))), (Sc.mk ((0 : Int)) ([]))]) ∧ 
  (0 : Nat) < (1 : Nat) ∧ a + (1 : Nat) ≤ (1000000000 : Nat)) ∧ ((True ∧ (s = s ∧ ((0 : Nat) = (0 : Nat) ∧ (0 : Nat) = (0 : Nat)) ∧ ((1 : Nat) = (1 : Nat) ∧ (0 : Nat) = (0 : Nat)) ∧ ((2 
  : Nat) = (2 : Nat) ∧ (0 : Nat) = (0 : Nat)) ∧ True) ∧ ((True ∧ (True ∧ (0 : Int) = (0 : Int)) ∧ (True ∧ (0 : Int) = (0 : Int)) ∧ Value.slice none (0 : Nat) (0 : Nat) = Value.slice none 
  (0 : Nat) (0 : Nat) ∧ True) ∧ (True ∧ (True ∧ (1 : Int) = (1 : Int)) ∧ (True ∧ (↑(List.length s) : Int) = (↑(List.length s) : Int)) ∧ ((3 : Nat) = (3 : Nat) ∧ a + (1 : Nat) = a + (1 
  : Nat)) ∧ True) ∧ (True ∧ [(V.gp (a + (1 : Nat)) (0 : Nat), V.str s)] = [(V.gp (a + (1 : Nat)) (0 : Nat), V.str s)]) ∧ (True ∧ True ∧ flat3 (rlK s a) ++ List.take ((1 : Nat) * (3 : 
  Nat)) [(Sc.mk (Int.tmod (IntKind.wrap IntKind.i64 ((↑a : Int) + (1 : Int))) (↑(List.length s) : Int)) ([])), (Sc.mk ((0 : Int)) (List.drop (Int.toNat (↑a : Int)) (List.take (Int.toNat 
  (IntKind.wrap IntKind.i64 ((↑a : Int) + (1 : Int)))) s))), (Sc.mk ((0 : Int)) ([]))] = flat3 (rlK s (a + (1 : Nat)))) ∧ True) ∧ True) ∧ At (rlInv s (a + (1 : Nat)) ∧ List.length s - 
  (a + (1 : Nat)) < List.length s - a)) ∧ True) ∧ True) ∧ True) ∧ ((At ((List.length (flat3 (rlK s a)) = a * (3 : Nat) ∧ (1 : Nat) * (3 : Nat) ≤ List.length [(Sc.mk (Int.tmod (IntKind.wrap 
  IntKind.i64 ((↑a : Int) + (1 : Int))) (↑(List.length s) : Int)) ([])), (Sc.mk ((0 : Int)) (List.drop (Int.toNat (↑a : Int)) (List.take (Int.toNat (IntKind.wrap IntKind.i64 ((↑a : Int) 
  + (1 : Int)))) s))), (Sc.mk ((0 : Int)) ([]))]) ∧ (0 : Nat) < (1 : Nat) ∧ a + (1 : Nat) ≤ (1000000000 : Nat)) ∧ ((True ∧ (s = s ∧ ((0 : Nat) = (0 : Nat) ∧ (0 : Nat) = (0 : Nat)) ∧ ((1 
  : Nat) = (1 : Nat) ∧ (0 : Nat) = (0 : Nat)) ∧ ((2 : Nat) = (2 : Nat) ∧ (0 : Nat) = (0 : Nat)) ∧ True) ∧ ((True ∧ (True ∧ (0 : Int) = (0 : Int)) ∧ (True ∧ (0 : Int) = (0 : Int)) ∧ Value.slice 
  none (0 : Nat) (0 : Nat) = Value.slice none (0 : Nat) (0 : Nat) ∧ True) ∧ (True ∧ (True ∧ (1 : Int) = (1 : Int)) ∧ (True ∧ (↑(List.length s) : Int) = (↑(List.length s) : Int)) ∧ ((3 
  : Nat) = (3 : Nat) ∧ a + (1 : Nat) = a + (1 : Nat)) ∧ True) ∧ (True ∧ [(V.gp (a + (1 : Nat)) (0 : Nat), V.str s)] = [(V.gp (a + (1 : Nat)) (0 : Nat), V.str s)]) ∧ (True ∧ True ∧ flat3 
  (rlK s a) ++ List.take ((1 : Nat) * (3 : Nat)) [(Sc.mk (Int.tmod (IntKind.wrap IntKind.i64 ((↑a : Int) + (1 : Int))) (↑(List.length s) : Int)) ([])), (Sc.mk ((0 : Int)) (List.drop (Int.toNat 
  (↑a : Int)) (List.take (Int.toNat (IntKind.wrap IntKind.i64 ((↑a : Int) + (1 : Int)))) s))), (Sc.mk ((0 : Int)) ([]))] = flat3 (rlK s (a + (1 : Nat)))) ∧ True) ∧ True) ∧ At (rlInv s 
  (a + (1 : Nat)) ∧ List.length s - (a + (1 : Nat)) < List.length s - a)) ∧ True) ∧ True) ∧ True) ∧ True) ∧ (¬a < List.length s → K (V.tup [V.agg [V.int IntKind.i64 (1 : Int), V.int IntKind.i64 
  (↑(List.length s) : Int), V.row (3 : Nat) a], V.lit true]) [{ cs := Cells.vals [V.int IntKind.i64 (1 : Int), V.int IntKind.i64 (↑(List.length s) : Int), V.row (3 : Nat) a], elem := 24, kind := Kind.box }, 
  { cs := Cells.vals [V.int IntKind.i64 (1 : Int), V.int IntKind.i64 (↑(List.length s) : Int), V.row (3 : Nat) a], elem := 24, kind := Kind.box }, { cs := Cells.map [(V.gp a (0 : Nat), V.str s)], elem := 9, kind := Kind.map }, 
  { cs := Cells.recs [Sh.int IntKind.i64, Sh.str, Sh.int IntKind.i64] (flat3 (rlK s a)), elem := 31, kind := Kind.rows (3 : Nat) }])))

def VC_impl_TableOfRule (s : List UInt8) (K : V → List Blk → Prop) : Prop := At True ∧ ((!ruleB s) = true → K (V.tup [V.agg [V.int IntKind.i64 (0 : Int), V.int IntKind.i64 (0 : Int), 
  V.raw (Value.slice none (0 : Nat) (0 : Nat))], V.lit false]) [{ cs := Cells.vals [V.int IntKind.i64 (0 : Int), V.int IntKind.i64 (0 : Int), V.raw (Value.slice none (0 : Nat) (0 : Nat))], elem := 24, kind := Kind.box }]) 
  ∧ ((!ruleB s) = false → (decide ((↑(List.length s) : Int) > (4 : Int)) = true → K (V.tup [V.agg [V.int IntKind.i64 (0 : Int), V.int IntKind.i64 (0 : Int), V.raw (Value.slice none (0 
  : Nat) (0 : Nat))], V.lit false]) [{ cs := Cells.vals [V.int IntKind.i64 (0 : Int), V.int IntKind.i64 (0 : Int), V.raw (Value.slice none (0 : Nat) (0 : Nat))], elem := 24, kind := Kind.box }]) 
  ∧ (decide ((↑(List.length s) : Int) > (4 : Int)) = false → (True ∧ (s = s ∧ ((0 : Nat) = (0 : Nat) ∧ (0 : Nat) = (0 : Nat)) ∧ ((1 : Nat) = (1 : Nat) ∧ (0 : Nat) = (0 : Nat)) ∧ (True 
  ∧ (↑(List.length s) : Int) = (↑(List.length s) : Int)) ∧ (True ∧ (0 : Int) = (0 : Int)) ∧ True) ∧ ((True ∧ (True ∧ (0 : Int) = (0 : Int)) ∧ (True ∧ (0 : Int) = (0 : Int)) ∧ Value.slice 
  none (0 : Nat) (0 : Nat) = Value.slice none (0 : Nat) (0 : Nat) ∧ True) ∧ (True ∧ (True ∧ (1 : Int) = (1 : Int)) ∧ (True ∧ (↑(List.length s) : Int) = (↑(List.length s) : Int)) ∧ ((2 
  : Nat) = (2 : Nat) ∧ (0 : Nat) = (0 : Nat)) ∧ True) ∧ (True ∧ True ∧ [] = flat3 (rlK s (Int.toNat (0 : Int)))) ∧ True) ∧ True) ∧ At ((0 : Int) ≤ (0 : Int) ∧ rlInv s (Int.toNat (0 : 
  Int))) ∧ ∀ (a : Int), (0 : Int) ≤ a ∧ rlInv s (Int.toNat a) → (decide (a < (↑(List.length s) : Int)) = true → At ((↑(List.length s) : Int) ≠ (0 : Int)) ∧ ((At ((0 : Int) ≤ a ∧ a ≤ IntKind.wrap 
  IntKind.i64 (a + (1 : Int)) ∧ IntKind.wrap IntKind.i64 (a + (1 : Int)) ≤ (↑(List.length s) : Int)) ∧ ((At ((List.length (flat3 (rlK s (Int.toNat a))) = Int.toNat a * (3 : Nat) ∧ (1 
  : Nat) * (3 : Nat) ≤ List.length [(Sc.mk (Int.tmod (IntKind.wrap IntKind.i64 (a + (1 : Int))) (↑(List.length s) : Int)) ([])), (Sc.mk ((0 : Int)) (List.drop (Int.toNat a) (List.take 
  (Int.toNat (IntKind.wrap IntKind.i64 (a + (1 : Int)))) s))), (Sc.mk ((0 : Int)) ([]))]) ∧ (0 : Nat) < (1 : Nat) ∧ Int.toNat a + (1 : Nat) ≤ (1000000000 : Nat)) ∧ ((True ∧ (s = s ∧ ((0 
  : Nat) = (0 : Nat) ∧ (0 : Nat) = (0 : Nat)) ∧ ((1 : Nat) = (1 : Nat) ∧ (0 : Nat) = (0 : Nat)) ∧ (True ∧ (↑(List.length s) : Int) = (↑(List.length s) : Int)) ∧ (True ∧ IntKind.wrap IntKind.i64 
  (a + (1 : Int)) = IntKind.wrap IntKind.i64 (a + (1 : Int))) ∧ True) ∧ ((True ∧ (True ∧ (0 : Int) = (0 : Int)) ∧ (True ∧ (0 : Int) = (0 : Int)) ∧ Value.slice none (0 : Nat) (0 : Nat) 
  = Value.slice none (0 : Nat) (0 : Nat) ∧ True) ∧ (True ∧ (True ∧ (1 : Int) = (1 : Int)) ∧ (True ∧ (↑(List.length s) : Int) = (↑(List.length s) : Int)) ∧ ((2 : Nat) = (2 : Nat) ∧ Int.toNat 
  a + (1 : Nat) = Int.toNat (IntKind.wrap IntKind.i64 (a + (1 : Int)))) ∧ True) ∧ (True ∧ True ∧ flat3 (rlK s (Int.toNat a)) ++ List.take ((1 : Nat) * (3 : Nat)) [(Sc.mk (Int.tmod (IntKind.wrap 
  IntKind.i64 (a + (1 : Int))) (↑(List.length s) : Int)) ([])), (Sc.mk ((0 : Int)) (List.drop (Int.toNat a) (List.take (Int.toNat (IntKind.wrap IntKind.i64 (a + (1 : Int)))) s))), (Sc.mk 
  ((0 : Int)) ([]))] = flat3 (rlK s (Int.toNat (IntKind.wrap IntKind.i64 (a + (1 : Int)))))) ∧ True) ∧ True) ∧ At (((0 : Int) ≤ IntKind.wrap IntKind.i64 (a + (1 : Int)) ∧ rlInv s (Int.toNat 
  (IntKind.wrap IntKind.i64 (a + (1 : Int))))) ∧ Int.toNat ((↑(List.length s) : Int) - IntKind.wrap IntKind.i64 (a + (1 : Int))) < Int.toNat ((↑(List.length s) : Int) - a))) ∧ True) ∧ 
  True) ∧ True) ∧ True) ∧ (At ((0 : Int) ≤ a ∧ a ≤ IntKind.wrap IntKind.i64 (a + (1 : Int)) ∧ IntKind.wrap IntKind.i64 (a + (1 : Int)) ≤ (↑(List.length s) : Int)) ∧ (((At ((List.length 
  (flat3 (rlK s (Int.toNat a))) = Int.toNat a * (3 : Nat) ∧ (1 : Nat) * (3 : Nat) ≤ List.length [(Sc.mk (Int.tmod (IntKind.wrap IntKind.i64 (a + (1 : Int))) (↑(List.length s) : Int)) 
  ([])), (Sc.mk ((0 : Int)) (List.drop (Int.toNat a) (List.take (Int.toNat (IntKind.wrap IntKind.i64 (a + (1 : Int)))) s))), (Sc.mk ((0 : Int)) ([]))]) ∧ (0 : Nat) < (1 : Nat) ∧ Int.toNat 
  a + (1 : Nat) ≤ (1000000000 : Nat)) ∧ ((True ∧ (s = s ∧ ((0 : Nat) = (0 : Nat) ∧ (0 : Nat) = (0 : Nat)) ∧ ((1 : Nat) = (1 : Nat) ∧ (0 : Nat) = (0 : Nat)) ∧ (True ∧ (↑(List.length s) 
  : Int) = (↑(List.length s) : Int)) ∧ (True ∧ IntKind.wrap IntKind.i64 (a + (1 : Int)) = IntKind.wrap IntKind.i64 (a + (1 : Int))) ∧ True) ∧ ((True ∧ (True ∧ (0 : Int) = (0 : Int)) ∧ 
  (True ∧ (0 : Int) = (0 : Int)) ∧ Value.slice none (0 : Nat) (0 : Nat) = Value.slice none (0 : Nat) (0 : Nat) ∧ True) ∧ (True ∧ (True ∧ (1 : Int) = (1 : Int)) ∧ (True ∧ (↑(List.length 
  s) : Int) = (↑(List.length s) : Int)) ∧ ((2 : Nat) = (2 : Nat) ∧ Int.toNat a + (1 : Nat) = Int.toNat (IntKind.wrap IntKind.i64 (a + (1 : Int)))) ∧ True) ∧ (True ∧ True ∧ flat3 (rlK 
  s (Int.toNat a)) ++ List.take ((1 : Nat) * (3 : Nat)) [(Sc.mk (Int.tmod (IntKind.wrap IntKind.i64 (a + (1 : Int))) (↑(List.length s) : Int)) ([])), (Sc.mk ((0 : Int)) (List.drop (Int.toNat 
  a) (List.take (Int.toNat (IntKind.wrap IntKind.i64 (a + (1 : Int)))) s))), (Sc.mk ((0 : Int)) ([]))] = flat3 (rlK s (Int.toNat (IntKind.wrap IntKind.i64 (a + (1 : Int)))))) ∧ True) 
  ∧ True) ∧ At (((0 : Int) ≤ IntKind.wrap IntKind.i64 (a + (1 : Int)) ∧ rlInv s (Int.toNat (IntKind.wrap IntKind.i64 (a + (1 : Int))))) ∧ Int.toNat ((↑(List.length s) : Int) - IntKind.wrap 
  IntKind.i64 (a + (1 : Int))) < Int.toNat ((↑(List.length s) : Int) - a))) ∧ True) ∧ True) ∧ True) ∧ ((At ((List.length (flat3 (rlK s (Int.toNat a))) = Int.toNat a * (3 : Nat) ∧ (1 : 
  Nat) * (3 : Nat) ≤ List.length [(Sc.mk (Int.tmod (IntKind.wrap IntKind.i64 (a + (1 : Int))) (↑(List.length s) : Int)) ([])), (Sc.mk ((0 : Int)) (List.drop (Int.toNat a) (List.take (Int.toNat 
  (IntKind.wrap IntKind.i64 (a + (1 : Int)))) s))), (Sc.mk ((0 : Int)) ([]))]) ∧ (0 : Nat) < (1 : Nat) ∧ Int.toNat a + (1 : Nat) ≤ (1000000000 : Nat)) ∧ ((True ∧ (s = s ∧ ((0 : Nat) = 
  (0 : Nat) ∧ (0 : Nat) = (0 : Nat)) ∧ ((1 : Nat) = (1 : Nat) ∧ (0 : Nat) = (0 : Nat)) ∧ (True ∧ (↑(List.length s) : Int) = (↑(List.length s) : Int)) ∧ (True ∧ IntKind.wrap IntKind.i64 
  (a + (1 : Int)) = IntKind.wrap IntKind.i64 (a + (1 : Int))) ∧ True) ∧ ((True ∧ (True ∧ (0 : Int) = (0 : Int)) ∧ (True ∧ (0 : Int) = (0 : Int)) ∧ Value.slice none (0 : Nat) (0 : Nat) 
  = Value.slice none (0 : Nat) (0 : Nat) ∧ True) ∧ (True ∧ (True ∧ (1 : Int) = (1 : Int)) ∧ (True ∧ (↑(List.length s) : Int) = (↑(List.length s) : Int)) ∧ ((2 : Nat) = (2 : Nat) ∧ Int.toNat 
  a + (1 : Nat) = Int.toNat (IntKind.wrap IntKind.i64 (a + (1 : Int)))) ∧ True) ∧ (True ∧ True ∧ flat3 (rlK s (Int.toNat a)) ++ List.take ((1 : Nat) * (3 : Nat)) [(Sc.mk (Int.tmod (IntKind.wrap 
  IntKind.i64 (a + (1 : Int))) (↑(List.length s) : Int)) ([])), (Sc.mk ((0 : Int)) (List.drop (Int.toNat a) (List.take (Int.toNat (IntKind.wrap IntKind.i64 (a + (1 : Int)))) s))), (Sc.mk 
  ((0 : Int)) ([]))] = flat3 (rlK s (Int.toNat (IntKind.wrap IntKind.i64 (a + (1 : Int)))))) ∧ True) ∧ True) ∧ At (((0 : Int) ≤ IntKind.wrap IntKind.i64 (a + (1 : Int)) ∧ rlInv s (Int.toNat 
  (IntKind.wrap IntKind.i64 (a + (1 : Int))))) ∧ Int.toNat ((↑(List.length s) : Int) - IntKind.wrap IntKind.i64 (a + (1 : Int))) < Int.toNat ((↑(List.length s) : Int) - a))) ∧ True) ∧ 
  True) ∧ True) ∧ True) ∧ (decide (a < (↑(List.length s) : Int)) = false → K (V.tup [V.agg [V.int IntKind.i64 (1 : Int), V.int IntKind.i64 (↑(List.length s) : Int), V.row (2 : Nat) (Int.toNat 
  a)], V.lit true]) [{ cs := Cells.vals [V.int IntKind.i64 (1 : Int), V.int IntKind.i64 (↑(List.length s) : Int), V.row (2 : Nat) (Int.toNat a)], elem := 24, kind := Kind.box }, 
  { cs := Cells.vals [V.int IntKind.i64 (1 : Int), V.int IntKind.i64 (↑(List.length s) : Int), V.row (2 : Nat) (Int.toNat a)], elem := 24, kind := Kind.box }, { cs := Cells.recs [Sh.int IntKind.i64, Sh.str, Sh.int IntKind.i64] (flat3 (rlK s (Int.toNat a))), elem := 31, kind := Kind.rows (3 : Nat) }])))

end Go.Vi
