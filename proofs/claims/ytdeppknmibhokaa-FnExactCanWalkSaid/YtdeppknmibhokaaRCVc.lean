/- The conditions, reckoned out by program: texts alone. -/
import Derived.Test.YtdeppknmibhokaaRCDefs
namespace Go.Vi
set_option linter.unusedVariables false
def VC_spec_l1Has (v : Int) (n : Nat) (a : List Int) (e : TypeId) (k : Kind) (K : V → List Blk → Prop) : Prop :=
  (((True ∧ v = v) ∧
      ((0 : Nat) = (0 : Nat) ∧ n = n) ∧ (True ∧ (↑n : Int) = (↑n : Int)) ∧ (True ∧ (0 : Int) = (0 : Int)) ∧ True) ∧
    ((Bool.rec False True (Nat.beq e e && decide (k = k)) ∧ IntKind.i64 = IntKind.i64 ∧ a = a) ∧ True) ∧ True) ∧
  At (hasInv a v (0 : Int)) ∧
    ∀ (a_1 : Int),
      hasInv a v a_1 →
        (decide (a_1 < (↑n : Int)) = true →
            At ((0 : Int) ≤ a_1 ∧ a_1 < (↑n : Int)) ∧
              At (Int.toNat a_1 < List.length a) ∧
                ((List.getD a (Int.toNat a_1) (0 : Int) == v) = true →
                    K (V.lit true) [{ cs := Cells.ints IntKind.i64 a, elem := e, kind := k }]) ∧
                  ((List.getD a (Int.toNat a_1) (0 : Int) == v) = false →
                    (((True ∧ v = v) ∧
                          ((0 : Nat) = (0 : Nat) ∧ n = n) ∧
                            (True ∧ (↑n : Int) = (↑n : Int)) ∧
                              (True ∧
                                  IntKind.wrap IntKind.i64 (a_1 + (1 : Int)) =
                                    IntKind.wrap IntKind.i64 (a_1 + (1 : Int))) ∧
                                True) ∧
                        ((Bool.rec False True (Nat.beq e e && decide (k = k)) ∧ IntKind.i64 = IntKind.i64 ∧ a = a) ∧
                            True) ∧
                          True) ∧
                      At
                        (hasInv a v (IntKind.wrap IntKind.i64 (a_1 + (1 : Int))) ∧
                          Int.toNat ((↑(List.length a) : Int) - IntKind.wrap IntKind.i64 (a_1 + (1 : Int))) <
                            Int.toNat ((↑(List.length a) : Int) - a_1)))) ∧
          (decide (a_1 < (↑n : Int)) = false →
            K (V.lit false) [{ cs := Cells.ints IntKind.i64 a, elem := e, kind := k }])

def VC_slices_Index_int_int (v : Int) (n : Nat) (a : List Int) (e : TypeId) (k : Kind) (K : V → List Blk → Prop) : Prop :=
  ((((0 : Nat) = (0 : Nat) ∧ n = n) ∧
      (True ∧ v = v) ∧ (True ∧ (↑n : Int) = (↑n : Int)) ∧ (True ∧ (0 : Int) = (0 : Int)) ∧ True) ∧
    ((Bool.rec False True (Nat.beq e e && decide (k = k)) ∧ IntKind.i64 = IntKind.i64 ∧ a = a) ∧ True) ∧ True) ∧
  At (hasInv a v (0 : Int)) ∧
    ∀ (a_1 : Int),
      hasInv a v a_1 →
        (decide (a_1 < (↑n : Int)) = true →
            At ((0 : Int) ≤ a_1 ∧ a_1 < (↑n : Int)) ∧
              At (Int.toNat a_1 < List.length a) ∧
                ((v == List.getD a (Int.toNat a_1) (0 : Int)) = true →
                    K (V.int IntKind.i64 a_1) [{ cs := Cells.ints IntKind.i64 a, elem := e, kind := k }]) ∧
                  ((v == List.getD a (Int.toNat a_1) (0 : Int)) = false →
                    ((((0 : Nat) = (0 : Nat) ∧ n = n) ∧
                          (True ∧ v = v) ∧
                            (True ∧ (↑n : Int) = (↑n : Int)) ∧
                              (True ∧
                                  IntKind.wrap IntKind.i64 (a_1 + (1 : Int)) =
                                    IntKind.wrap IntKind.i64 (a_1 + (1 : Int))) ∧
                                True) ∧
                        ((Bool.rec False True (Nat.beq e e && decide (k = k)) ∧ IntKind.i64 = IntKind.i64 ∧ a = a) ∧
                            True) ∧
                          True) ∧
                      At
                        (hasInv a v (IntKind.wrap IntKind.i64 (a_1 + (1 : Int))) ∧
                          Int.toNat ((↑(List.length a) : Int) - IntKind.wrap IntKind.i64 (a_1 + (1 : Int))) <
                            Int.toNat ((↑(List.length a) : Int) - a_1)))) ∧
          (decide (a_1 < (↑n : Int)) = false →
            K (V.int IntKind.i64 (-1 : Int)) [{ cs := Cells.ints IntKind.i64 a, elem := e, kind := k }])

def VC_slices_Contains_int_int (v : Int) (n : Nat) (a : List Int) (K : V → List Blk → Prop) : Prop :=
  At (List.length a = n ∧ n ≤ (2000000 : Nat)) ∧
  K (V.bool (decide (idxI a v ≥ (0 : Int)))) [{ cs := Cells.ints IntKind.i64 a, elem := 3, kind := Kind.row }]

def VC_spec_roNode (node : Int) (n : Nat) (m : Nat) (l : List (List Int)) (ro : List Int) (K : V → List Blk → Prop) : Prop :=
  At (List.length l = n ∧ List.length ro = m ∧ smallM l ∧ m ≤ (2000000 : Nat)) ∧
  (routeB l ro = true →
      At True ∧
        K (V.bool (inB node (0 : Int) (IntKind.wrap IntKind.i64 ((↑n : Int) - (1 : Int)))))
          [{ cs := Cells.mat IntKind.i64 (3 : Nat) l, elem := 23, kind := Kind.mat },
            { cs := Cells.ints IntKind.i64 ro, elem := 3, kind := Kind.row },
            { cs := Cells.vals [V.row (0 : Nat) n, V.row (1 : Nat) m], elem := 28, kind := Kind.box }]) ∧
    (routeB l ro = false →
      K (V.lit false)
        [{ cs := Cells.mat IntKind.i64 (3 : Nat) l, elem := 23, kind := Kind.mat },
          { cs := Cells.ints IntKind.i64 ro, elem := 3, kind := Kind.row },
          { cs := Cells.vals [V.row (0 : Nat) n, V.row (1 : Nat) m], elem := 28, kind := Kind.box }])

def VC_spec_CanWalk (aat : Int) (goal : Int) (n : Nat) (m : Nat) (l : List (List Int)) (ro : List Int) (K : V → List Blk → Prop) : Prop := At (List.length l = n ∧ List.length ro = m 
  ∧ smallM l ∧ m ≤ (2000000 : Nat)) ∧ ((!(routeB l ro && inB aat (0 : Int) ((↑n : Int) - (1 : Int)))) = true → K (V.tup [V.lit false, V.lit false]) [{ cs := Cells.mat IntKind.i64 (3 : Nat) l, elem := 23, kind := Kind.mat }, 
  { cs := Cells.ints IntKind.i64 ro, elem := 3, kind := Kind.row }, { cs := Cells.vals [V.row (0 : Nat) n, V.row (1 : Nat) m], elem := 28, kind := Kind.box }]) ∧ ((!(routeB 
  l ro && inB aat (0 : Int) ((↑n : Int) - (1 : Int)))) = false → At (List.length l = n ∧ List.length ro = m ∧ smallM l ∧ m ≤ (2000000 : Nat)) ∧ ((!(routeB l ro && inB goal (0 : Int) ((↑n 
  : Int) - (1 : Int)))) = true → K (V.tup [V.lit false, V.lit false]) [{ cs := Cells.mat IntKind.i64 (3 : Nat) l, elem := 23, kind := Kind.mat }, { cs := Cells.ints IntKind.i64 ro, elem := 3, kind := Kind.row }, 
  { cs := Cells.vals [V.row (0 : Nat) n, V.row (1 : Nat) m], elem := 28, kind := Kind.box }]) ∧ ((!(routeB l ro && inB goal (0 : Int) ((↑n : Int) - (1 : Int)))) = false → (True 
  ∧ ((True ∧ aat = aat) ∧ (True ∧ goal = goal) ∧ ((2 : Nat) = (2 : Nat) ∧ (0 : Nat) = (0 : Nat)) ∧ ((3 : Nat) = (3 : Nat) ∧ (1 : Nat) = (1 : Nat)) ∧ (True ∧ (0 : Int) = (0 : Int)) ∧ True) 
  ∧ ((True ∧ True ∧ l = l) ∧ (True ∧ IntKind.i64 = IntKind.i64 ∧ ro = ro) ∧ (True ∧ ((0 : Nat) = (0 : Nat) ∧ n = n) ∧ ((1 : Nat) = (1 : Nat) ∧ m = m) ∧ True) ∧ (True ∧ IntKind.i64 = IntKind.i64 
  ∧ [aat] = qAt l aat (Int.toNat (0 : Int))) ∧ True) ∧ True) ∧ At (cwInv l aat (0 : Int)) ∧ ∀ (a : Int), cwInv l aat a → (decide (a < (↑(List.length (qAt l aat (Int.toNat a))) : Int)) 
  = true → True ∧ At ((0 : Int) ≤ a ∧ a < (↑(List.length (qAt l aat (Int.toNat a))) : Int)) ∧ At (Int.toNat a < List.length (qAt l aat (Int.toNat a))) ∧ At ((0 : Int) ≤ List.getD (qAt 
  l aat (Int.toNat a)) (Int.toNat a) (0 : Int) ∧ List.getD (qAt l aat (Int.toNat a)) (Int.toNat a) (0 : Int) < (↑n : Int)) ∧ At (Int.toNat (List.getD (qAt l aat (Int.toNat a)) (Int.toNat 
  a) (0 : Int)) < List.length l) ∧ (True ∧ ((True ∧ aat = aat) ∧ (True ∧ goal = goal) ∧ ((2 : Nat) = (2 : Nat) ∧ (0 : Nat) = (0 : Nat)) ∧ ((3 : Nat) = (3 : Nat) ∧ List.length (qAt l aat 
  (Int.toNat a)) = List.length (addAll (qAt l aat (Int.toNat a)) (List.take (Int.toNat (0 : Int)) (List.getD l (Int.toNat (List.getD (qAt l aat (Int.toNat a)) (Int.toNat a) (0 : Int))) 
  [])))) ∧ (True ∧ a = a) ∧ ((0 : Nat) = (0 : Nat) ∧ Int.toNat (List.getD (qAt l aat (Int.toNat a)) (Int.toNat a) (0 : Int)) = Int.toNat (List.getD (qAt l aat (Int.toNat a)) (Int.toNat 
  a) (0 : Int)) ∧ List.length (List.getD l (Int.toNat (List.getD (qAt l aat (Int.toNat a)) (Int.toNat a) (0 : Int))) []) = List.length (List.getD l (Int.toNat (List.getD (qAt l aat (Int.toNat 
  a)) (Int.toNat a) (0 : Int))) [])) ∧ (True ∧ (↑(List.length (List.getD l (Int.toNat (List.getD (qAt l aat (Int.toNat a)) (Int.toNat a) (0 : Int))) [])) : Int) = (↑(List.length (List.getD 
  l (Int.toNat (List.getD (qAt l aat (Int.toNat a)) (Int.toNat a) (0 : Int))) [])) : Int)) ∧ (True ∧ (0 : Int) = (0 : Int)) ∧ True) ∧ ((True ∧ True ∧ l = l) ∧ (True ∧ IntKind.i64 = IntKind.i64 
  ∧ ro = ro) ∧ (True ∧ ((0 : Nat) = (0 : Nat) ∧ n = n) ∧ ((1 : Nat) = (1 : Nat) ∧ m = m) ∧ True) ∧ (True ∧ IntKind.i64 = IntKind.i64 ∧ qAt l aat (Int.toNat a) = addAll (qAt l aat (Int.toNat 
  a)) (List.take (Int.toNat (0 : Int)) (List.getD l (Int.toNat (List.getD (qAt l aat (Int.toNat a)) (Int.toNat a) (0 : Int))) []))) ∧ True) ∧ True) ∧ At (ixInv (List.length (List.getD 
  l (Int.toNat (List.getD (qAt l aat (Int.toNat a)) (Int.toNat a) (0 : Int))) [])) (0 : Int)) ∧ ∀ (a_3 : Int), ixInv (List.length (List.getD l (Int.toNat (List.getD (qAt l aat (Int.toNat 
  a)) (Int.toNat a) (0 : Int))) [])) a_3 → (decide (a_3 < (↑(List.length (List.getD l (Int.toNat (List.getD (qAt l aat (Int.toNat a)) (Int.toNat a) (0 : Int))) [])) : Int)) = true → At 
  ((0 : Int) ≤ a_3 ∧ a_3 < (↑(List.length (List.getD l (Int.toNat (List.getD (qAt l aat (Int.toNat a)) (Int.toNat a) (0 : Int))) [])) : Int)) ∧ At (Int.toNat (List.getD (qAt l aat (Int.toNat 
  a)) (Int.toNat a) (0 : Int)) < List.length l ∧ Int.toNat a_3 < List.length (List.getD l (Int.toNat (List.getD (qAt l aat (Int.toNat a)) (Int.toNat a) (0 : Int))) [])) ∧ At (List.length 
  (addAll (qAt l aat (Int.toNat a)) (List.take (Int.toNat a_3) (List.getD l (Int.toNat (List.getD (qAt l aat (Int.toNat a)) (Int.toNat a) (0 : Int))) []))) = List.length (addAll (qAt 
  l aat (Int.toNat a)) (List.take (Int.toNat a_3) (List.getD l (Int.toNat (List.getD (qAt l aat (Int.toNat a)) (Int.toNat a) (0 : Int))) []))) ∧ List.length (addAll (qAt l aat (Int.toNat 
  a)) (List.take (Int.toNat a_3) (List.getD l (Int.toNat (List.getD (qAt l aat (Int.toNat a)) (Int.toNat a) (0 : Int))) []))) ≤ (2000000 : Nat)) ∧ ((!hasI (addAll (qAt l aat (Int.toNat 
  a)) (List.take (Int.toNat a_3) (List.getD l (Int.toNat (List.getD (qAt l aat (Int.toNat a)) (Int.toNat a) (0 : Int))) []))) (List.getD (List.getD l (Int.toNat (List.getD (qAt l aat 
  (Int.toNat a)) (Int.toNat a) (0 : Int))) []) (Int.toNat a_3) (0 : Int))) = true → At ((List.length (addAll (qAt l aat (Int.toNat a)) (List.take (Int.toNat a_3) (List.getD l (Int.toNat 
  (List.getD (qAt l aat (Int.toNat a)) (Int.toNat a) (0 : Int))) []))) = List.length (addAll (qAt l aat (Int.toNat a)) (List.take (Int.toNat a_3) (List.getD l (Int.toNat (List.getD (qAt 
  l aat (Int.toNat a)) (Int.toNat a) (0 : Int))) []))) * (1 : Nat) ∧ (1 : Nat) * (1 : Nat) ≤ List.length [List.getD (List.getD l (Int.toNat (List.getD (qAt l aat (Int.toNat a)) (Int.toNat 
  a) (0 : Int))) []) (Int.toNat a_3) (0 : Int)]) ∧ (0 : Nat) < (1 : Nat) ∧ List.length (addAll (qAt l aat (Int.toNat a)) (List.take (Int.toNat a_3) (List.getD l (Int.toNat (List.getD 
  (qAt l aat (Int.toNat a)) (Int.toNat a) (0 : Int))) []))) + (1 : Nat) ≤ (1000000000 : Nat)) ∧ (True ∧ ((True ∧ aat = aat) ∧ (True ∧ goal = goal) ∧ ((2 : Nat) = (2 : Nat) ∧ (0 : Nat) 
  = (0 : Nat)) ∧ ((3 : Nat) = (3 : Nat) ∧ List.length (addAll (qAt l aat (Int.toNat a)) (List.take (Int.toNat a_3) (List.getD l (Int.toNat (List.getD (qAt l aat (Int.toNat a)) (Int.toNat 
  a) (0 : Int))) []))) + (1 : Nat) = List.length (addAll (qAt l aat (Int.toNat a)) (List.take (Int.toNat (IntKind.wrap IntKind.i64 (a_3 + (1 : Int)))) (List.getD l (Int.toNat (List.getD 
  (qAt l aat (Int.toNat a)) (Int.toNat a) (0 : Int))) [])))) ∧ (True ∧ a = a) ∧ ((0 : Nat) = (0 : Nat) ∧ Int.toNat (List.getD (qAt l aat (Int.toNat a)) (Int.toNat a) (0 : Int)) = Int.toNat 
  (List.getD (qAt l aat (Int.toNat a)) (Int.toNat a) (0 : Int)) ∧ List.length (List.getD l (Int.toNat (List.getD (qAt l aat (Int.toNat a)) (Int.toNat a) (0 : Int))) []) = List.length 
  (List.getD l (Int.toNat (List.getD (qAt l aat (Int.toNat a)) (Int.toNat a) (0 : Int))) [])) ∧ (True ∧ (↑(List.length (List.getD l (Int.toNat (List.getD (qAt l aat (Int.toNat a)) (Int.toNat 
  a) (0 : Int))) [])) : Int) = (↑(List.length (List.getD l (Int.toNat (List.getD (qAt l aat (Int.toNat a)) (Int.toNat a) (0 : Int))) [])) : Int)) ∧ (True ∧ IntKind.wrap IntKind.i64 (a_3 
  + (1 : Int)) = IntKind.wrap IntKind.i64 (a_3 + (1 : Int))) ∧ True) ∧ ((True ∧ True ∧ l = l) ∧ (True ∧ IntKind.i64 = IntKind.i64 ∧ ro = ro) ∧ (True ∧ ((0 : Nat) = (0 : Nat) ∧ n = n) 
  ∧ ((1 : Nat) = (1 : Nat) ∧ m = m) ∧ True) ∧ (True ∧ IntKind.i64 = IntKind.i64 ∧ addAll (qAt l aat (Int.toNat a)) (List.take (Int.toNat a_3) (List.getD l (Int.toNat (List.getD (qAt l 
  aat (Int.toNat a)) (Int.toNat a) (0 : Int))) [])) ++ List.take ((1 : Nat) * (1 : Nat)) [List.getD (List.getD l (Int.toNat (List.getD (qAt l aat (Int.toNat a)) (Int.toNat a) (0 : Int))) 
  []) (Int.toNat a_3) (0 : Int)] = addAll (qAt l aat (Int.toNat a)) (List.take (Int.toNat (IntKind.wrap IntKind.i64 (a_3 + (1 : Int)))) (List.getD l (Int.toNat (List.getD (qAt l aat (Int.toNat 
  a)) (Int.toNat a) (0 : Int))) []))) ∧ True) ∧ True) ∧ At (ixInv (List.length (List.getD l (Int.toNat (List.getD (qAt l aat (Int.toNat a)) (Int.toNat a) (0 : Int))) [])) (IntKind.wrap 
  IntKind.i64 (a_3 + (1 : Int))) ∧ Int.toNat ((↑(List.length (List.getD l (Int.toNat (List.getD (qAt l aat (Int.toNat a)) (Int.toNat a) (0 : Int))) [])) : Int) - IntKind.wrap IntKind.i64 
  (a_3 + (1 : Int))) < Int.toNat ((↑(List.length (List.getD l (Int.toNat (List.getD (qAt l aat (Int.toNat a)) (Int.toNat a) (0 : Int))) [])) : Int) - a_3))) ∧ ((!hasI (addAll (qAt l aat 
  (Int.toNat a)) (List.take (Int.toNat a_3) (List.getD l (Int.toNat (List.getD (qAt l aat (Int.toNat a)) (Int.toNat a) (0 : Int))) []))) (List.getD (List.getD l (Int.toNat (List.getD 
  (qAt l aat (Int.toNat a)) (Int.toNat a) (0 : Int))) []) (Int.toNat a_3) (0 : Int))) = false → (True ∧ ((True ∧ aat = aat) ∧ (True ∧ goal = goal) ∧ ((2 : Nat) = (2 : Nat) ∧ (0 : Nat) 
  = (0 : Nat)) ∧ ((3 : Nat) = (3 : Nat) ∧ List.length (addAll (qAt l aat (Int.toNat a)) (List.take (Int.toNat a_3) (List.getD l (Int.toNat (List.getD (qAt l aat (Int.toNat a)) (Int.toNat 
  a) (0 : Int))) []))) = List.length (addAll (qAt l aat (Int.toNat a)) (List.take (Int.toNat (IntKind.wrap IntKind.i64 (a_3 + (1 : Int)))) (List.getD l (Int.toNat (List.getD (qAt l aat 
  (Int.toNat a)) (Int.toNat a) (0 : Int))) [])))) ∧ (True ∧ a = a) ∧ ((0 : Nat) = (0 : Nat) ∧ Int.toNat (List.getD (qAt l aat (Int.toNat a)) (Int.toNat a) (0 : Int)) = Int.toNat (List.getD 
  (qAt l aat (Int.toNat a)) (Int.toNat a) (0 : Int)) ∧ List.length (List.getD l (Int.toNat (List.getD (qAt l aat (Int.toNat a)) (Int.toNat a) (0 : Int))) []) = List.length (List.getD 
  l (Int.toNat (List.getD (qAt l aat (Int.toNat a)) (Int.toNat a) (0 : Int))) [])) ∧ (True ∧ (↑(List.length (List.getD l (Int.toNat (List.getD (qAt l aat (Int.toNat a)) (Int.toNat a) 
  (0 : Int))) [])) : Int) = (↑(List.length (List.getD l (Int.toNat (List.getD (qAt l aat (Int.toNat a)) (Int.toNat a) (0 : Int))) [])) : Int)) ∧ (True ∧ IntKind.wrap IntKind.i64 (a_3 
  + (1 : Int)) = IntKind.wrap IntKind.i64 (a_3 + (1 : Int))) ∧ True) ∧ ((True ∧ True ∧ l = l) ∧ (True ∧ IntKind.i64 = IntKind.i64 ∧ ro = ro) ∧ (True ∧ ((0 : Nat) = (0 : Nat) ∧ n = n) 
  ∧ ((1 : Nat) = (1 : Nat) ∧ m = m) ∧ True) ∧ (True ∧ IntKind.i64 = IntKind.i64 ∧ addAll (qAt l aat (Int.toNat a)) (List.take (Int.toNat a_3) (List.getD l (Int.toNat (List.getD (qAt l 
  aat (Int.toNat a)) (Int.toNat a) (0 : Int))) [])) = addAll (qAt l aat (Int.toNat a)) (List.take (Int.toNat (IntKind.wrap IntKind.i64 (a_3 + (1 : Int)))) (List.getD l (Int.toNat (List.getD 
  (qAt l aat (Int.toNat a)) (Int.toNat a) (0 : Int))) []))) ∧ True) ∧ True) ∧ At (ixInv (List.length (List.getD l (Int.toNat (List.getD (qAt l aat (Int.toNat a)) (Int.toNat a) (0 : Int))) 
  [])) (IntKind.wrap IntKind.i64 (a_3 + (1 : Int))) ∧ Int.toNat ((↑(List.length (List.getD l (Int.toNat (List.getD (qAt l aat (Int.toNat a)) (Int.toNat a) (0 : Int))) [])) : Int) - IntKind.wrap 
  IntKind.i64 (a_3 + (1 : Int))) < Int.toNat ((↑(List.length (List.getD l (Int.toNat (List.getD (qAt l aat (Int.toNat a)) (Int.toNat a) (0 : Int))) [])) : Int) - a_3)))) ∧ (decide (a_3 
  < (↑(List.length (List.getD l (Int.toNat (List.getD (qAt l aat (Int.toNat a)) (Int.toNat a) (0 : Int))) [])) : Int)) = false → (True ∧ ((True ∧ aat = aat) ∧ (True ∧ goal = goal) ∧ ((2 
  : Nat) = (2 : Nat) ∧ (0 : Nat) = (0 : Nat)) ∧ ((3 : Nat) = (3 : Nat) ∧ List.length (addAll (qAt l aat (Int.toNat a)) (List.take (Int.toNat a_3) (List.getD l (Int.toNat (List.getD (qAt 
  l aat (Int.toNat a)) (Int.toNat a) (0 : Int))) []))) = List.length (qAt l aat (Int.toNat (IntKind.wrap IntKind.i64 (a + (1 : Int)))))) ∧ (True ∧ IntKind.wrap IntKind.i64 (a + (1 : Int)) 
  = IntKind.wrap IntKind.i64 (a + (1 : Int))) ∧ True) ∧ ((True ∧ True ∧ l = l) ∧ (True ∧ IntKind.i64 = IntKind.i64 ∧ ro = ro) ∧ (True ∧ ((0 : Nat) = (0 : Nat) ∧ n = n) ∧ ((1 : Nat) = 
  (1 : Nat) ∧ m = m) ∧ True) ∧ (True ∧ IntKind.i64 = IntKind.i64 ∧ addAll (qAt l aat (Int.toNat a)) (List.take (Int.toNat a_3) (List.getD l (Int.toNat (List.getD (qAt l aat (Int.toNat 
  a)) (Int.toNat a) (0 : Int))) [])) = qAt l aat (Int.toNat (IntKind.wrap IntKind.i64 (a + (1 : Int))))) ∧ True) ∧ True) ∧ At (cwInv l aat (IntKind.wrap IntKind.i64 (a + (1 : Int))) ∧ 
  Int.toNat ((↑(List.length l) : Int) - IntKind.wrap IntKind.i64 (a + (1 : Int))) < Int.toNat ((↑(List.length l) : Int) - a)))) ∧ (decide (a < (↑(List.length (qAt l aat (Int.toNat a))) 
  : Int)) = false → At (List.length (qAt l aat (Int.toNat a)) = List.length (qAt l aat (Int.toNat a)) ∧ List.length (qAt l aat (Int.toNat a)) ≤ (2000000 : Nat)) ∧ K (V.tup [V.bool (hasI 
  (qAt l aat (Int.toNat a)) goal), V.lit true]) [{ cs := Cells.mat IntKind.i64 (3 : Nat) l, elem := 23, kind := Kind.mat }, { cs := Cells.ints IntKind.i64 ro, elem := 3, kind := Kind.row }, 
  { cs := Cells.vals [V.row (0 : Nat) n, V.row (1 : Nat) m], elem := 28, kind := Kind.box }, { cs := Cells.ints IntKind.i64 (qAt l aat (Int.toNat a)), elem := 3, kind := Kind.row }])))

def VC_impl_CanWalk (aat : Int) (goal : Int) (n : Nat) (m : Nat) (l : List (List Int)) (ro : List Int) (K : V → List Blk → Prop) : Prop := At (List.length l = n ∧ List.length ro = m 
  ∧ smallM l ∧ m ≤ (2000000 : Nat)) ∧ ((!routeB l ro) = true → K (V.tup [V.lit false, V.lit false]) [{ cs := Cells.mat IntKind.i64 (3 : Nat) l, elem := 23, kind := Kind.mat }, 
  { cs := Cells.ints IntKind.i64 ro, elem := 3, kind := Kind.row }, { cs := Cells.vals [V.row (0 : Nat) n, V.row (1 : Nat) m], elem := 28, kind := Kind.box }]) ∧ ((!routeB 
  l ro) = false → At (List.length l = n ∧ List.length ro = m ∧ smallM l ∧ m ≤ (2000000 : Nat)) ∧ ((!inB aat (0 : Int) ((↑n : Int) - (1 : Int))) = true → K (V.tup [V.lit false, V.lit false]) 
  [{ cs := Cells.mat IntKind.i64 (3 : Nat) l, elem := 23, kind := Kind.mat }, { cs := Cells.ints IntKind.i64 ro, elem := 3, kind := Kind.row }, { cs := Cells.vals [V.row (0 : Nat) n, V.row (1 : Nat) m], elem := 28, kind := Kind.box }]) 
  ∧ ((!inB aat (0 : Int) ((↑n : Int) - (1 : Int))) = false → At (List.length l = n ∧ List.length ro = m ∧ smallM l ∧ m ≤ (2000000 : Nat)) ∧ ((!inB goal (0 : Int) ((↑n : Int) - (1 : Int))) 
  = true → K (V.tup [V.lit false, V.lit false]) [{ cs := Cells.mat IntKind.i64 (3 : Nat) l, elem := 23, kind := Kind.mat }, { cs := Cells.ints IntKind.i64 ro, elem := 3, kind := Kind.row }, 
  { cs := Cells.vals [V.row (0 : Nat) n, V.row (1 : Nat) m], elem := 28, kind := Kind.box }]) ∧ ((!inB goal (0 : Int) ((↑n : Int) - (1 : Int))) = false → (True ∧ ((True ∧ aat 
  = aat) ∧ (True ∧ goal = goal) ∧ ((2 : Nat) = (2 : Nat) ∧ (0 : Nat) = (0 : Nat)) ∧ ((3 : Nat) = (3 : Nat) ∧ (1 : Nat) = (1 : Nat)) ∧ (True ∧ (0 : Int) = (0 : Int)) ∧ True) ∧ ((True ∧ 
  True ∧ l = l) ∧ (True ∧ IntKind.i64 = IntKind.i64 ∧ ro = ro) ∧ (True ∧ ((0 : Nat) = (0 : Nat) ∧ n = n) ∧ ((1 : Nat) = (1 : Nat) ∧ m = m) ∧ True) ∧ (True ∧ IntKind.i64 = IntKind.i64 
  ∧ [aat] = qAt l aat (Int.toNat (0 : Int))) ∧ True) ∧ True) ∧ At (cwInv l aat (0 : Int)) ∧ ∀ (a : Int), cwInv l aat a → (decide (a < (↑(List.length (qAt l aat (Int.toNat a))) : Int)) 
  = true → True ∧ At ((0 : Int) ≤ a ∧ a < (↑(List.length (qAt l aat (Int.toNat a))) : Int)) ∧ At (Int.toNat a < List.length (qAt l aat (Int.toNat a))) ∧ At ((0 : Int) ≤ List.getD (qAt 
  l aat (Int.toNat a)) (Int.toNat a) (0 : Int) ∧ List.getD (qAt l aat (Int.toNat a)) (Int.toNat a) (0 : Int) < (↑n : Int)) ∧ At (Int.toNat (List.getD (qAt l aat (Int.toNat a)) (Int.toNat 
  a) (0 : Int)) < List.length l) ∧ (True ∧ ((True ∧ aat = aat) ∧ (True ∧ goal = goal) ∧ ((2 : Nat) = (2 : Nat) ∧ (0 : Nat) = (0 : Nat)) ∧ ((3 : Nat) = (3 : Nat) ∧ List.length (qAt l aat 
  (Int.toNat a)) = List.length (addAll (qAt l aat (Int.toNat a)) (List.take (Int.toNat (0 : Int)) (List.getD l (Int.toNat (List.getD (qAt l aat (Int.toNat a)) (Int.toNat a) (0 : Int))) 
  [])))) ∧ (True ∧ a = a) ∧ ((0 : Nat) = (0 : Nat) ∧ Int.toNat (List.getD (qAt l aat (Int.toNat a)) (Int.toNat a) (0 : Int)) = Int.toNat (List.getD (qAt l aat (Int.toNat a)) (Int.toNat 
  a) (0 : Int)) ∧ List.length (List.getD l (Int.toNat (List.getD (qAt l aat (Int.toNat a)) (Int.toNat a) (0 : Int))) []) = List.length (List.getD l (Int.toNat (List.getD (qAt l aat (Int.toNat 
  a)) (Int.toNat a) (0 : Int))) [])) ∧ (True ∧ (↑(List.length (List.getD l (Int.toNat (List.getD (qAt l aat (Int.toNat a)) (Int.toNat a) (0 : Int))) [])) : Int) = (↑(List.length (List.getD 
  l (Int.toNat (List.getD (qAt l aat (Int.toNat a)) (Int.toNat a) (0 : Int))) [])) : Int)) ∧ (True ∧ (0 : Int) = (0 : Int)) ∧ True) ∧ ((True ∧ True ∧ l = l) ∧ (True ∧ IntKind.i64 = IntKind.i64 
  ∧ ro = ro) ∧ (True ∧ ((0 : Nat) = (0 : Nat) ∧ n = n) ∧ ((1 : Nat) = (1 : Nat) ∧ m = m) ∧ True) ∧ (True ∧ IntKind.i64 = IntKind.i64 ∧ qAt l aat (Int.toNat a) = addAll (qAt l aat (Int.toNat 
  a)) (List.take (Int.toNat (0 : Int)) (List.getD l (Int.toNat (List.getD (qAt l aat (Int.toNat a)) (Int.toNat a) (0 : Int))) []))) ∧ True) ∧ True) ∧ At (ixInv (List.length (List.getD 
  l (Int.toNat (List.getD (qAt l aat (Int.toNat a)) (Int.toNat a) (0 : Int))) [])) (0 : Int)) ∧ ∀ (a_3 : Int), ixInv (List.length (List.getD l (Int.toNat (List.getD (qAt l aat (Int.toNat 
  a)) (Int.toNat a) (0 : Int))) [])) a_3 → (decide (a_3 < (↑(List.length (List.getD l (Int.toNat (List.getD (qAt l aat (Int.toNat a)) (Int.toNat a) (0 : Int))) [])) : Int)) = true → At 
  ((0 : Int) ≤ a_3 ∧ a_3 < (↑(List.length (List.getD l (Int.toNat (List.getD (qAt l aat (Int.toNat a)) (Int.toNat a) (0 : Int))) [])) : Int)) ∧ At (Int.toNat (List.getD (qAt l aat (Int.toNat 
  a)) (Int.toNat a) (0 : Int)) < List.length l ∧ Int.toNat a_3 < List.length (List.getD l (Int.toNat (List.getD (qAt l aat (Int.toNat a)) (Int.toNat a) (0 : Int))) [])) ∧ At (List.length 
  (addAll (qAt l aat (Int.toNat a)) (List.take (Int.toNat a_3) (List.getD l (Int.toNat (List.getD (qAt l aat (Int.toNat a)) (Int.toNat a) (0 : Int))) []))) = List.length (addAll (qAt 
  l aat (Int.toNat a)) (List.take (Int.toNat a_3) (List.getD l (Int.toNat (List.getD (qAt l aat (Int.toNat a)) (Int.toNat a) (0 : Int))) []))) ∧ List.length (addAll (qAt l aat (Int.toNat 
  a)) (List.take (Int.toNat a_3) (List.getD l (Int.toNat (List.getD (qAt l aat (Int.toNat a)) (Int.toNat a) (0 : Int))) []))) ≤ (2000000 : Nat)) ∧ ((!hasI (addAll (qAt l aat (Int.toNat 
  a)) (List.take (Int.toNat a_3) (List.getD l (Int.toNat (List.getD (qAt l aat (Int.toNat a)) (Int.toNat a) (0 : Int))) []))) (List.getD (List.getD l (Int.toNat (List.getD (qAt l aat 
  (Int.toNat a)) (Int.toNat a) (0 : Int))) []) (Int.toNat a_3) (0 : Int))) = true → At ((List.length (addAll (qAt l aat (Int.toNat a)) (List.take (Int.toNat a_3) (List.getD l (Int.toNat 
  (List.getD (qAt l aat (Int.toNat a)) (Int.toNat a) (0 : Int))) []))) = List.length (addAll (qAt l aat (Int.toNat a)) (List.take (Int.toNat a_3) (List.getD l (Int.toNat (List.getD (qAt 
  l aat (Int.toNat a)) (Int.toNat a) (0 : Int))) []))) * (1 : Nat) ∧ (1 : Nat) * (1 : Nat) ≤ List.length [List.getD (List.getD l (Int.toNat (List.getD (qAt l aat (Int.toNat a)) (Int.toNat 
  a) (0 : Int))) []) (Int.toNat a_3) (0 : Int)]) ∧ (0 : Nat) < (1 : Nat) ∧ List.length (addAll (qAt l aat (Int.toNat a)) (List.take (Int.toNat a_3) (List.getD l (Int.toNat (List.getD 
  (qAt l aat (Int.toNat a)) (Int.toNat a) (0 : Int))) []))) + (1 : Nat) ≤ (1000000000 : Nat)) ∧ (True ∧ ((True ∧ aat = aat) ∧ (True ∧ goal = goal) ∧ ((2 : Nat) = (2 : Nat) ∧ (0 : Nat) 
  = (0 : Nat)) ∧ ((3 : Nat) = (3 : Nat) ∧ List.length (addAll (qAt l aat (Int.toNat a)) (List.take (Int.toNat a_3) (List.getD l (Int.toNat (List.getD (qAt l aat (Int.toNat a)) (Int.toNat 
  a) (0 : Int))) []))) + (1 : Nat) = List.length (addAll (qAt l aat (Int.toNat a)) (List.take (Int.toNat (IntKind.wrap IntKind.i64 (a_3 + (1 : Int)))) (List.getD l (Int.toNat (List.getD 
  (qAt l aat (Int.toNat a)) (Int.toNat a) (0 : Int))) [])))) ∧ (True ∧ a = a) ∧ ((0 : Nat) = (0 : Nat) ∧ Int.toNat (List.getD (qAt l aat (Int.toNat a)) (Int.toNat a) (0 : Int)) = Int.toNat 
  (List.getD (qAt l aat (Int.toNat a)) (Int.toNat a) (0 : Int)) ∧ List.length (List.getD l (Int.toNat (List.getD (qAt l aat (Int.toNat a)) (Int.toNat a) (0 : Int))) []) = List.length 
  (List.getD l (Int.toNat (List.getD (qAt l aat (Int.toNat a)) (Int.toNat a) (0 : Int))) [])) ∧ (True ∧ (↑(List.length (List.getD l (Int.toNat (List.getD (qAt l aat (Int.toNat a)) (Int.toNat 
  a) (0 : Int))) [])) : Int) = (↑(List.length (List.getD l (Int.toNat (List.getD (qAt l aat (Int.toNat a)) (Int.toNat a) (0 : Int))) [])) : Int)) ∧ (True ∧ IntKind.wrap IntKind.i64 (a_3 
  + (1 : Int)) = IntKind.wrap IntKind.i64 (a_3 + (1 : Int))) ∧ True) ∧ ((True ∧ True ∧ l = l) ∧ (True ∧ IntKind.i64 = IntKind.i64 ∧ ro = ro) ∧ (True ∧ ((0 : Nat) = (0 : Nat) ∧ n = n) 
  ∧ ((1 : Nat) = (1 : Nat) ∧ m = m) ∧ True) ∧ (True ∧ IntKind.i64 = IntKind.i64 ∧ addAll (qAt l aat (Int.toNat a)) (List.take (Int.toNat a_3) (List.getD l (Int.toNat (List.getD (qAt l 
  aat (Int.toNat a)) (Int.toNat a) (0 : Int))) [])) ++ List.take ((1 : Nat) * (1 : Nat)) [List.getD (List.getD l (Int.toNat (List.getD (qAt l aat (Int.toNat a)) (Int.toNat a) (0 : Int))) 
  []) (Int.toNat a_3) (0 : Int)] = addAll (qAt l aat (Int.toNat a)) (List.take (Int.toNat (IntKind.wrap IntKind.i64 (a_3 + (1 : Int)))) (List.getD l (Int.toNat (List.getD (qAt l aat (Int.toNat 
  a)) (Int.toNat a) (0 : Int))) []))) ∧ True) ∧ True) ∧ At (ixInv (List.length (List.getD l (Int.toNat (List.getD (qAt l aat (Int.toNat a)) (Int.toNat a) (0 : Int))) [])) (IntKind.wrap 
  IntKind.i64 (a_3 + (1 : Int))) ∧ Int.toNat ((↑(List.length (List.getD l (Int.toNat (List.getD (qAt l aat (Int.toNat a)) (Int.toNat a) (0 : Int))) [])) : Int) - IntKind.wrap IntKind.i64 
  (a_3 + (1 : Int))) < Int.toNat ((↑(List.length (List.getD l (Int.toNat (List.getD (qAt l aat (Int.toNat a)) (Int.toNat a) (0 : Int))) [])) : Int) - a_3))) ∧ ((!hasI (addAll (qAt l aat 
  (Int.toNat a)) (List.take (Int.toNat a_3) (List.getD l (Int.toNat (List.getD (qAt l aat (Int.toNat a)) (Int.toNat a) (0 : Int))) []))) (List.getD (List.getD l (Int.toNat (List.getD 
  (qAt l aat (Int.toNat a)) (Int.toNat a) (0 : Int))) []) (Int.toNat a_3) (0 : Int))) = false → (True ∧ ((True ∧ aat = aat) ∧ (True ∧ goal = goal) ∧ ((2 : Nat) = (2 : Nat) ∧ (0 : Nat) 
  = (0 : Nat)) ∧ ((3 : Nat) = (3 : Nat) ∧ List.length (addAll (qAt l aat (Int.toNat a)) (List.take (Int.toNat a_3) (List.getD l (Int.toNat (List.getD (qAt l aat (Int.toNat a)) (Int.toNat 
  a) (0 : Int))) []))) = List.length (addAll (qAt l aat (Int.toNat a)) (List.take (Int.toNat (IntKind.wrap IntKind.i64 (a_3 + (1 : Int)))) (List.getD l (Int.toNat (List.getD (qAt l aat 
  (Int.toNat a)) (Int.toNat a) (0 : Int))) [])))) ∧ (True ∧ a = a) ∧ ((0 : Nat) = (0 : Nat) ∧ Int.toNat (List.getD (qAt l aat (Int.toNat a)) (Int.toNat a) (0 : Int)) = Int.toNat (List.getD 
  (qAt l aat (Int.toNat a)) (Int.toNat a) (0 : Int)) ∧ List.length (List.getD l (Int.toNat (List.getD (qAt l aat (Int.toNat a)) (Int.toNat a) (0 : Int))) []) = List.length (List.getD 
  l (Int.toNat (List.getD (qAt l aat (Int.toNat a)) (Int.toNat a) (0 : Int))) [])) ∧ (True ∧ (↑(List.length (List.getD l (Int.toNat (List.getD (qAt l aat (Int.toNat a)) (Int.toNat a) 
  (0 : Int))) [])) : Int) = (↑(List.length (List.getD l (Int.toNat (List.getD (qAt l aat (Int.toNat a)) (Int.toNat a) (0 : Int))) [])) : Int)) ∧ (True ∧ IntKind.wrap IntKind.i64 (a_3 
  + (1 : Int)) = IntKind.wrap IntKind.i64 (a_3 + (1 : Int))) ∧ True) ∧ ((True ∧ True ∧ l = l) ∧ (True ∧ IntKind.i64 = IntKind.i64 ∧ ro = ro) ∧ (True ∧ ((0 : Nat) = (0 : Nat) ∧ n = n) 
  ∧ ((1 : Nat) = (1 : Nat) ∧ m = m) ∧ True) ∧ (True ∧ IntKind.i64 = IntKind.i64 ∧ addAll (qAt l aat (Int.toNat a)) (List.take (Int.toNat a_3) (List.getD l (Int.toNat (List.getD (qAt l 
  aat (Int.toNat a)) (Int.toNat a) (0 : Int))) [])) = addAll (qAt l aat (Int.toNat a)) (List.take (Int.toNat (IntKind.wrap IntKind.i64 (a_3 + (1 : Int)))) (List.getD l (Int.toNat (List.getD 
  (qAt l aat (Int.toNat a)) (Int.toNat a) (0 : Int))) []))) ∧ True) ∧ True) ∧ At (ixInv (List.length (List.getD l (Int.toNat (List.getD (qAt l aat (Int.toNat a)) (Int.toNat a) (0 : Int))) 
  [])) (IntKind.wrap IntKind.i64 (a_3 + (1 : Int))) ∧ Int.toNat ((↑(List.length (List.getD l (Int.toNat (List.getD (qAt l aat (Int.toNat a)) (Int.toNat a) (0 : Int))) [])) : Int) - IntKind.wrap 
  IntKind.i64 (a_3 + (1 : Int))) < Int.toNat ((↑(List.length (List.getD l (Int.toNat (List.getD (qAt l aat (Int.toNat a)) (Int.toNat a) (0 : Int))) [])) : Int) - a_3)))) ∧ (decide (a_3 
  < (↑(List.length (List.getD l (Int.toNat (List.getD (qAt l aat (Int.toNat a)) (Int.toNat a) (0 : Int))) [])) : Int)) = false → (True ∧ ((True ∧ aat = aat) ∧ (True ∧ goal = goal) ∧ ((2 
  : Nat) = (2 : Nat) ∧ (0 : Nat) = (0 : Nat)) ∧ ((3 : Nat) = (3 : Nat) ∧ List.length (addAll (qAt l aat (Int.toNat a)) (List.take (Int.toNat a_3) (List.getD l (Int.toNat (List.getD (qAt 
  l aat (Int.toNat a)) (Int.toNat a) (0 : Int))) []))) = List.length (qAt l aat (Int.toNat (IntKind.wrap IntKind.i64 (a + (1 : Int)))))) ∧ (True ∧ IntKind.wrap IntKind.i64 (a + (1 : Int)) 
  = IntKind.wrap IntKind.i64 (a + (1 : Int))) ∧ True) ∧ ((True ∧ True ∧ l = l) ∧ (True ∧ IntKind.i64 = IntKind.i64 ∧ ro = ro) ∧ (True ∧ ((0 : Nat) = (0 : Nat) ∧ n = n) ∧ ((1 : Nat) = 
  (1 : Nat) ∧ m = m) ∧ True) ∧ (True ∧ IntKind.i64 = IntKind.i64 ∧ addAll (qAt l aat (Int.toNat a)) (List.take (Int.toNat a_3) (List.getD l (Int.toNat (List.getD (qAt l aat (Int.toNat 
  a)) (Int.toNat a) (0 : Int))) [])) = qAt l aat (Int.toNat (IntKind.wrap IntKind.i64 (a + (1 : Int))))) ∧ True) ∧ True) ∧ At (cwInv l aat (IntKind.wrap IntKind.i64 (a + (1 : Int))) ∧ 
  Int.toNat ((↑(List.length l) : Int) - IntKind.wrap IntKind.i64 (a + (1 : Int))) < Int.toNat ((↑(List.length l) : Int) - a)))) ∧ (decide (a < (↑(List.length (qAt l aat (Int.toNat a))) 
  : Int)) = false → At (List.length (qAt l aat (Int.toNat a)) = List.length (qAt l aat (Int.toNat a)) ∧ List.length (qAt l aat (Int.toNat a)) ≤ (2000000 : Nat)) ∧ K (V.tup [V.bool (hasI 
  (qAt l aat (Int.toNat a)) goal), V.lit true]) [{ cs := Cells.mat IntKind.i64 (3 : Nat) l, elem := 23, kind := Kind.mat }, { cs := Cells.ints IntKind.i64 ro, elem := 3, kind := Kind.row }, 
  { cs := Cells.vals [V.row (0 : Nat) n, V.row (1 : Nat) m], elem := 28, kind := Kind.box }, { cs := Cells.ints IntKind.i64 (qAt l aat (Int.toNat a)), elem := 3, kind := Kind.row }]))))

end Go.Vi
