import Derived.Test.YtickpjdnncpnmaaDoorPXPf
import Derived.Test.YtickpjdnncpnmaaDoorMMPf
/- Puzzles: needless clues, clues left, the best clue, harder puzzles. -/
namespace Go.Vi
/-- How many boards fit the clues of a set. -/
def cntM (r : List UInt8) (w h : Int) (n : Nat) (a : List Int) (m : Int) : Nat := (solZ r w h (keepN m n) (keepL a m n)).length
def fullM (n : Nat) : Int := ((2 ^ n - 1 : Nat) : Int)
def firstM (k : Nat) : Int := ((2 ^ k - 1 : Nat) : Int)
def oneM (k : Nat) : Int := ((2 ^ k : Nat) : Int)
def ndL (r : List UInt8) (w h : Int) (n : Nat) (a : List Int) : Nat -> List Int
 | 0 => []
 | k + 1 => ndL r w h n a k ++ (bif cntM r w h n a (wout (fullM n) k) == cntM r w h n a (fullM n) then [(k : Int)] else [])
def ltL (r : List UInt8) (w h : Int) (n : Nat) (a : List Int) : Nat -> List Int
 | 0 => []
 | k + 1 => ltL r w h n a k ++ [(cntM r w h n a (firstM k) : Int)]
def bsQ (r : List UInt8) (w h : Int) (n : Nat) (a : List Int) : Nat -> Int × Int
 | 0 => (0, ((textsZ r w h).length : Int))
 | k + 1 => bif decide ((cntM r w h n a (oneM k) : Int) < (bsQ r w h n a k).2) then ((k : Int), (cntM r w h n a (oneM k) : Int)) else bsQ r w h n a k
def ndB (r : List UInt8) (w h : Int) (n : Nat) (a : List Int) : List Int := bif goodZ r w h n a then ndL r w h n a n else []
def ltB (r : List UInt8) (w h : Int) (n : Nat) (a : List Int) : List Int := bif goodZ r w h n a then ltL r w h n a (n + 1) else []
def bsB (r : List UInt8) (w h : Int) (n : Nat) (a : List Int) : Int := bif goodZ r w h n a && decide (0 < n) then (bsQ r w h n a n).1 else 0
def kInv (n : Nat) (k : Int) : Prop := 0 <= k /\ k <= n
def ann_spec_NeedlessClues : Nat -> St -> Option Ann := fun key st =>
 match Nat.beq key 6, st.mem, intAt st 5 with
 | true, ⟨.ints kd a, e, k0⟩ :: ⟨.vals [.str r, .int i1 w, .int i2 h, .row x n], e1, k1⟩ :: _, some c => some {
   α := Int
   find := fun st => intAt st 16
   head := fun k => { only st [(1, .ptr 1 0), (4, .row 2 (ndL r w h n a k.toNat).length), (5, .int .i64 c), (15, .int .i64 n), (16, .int .i64 k)] with mem := [⟨.ints kd a, e, k0⟩, ⟨.vals [.str r, .int i1 w, .int i2 h, .row x n], e1, k1⟩, ⟨.ints .i64 (ndL r w h n a k.toNat), 3, .row⟩] }
   inv := fun k => kInv n k
   meas := fun k => ((n : Int) - k).toNat
   auto := true }
 | _, _, _ => none
def ann_impl_NeedlessClues : Nat -> St -> Option Ann := fun key st =>
 match Nat.beq key 8, st.mem, intAt st 7, st.get 4 with
 | true, ⟨.ints kd a, e, k0⟩ :: ⟨.vals [.str r, .int i1 w, .int i2 h, .row x n], e1, k1⟩ :: b2 :: _, some c, .row _ N => some {
   α := Int
   find := fun st => intAt st 25
   head := fun k => { only st [(1, .ptr 1 0), (4, .row 2 N), (6, .int .u64 (fullM n)), (7, .int .i64 c), (8, .row 3 (ndL r w h n a k.toNat).length), (24, .int .i64 n), (25, .int .i64 k)] with mem := [⟨.ints kd a, e, k0⟩, ⟨.vals [.str r, .int i1 w, .int i2 h, .row x n], e1, k1⟩, b2, ⟨.ints .i64 (ndL r w h n a k.toNat), 3, .row⟩] }
   inv := fun k => kInv n k
   meas := fun k => ((n : Int) - k).toNat
   auto := true }
 | _, _, _, _ => none
def k1Inv (n : Nat) (k : Int) : Prop := 0 <= k /\ k <= n + 1
def ann_spec_LeftByClues : Nat -> St -> Option Ann := fun key st =>
 match Nat.beq key 5, st.mem with
 | true, ⟨.ints kd a, e, k0⟩ :: ⟨.vals [.str r, .int i1 w, .int i2 h, .row x n], e1, k1⟩ :: _ => some {
   α := Int
   find := fun st => intAt st 5
   head := fun k => { only st [(1, .ptr 1 0), (4, .row 2 (ltL r w h n a k.toNat).length), (5, .int .i64 k)] with mem := [⟨.ints kd a, e, k0⟩, ⟨.vals [.str r, .int i1 w, .int i2 h, .row x n], e1, k1⟩, ⟨.ints .i64 (ltL r w h n a k.toNat), 3, .row⟩] }
   inv := fun k => k1Inv n k
   meas := fun k => ((n : Int) + 1 - k).toNat
   auto := true }
 | _, _ => none
def ann_impl_LeftByClues : Nat -> St -> Option Ann := fun key st =>
 match Nat.beq key 6, st.mem, st.get 4, st.get 18 with
 | true, ⟨.ints kd a, e, k0⟩ :: ⟨.vals [.str r, .int i1 w, .int i2 h, .row x n], e1, k1⟩ :: b2 :: _, .row _ N, .int _ c => some {
   α := Int
   find := fun st => intAt st 19
   head := fun k => { only st [(1, .ptr 1 0), (4, .row 2 N), (6, .row 3 (ltL r w h n a k.toNat).length), (18, .int .i64 c), (19, .int .i64 k)] with mem := [⟨.ints kd a, e, k0⟩, ⟨.vals [.str r, .int i1 w, .int i2 h, .row x n], e1, k1⟩, b2, ⟨.ints .i64 (ltL r w h n a k.toNat), 3, .row⟩] }
   inv := fun k => k1Inv n k
   meas := fun k => ((n : Int) + 1 - k).toNat
   auto := true }
 | _, _, _, _ => none
def ann_spec_BestClue : Nat -> St -> Option Ann := fun key st =>
 match Nat.beq key 5, st.mem with
 | true, ⟨.ints kd a, e, k0⟩ :: ⟨.vals [.str r, .int i1 w, .int i2 h, .row x n], e1, k1⟩ :: _ => some {
   α := Int
   find := fun st => intAt st 20
   head := fun k => { only st [(1, .ptr 1 0), (4, .int .i64 (bsQ r w h n a k.toNat).1), (5, .int .i64 (bif k == 0 then 0 else (bsQ r w h n a k.toNat).2)), (19, .int .i64 n), (20, .int .i64 k)] with mem := [⟨.ints kd a, e, k0⟩, ⟨.vals [.str r, .int i1 w, .int i2 h, .row x n], e1, k1⟩] }
   inv := fun k => kInv n k
   meas := fun k => ((n : Int) - k).toNat
   auto := true }
 | _, _ => none
def ann_impl_BestClue : Nat -> St -> Option Ann := fun key st =>
 match Nat.beq key 6, st.mem, st.get 4 with
 | true, ⟨.ints kd a, e, k0⟩ :: ⟨.vals [.str r, .int i1 w, .int i2 h, .row x n], e1, k1⟩ :: b2 :: _, .row _ N => some {
   α := Int
   find := fun st => intAt st 28
   head := fun k => { only st [(1, .ptr 1 0), (4, .row 2 N), (6, .int .i64 (bsQ r w h n a k.toNat).1), (7, .int .i64 (bsQ r w h n a k.toNat).2), (27, .int .i64 n), (28, .int .i64 k)] with mem := [⟨.ints kd a, e, k0⟩, ⟨.vals [.str r, .int i1 w, .int i2 h, .row x n], e1, k1⟩, b2] }
   inv := fun k => kInv n k
   meas := fun k => ((n : Int) - k).toNat
   auto := true }
 | _, _, _ => none
end Go.Vi

/- Closed forms of the functions of this chapter. -/
namespace Go.Vi
set_option linter.unusedVariables false
def F_spec_Solutions : GSpec := fun args m =>
 match args, m with
 | [.agg [.str pr, .int .i64 pw, .int .i64 ph, .row 0 n]], [⟨.ints .i64 a, 83, .rows 3⟩] => some (a.length = n * 3 /\ n <= 2000000, .tup [.row 1 (bif goodZ pr pw ph n a then solZ pr pw ph n a else []).length, .bool (goodZ pr pw ph n a)], [⟨.ints .i64 a, 83, .rows 3⟩, ⟨.strs (bif goodZ pr pw ph n a then solZ pr pw ph n a else []), 9, .row⟩])
 | _, _ => none
def F_spec_NeedlessClues : GSpec := fun args m =>
 match args, m with
 | [.agg [.str pr, .int .i64 pw, .int .i64 ph, .row 0 n]], [⟨.ints .i64 a, 83, .rows 3⟩] => some (a.length = n * 3 /\ n <= 2000000, .tup [.row 1 (ndB pr pw ph n a).length, .bool (goodZ pr pw ph n a)], [⟨.ints .i64 a, 83, .rows 3⟩, ⟨.ints .i64 (ndB pr pw ph n a), 3, .row⟩])
 | _, _ => none
def F_impl_NeedlessClues : GSpec := fun args m =>
 match args, m with
 | [.agg [.str pr, .int .i64 pw, .int .i64 ph, .row 0 n]], [⟨.ints .i64 a, 83, .rows 3⟩] => some (a.length = n * 3 /\ n <= 2000000, .tup [.row 1 (ndB pr pw ph n a).length, .bool (goodZ pr pw ph n a)], [⟨.ints .i64 a, 83, .rows 3⟩, ⟨.ints .i64 (ndB pr pw ph n a), 3, .row⟩])
 | _, _ => none
def F_spec_LeftByClues : GSpec := fun args m =>
 match args, m with
 | [.agg [.str pr, .int .i64 pw, .int .i64 ph, .row 0 n]], [⟨.ints .i64 a, 83, .rows 3⟩] => some (a.length = n * 3 /\ n <= 2000000, .tup [.row 1 (ltB pr pw ph n a).length, .bool (goodZ pr pw ph n a)], [⟨.ints .i64 a, 83, .rows 3⟩, ⟨.ints .i64 (ltB pr pw ph n a), 3, .row⟩])
 | _, _ => none
def F_impl_LeftByClues : GSpec := fun args m =>
 match args, m with
 | [.agg [.str pr, .int .i64 pw, .int .i64 ph, .row 0 n]], [⟨.ints .i64 a, 83, .rows 3⟩] => some (a.length = n * 3 /\ n <= 2000000, .tup [.row 1 (ltB pr pw ph n a).length, .bool (goodZ pr pw ph n a)], [⟨.ints .i64 a, 83, .rows 3⟩, ⟨.ints .i64 (ltB pr pw ph n a), 3, .row⟩])
 | _, _ => none
def F_spec_BestClue : FSpec := fun args m =>
 match args, m with
 | [.agg [.str pr, .int .i64 pw, .int .i64 ph, .row 0 n]], [⟨.ints .i64 a, 83, .rows 3⟩] => some (a.length = n * 3 /\ n <= 2000000, .tup [.int .i64 (bsB pr pw ph n a), .bool (goodZ pr pw ph n a && decide (0 < n))])
 | _, _ => none
def F_impl_BestClue : FSpec := fun args m =>
 match args, m with
 | [.agg [.str pr, .int .i64 pw, .int .i64 ph, .row 0 n]], [⟨.ints .i64 a, 83, .rows 3⟩] => some (a.length = n * 3 /\ n <= 2000000, .tup [.int .i64 (bsB pr pw ph n a), .bool (goodZ pr pw ph n a && decide (0 < n))])
 | _, _ => none
end Go.Vi

/- The conditions, reckoned out by program: texts alone. -/
namespace Go.Vi
set_option linter.unusedVariables false
def VC_spec_Solutions (pr:List UInt8)(pw:Int)(ph:Int)(n:Nat)(a:List Int)(K:V → List Blk → Prop):Prop:=
 At (List.length a=n * (3:Nat)∧n≤(2000000:Nat))∧((!goodZ pr pw ph n a)=true→
 K (V.tup [V.raw (Value.slice none (0:Nat) (0:Nat)),V.lit false]) [⟨Cells.ints .i64 a,83,Kind.rows (3:Nat)⟩,⟨Cells.vals [V.str pr,V.int .i64 pw,V.int .i64 ph,V.row (0:Nat) n],31,Kind.box⟩])∧
 ((!goodZ pr pw ph n a)=false→At (goodZ pr pw ph n a=true∧List.length a=n * (3:Nat))∧
 K (V.tup [V.row (2:Nat) (List.length (solZ pr pw ph n a)),V.lit true]) [⟨Cells.ints .i64 a,83,Kind.rows (3:Nat)⟩,⟨Cells.vals [V.str pr,V.int .i64 pw,V.int .i64 ph,V.row (0:Nat) n],31,Kind.box⟩,⟨Cells.strs (solZ pr pw ph n a),9,Kind.row⟩])
def VC_spec_NeedlessClues (pr:List UInt8)(pw:Int)(ph:Int)(n:Nat)(a:List Int)(K:V → List Blk → Prop):Prop:=
 At (List.length a=n * (3:Nat)∧n≤(2000000:Nat))∧((!goodZ pr pw ph n a)=true→
 K (V.tup [V.raw (Value.slice none (0:Nat) (0:Nat)),V.lit false]) [⟨Cells.ints .i64 a,83,Kind.rows (3:Nat)⟩,⟨Cells.vals [V.str pr,V.int .i64 pw,V.int .i64 ph,V.row (0:Nat) n],31,Kind.box⟩])∧
 ((!goodZ pr pw ph n a)=false→At (goodZ pr pw ph n a=true∧List.length a=n * (3:Nat))∧(True∧(((1:Nat)=(1:Nat)∧(0:Nat)=(0:Nat))∧((2:Nat)=(2:Nat)∧(0:Nat)=(0:Nat))∧(True∧
 (↑(List.length (solZ pr pw ph n a)):Int)=(↑(List.length (solZ pr pw ph n a)):Int))∧(True∧(↑n:Int)=(↑n:Int))∧(True∧(0:Int)=(0:Int))∧True)∧((True∧IntKind.i64=IntKind.i64∧a=a)∧(True∧pr=pr∧(True∧pw=pw)∧(True∧ph=ph)∧
 ((0:Nat)=(0:Nat)∧n=n)∧True)∧(True∧IntKind.i64=IntKind.i64∧nilI=ndL pr pw ph n a (Int.toNat (0:Int)))∧True)∧True)∧At (kInv n (0:Int))∧∀(a_2:Int),kInv n a_2→(decide (a_2 < (↑n:Int))=true→(((At (List.length a=n * (3:Nat)∧
 n≤(2000000:Nat)∧(0:Int)≤a_2∧a_2 < (↑n:Int))∧((At (goodZ pr pw ph (n - (1:Nat)) (wo3 a (Int.toNat a_2))=true∧List.length (wo3 a (Int.toNat a_2))=(n - (1:Nat)) * (3:Nat))∧
 (((↑(List.length (solZ pr pw ph (n - (1:Nat)) (wo3 a (Int.toNat a_2)))):Int)==(↑(List.length (solZ pr pw ph n a)):Int))=true→
 At ((List.length (ndL pr pw ph n a (Int.toNat a_2))=List.length (ndL pr pw ph n a (Int.toNat a_2)) * (1:Nat)∧(1:Nat) * (1:Nat)≤List.length [a_2])∧posM Kind.row (1:Nat)∧
 List.length (ndL pr pw ph n a (Int.toNat a_2)) + (1:Nat)≤(1000000000:Nat))∧(True∧(((1:Nat)=(1:Nat)∧(0:Nat)=(0:Nat))∧((2:Nat)=(2:Nat)∧
 List.length (ndL pr pw ph n a (Int.toNat a_2)) + (1:Nat)=List.length (ndL pr pw ph n a (Int.toNat (IntKind.wrap .i64 (a_2 + (1:Int))))))∧(True∧
 (↑(List.length (solZ pr pw ph n a)):Int)=(↑(List.length (solZ pr pw ph n a)):Int))∧(True∧(↑n:Int)=(↑n:Int))∧(True∧IntKind.wrap .i64 (a_2 + (1:Int))=IntKind.wrap .i64 (a_2 + (1:Int)))∧True)∧((True∧IntKind.i64=IntKind.i64∧
 a=a)∧(True∧pr=pr∧(True∧pw=pw)∧(True∧ph=ph)∧((0:Nat)=(0:Nat)∧n=n)∧True)∧(True∧IntKind.i64=IntKind.i64∧
 ndL pr pw ph n a (Int.toNat a_2) ++ List.take ((1:Nat) * (1:Nat)) [a_2]=ndL pr pw ph n a (Int.toNat (IntKind.wrap .i64 (a_2 + (1:Int)))))∧True)∧True)∧At (kInv n (IntKind.wrap .i64 (a_2 + (1:Int)))∧
 Int.toNat ((↑n:Int) - IntKind.wrap .i64 (a_2 + (1:Int))) < Int.toNat ((↑n:Int) - a_2)))∧(((↑(List.length (solZ pr pw ph (n - (1:Nat)) (wo3 a (Int.toNat a_2)))):Int)==(↑(List.length (solZ pr pw ph n a)):Int))=false→(True∧
 (((1:Nat)=(1:Nat)∧(0:Nat)=(0:Nat))∧((2:Nat)=(2:Nat)∧List.length (ndL pr pw ph n a (Int.toNat a_2))=List.length (ndL pr pw ph n a (Int.toNat (IntKind.wrap .i64 (a_2 + (1:Int))))))∧(True∧
 (↑(List.length (solZ pr pw ph n a)):Int)=(↑(List.length (solZ pr pw ph n a)):Int))∧(True∧(↑n:Int)=(↑n:Int))∧(True∧IntKind.wrap .i64 (a_2 + (1:Int))=IntKind.wrap .i64 (a_2 + (1:Int)))∧True)∧((True∧IntKind.i64=IntKind.i64∧
 a=a)∧(True∧pr=pr∧(True∧pw=pw)∧(True∧ph=ph)∧((0:Nat)=(0:Nat)∧n=n)∧True)∧(True∧IntKind.i64=IntKind.i64∧ndL pr pw ph n a (Int.toNat a_2)=ndL pr pw ph n a (Int.toNat (IntKind.wrap .i64 (a_2 + (1:Int)))))∧True)∧True)∧
 At (kInv n (IntKind.wrap .i64 (a_2 + (1:Int)))∧Int.toNat ((↑n:Int) - IntKind.wrap .i64 (a_2 + (1:Int))) < Int.toNat ((↑n:Int) - a_2))))∧True)∧True)∧True)∧True)∧(((At (List.length a=n * (3:Nat)∧n≤(2000000:Nat)∧
 (0:Int)≤a_2∧a_2 < (↑n:Int))∧((At (goodZ pr pw ph (n - (1:Nat)) (wo3 a (Int.toNat a_2))=true∧List.length (wo3 a (Int.toNat a_2))=(n - (1:Nat)) * (3:Nat))∧
 (((↑(List.length (solZ pr pw ph (n - (1:Nat)) (wo3 a (Int.toNat a_2)))):Int)==(↑(List.length (solZ pr pw ph n a)):Int))=true→
 At ((List.length (ndL pr pw ph n a (Int.toNat a_2))=List.length (ndL pr pw ph n a (Int.toNat a_2)) * (1:Nat)∧(1:Nat) * (1:Nat)≤List.length [a_2])∧posM Kind.row (1:Nat)∧
 List.length (ndL pr pw ph n a (Int.toNat a_2)) + (1:Nat)≤(1000000000:Nat))∧(True∧(((1:Nat)=(1:Nat)∧(0:Nat)=(0:Nat))∧((2:Nat)=(2:Nat)∧
 List.length (ndL pr pw ph n a (Int.toNat a_2)) + (1:Nat)=List.length (ndL pr pw ph n a (Int.toNat (IntKind.wrap .i64 (a_2 + (1:Int))))))∧(True∧
 (↑(List.length (solZ pr pw ph n a)):Int)=(↑(List.length (solZ pr pw ph n a)):Int))∧(True∧(↑n:Int)=(↑n:Int))∧(True∧IntKind.wrap .i64 (a_2 + (1:Int))=IntKind.wrap .i64 (a_2 + (1:Int)))∧True)∧((True∧IntKind.i64=IntKind.i64∧
 a=a)∧(True∧pr=pr∧(True∧pw=pw)∧(True∧ph=ph)∧((0:Nat)=(0:Nat)∧n=n)∧True)∧(True∧IntKind.i64=IntKind.i64∧
 ndL pr pw ph n a (Int.toNat a_2) ++ List.take ((1:Nat) * (1:Nat)) [a_2]=ndL pr pw ph n a (Int.toNat (IntKind.wrap .i64 (a_2 + (1:Int)))))∧True)∧True)∧At (kInv n (IntKind.wrap .i64 (a_2 + (1:Int)))∧
 Int.toNat ((↑n:Int) - IntKind.wrap .i64 (a_2 + (1:Int))) < Int.toNat ((↑n:Int) - a_2)))∧(((↑(List.length (solZ pr pw ph (n - (1:Nat)) (wo3 a (Int.toNat a_2)))):Int)==(↑(List.length (solZ pr pw ph n a)):Int))=false→(True∧
 (((1:Nat)=(1:Nat)∧(0:Nat)=(0:Nat))∧((2:Nat)=(2:Nat)∧List.length (ndL pr pw ph n a (Int.toNat a_2))=List.length (ndL pr pw ph n a (Int.toNat (IntKind.wrap .i64 (a_2 + (1:Int))))))∧(True∧
 (↑(List.length (solZ pr pw ph n a)):Int)=(↑(List.length (solZ pr pw ph n a)):Int))∧(True∧(↑n:Int)=(↑n:Int))∧(True∧IntKind.wrap .i64 (a_2 + (1:Int))=IntKind.wrap .i64 (a_2 + (1:Int)))∧True)∧((True∧IntKind.i64=IntKind.i64∧
 a=a)∧(True∧pr=pr∧(True∧pw=pw)∧(True∧ph=ph)∧((0:Nat)=(0:Nat)∧n=n)∧True)∧(True∧IntKind.i64=IntKind.i64∧ndL pr pw ph n a (Int.toNat a_2)=ndL pr pw ph n a (Int.toNat (IntKind.wrap .i64 (a_2 + (1:Int)))))∧True)∧True)∧
 At (kInv n (IntKind.wrap .i64 (a_2 + (1:Int)))∧Int.toNat ((↑n:Int) - IntKind.wrap .i64 (a_2 + (1:Int))) < Int.toNat ((↑n:Int) - a_2))))∧True)∧True)∧True)∧(At (List.length a=n * (3:Nat)∧n≤(2000000:Nat)∧(0:Int)≤a_2∧
 a_2 < (↑n:Int))∧(((At (goodZ pr pw ph (n - (1:Nat)) (wo3 a (Int.toNat a_2))=true∧List.length (wo3 a (Int.toNat a_2))=(n - (1:Nat)) * (3:Nat))∧
 (((↑(List.length (solZ pr pw ph (n - (1:Nat)) (wo3 a (Int.toNat a_2)))):Int)==(↑(List.length (solZ pr pw ph n a)):Int))=true→
 At ((List.length (ndL pr pw ph n a (Int.toNat a_2))=List.length (ndL pr pw ph n a (Int.toNat a_2)) * (1:Nat)∧(1:Nat) * (1:Nat)≤List.length [a_2])∧posM Kind.row (1:Nat)∧
 List.length (ndL pr pw ph n a (Int.toNat a_2)) + (1:Nat)≤(1000000000:Nat))∧(True∧(((1:Nat)=(1:Nat)∧(0:Nat)=(0:Nat))∧((2:Nat)=(2:Nat)∧
 List.length (ndL pr pw ph n a (Int.toNat a_2)) + (1:Nat)=List.length (ndL pr pw ph n a (Int.toNat (IntKind.wrap .i64 (a_2 + (1:Int))))))∧(True∧
 (↑(List.length (solZ pr pw ph n a)):Int)=(↑(List.length (solZ pr pw ph n a)):Int))∧(True∧(↑n:Int)=(↑n:Int))∧(True∧IntKind.wrap .i64 (a_2 + (1:Int))=IntKind.wrap .i64 (a_2 + (1:Int)))∧True)∧((True∧IntKind.i64=IntKind.i64∧
 a=a)∧(True∧pr=pr∧(True∧pw=pw)∧(True∧ph=ph)∧((0:Nat)=(0:Nat)∧n=n)∧True)∧(True∧IntKind.i64=IntKind.i64∧
 ndL pr pw ph n a (Int.toNat a_2) ++ List.take ((1:Nat) * (1:Nat)) [a_2]=ndL pr pw ph n a (Int.toNat (IntKind.wrap .i64 (a_2 + (1:Int)))))∧True)∧True)∧At (kInv n (IntKind.wrap .i64 (a_2 + (1:Int)))∧
 Int.toNat ((↑n:Int) - IntKind.wrap .i64 (a_2 + (1:Int))) < Int.toNat ((↑n:Int) - a_2)))∧(((↑(List.length (solZ pr pw ph (n - (1:Nat)) (wo3 a (Int.toNat a_2)))):Int)==(↑(List.length (solZ pr pw ph n a)):Int))=false→(True∧
 (((1:Nat)=(1:Nat)∧(0:Nat)=(0:Nat))∧((2:Nat)=(2:Nat)∧List.length (ndL pr pw ph n a (Int.toNat a_2))=List.length (ndL pr pw ph n a (Int.toNat (IntKind.wrap .i64 (a_2 + (1:Int))))))∧(True∧
 (↑(List.length (solZ pr pw ph n a)):Int)=(↑(List.length (solZ pr pw ph n a)):Int))∧(True∧(↑n:Int)=(↑n:Int))∧(True∧IntKind.wrap .i64 (a_2 + (1:Int))=IntKind.wrap .i64 (a_2 + (1:Int)))∧True)∧((True∧IntKind.i64=IntKind.i64∧
 a=a)∧(True∧pr=pr∧(True∧pw=pw)∧(True∧ph=ph)∧((0:Nat)=(0:Nat)∧n=n)∧True)∧(True∧IntKind.i64=IntKind.i64∧ndL pr pw ph n a (Int.toNat a_2)=ndL pr pw ph n a (Int.toNat (IntKind.wrap .i64 (a_2 + (1:Int)))))∧True)∧True)∧
 At (kInv n (IntKind.wrap .i64 (a_2 + (1:Int)))∧Int.toNat ((↑n:Int) - IntKind.wrap .i64 (a_2 + (1:Int))) < Int.toNat ((↑n:Int) - a_2))))∧True)∧True)∧True)∧True)∧True)∧(decide (a_2 < (↑n:Int))=false→
 K (V.tup [V.row (2:Nat) (List.length (ndL pr pw ph n a (Int.toNat a_2))),V.lit true]) [⟨Cells.ints .i64 a,83,Kind.rows (3:Nat)⟩,⟨Cells.vals [V.str pr,V.int .i64 pw,V.int .i64 ph,V.row (0:Nat) n],31,Kind.box⟩,⟨Cells.ints .i64 (ndL pr pw ph n a (Int.toNat a_2)),3,Kind.row⟩]))
def VC_impl_NeedlessClues (pr:List UInt8)(pw:Int)(ph:Int)(n:Nat)(a:List Int)(K:V → List Blk → Prop):Prop:=
 At (List.length a=n * (3:Nat)∧n≤(2000000:Nat))∧((!goodZ pr pw ph n a)=true→
 K (V.tup [V.raw (Value.slice none (0:Nat) (0:Nat)),V.lit false]) [⟨Cells.ints .i64 a,83,Kind.rows (3:Nat)⟩,⟨Cells.vals [V.str pr,V.int .i64 pw,V.int .i64 ph,V.row (0:Nat) n],31,Kind.box⟩,⟨Cells.recs [Sh.str,Sh.int IntKind.u64] (bif goodZ pr pw ph n a then candL pr pw ph n a (textsZ pr pw ph) else []),102,Kind.rows (2:Nat)⟩])∧
 ((!goodZ pr pw ph n a)=false→At (n≤(60:Nat))∧At (goodL (bif goodZ pr pw ph n a then candL pr pw ph n a (textsZ pr pw ph) else []) (bif goodZ pr pw ph n a then List.length (textsZ pr pw ph) else (0:Nat))∧
 (0:Int)≤(↑((2:Nat) ^ n - (1:Nat)):Int)∧(↑((2:Nat) ^ n - (1:Nat)):Int) < (18446744073709551616:Int))∧(True∧(((1:Nat)=(1:Nat)∧(0:Nat)=(0:Nat))∧((2:Nat)=(2:Nat)∧
 (bif goodZ pr pw ph n a then List.length (textsZ pr pw ph) else (0:Nat))=bif goodZ pr pw ph n a then List.length (textsZ pr pw ph) else (0:Nat))∧(True∧(↑((2:Nat) ^ n - (1:Nat)):Int)=fullM n)∧(True∧
 (↑(List.length (fitL (bif goodZ pr pw ph n a then candL pr pw ph n a (textsZ pr pw ph) else []) (↑((2:Nat) ^ n - (1:Nat)):Int) (bif goodZ pr pw ph n a then List.length (textsZ pr pw ph) else (0:Nat)))):Int)=(↑(List.length (fitL (bif goodZ pr pw ph n a then candL pr pw ph n a (textsZ pr pw ph) else []) (↑((2:Nat) ^ n - (1:Nat)):Int) (bif goodZ pr pw ph n a then List.length (textsZ pr pw ph) else (0:Nat)))):Int))∧
 ((3:Nat)=(3:Nat)∧(0:Nat)=(0:Nat))∧(True∧(↑n:Int)=(↑n:Int))∧(True∧(0:Int)=(0:Int))∧True)∧((True∧IntKind.i64=IntKind.i64∧a=a)∧(True∧pr=pr∧(True∧pw=pw)∧(True∧ph=ph)∧((0:Nat)=(0:Nat)∧n=n)∧True)∧(True∧True∧
 (bif goodZ pr pw ph n a then candL pr pw ph n a (textsZ pr pw ph) else [])=bif goodZ pr pw ph n a then candL pr pw ph n a (textsZ pr pw ph) else [])∧(True∧IntKind.i64=IntKind.i64∧
 nilI=ndL pr pw ph n a (Int.toNat (0:Int)))∧True)∧True)∧At (kInv n (0:Int))∧∀(a_2:Int),kInv n a_2→(decide (a_2 < (↑n:Int))=true→At ((0:Int)≤fullM n∧fullM n < (18446744073709551616:Int)∧(0:Int)≤a_2∧a_2≤(60:Int))∧
 At (goodL (bif goodZ pr pw ph n a then candL pr pw ph n a (textsZ pr pw ph) else []) (bif goodZ pr pw ph n a then List.length (textsZ pr pw ph) else (0:Nat))∧(0:Int)≤wout (fullM n) (Int.toNat a_2)∧
 wout (fullM n) (Int.toNat a_2) < (18446744073709551616:Int))∧
 (((↑(List.length (fitL (bif goodZ pr pw ph n a then candL pr pw ph n a (textsZ pr pw ph) else []) (wout (fullM n) (Int.toNat a_2)) (bif goodZ pr pw ph n a then List.length (textsZ pr pw ph) else (0:Nat)))):Int)==(↑(List.length (fitL (bif goodZ pr pw ph n a then candL pr pw ph n a (textsZ pr pw ph) else []) (↑((2:Nat) ^ n - (1:Nat)):Int) (bif goodZ pr pw ph n a then List.length (textsZ pr pw ph) else (0:Nat)))):Int))=true→
 At ((List.length (ndL pr pw ph n a (Int.toNat a_2))=List.length (ndL pr pw ph n a (Int.toNat a_2)) * (1:Nat)∧(1:Nat) * (1:Nat)≤List.length [a_2])∧posM Kind.row (1:Nat)∧
 List.length (ndL pr pw ph n a (Int.toNat a_2)) + (1:Nat)≤(1000000000:Nat))∧(True∧(((1:Nat)=(1:Nat)∧(0:Nat)=(0:Nat))∧((2:Nat)=(2:Nat)∧
 (bif goodZ pr pw ph n a then List.length (textsZ pr pw ph) else (0:Nat))=bif goodZ pr pw ph n a then List.length (textsZ pr pw ph) else (0:Nat))∧(True∧fullM n=fullM n)∧(True∧
 (↑(List.length (fitL (bif goodZ pr pw ph n a then candL pr pw ph n a (textsZ pr pw ph) else []) (↑((2:Nat) ^ n - (1:Nat)):Int) (bif goodZ pr pw ph n a then List.length (textsZ pr pw ph) else (0:Nat)))):Int)=(↑(List.length (fitL (bif goodZ pr pw ph n a then candL pr pw ph n a (textsZ pr pw ph) else []) (↑((2:Nat) ^ n - (1:Nat)):Int) (bif goodZ pr pw ph n a then List.length (textsZ pr pw ph) else (0:Nat)))):Int))∧
 ((3:Nat)=(3:Nat)∧List.length (ndL pr pw ph n a (Int.toNat a_2)) + (1:Nat)=List.length (ndL pr pw ph n a (Int.toNat (IntKind.wrap .i64 (a_2 + (1:Int))))))∧(True∧(↑n:Int)=(↑n:Int))∧(True∧
 IntKind.wrap .i64 (a_2 + (1:Int))=IntKind.wrap .i64 (a_2 + (1:Int)))∧True)∧((True∧IntKind.i64=IntKind.i64∧a=a)∧(True∧pr=pr∧(True∧pw=pw)∧(True∧ph=ph)∧((0:Nat)=(0:Nat)∧n=n)∧True)∧(True∧True∧
 (bif goodZ pr pw ph n a then candL pr pw ph n a (textsZ pr pw ph) else [])=bif goodZ pr pw ph n a then candL pr pw ph n a (textsZ pr pw ph) else [])∧(True∧IntKind.i64=IntKind.i64∧
 ndL pr pw ph n a (Int.toNat a_2) ++ List.take ((1:Nat) * (1:Nat)) [a_2]=ndL pr pw ph n a (Int.toNat (IntKind.wrap .i64 (a_2 + (1:Int)))))∧True)∧True)∧At (kInv n (IntKind.wrap .i64 (a_2 + (1:Int)))∧
 Int.toNat ((↑n:Int) - IntKind.wrap .i64 (a_2 + (1:Int))) < Int.toNat ((↑n:Int) - a_2)))∧
 (((↑(List.length (fitL (bif goodZ pr pw ph n a then candL pr pw ph n a (textsZ pr pw ph) else []) (wout (fullM n) (Int.toNat a_2)) (bif goodZ pr pw ph n a then List.length (textsZ pr pw ph) else (0:Nat)))):Int)==(↑(List.length (fitL (bif goodZ pr pw ph n a then candL pr pw ph n a (textsZ pr pw ph) else []) (↑((2:Nat) ^ n - (1:Nat)):Int) (bif goodZ pr pw ph n a then List.length (textsZ pr pw ph) else (0:Nat)))):Int))=false→
 (True∧(((1:Nat)=(1:Nat)∧(0:Nat)=(0:Nat))∧((2:Nat)=(2:Nat)∧(bif goodZ pr pw ph n a then List.length (textsZ pr pw ph) else (0:Nat))=bif goodZ pr pw ph n a then List.length (textsZ pr pw ph) else (0:Nat))∧(True∧
 fullM n=fullM n)∧(True∧
 (↑(List.length (fitL (bif goodZ pr pw ph n a then candL pr pw ph n a (textsZ pr pw ph) else []) (↑((2:Nat) ^ n - (1:Nat)):Int) (bif goodZ pr pw ph n a then List.length (textsZ pr pw ph) else (0:Nat)))):Int)=(↑(List.length (fitL (bif goodZ pr pw ph n a then candL pr pw ph n a (textsZ pr pw ph) else []) (↑((2:Nat) ^ n - (1:Nat)):Int) (bif goodZ pr pw ph n a then List.length (textsZ pr pw ph) else (0:Nat)))):Int))∧
 ((3:Nat)=(3:Nat)∧List.length (ndL pr pw ph n a (Int.toNat a_2))=List.length (ndL pr pw ph n a (Int.toNat (IntKind.wrap .i64 (a_2 + (1:Int))))))∧(True∧(↑n:Int)=(↑n:Int))∧(True∧
 IntKind.wrap .i64 (a_2 + (1:Int))=IntKind.wrap .i64 (a_2 + (1:Int)))∧True)∧((True∧IntKind.i64=IntKind.i64∧a=a)∧(True∧pr=pr∧(True∧pw=pw)∧(True∧ph=ph)∧((0:Nat)=(0:Nat)∧n=n)∧True)∧(True∧True∧
 (bif goodZ pr pw ph n a then candL pr pw ph n a (textsZ pr pw ph) else [])=bif goodZ pr pw ph n a then candL pr pw ph n a (textsZ pr pw ph) else [])∧(True∧IntKind.i64=IntKind.i64∧
 ndL pr pw ph n a (Int.toNat a_2)=ndL pr pw ph n a (Int.toNat (IntKind.wrap .i64 (a_2 + (1:Int)))))∧True)∧True)∧At (kInv n (IntKind.wrap .i64 (a_2 + (1:Int)))∧
 Int.toNat ((↑n:Int) - IntKind.wrap .i64 (a_2 + (1:Int))) < Int.toNat ((↑n:Int) - a_2))))∧(decide (a_2 < (↑n:Int))=false→
 K (V.tup [V.row (3:Nat) (List.length (ndL pr pw ph n a (Int.toNat a_2))),V.lit true]) [⟨Cells.ints .i64 a,83,Kind.rows (3:Nat)⟩,⟨Cells.vals [V.str pr,V.int .i64 pw,V.int .i64 ph,V.row (0:Nat) n],31,Kind.box⟩,⟨Cells.recs [Sh.str,Sh.int IntKind.u64] (bif goodZ pr pw ph n a then candL pr pw ph n a (textsZ pr pw ph) else []),102,Kind.rows (2:Nat)⟩,⟨Cells.ints .i64 (ndL pr pw ph n a (Int.toNat a_2)),3,Kind.row⟩]))
def VC_spec_LeftByClues (pr:List UInt8)(pw:Int)(ph:Int)(n:Nat)(a:List Int)(K:V → List Blk → Prop):Prop:=
 At (List.length a=n * (3:Nat)∧n≤(2000000:Nat))∧((!goodZ pr pw ph n a)=true→
 K (V.tup [V.raw (Value.slice none (0:Nat) (0:Nat)),V.lit false]) [⟨Cells.ints .i64 a,83,Kind.rows (3:Nat)⟩,⟨Cells.vals [V.str pr,V.int .i64 pw,V.int .i64 ph,V.row (0:Nat) n],31,Kind.box⟩])∧
 ((!goodZ pr pw ph n a)=false→(True∧(((1:Nat)=(1:Nat)∧(0:Nat)=(0:Nat))∧((2:Nat)=(2:Nat)∧(0:Nat)=(0:Nat))∧(True∧(0:Int)=(0:Int))∧True)∧((True∧IntKind.i64=IntKind.i64∧a=a)∧(True∧pr=pr∧(True∧pw=pw)∧(True∧ph=ph)∧
 ((0:Nat)=(0:Nat)∧n=n)∧True)∧(True∧IntKind.i64=IntKind.i64∧nilI=ltL pr pw ph n a (Int.toNat (0:Int)))∧True)∧True)∧At (k1Inv n (0:Int))∧∀(a_2:Int),k1Inv n a_2→(decide (a_2≤(↑n:Int))=true→(((At ((0:Int)≤a_2∧a_2≤(↑n:Int)∧
 n * (3:Nat)≤Cells.len (Cells.ints .i64 a))∧((At (goodZ pr pw ph (Int.toNat a_2) (List.take (Int.toNat a_2 * (3:Nat)) (List.drop ((0:Nat) * (3:Nat)) a))=true∧
 List.length (List.take (Int.toNat a_2 * (3:Nat)) (List.drop ((0:Nat) * (3:Nat)) a))=Int.toNat a_2 * (3:Nat))∧((At ((List.length (ltL pr pw ph n a (Int.toNat a_2))=List.length (ltL pr pw ph n a (Int.toNat a_2)) * (1:Nat)∧
 (1:Nat) * (1:Nat)≤List.length [(↑(List.length (solZ pr pw ph (Int.toNat a_2) (List.take (Int.toNat a_2 * (3:Nat)) (List.drop ((0:Nat) * (3:Nat)) a)))):Int)])∧posM Kind.row (1:Nat)∧
 List.length (ltL pr pw ph n a (Int.toNat a_2)) + (1:Nat)≤(1000000000:Nat))∧(True∧(((1:Nat)=(1:Nat)∧(0:Nat)=(0:Nat))∧((2:Nat)=(2:Nat)∧
 List.length (ltL pr pw ph n a (Int.toNat a_2)) + (1:Nat)=List.length (ltL pr pw ph n a (Int.toNat (IntKind.wrap .i64 (a_2 + (1:Int))))))∧(True∧IntKind.wrap .i64 (a_2 + (1:Int))=IntKind.wrap .i64 (a_2 + (1:Int)))∧True)∧
 ((True∧IntKind.i64=IntKind.i64∧a=a)∧(True∧pr=pr∧(True∧pw=pw)∧(True∧ph=ph)∧((0:Nat)=(0:Nat)∧n=n)∧True)∧(True∧IntKind.i64=IntKind.i64∧
 ltL pr pw ph n a (Int.toNat a_2) ++ List.take ((1:Nat) * (1:Nat)) [(↑(List.length (solZ pr pw ph (Int.toNat a_2) (List.take (Int.toNat a_2 * (3:Nat)) (List.drop ((0:Nat) * (3:Nat)) a)))):Int)]=ltL pr pw ph n a (Int.toNat (IntKind.wrap .i64 (a_2 + (1:Int)))))∧
 True)∧True)∧At (k1Inv n (IntKind.wrap .i64 (a_2 + (1:Int)))∧Int.toNat ((↑n:Int) + (1:Int) - IntKind.wrap .i64 (a_2 + (1:Int))) < Int.toNat ((↑n:Int) + (1:Int) - a_2)))∧True)∧True)∧True)∧True)∧True)∧True)∧
 (((At ((0:Int)≤a_2∧a_2≤(↑n:Int)∧n * (3:Nat)≤Cells.len (Cells.ints .i64 a))∧((At (goodZ pr pw ph (Int.toNat a_2) (List.take (Int.toNat a_2 * (3:Nat)) (List.drop ((0:Nat) * (3:Nat)) a))=true∧
 List.length (List.take (Int.toNat a_2 * (3:Nat)) (List.drop ((0:Nat) * (3:Nat)) a))=Int.toNat a_2 * (3:Nat))∧((At ((List.length (ltL pr pw ph n a (Int.toNat a_2))=List.length (ltL pr pw ph n a (Int.toNat a_2)) * (1:Nat)∧
 (1:Nat) * (1:Nat)≤List.length [(↑(List.length (solZ pr pw ph (Int.toNat a_2) (List.take (Int.toNat a_2 * (3:Nat)) (List.drop ((0:Nat) * (3:Nat)) a)))):Int)])∧posM Kind.row (1:Nat)∧
 List.length (ltL pr pw ph n a (Int.toNat a_2)) + (1:Nat)≤(1000000000:Nat))∧(True∧(((1:Nat)=(1:Nat)∧(0:Nat)=(0:Nat))∧((2:Nat)=(2:Nat)∧
 List.length (ltL pr pw ph n a (Int.toNat a_2)) + (1:Nat)=List.length (ltL pr pw ph n a (Int.toNat (IntKind.wrap .i64 (a_2 + (1:Int))))))∧(True∧IntKind.wrap .i64 (a_2 + (1:Int))=IntKind.wrap .i64 (a_2 + (1:Int)))∧True)∧
 ((True∧IntKind.i64=IntKind.i64∧a=a)∧(True∧pr=pr∧(True∧pw=pw)∧(True∧ph=ph)∧((0:Nat)=(0:Nat)∧n=n)∧True)∧(True∧IntKind.i64=IntKind.i64∧
 ltL pr pw ph n a (Int.toNat a_2) ++ List.take ((1:Nat) * (1:Nat)) [(↑(List.length (solZ pr pw ph (Int.toNat a_2) (List.take (Int.toNat a_2 * (3:Nat)) (List.drop ((0:Nat) * (3:Nat)) a)))):Int)]=ltL pr pw ph n a (Int.toNat (IntKind.wrap .i64 (a_2 + (1:Int)))))∧
 True)∧True)∧At (k1Inv n (IntKind.wrap .i64 (a_2 + (1:Int)))∧Int.toNat ((↑n:Int) + (1:Int) - IntKind.wrap .i64 (a_2 + (1:Int))) < Int.toNat ((↑n:Int) + (1:Int) - a_2)))∧True)∧True)∧True)∧True)∧True)∧(At ((0:Int)≤a_2∧
 a_2≤(↑n:Int)∧n * (3:Nat)≤Cells.len (Cells.ints .i64 a))∧(((At (goodZ pr pw ph (Int.toNat a_2) (List.take (Int.toNat a_2 * (3:Nat)) (List.drop ((0:Nat) * (3:Nat)) a))=true∧
 List.length (List.take (Int.toNat a_2 * (3:Nat)) (List.drop ((0:Nat) * (3:Nat)) a))=Int.toNat a_2 * (3:Nat))∧((At ((List.length (ltL pr pw ph n a (Int.toNat a_2))=List.length (ltL pr pw ph n a (Int.toNat a_2)) * (1:Nat)∧
 (1:Nat) * (1:Nat)≤List.length [(↑(List.length (solZ pr pw ph (Int.toNat a_2) (List.take (Int.toNat a_2 * (3:Nat)) (List.drop ((0:Nat) * (3:Nat)) a)))):Int)])∧posM Kind.row (1:Nat)∧
 List.length (ltL pr pw ph n a (Int.toNat a_2)) + (1:Nat)≤(1000000000:Nat))∧(True∧(((1:Nat)=(1:Nat)∧(0:Nat)=(0:Nat))∧((2:Nat)=(2:Nat)∧
 List.length (ltL pr pw ph n a (Int.toNat a_2)) + (1:Nat)=List.length (ltL pr pw ph n a (Int.toNat (IntKind.wrap .i64 (a_2 + (1:Int))))))∧(True∧IntKind.wrap .i64 (a_2 + (1:Int))=IntKind.wrap .i64 (a_2 + (1:Int)))∧True)∧
 ((True∧IntKind.i64=IntKind.i64∧a=a)∧(True∧pr=pr∧(True∧pw=pw)∧(True∧ph=ph)∧((0:Nat)=(0:Nat)∧n=n)∧True)∧(True∧IntKind.i64=IntKind.i64∧
 ltL pr pw ph n a (Int.toNat a_2) ++ List.take ((1:Nat) * (1:Nat)) [(↑(List.length (solZ pr pw ph (Int.toNat a_2) (List.take (Int.toNat a_2 * (3:Nat)) (List.drop ((0:Nat) * (3:Nat)) a)))):Int)]=ltL pr pw ph n a (Int.toNat (IntKind.wrap .i64 (a_2 + (1:Int)))))∧
 True)∧True)∧At (k1Inv n (IntKind.wrap .i64 (a_2 + (1:Int)))∧Int.toNat ((↑n:Int) + (1:Int) - IntKind.wrap .i64 (a_2 + (1:Int))) < Int.toNat ((↑n:Int) + (1:Int) - a_2)))∧True)∧True)∧True)∧True)∧True)∧True)∧True)∧
 (decide (a_2≤(↑n:Int))=false→
 K (V.tup [V.row (2:Nat) (List.length (ltL pr pw ph n a (Int.toNat a_2))),V.lit true]) [⟨Cells.ints .i64 a,83,Kind.rows (3:Nat)⟩,⟨Cells.vals [V.str pr,V.int .i64 pw,V.int .i64 ph,V.row (0:Nat) n],31,Kind.box⟩,⟨Cells.ints .i64 (ltL pr pw ph n a (Int.toNat a_2)),3,Kind.row⟩]))
def VC_impl_LeftByClues (pr:List UInt8)(pw:Int)(ph:Int)(n:Nat)(a:List Int)(K:V → List Blk → Prop):Prop:=
 At (List.length a=n * (3:Nat)∧n≤(2000000:Nat))∧((!goodZ pr pw ph n a)=true→
 K (V.tup [V.raw (Value.slice none (0:Nat) (0:Nat)),V.lit false]) [⟨Cells.ints .i64 a,83,Kind.rows (3:Nat)⟩,⟨Cells.vals [V.str pr,V.int .i64 pw,V.int .i64 ph,V.row (0:Nat) n],31,Kind.box⟩,⟨Cells.recs [Sh.str,Sh.int IntKind.u64] (bif goodZ pr pw ph n a then candL pr pw ph n a (textsZ pr pw ph) else []),102,Kind.rows (2:Nat)⟩])∧
 ((!goodZ pr pw ph n a)=false→(True∧(((1:Nat)=(1:Nat)∧(0:Nat)=(0:Nat))∧((2:Nat)=(2:Nat)∧
 (bif goodZ pr pw ph n a then List.length (textsZ pr pw ph) else (0:Nat))=bif goodZ pr pw ph n a then List.length (textsZ pr pw ph) else (0:Nat))∧((3:Nat)=(3:Nat)∧(0:Nat)=(0:Nat))∧(True∧
 IntKind.wrap .i64 ((↑n:Int) + (1:Int))=IntKind.wrap .i64 ((↑n:Int) + (1:Int)))∧(True∧(0:Int)=(0:Int))∧True)∧((True∧IntKind.i64=IntKind.i64∧a=a)∧(True∧pr=pr∧(True∧pw=pw)∧(True∧ph=ph)∧((0:Nat)=(0:Nat)∧n=n)∧True)∧(True∧
 True∧(bif goodZ pr pw ph n a then candL pr pw ph n a (textsZ pr pw ph) else [])=bif goodZ pr pw ph n a then candL pr pw ph n a (textsZ pr pw ph) else [])∧(True∧IntKind.i64=IntKind.i64∧
 nilI=ltL pr pw ph n a (Int.toNat (0:Int)))∧True)∧True)∧At (k1Inv n (0:Int))∧∀(a_2:Int),k1Inv n a_2→(decide (a_2 < IntKind.wrap .i64 ((↑n:Int) + (1:Int)))=true→At ((0:Int)≤a_2∧a_2≤(60:Int))∧
 At (goodL (bif goodZ pr pw ph n a then candL pr pw ph n a (textsZ pr pw ph) else []) (bif goodZ pr pw ph n a then List.length (textsZ pr pw ph) else (0:Nat))∧(0:Int)≤(↑((2:Nat) ^ Int.toNat a_2 - (1:Nat)):Int)∧
 (↑((2:Nat) ^ Int.toNat a_2 - (1:Nat)):Int) < (18446744073709551616:Int))∧At ((List.length (ltL pr pw ph n a (Int.toNat a_2))=List.length (ltL pr pw ph n a (Int.toNat a_2)) * (1:Nat)∧
 (1:Nat) * (1:Nat)≤List.length [(↑(List.length (fitL (bif goodZ pr pw ph n a then candL pr pw ph n a (textsZ pr pw ph) else []) (↑((2:Nat) ^ Int.toNat a_2 - (1:Nat)):Int) (bif goodZ pr pw ph n a then List.length (textsZ pr pw ph) else (0:Nat)))):Int)])∧
 posM Kind.row (1:Nat)∧List.length (ltL pr pw ph n a (Int.toNat a_2)) + (1:Nat)≤(1000000000:Nat))∧(True∧(((1:Nat)=(1:Nat)∧(0:Nat)=(0:Nat))∧((2:Nat)=(2:Nat)∧
 (bif goodZ pr pw ph n a then List.length (textsZ pr pw ph) else (0:Nat))=bif goodZ pr pw ph n a then List.length (textsZ pr pw ph) else (0:Nat))∧((3:Nat)=(3:Nat)∧
 List.length (ltL pr pw ph n a (Int.toNat a_2)) + (1:Nat)=List.length (ltL pr pw ph n a (Int.toNat (IntKind.wrap .i64 (a_2 + (1:Int))))))∧(True∧
 IntKind.wrap .i64 ((↑n:Int) + (1:Int))=IntKind.wrap .i64 ((↑n:Int) + (1:Int)))∧(True∧IntKind.wrap .i64 (a_2 + (1:Int))=IntKind.wrap .i64 (a_2 + (1:Int)))∧True)∧((True∧IntKind.i64=IntKind.i64∧a=a)∧(True∧pr=pr∧(True∧
 pw=pw)∧(True∧ph=ph)∧((0:Nat)=(0:Nat)∧n=n)∧True)∧(True∧True∧(bif goodZ pr pw ph n a then candL pr pw ph n a (textsZ pr pw ph) else [])=bif goodZ pr pw ph n a then candL pr pw ph n a (textsZ pr pw ph) else [])∧(True∧
 IntKind.i64=IntKind.i64∧
 ltL pr pw ph n a (Int.toNat a_2) ++ List.take ((1:Nat) * (1:Nat)) [(↑(List.length (fitL (bif goodZ pr pw ph n a then candL pr pw ph n a (textsZ pr pw ph) else []) (↑((2:Nat) ^ Int.toNat a_2 - (1:Nat)):Int) (bif goodZ pr pw ph n a then List.length (textsZ pr pw ph) else (0:Nat)))):Int)]=ltL pr pw ph n a (Int.toNat (IntKind.wrap .i64 (a_2 + (1:Int)))))∧
 True)∧True)∧At (k1Inv n (IntKind.wrap .i64 (a_2 + (1:Int)))∧Int.toNat ((↑n:Int) + (1:Int) - IntKind.wrap .i64 (a_2 + (1:Int))) < Int.toNat ((↑n:Int) + (1:Int) - a_2)))∧
 (decide (a_2 < IntKind.wrap .i64 ((↑n:Int) + (1:Int)))=false→
 K (V.tup [V.row (3:Nat) (List.length (ltL pr pw ph n a (Int.toNat a_2))),V.lit true]) [⟨Cells.ints .i64 a,83,Kind.rows (3:Nat)⟩,⟨Cells.vals [V.str pr,V.int .i64 pw,V.int .i64 ph,V.row (0:Nat) n],31,Kind.box⟩,⟨Cells.recs [Sh.str,Sh.int IntKind.u64] (bif goodZ pr pw ph n a then candL pr pw ph n a (textsZ pr pw ph) else []),102,Kind.rows (2:Nat)⟩,⟨Cells.ints .i64 (ltL pr pw ph n a (Int.toNat a_2)),3,Kind.row⟩]))
def VC_spec_BestClue (pr:List UInt8)(pw:Int)(ph:Int)(n:Nat)(a:List Int)(K:V → List Blk → Prop):Prop:=
 At (List.length a=n * (3:Nat)∧n≤(2000000:Nat))∧((!goodZ pr pw ph n a)=true→
 K (V.tup [V.int .i64 (0:Int),V.lit false]) [⟨Cells.ints .i64 a,83,Kind.rows (3:Nat)⟩,⟨Cells.vals [V.str pr,V.int .i64 pw,V.int .i64 ph,V.row (0:Nat) n],31,Kind.box⟩])∧
 ((!goodZ pr pw ph n a)=false→(((↑n:Int)==(0:Int))=true→
 K (V.tup [V.int .i64 (0:Int),V.lit false]) [⟨Cells.ints .i64 a,83,Kind.rows (3:Nat)⟩,⟨Cells.vals [V.str pr,V.int .i64 pw,V.int .i64 ph,V.row (0:Nat) n],31,Kind.box⟩])∧(((↑n:Int)==(0:Int))=false→
 (True∧(((1:Nat)=(1:Nat)∧(0:Nat)=(0:Nat))∧(True∧(0:Int)=Prod.fst (bsQ pr pw ph n a (Int.toNat (0:Int))))∧(True∧(0:Int)=bif (0:Int)==(0:Int) then (0:Int) else Prod.snd (bsQ pr pw ph n a (Int.toNat (0:Int))))∧(True∧
 (↑n:Int)=(↑n:Int))∧(True∧(0:Int)=(0:Int))∧True)∧((True∧IntKind.i64=IntKind.i64∧a=a)∧(True∧pr=pr∧(True∧pw=pw)∧(True∧ph=ph)∧((0:Nat)=(0:Nat)∧n=n)∧True)∧True)∧True)∧At (kInv n (0:Int))∧∀(a_3:Int),kInv n a_3→
 (decide (a_3 < (↑n:Int))=true→True∧At ((0:Int)≤a_3∧a_3≤IntKind.wrap .i64 (a_3 + (1:Int))∧IntKind.wrap .i64 (a_3 + (1:Int))≤(↑n:Int)∧n * (3:Nat)≤Cells.len (Cells.ints .i64 a))∧
 At (goodZ pr pw ph (Int.toNat (IntKind.wrap .i64 (a_3 + (1:Int))) - Int.toNat a_3) (List.take ((Int.toNat (IntKind.wrap .i64 (a_3 + (1:Int))) - Int.toNat a_3) * (3:Nat)) (List.drop (Int.toNat a_3 * (3:Nat)) a))=true∧
 List.length (List.take ((Int.toNat (IntKind.wrap .i64 (a_3 + (1:Int))) - Int.toNat a_3) * (3:Nat)) (List.drop (Int.toNat a_3 * (3:Nat)) a))=(Int.toNat (IntKind.wrap .i64 (a_3 + (1:Int))) - Int.toNat a_3) * (3:Nat))∧
 ((a_3==(0:Int))=true→(True∧(((1:Nat)=(1:Nat)∧(0:Nat)=(0:Nat))∧(True∧a_3=Prod.fst (bsQ pr pw ph n a (Int.toNat (IntKind.wrap .i64 (a_3 + (1:Int))))))∧(True∧
 (↑(List.length (solZ pr pw ph (Int.toNat (IntKind.wrap .i64 (a_3 + (1:Int))) - Int.toNat a_3) (List.take ((Int.toNat (IntKind.wrap .i64 (a_3 + (1:Int))) - Int.toNat a_3) * (3:Nat)) (List.drop (Int.toNat a_3 * (3:Nat)) a)))):Int)=bif IntKind.wrap .i64 (a_3 + (1:Int))==(0:Int) then (0:Int) else Prod.snd (bsQ pr pw ph n a (Int.toNat (IntKind.wrap .i64 (a_3 + (1:Int))))))∧
 (True∧(↑n:Int)=(↑n:Int))∧(True∧IntKind.wrap .i64 (a_3 + (1:Int))=IntKind.wrap .i64 (a_3 + (1:Int)))∧True)∧((True∧IntKind.i64=IntKind.i64∧a=a)∧(True∧pr=pr∧(True∧pw=pw)∧(True∧ph=ph)∧((0:Nat)=(0:Nat)∧n=n)∧True)∧True)∧True)∧
 At (kInv n (IntKind.wrap .i64 (a_3 + (1:Int)))∧Int.toNat ((↑n:Int) - IntKind.wrap .i64 (a_3 + (1:Int))) < Int.toNat ((↑n:Int) - a_3)))∧((a_3==(0:Int))=false→
 (decide ((↑(List.length (solZ pr pw ph (Int.toNat (IntKind.wrap .i64 (a_3 + (1:Int))) - Int.toNat a_3) (List.take ((Int.toNat (IntKind.wrap .i64 (a_3 + (1:Int))) - Int.toNat a_3) * (3:Nat)) (List.drop (Int.toNat a_3 * (3:Nat)) a)))):Int) < bif a_3==(0:Int) then (0:Int) else Prod.snd (bsQ pr pw ph n a (Int.toNat a_3)))=true→
 (True∧(((1:Nat)=(1:Nat)∧(0:Nat)=(0:Nat))∧(True∧a_3=Prod.fst (bsQ pr pw ph n a (Int.toNat (IntKind.wrap .i64 (a_3 + (1:Int))))))∧(True∧
 (↑(List.length (solZ pr pw ph (Int.toNat (IntKind.wrap .i64 (a_3 + (1:Int))) - Int.toNat a_3) (List.take ((Int.toNat (IntKind.wrap .i64 (a_3 + (1:Int))) - Int.toNat a_3) * (3:Nat)) (List.drop (Int.toNat a_3 * (3:Nat)) a)))):Int)=bif IntKind.wrap .i64 (a_3 + (1:Int))==(0:Int) then (0:Int) else Prod.snd (bsQ pr pw ph n a (Int.toNat (IntKind.wrap .i64 (a_3 + (1:Int))))))∧
 (True∧(↑n:Int)=(↑n:Int))∧(True∧IntKind.wrap .i64 (a_3 + (1:Int))=IntKind.wrap .i64 (a_3 + (1:Int)))∧True)∧((True∧IntKind.i64=IntKind.i64∧a=a)∧(True∧pr=pr∧(True∧pw=pw)∧(True∧ph=ph)∧((0:Nat)=(0:Nat)∧n=n)∧True)∧True)∧True)∧
 At (kInv n (IntKind.wrap .i64 (a_3 + (1:Int)))∧Int.toNat ((↑n:Int) - IntKind.wrap .i64 (a_3 + (1:Int))) < Int.toNat ((↑n:Int) - a_3)))∧
 (decide ((↑(List.length (solZ pr pw ph (Int.toNat (IntKind.wrap .i64 (a_3 + (1:Int))) - Int.toNat a_3) (List.take ((Int.toNat (IntKind.wrap .i64 (a_3 + (1:Int))) - Int.toNat a_3) * (3:Nat)) (List.drop (Int.toNat a_3 * (3:Nat)) a)))):Int) < bif a_3==(0:Int) then (0:Int) else Prod.snd (bsQ pr pw ph n a (Int.toNat a_3)))=false→
 (True∧(((1:Nat)=(1:Nat)∧(0:Nat)=(0:Nat))∧(True∧Prod.fst (bsQ pr pw ph n a (Int.toNat a_3))=Prod.fst (bsQ pr pw ph n a (Int.toNat (IntKind.wrap .i64 (a_3 + (1:Int))))))∧(True∧
 (bif a_3==(0:Int) then (0:Int) else Prod.snd (bsQ pr pw ph n a (Int.toNat a_3)))=bif IntKind.wrap .i64 (a_3 + (1:Int))==(0:Int) then (0:Int) else Prod.snd (bsQ pr pw ph n a (Int.toNat (IntKind.wrap .i64 (a_3 + (1:Int))))))∧
 (True∧(↑n:Int)=(↑n:Int))∧(True∧IntKind.wrap .i64 (a_3 + (1:Int))=IntKind.wrap .i64 (a_3 + (1:Int)))∧True)∧((True∧IntKind.i64=IntKind.i64∧a=a)∧(True∧pr=pr∧(True∧pw=pw)∧(True∧ph=ph)∧((0:Nat)=(0:Nat)∧n=n)∧True)∧True)∧True)∧
 At (kInv n (IntKind.wrap .i64 (a_3 + (1:Int)))∧Int.toNat ((↑n:Int) - IntKind.wrap .i64 (a_3 + (1:Int))) < Int.toNat ((↑n:Int) - a_3)))))∧(decide (a_3 < (↑n:Int))=false→
 K (V.tup [V.int .i64 (Prod.fst (bsQ pr pw ph n a (Int.toNat a_3))),V.lit true]) [⟨Cells.ints .i64 a,83,Kind.rows (3:Nat)⟩,⟨Cells.vals [V.str pr,V.int .i64 pw,V.int .i64 ph,V.row (0:Nat) n],31,Kind.box⟩])))
def VC_impl_BestClue (pr:List UInt8)(pw:Int)(ph:Int)(n:Nat)(a:List Int)(K:V → List Blk → Prop):Prop:=
 At (List.length a=n * (3:Nat)∧n≤(2000000:Nat))∧((!goodZ pr pw ph n a)=true→
 K (V.tup [V.int .i64 (0:Int),V.lit false]) [⟨Cells.ints .i64 a,83,Kind.rows (3:Nat)⟩,⟨Cells.vals [V.str pr,V.int .i64 pw,V.int .i64 ph,V.row (0:Nat) n],31,Kind.box⟩,⟨Cells.recs [Sh.str,Sh.int IntKind.u64] (bif goodZ pr pw ph n a then candL pr pw ph n a (textsZ pr pw ph) else []),102,Kind.rows (2:Nat)⟩])∧
 ((!goodZ pr pw ph n a)=false→(((↑n:Int)==(0:Int))=true→
 K (V.tup [V.int .i64 (0:Int),V.lit false]) [⟨Cells.ints .i64 a,83,Kind.rows (3:Nat)⟩,⟨Cells.vals [V.str pr,V.int .i64 pw,V.int .i64 ph,V.row (0:Nat) n],31,Kind.box⟩,⟨Cells.recs [Sh.str,Sh.int IntKind.u64] (bif goodZ pr pw ph n a then candL pr pw ph n a (textsZ pr pw ph) else []),102,Kind.rows (2:Nat)⟩])∧
 (((↑n:Int)==(0:Int))=false→(True∧(((1:Nat)=(1:Nat)∧(0:Nat)=(0:Nat))∧((2:Nat)=(2:Nat)∧
 (bif goodZ pr pw ph n a then List.length (textsZ pr pw ph) else (0:Nat))=bif goodZ pr pw ph n a then List.length (textsZ pr pw ph) else (0:Nat))∧(True∧(0:Int)=Prod.fst (bsQ pr pw ph n a (Int.toNat (0:Int))))∧(True∧
 (↑(bif goodZ pr pw ph n a then List.length (textsZ pr pw ph) else (0:Nat)):Int)=Prod.snd (bsQ pr pw ph n a (Int.toNat (0:Int))))∧(True∧(↑n:Int)=(↑n:Int))∧(True∧(0:Int)=(0:Int))∧True)∧((True∧IntKind.i64=IntKind.i64∧a=a)∧
 (True∧pr=pr∧(True∧pw=pw)∧(True∧ph=ph)∧((0:Nat)=(0:Nat)∧n=n)∧True)∧(True∧True∧
 (bif goodZ pr pw ph n a then candL pr pw ph n a (textsZ pr pw ph) else [])=bif goodZ pr pw ph n a then candL pr pw ph n a (textsZ pr pw ph) else [])∧True)∧True)∧At (kInv n (0:Int))∧∀(a_3:Int),kInv n a_3→
 (decide (a_3 < (↑n:Int))=true→At ((0:Int)≤a_3∧a_3≤(60:Int))∧At (goodL (bif goodZ pr pw ph n a then candL pr pw ph n a (textsZ pr pw ph) else []) (bif goodZ pr pw ph n a then List.length (textsZ pr pw ph) else (0:Nat))∧
 (0:Int)≤(↑((2:Nat) ^ Int.toNat a_3):Int)∧(↑((2:Nat) ^ Int.toNat a_3):Int) < (18446744073709551616:Int))∧
 (decide ((↑(List.length (fitL (bif goodZ pr pw ph n a then candL pr pw ph n a (textsZ pr pw ph) else []) (↑((2:Nat) ^ Int.toNat a_3):Int) (bif goodZ pr pw ph n a then List.length (textsZ pr pw ph) else (0:Nat)))):Int) < Prod.snd (bsQ pr pw ph n a (Int.toNat a_3)))=true→
 (True∧(((1:Nat)=(1:Nat)∧(0:Nat)=(0:Nat))∧((2:Nat)=(2:Nat)∧(bif goodZ pr pw ph n a then List.length (textsZ pr pw ph) else (0:Nat))=bif goodZ pr pw ph n a then List.length (textsZ pr pw ph) else (0:Nat))∧(True∧
 a_3=Prod.fst (bsQ pr pw ph n a (Int.toNat (IntKind.wrap .i64 (a_3 + (1:Int))))))∧(True∧
 (↑(List.length (fitL (bif goodZ pr pw ph n a then candL pr pw ph n a (textsZ pr pw ph) else []) (↑((2:Nat) ^ Int.toNat a_3):Int) (bif goodZ pr pw ph n a then List.length (textsZ pr pw ph) else (0:Nat)))):Int)=Prod.snd (bsQ pr pw ph n a (Int.toNat (IntKind.wrap .i64 (a_3 + (1:Int))))))∧
 (True∧(↑n:Int)=(↑n:Int))∧(True∧IntKind.wrap .i64 (a_3 + (1:Int))=IntKind.wrap .i64 (a_3 + (1:Int)))∧True)∧((True∧IntKind.i64=IntKind.i64∧a=a)∧(True∧pr=pr∧(True∧pw=pw)∧(True∧ph=ph)∧((0:Nat)=(0:Nat)∧n=n)∧True)∧(True∧True∧
 (bif goodZ pr pw ph n a then candL pr pw ph n a (textsZ pr pw ph) else [])=bif goodZ pr pw ph n a then candL pr pw ph n a (textsZ pr pw ph) else [])∧True)∧True)∧At (kInv n (IntKind.wrap .i64 (a_3 + (1:Int)))∧
 Int.toNat ((↑n:Int) - IntKind.wrap .i64 (a_3 + (1:Int))) < Int.toNat ((↑n:Int) - a_3)))∧
 (decide ((↑(List.length (fitL (bif goodZ pr pw ph n a then candL pr pw ph n a (textsZ pr pw ph) else []) (↑((2:Nat) ^ Int.toNat a_3):Int) (bif goodZ pr pw ph n a then List.length (textsZ pr pw ph) else (0:Nat)))):Int) < Prod.snd (bsQ pr pw ph n a (Int.toNat a_3)))=false→
 (True∧(((1:Nat)=(1:Nat)∧(0:Nat)=(0:Nat))∧((2:Nat)=(2:Nat)∧(bif goodZ pr pw ph n a then List.length (textsZ pr pw ph) else (0:Nat))=bif goodZ pr pw ph n a then List.length (textsZ pr pw ph) else (0:Nat))∧(True∧
 Prod.fst (bsQ pr pw ph n a (Int.toNat a_3))=Prod.fst (bsQ pr pw ph n a (Int.toNat (IntKind.wrap .i64 (a_3 + (1:Int))))))∧(True∧
 Prod.snd (bsQ pr pw ph n a (Int.toNat a_3))=Prod.snd (bsQ pr pw ph n a (Int.toNat (IntKind.wrap .i64 (a_3 + (1:Int))))))∧(True∧(↑n:Int)=(↑n:Int))∧(True∧
 IntKind.wrap .i64 (a_3 + (1:Int))=IntKind.wrap .i64 (a_3 + (1:Int)))∧True)∧((True∧IntKind.i64=IntKind.i64∧a=a)∧(True∧pr=pr∧(True∧pw=pw)∧(True∧ph=ph)∧((0:Nat)=(0:Nat)∧n=n)∧True)∧(True∧True∧
 (bif goodZ pr pw ph n a then candL pr pw ph n a (textsZ pr pw ph) else [])=bif goodZ pr pw ph n a then candL pr pw ph n a (textsZ pr pw ph) else [])∧True)∧True)∧At (kInv n (IntKind.wrap .i64 (a_3 + (1:Int)))∧
 Int.toNat ((↑n:Int) - IntKind.wrap .i64 (a_3 + (1:Int))) < Int.toNat ((↑n:Int) - a_3))))∧(decide (a_3 < (↑n:Int))=false→
 K (V.tup [V.int .i64 (Prod.fst (bsQ pr pw ph n a (Int.toNat a_3))),V.lit true]) [⟨Cells.ints .i64 a,83,Kind.rows (3:Nat)⟩,⟨Cells.vals [V.str pr,V.int .i64 pw,V.int .i64 ph,V.row (0:Nat) n],31,Kind.box⟩,⟨Cells.recs [Sh.str,Sh.int IntKind.u64] (bif goodZ pr pw ph n a then candL pr pw ph n a (textsZ pr pw ph) else []),102,Kind.rows (2:Nat)⟩])))
end Go.Vi

/- Needless clues, clues left, the best clue, harder puzzles: the conditions hold. -/
namespace Go.Vi
/-! ### sets of clues -/
theorem getD_app {a b : List Int} {i : Nat} (h : i < a.length) : (a ++ b).getD i 0 = a.getD i 0 := by
 simp only [List.getD_eq_getElem?_getD, List.getElem?_append_left h]
theorem fitAt_app {r : List UInt8} {w h : Int} {a b : List Int} {t : List UInt8} {i : Nat} (hi : (i + 1) * 3 <= a.length) : fitAt r w h (a ++ b) t i = fitAt r w h a t i := by
 unfold fitAt
 rw [getD_app (by omega), getD_app (by omega), getD_app (by omega)]
theorem fitsN_app {r : List UInt8} {w h : Int} {a b : List Int} {t : List UInt8} : ∀ {k : Nat}, k * 3 <= a.length -> fitsN r w h (a ++ b) t k = fitsN r w h a t k
 | 0, _ => rfl
 | k + 1, hk => by
  simp only [fitsN]
  rw [fitsN_app (by omega), fitAt_app hk]
theorem cluAt_app {a b : List Int} {i : Nat} {c k : Int} (hi : (i + 1) * 3 <= a.length) : cluAt (a ++ b) i c k = cluAt a i c k := by
 unfold cluAt
 rw [getD_app (by omega), getD_app (by omega), getD_app (by omega)]
theorem allC_app {a b : List Int} {c k : Int} : ∀ {n : Nat}, n * 3 <= a.length -> allC (a ++ b) c k n = allC a c k n
 | 0, _ => rfl
 | n + 1, hn => by
  simp only [allC]
  rw [allC_app (by omega), cluAt_app hn]
theorem getD_last {l : List Int} {x y z : Int} {k : Nat} (h : l.length = k * 3) : (l ++ [x, y, z]).getD (k * 3) 0 = x /\ (l ++ [x, y, z]).getD (k * 3 + 1) 0 = y /\ (l ++ [x, y, z]).getD (k * 3 + 1 + 1) 0 = z := by
 rw [<- h]
 simp only [List.getD_eq_getElem?_getD, List.getElem?_append_right (Nat.le_refl _), List.getElem?_append_right (Nat.le_add_right _ 1), List.getElem?_append_right (show l.length <= l.length + 1 + 1 by omega), Nat.sub_self, Nat.add_sub_cancel_left, Nat.add_assoc]
 exact ⟨rfl, rfl, rfl⟩
/-- All clues of a set fit. -/
def bitsFit (r : List UInt8) (w h : Int) (a : List Int) (t : List UInt8) (m : Int) : Nat -> Bool
 | 0 => true
 | i + 1 => bitsFit r w h a t m i && (!m.toNat.testBit i || fitAt r w h a t i)
theorem keep_fits {r : List UInt8} {w h : Int} {a : List Int} {t : List UInt8} {m : Int} : ∀ i, fitsN r w h (keepL a m i) t (keepN m i) = bitsFit r w h a t m i
 | 0 => rfl
 | i + 1 => by
  have hl := keepL_len a m i
  simp only [keepL, keepN, bitsFit]
  cases m.toNat.testBit i
  ·simp only [cond_false, List.append_nil, Nat.add_zero, Bool.not_false, Bool.true_or, Bool.and_true]
   exact keep_fits i
  ·simp only [cond_true, fitsN, Bool.not_true, Bool.false_or]
   obtain ⟨h1, h2, h3⟩ := getD_last (x := a.getD (i * 3) 0) (y := a.getD (i * 3 + 1) 0) (z := a.getD (i * 3 + 1 + 1) 0) hl
   rw [fitsN_app (by omega), keep_fits i]
   congr 1
   unfold fitAt
   rw [h1, h2, h3]
theorem keep_allC {a : List Int} {m c k : Int} : ∀ {i : Nat}, allC a c k i = true -> allC (keepL a m i) c k (keepN m i) = true
 | 0, _ => rfl
 | i + 1, h => by
  have hl := keepL_len a m i
  simp only [allC, Bool.and_eq_true] at h
  have ih := keep_allC (m := m) h.1
  simp only [keepL, keepN]
  cases m.toNat.testBit i
  ·simpa only [cond_false, List.append_nil, Nat.add_zero] using ih
  ·simp only [cond_true, allC, Bool.and_eq_true]
   obtain ⟨h1, h2, h3⟩ := getD_last (x := a.getD (i * 3) 0) (y := a.getD (i * 3 + 1) 0) (z := a.getD (i * 3 + 1 + 1) 0) hl
   refine ⟨by rw [allC_app (by omega)]; exact ih, ?_⟩
   unfold cluAt
   rw [h1, h2, h3]
   exact h.2
theorem keep_good {r : List UInt8} {w h : Int} {n : Nat} {a : List Int} {m : Int} (hg : goodZ r w h n a = true) : goodZ r w h (keepN m n) (keepL a m n) = true := by
 have hle := keepN_le m n
 simp only [goodZ, Bool.and_eq_true, decide_eq_true_eq] at hg ⊢
 exact ⟨⟨hg.1.1, by omega⟩, keep_allC hg.2⟩
theorem maskN_bit (r : List UInt8) (w h : Int) (a : List Int) (t : List UInt8) (j : Nat) : ∀ i, (maskN r w h a t i).testBit j = (decide (j < i) && fitAt r w h a t j)
 | 0 => by simp [maskN]
 | i + 1 => by
  simp only [maskN]
  by_cases hj : j = i
  ·subst hj
   have h1 := maskN_bit r w h a t j j
   cases hf : fitAt r w h a t j <;> simp [h1, hf, Nat.testBit_or]
  ·have h1 := maskN_bit r w h a t j i
   have h2 : (2 ^ i).testBit j = false := by rw [Nat.testBit_two_pow]; simp; omega
   cases hf : fitAt r w h a t i
   ·simp only [cond_false, h1]
    congr 1
    simp only [decide_eq_decide]
    omega
   ·simp only [cond_true, Nat.testBit_or, h1, h2, Bool.or_false]
    congr 1
    simp only [decide_eq_decide]
    omega
theorem bitsFit_iff {r : List UInt8} {w h : Int} {a : List Int} {t : List UInt8} {m : Int} : ∀ {n : Nat}, bitsFit r w h a t m n = true ↔ ∀ j, j < n -> m.toNat.testBit j = true -> fitAt r w h a t j = true
 | 0 => by simp [bitsFit]
 | n + 1 => by
  simp only [bitsFit, Bool.and_eq_true, bitsFit_iff (n := n), Bool.or_eq_true, Bool.not_eq_true']
  constructor
  ·rintro ⟨h1, h2⟩ j hj hb
   by_cases he : j = n
   ·subst he
    rcases h2 with h2 | h2
    ·rw [h2] at hb; cases hb
    ·exact h2
   ·exact h1 j (by omega) hb
  ·intro h
   refine ⟨fun j hj => h j (by omega), ?_⟩
   cases hb : m.toNat.testBit n
   ·exact .inl rfl
   ·exact .inr (h n (by omega) hb)
theorem allIn2_bits {r : List UInt8} {w h : Int} {a : List Int} {t : List UInt8} {m : Int} {n : Nat} (hm : 0 <= m) (hn : m.toNat < 2 ^ n) : allIn2 ((maskN r w h a t n : Nat) : Int) m = bitsFit r w h a t m n := by
 apply Bool.eq_iff_iff.2
 rw [bitsFit_iff]
 unfold allIn2
 rw [beq_iff_eq, Int.toNat_natCast]
 constructor
 ·intro he j hj hb
  have he : maskN r w h a t n &&& m.toNat = m.toNat := by omega
  have := congrArg (·.testBit j) he
  simp only [Nat.testBit_and, maskN_bit, hb, decide_eq_true hj, Bool.true_and, Bool.and_true] at this
  exact this
 ·intro hf
  have he : maskN r w h a t n &&& m.toNat = m.toNat := by
   apply Nat.eq_of_testBit_eq
   intro j
   rw [Nat.testBit_and, maskN_bit]
   by_cases hj : j < n
   ·cases hb : m.toNat.testBit j
    ·simp
    ·simp [hf j hj hb, hj]
   ·have : m.toNat.testBit j = false := Nat.testBit_lt_two_pow (Nat.lt_of_lt_of_le hn (Nat.pow_le_pow_right (by omega) (by omega)))
    simp [this]
  rw [he]
  omega
theorem fitL_set {r : List UInt8} {w h : Int} {n : Nat} {a : List Int} {l : List (List UInt8)} {m : Int} (hm : 0 <= m) (hn : m.toNat < 2 ^ n) : ∀ i, i <= l.length -> fitL (candL r w h n a l) m i = (l.take i).filter fun t => fitsN r w h (keepL a m n) t (keepN m n)
 | 0, _ => by simp [fitL]
 | i + 1, hi => by
  have hg := candL_get (r := r) (w := w) (h := h) (n := n) (a := a) (show i < l.length by omega)
  rw [fitL, fitL_set hm hn i (by omega), hg.1, hg.2, List.take_succ_eq_append_getElem (by omega), List.filter_append, allIn2_bits hm hn, <- keep_fits]
  congr 1
  simp only [List.getD_eq_getElem?_getD, List.getElem?_eq_getElem (show i < l.length by omega), Option.getD_some, List.filter_cons, List.filter_nil]
  cases fitsN r w h (keepL a m n) l[i] (keepN m n) <;> simp
theorem fit_cnt {r : List UInt8} {w h : Int} {n : Nat} {a : List Int} {m : Int} (hm : 0 <= m) (hn : m.toNat < 2 ^ n) : (fitL (candL r w h n a (textsZ r w h)) m (textsZ r w h).length).length = cntM r w h n a m := by
 rw [fitL_set hm hn _ (Nat.le_refl _), List.take_length]
 rfl
/-! ### all of them, the first ones, one alone, all but one -/
theorem keep_all {a : List Int} {m : Int} : ∀ {i : Nat}, i * 3 <= a.length -> (∀ j, j < i -> m.toNat.testBit j = true) -> keepL a m i = a.take (i * 3) /\ keepN m i = i
 | 0, _, _ => by simp [keepL, keepN]
 | i + 1, hi, hb => by
  obtain ⟨h1, h2⟩ := keep_all (a := a) (m := m) (i := i) (by omega) (fun j hj => hb j (by omega))
  simp only [keepL, keepN, h1, h2, hb i (by omega), cond_true, take3 hi]
  exact ⟨trivial, trivial⟩
theorem keep_stay {a : List Int} {m : Int} {i : Nat} : ∀ {d : Nat}, (∀ j, i <= j -> j < i + d -> m.toNat.testBit j = false) -> keepL a m (i + d) = keepL a m i /\ keepN m (i + d) = keepN m i
 | 0, _ => ⟨rfl, rfl⟩
 | d + 1, hb => by
  obtain ⟨h1, h2⟩ := keep_stay (a := a) (m := m) (i := i) (d := d) (fun j h1 h2 => hb j h1 (by omega))
  have e : i + (d + 1) = (i + d) + 1 := by omega
  rw [e]
  simp only [keepL, keepN, h1, h2, hb (i + d) (by omega) (by omega), cond_false, List.append_nil, Nat.add_zero]
  exact ⟨trivial, trivial⟩
theorem full_bit {n j : Nat} : (fullM n).toNat.testBit j = decide (j < n) := by
 unfold fullM
 rw [Int.toNat_natCast, Nat.testBit_two_pow_sub_one]
theorem full_bd (n : Nat) : 0 <= fullM n /\ (fullM n).toNat < 2 ^ n := by
 unfold fullM
 have := Nat.two_pow_pos n
 omega
theorem pow60 {n : Nat} (h : n <= 60) : 2 ^ n <= 1152921504606846976 := Nat.le_trans (Nat.pow_le_pow_right (by omega) h) (by decide)
theorem cnt_full {r : List UInt8} {w h : Int} {n : Nat} {a : List Int} (ha : a.length = n * 3) : cntM r w h n a (fullM n) = (solZ r w h n a).length := by
 obtain ⟨h1, h2⟩ := keep_all (a := a) (m := fullM n) (i := n) (by omega) (fun j hj => by rw [full_bit, decide_eq_true hj])
 unfold cntM
 rw [h1, h2, List.take_of_length_le (by omega)]
theorem keep_first {a : List Int} {n k : Nat} (ha : a.length = n * 3) (hk : k <= n) : keepL a (firstM k) n = a.take (k * 3) /\ keepN (firstM k) n = k := by
 have hb : ∀ j, (firstM k).toNat.testBit j = decide (j < k) := fun j => full_bit (n := k)
 obtain ⟨h1, h2⟩ := keep_all (a := a) (m := firstM k) (i := k) (by omega) (fun j hj => by rw [hb, decide_eq_true hj])
 obtain ⟨h3, h4⟩ := keep_stay (a := a) (m := firstM k) (i := k) (d := n - k) (fun j h1 h2 => by rw [hb]; simp; omega)
 rw [show k + (n - k) = n by omega] at h3 h4
 exact ⟨h3.trans h1, h4.trans h2⟩
theorem keep_one {a : List Int} {n k : Nat} (ha : a.length = n * 3) (hk : k < n) : keepL a (oneM k) n = (a.drop (k * 3)).take 3 /\ keepN (oneM k) n = 1 := by
 have hb : ∀ j, (oneM k).toNat.testBit j = decide (k = j) := fun j => by unfold oneM; rw [Int.toNat_natCast, Nat.testBit_two_pow]
 obtain ⟨h1, h2⟩ := keep_stay (a := a) (m := oneM k) (i := 0) (d := k) (fun j h1 h2 => by rw [hb]; simp; omega)
 obtain ⟨h3, h4⟩ := keep_stay (a := a) (m := oneM k) (i := k + 1) (d := n - (k + 1)) (fun j h1 h2 => by rw [hb]; simp; omega)
 rw [show k + 1 + (n - (k + 1)) = n by omega] at h3 h4
 rw [Nat.zero_add] at h1 h2
 rw [h3, h4]
 simp only [keepL, keepN, h1, h2, hb, decide_true, cond_true, List.nil_append, Nat.zero_add]
 refine ⟨?_, trivial⟩
 apply List.ext_getElem?
 intro i
 rw [List.getElem?_take, List.getElem?_drop]
 match i with
 | 0 => simp [List.getD_eq_getElem?_getD, List.getElem?_eq_getElem (show k * 3 < a.length by omega)]
 | 1 => simp [List.getD_eq_getElem?_getD, List.getElem?_eq_getElem (show k * 3 + 1 < a.length by omega)]
 | 2 => simp [List.getD_eq_getElem?_getD, List.getElem?_eq_getElem (show k * 3 + 1 + 1 < a.length by omega)]
 | i + 3 =>
  simp
  intro h
  omega
theorem cnt_le (r : List UInt8) (w h : Int) (n : Nat) (a : List Int) (m : Int) : cntM r w h n a m <= (textsZ r w h).length := List.length_filter_le _ _
theorem cnt_out {r : List UInt8} {w h : Int} {n : Nat} {a : List Int} {k : Nat} (ha : a.length = n * 3) (hn : n <= 60) (hk : k < n) : cntM r w h n a (wout (fullM n) k) = (solZ r w h (n - 1) (wo3 a k)).length := by
 obtain ⟨h1, h2⟩ := out_all ha hn hk
 unfold cntM
 rw [show fullM n = ((2 ^ n - 1 : Nat) : Int) from rfl, h1, h2]
theorem wout_le (m : Int) (k : Nat) : (wout m k).toNat <= m.toNat := by
 unfold wout
 rw [Int.toNat_natCast]
 exact Nat.and_le_left
/-! ### the conditions -/
theorem retG_ni0 {a : List Int} {e e' : TypeId} {rest : List Blk} : retG 1 (.tup [.row 1 0, .bool false]) [⟨.ints .i64 a, e, .rows 3⟩, ⟨.ints .i64 [], e', .row⟩] (.tup [.raw (.slice none 0 0), .lit false]) (⟨.ints .i64 a, e, .rows 3⟩ :: rest) := by
 unfold retG leSel leSelBy autoSel
 simp [pairsL, pairsV, idPairs, pairsIn, selOf, lookN, selMem, chkB, nodupSel, hasSel, prefSel, leSt, leL, leV, nilToL, V.nilTo, isNilS, isGhost, findSel, selL, V.sel, Cells.selN, Cells.none0, Kind.isRow, leMem, leCells, memUnder, underL, V.under]
 exact trivial
theorem retG_ni2 {a l : List Int} {n : Nat} {e e' : TypeId} {b1 : Blk} : retG 1 (.tup [.row 1 n, .bool true]) [⟨.ints .i64 a, e, .rows 3⟩, ⟨.ints .i64 l, e', .row⟩] (.tup [.row 2 n, .lit true]) [⟨.ints .i64 a, e, .rows 3⟩, b1, ⟨.ints .i64 l, e', .row⟩] := by
 unfold retG leSel leSelBy autoSel
 simp [pairsL, pairsV, idPairs, pairsIn, selOf, lookN, selMem, chkB, nodupSel, hasSel, prefSel, leSt, leL, leV, nilToL, V.nilTo, isNilS, isGhost, findSel, selL, V.sel, Cells.selN, leMem, leCells, memUnder, underL, V.under]
 exact trivial
theorem retG_ni3 {a l : List Int} {n : Nat} {e e' : TypeId} {b1 b2 : Blk} : retG 1 (.tup [.row 1 n, .bool true]) [⟨.ints .i64 a, e, .rows 3⟩, ⟨.ints .i64 l, e', .row⟩] (.tup [.row 3 n, .lit true]) [⟨.ints .i64 a, e, .rows 3⟩, b1, b2, ⟨.ints .i64 l, e', .row⟩] := by
 unfold retG leSel leSelBy autoSel
 simp [pairsL, pairsV, idPairs, pairsIn, selOf, lookN, selMem, chkB, nodupSel, hasSel, prefSel, leSt, leL, leV, nilToL, V.nilTo, isNilS, isGhost, findSel, selL, V.sel, Cells.selN, leMem, leCells, memUnder, underL, V.under]
 exact trivial
theorem retG_ns0 {a : List Int} {e e' : TypeId} {rest : List Blk} : retG 1 (.tup [.row 1 0, .bool false]) [⟨.ints .i64 a, e, .rows 3⟩, ⟨.strs [], e', .row⟩] (.tup [.raw (.slice none 0 0), .lit false]) (⟨.ints .i64 a, e, .rows 3⟩ :: rest) := by
 unfold retG leSel leSelBy autoSel
 simp [pairsL, pairsV, idPairs, pairsIn, selOf, lookN, selMem, chkB, nodupSel, hasSel, prefSel, leSt, leL, leV, nilToL, V.nilTo, isNilS, isGhost, findSel, selL, V.sel, Cells.selN, Cells.none0, Kind.isRow, leMem, leCells, memUnder, underL, V.under]
 exact trivial
theorem retG_ns2 {a : List Int} {l : List (List UInt8)} {n : Nat} {e e' : TypeId} {b1 : Blk} : retG 1 (.tup [.row 1 n, .bool true]) [⟨.ints .i64 a, e, .rows 3⟩, ⟨.strs l, e', .row⟩] (.tup [.row 2 n, .lit true]) [⟨.ints .i64 a, e, .rows 3⟩, b1, ⟨.strs l, e', .row⟩] := by
 unfold retG leSel leSelBy autoSel
 simp [pairsL, pairsV, idPairs, pairsIn, selOf, lookN, selMem, chkB, nodupSel, hasSel, prefSel, leSt, leL, leV, nilToL, V.nilTo, isNilS, isGhost, findSel, selL, V.sel, Cells.selN, leMem, leCells, memUnder, underL, V.under]
 exact trivial
theorem retG_nk {a : List Int} {e : TypeId} {k k' : Int} {c : Bool} {x : V} {rest : List Blk} (h1 : k' = k) (hx : x = .lit c \/ x = .bool c) : retG 1 (.tup [.int .i64 k, .bool c]) [⟨.ints .i64 a, e, .rows 3⟩] (.tup [.int .i64 k', x]) (⟨.ints .i64 a, e, .rows 3⟩ :: rest) := by
 subst h1
 rcases hx with rfl | rfl
 all_goals
  unfold retG leSel leSelBy autoSel
  simp [pairsL, pairsV, idPairs, pairsIn, selOf, lookN, selMem, chkB, nodupSel, hasSel, prefSel, leSt, leL, leV, nilToL, V.nilTo, selL, V.sel, Cells.selN, leMem, leCells, memUnder, underL, V.under]
theorem vc_spec_Solutions (pr : List UInt8) (pw ph : Int) (n : Nat) (a : List Int) (h : a.length = n * 3 /\ n <= 2000000) : VC_spec_Solutions pr pw ph n a
  (retG 1 (.tup [.row 1 (bif goodZ pr pw ph n a then solZ pr pw ph n a else []).length, .bool (goodZ pr pw ph n a)]) [⟨.ints .i64 a, 83, .rows 3⟩, ⟨.strs (bif goodZ pr pw ph n a then solZ pr pw ph n a else []), 9, .row⟩]) := by
 unfold VC_spec_Solutions
 refine ⟨⟨h⟩, fun hg => ?_, fun hg => ?_⟩
 ·rw [Bool.not_eq_true'] at hg
  rw [hg]
  exact retG_ns0
 ·rw [Bool.not_eq_false'] at hg
  refine ⟨⟨hg, h.1⟩, ?_⟩
  rw [hg]
  exact retG_ns2
theorem ndL_len (r : List UInt8) (w h : Int) (n : Nat) (a : List Int) : ∀ k, (ndL r w h n a k).length <= k
 | 0 => Nat.le_refl _
 | k + 1 => by
  have := ndL_len r w h n a k
  simp only [ndL, List.length_append]
  cases cntM r w h n a (wout (fullM n) k) == cntM r w h n a (fullM n) <;> simp <;> omega
theorem ndL_yes {r : List UInt8} {w h : Int} {n : Nat} {a : List Int} {k : Int} (hk : 0 <= k) (hc : (cntM r w h n a (wout (fullM n) k.toNat) == cntM r w h n a (fullM n)) = true) : ndL r w h n a (k + 1).toNat = ndL r w h n a k.toNat ++ [k] := by
 rw [show (k + 1).toNat = k.toNat + 1 by omega]
 simp only [ndL, hc, cond_true, Int.toNat_of_nonneg hk]
theorem ndL_no {r : List UInt8} {w h : Int} {n : Nat} {a : List Int} {k : Int} (hk : 0 <= k) (hc : (cntM r w h n a (wout (fullM n) k.toNat) == cntM r w h n a (fullM n)) = false) : ndL r w h n a (k + 1).toNat = ndL r w h n a k.toNat := by
 rw [show (k + 1).toNat = k.toNat + 1 by omega]
 simp only [ndL, hc, cond_false, List.append_nil]
theorem beqN {x y : Nat} : (((x : Nat) : Int) == ((y : Nat) : Int)) = (x == y) := by
 rw [Bool.eq_iff_iff, beq_iff_eq, beq_iff_eq]
 omega
theorem good_wo {r : List UInt8} {w h : Int} {n : Nat} {a : List Int} {k : Nat} (hg : goodZ r w h n a = true) (ha : a.length = n * 3) (hk : k < n) : goodZ r w h (n - 1) (wo3 a k) = true := by
 obtain ⟨_, hn, _, _⟩ := goodZ_in hg
 obtain ⟨h1, h2⟩ := out_all ha (by omega) hk
 have := keep_good (m := wout ((2 ^ n - 1 : Nat) : Int) k) hg
 rwa [h1, h2] at this
theorem vc_spec_NeedlessClues (pr : List UInt8) (pw ph : Int) (n : Nat) (a : List Int) (h : a.length = n * 3 /\ n <= 2000000) : VC_spec_NeedlessClues pr pw ph n a
  (retG 1 (.tup [.row 1 (ndB pr pw ph n a).length, .bool (goodZ pr pw ph n a)]) [⟨.ints .i64 a, 83, .rows 3⟩, ⟨.ints .i64 (ndB pr pw ph n a), 3, .row⟩]) := by
 unfold VC_spec_NeedlessClues ndB
 refine ⟨⟨h⟩, fun hg => ?_, fun hg => ?_⟩
 ·rw [Bool.not_eq_true'] at hg
  rw [hg]
  exact retG_ni0
 ·rw [Bool.not_eq_false'] at hg
  obtain ⟨_, hn, _, _⟩ := goodZ_in hg
  rw [hg]
  refine ⟨⟨rfl, h.1⟩, by simp [ndL], ⟨Int.le_refl _, by omega⟩, fun k hk => ⟨fun hc => ?_, fun hc => ?_⟩⟩
  ·have hc := of_decide_eq_true hc
   obtain ⟨k1, k2⟩ := hk
   have hle := ndL_len pr pw ph n a k.toNat
   rw [wrap64_in (x := k + 1) (by omega), beqN, <- cnt_out (r := pr) (w := pw) (h := ph) h.1 (by omega) (show k.toNat < n by omega), <- cnt_full (r := pr) (w := pw) (h := ph) h.1]
   have hi : kInv n (k + 1) /\ ((n : Int) - (k + 1)).toNat < ((n : Int) - k).toNat := ⟨⟨by omega, by omega⟩, by omega⟩
   have hp : (a.length = n * 3 /\ n <= 2000000 /\ 0 <= k /\ k < n) := ⟨h.1, h.2, k1, hc⟩
   have hq : goodZ pr pw ph (n - 1) (wo3 a k.toNat) = true /\ (wo3 a k.toNat).length = (n - 1) * 3 := ⟨good_wo hg h.1 (by omega), wo3_len h.1 (by omega)⟩
   cases hb : (cntM pr pw ph n a (wout (fullM n) k.toNat) == cntM pr pw ph n a (fullM n))
   ·rw [ndL_no k1 hb]
    simp [hi, hp, hq]
   ·rw [ndL_yes k1 hb]
    simp [hi, hp, hq, posM]
    omega
  ·have hc := of_decide_eq_false hc
   obtain ⟨k1, k2⟩ := hk
   rw [show k.toNat = n by omega]
   exact retG_ni2
theorem vc_impl_NeedlessClues (pr : List UInt8) (pw ph : Int) (n : Nat) (a : List Int) (h : a.length = n * 3 /\ n <= 2000000) : VC_impl_NeedlessClues pr pw ph n a
  (retG 1 (.tup [.row 1 (ndB pr pw ph n a).length, .bool (goodZ pr pw ph n a)]) [⟨.ints .i64 a, 83, .rows 3⟩, ⟨.ints .i64 (ndB pr pw ph n a), 3, .row⟩]) := by
 unfold VC_impl_NeedlessClues ndB
 refine ⟨⟨h⟩, fun hg => ?_, fun hg => ?_⟩
 ·rw [Bool.not_eq_true'] at hg
  rw [hg]
  exact retG_ni0
 ·rw [Bool.not_eq_false'] at hg
  obtain ⟨_, hn, _, hT⟩ := goodZ_in hg
  rw [hg]
  have hp := pow60 (n := n) (by omega)
  have hf := full_bd n
  simp only [cond_true]
  rw [show ((2 ^ n - 1 : Nat) : Int) = fullM n from rfl, fit_cnt hf.1 hf.2]
  have hL : goodL (candL pr pw ph n a (textsZ pr pw ph)) (textsZ pr pw ph).length := candL_good (by omega) hT
  refine ⟨⟨by omega⟩, ⟨hL, hf.1, by omega⟩, by simp [ndL], ⟨Int.le_refl _, by omega⟩, fun k hk => ⟨fun hc => ?_, fun hc => ?_⟩⟩
  ·have hc := of_decide_eq_true hc
   obtain ⟨k1, k2⟩ := hk
   have hle := ndL_len pr pw ph n a k.toNat
   have hw := wout_le (fullM n) k.toNat
   have hw0 : 0 <= wout (fullM n) k.toNat := by unfold wout; omega
   rw [wrap64_in (x := k + 1) (by omega), fit_cnt hw0 (by omega), beqN]
   have hi : kInv n (k + 1) /\ ((n : Int) - (k + 1)).toNat < ((n : Int) - k).toNat := ⟨⟨by omega, by omega⟩, by omega⟩
   refine ⟨⟨hf.1, by omega, k1, by omega⟩, ⟨hL, hw0, by omega⟩, fun hb => ?_, fun hb => ?_⟩
   ·rw [ndL_yes k1 hb]
    simp [hi, posM]
    omega
   ·rw [ndL_no k1 hb]
    simp [hi]
  ·have hc := of_decide_eq_false hc
   obtain ⟨k1, k2⟩ := hk
   rw [show k.toNat = n by omega]
   exact retG_ni3
theorem ltL_len (r : List UInt8) (w h : Int) (n : Nat) (a : List Int) : ∀ k, (ltL r w h n a k).length = k
 | 0 => rfl
 | k + 1 => by simp [ltL, ltL_len r w h n a k]
theorem ltL_next {r : List UInt8} {w h : Int} {n : Nat} {a : List Int} {k : Int} (hk : 0 <= k) : ltL r w h n a (k + 1).toNat = ltL r w h n a k.toNat ++ [(cntM r w h n a (firstM k.toNat) : Int)] := by
 rw [show (k + 1).toNat = k.toNat + 1 by omega]
 rfl
theorem cnt_first {r : List UInt8} {w h : Int} {n : Nat} {a : List Int} {k : Nat} (ha : a.length = n * 3) (hk : k <= n) : (solZ r w h k (a.take (k * 3))).length = cntM r w h n a (firstM k) := by
 obtain ⟨h1, h2⟩ := keep_first ha hk
 unfold cntM
 rw [h1, h2]
theorem cnt_one {r : List UInt8} {w h : Int} {n : Nat} {a : List Int} {k : Nat} (ha : a.length = n * 3) (hk : k < n) : (solZ r w h 1 ((a.drop (k * 3)).take (1 * 3))).length = cntM r w h n a (oneM k) := by
 obtain ⟨h1, h2⟩ := keep_one ha hk
 unfold cntM
 rw [h1, h2]
theorem vc_spec_LeftByClues (pr : List UInt8) (pw ph : Int) (n : Nat) (a : List Int) (h : a.length = n * 3 /\ n <= 2000000) : VC_spec_LeftByClues pr pw ph n a
  (retG 1 (.tup [.row 1 (ltB pr pw ph n a).length, .bool (goodZ pr pw ph n a)]) [⟨.ints .i64 a, 83, .rows 3⟩, ⟨.ints .i64 (ltB pr pw ph n a), 3, .row⟩]) := by
 unfold VC_spec_LeftByClues ltB
 refine ⟨⟨h⟩, fun hg => ?_, fun hg => ?_⟩
 ·rw [Bool.not_eq_true'] at hg
  rw [hg]
  exact retG_ni0
 ·rw [Bool.not_eq_false'] at hg
  obtain ⟨_, hn, _, _⟩ := goodZ_in hg
  rw [hg]
  refine ⟨by simp [ltL], ⟨Int.le_refl _, by omega⟩, fun k hk => ⟨fun hc => ?_, fun hc => ?_⟩⟩
  ·have hc := of_decide_eq_true hc
   obtain ⟨k1, k2⟩ := hk
   have hle := ltL_len pr pw ph n a k.toNat
   have hq : goodZ pr pw ph k.toNat (a.take (k.toNat * 3)) = true := by
    obtain ⟨h1, h2⟩ := keep_first h.1 (show k.toNat <= n by omega)
    have := keep_good (m := firstM k.toNat) hg
    rwa [h1, h2] at this
   have hq2 : (a.take (k.toNat * 3)).length = k.toNat * 3 := by rw [List.length_take]; omega
   have hi : k1Inv n (k + 1) /\ ((n : Int) + 1 - (k + 1)).toNat < ((n : Int) + 1 - k).toNat := ⟨⟨by omega, by omega⟩, by omega⟩
   have hb : (0 : Int) <= k /\ k <= n /\ n * 3 <= (Cells.ints .i64 a).len := ⟨k1, hc, by show n * 3 <= a.length; omega⟩
   have hs : k.toNat + 1 <= 1000000000 := by omega
   rw [wrap64_in (x := k + 1) (by omega), Nat.zero_mul, List.drop_zero, cnt_first h.1 (by omega), ltL_next k1]
   simp only [hb, hq, hq2, hi, hle, hs, at_iff, true_and, and_true, and_self, posM, List.length_append, List.length_cons, List.length_nil]
   simp
  ·have hc := of_decide_eq_false hc
   obtain ⟨k1, k2⟩ := hk
   rw [show k.toNat = n + 1 by omega]
   exact retG_ni2
theorem vc_impl_LeftByClues (pr : List UInt8) (pw ph : Int) (n : Nat) (a : List Int) (h : a.length = n * 3 /\ n <= 2000000) : VC_impl_LeftByClues pr pw ph n a
  (retG 1 (.tup [.row 1 (ltB pr pw ph n a).length, .bool (goodZ pr pw ph n a)]) [⟨.ints .i64 a, 83, .rows 3⟩, ⟨.ints .i64 (ltB pr pw ph n a), 3, .row⟩]) := by
 unfold VC_impl_LeftByClues ltB
 refine ⟨⟨h⟩, fun hg => ?_, fun hg => ?_⟩
 ·rw [Bool.not_eq_true'] at hg
  rw [hg]
  exact retG_ni0
 ·rw [Bool.not_eq_false'] at hg
  obtain ⟨_, hn, _, hT⟩ := goodZ_in hg
  rw [hg]
  simp only [cond_true]
  have hL : goodL (candL pr pw ph n a (textsZ pr pw ph)) (textsZ pr pw ph).length := candL_good (by omega) hT
  rw [wrap64_in (x := (n : Int) + 1) (by omega)]
  refine ⟨by simp [ltL], ⟨Int.le_refl _, by omega⟩, fun k hk => ⟨fun hc => ?_, fun hc => ?_⟩⟩
  ·have hc := of_decide_eq_true hc
   obtain ⟨k1, k2⟩ := hk
   have hle := ltL_len pr pw ph n a k.toNat
   have hf := full_bd k.toNat
   have hp := pow60 (n := k.toNat) (by omega)
   have hmono : 2 ^ k.toNat <= 2 ^ n := Nat.pow_le_pow_right (by omega) (by omega)
   have hi : k1Inv n (k + 1) /\ ((n : Int) + 1 - (k + 1)).toNat < ((n : Int) + 1 - k).toNat := ⟨⟨by omega, by omega⟩, by omega⟩
   rw [wrap64_in (x := k + 1) (by omega), show ((2 ^ k.toNat - 1 : Nat) : Int) = firstM k.toNat from rfl, fit_cnt (m := firstM k.toNat) hf.1 (by show (fullM k.toNat).toNat < _; omega), ltL_next k1]
   refine ⟨⟨k1, by omega⟩, ⟨hL, hf.1, by show fullM k.toNat < _; omega⟩, ?_⟩
   simp [hi, hle, posM]
   omega
  ·have hc := of_decide_eq_false hc
   obtain ⟨k1, k2⟩ := hk
   rw [show k.toNat = n + 1 by omega]
   exact retG_ni3
theorem bsQ_yes {r : List UInt8} {w h : Int} {n : Nat} {a : List Int} {k : Int} (hk : 0 <= k) (hc : (cntM r w h n a (oneM k.toNat) : Int) < (bsQ r w h n a k.toNat).2) : bsQ r w h n a (k + 1).toNat = (k, (cntM r w h n a (oneM k.toNat) : Int)) := by
 rw [show (k + 1).toNat = k.toNat + 1 by omega]
 simp only [bsQ, decide_eq_true hc, cond_true, Int.toNat_of_nonneg hk]
theorem bsQ_no {r : List UInt8} {w h : Int} {n : Nat} {a : List Int} {k : Int} (hk : 0 <= k) (hc : ¬ (cntM r w h n a (oneM k.toNat) : Int) < (bsQ r w h n a k.toNat).2) : bsQ r w h n a (k + 1).toNat = bsQ r w h n a k.toNat := by
 rw [show (k + 1).toNat = k.toNat + 1 by omega]
 simp only [bsQ, decide_eq_false hc, cond_false]
theorem one_bd {k n : Nat} (hk : k < n) : 0 <= oneM k /\ (oneM k).toNat < 2 ^ n := by
 have := Nat.pow_lt_pow_right (a := 2) (by omega) hk
 unfold oneM
 exact ⟨Int.natCast_nonneg _, by rw [Int.toNat_natCast]; exact this⟩
theorem vc_spec_BestClue (pr : List UInt8) (pw ph : Int) (n : Nat) (a : List Int) (h : a.length = n * 3 /\ n <= 2000000) : VC_spec_BestClue pr pw ph n a
  (retG 1 (.tup [.int .i64 (bsB pr pw ph n a), .bool (goodZ pr pw ph n a && decide (0 < n))]) [⟨.ints .i64 a, 83, .rows 3⟩]) := by
 unfold VC_spec_BestClue bsB
 refine ⟨⟨h⟩, fun hg => ?_, fun hg => ⟨fun h0 => ?_, fun h0 => ?_⟩⟩
 ·rw [Bool.not_eq_true'] at hg
  rw [hg]
  exact retG_nk rfl (.inl rfl)
 ·rw [beq_iff_eq] at h0
  rw [decide_eq_false (show ¬ 0 < n by omega), Bool.and_false]
  exact retG_nk rfl (.inl rfl)
 ·rw [beq_eq_false_iff_ne] at h0
  rw [Bool.not_eq_false'] at hg
  obtain ⟨_, hn, _, _⟩ := goodZ_in hg
  rw [hg, decide_eq_true (show 0 < n by omega)]
  refine ⟨by simp [bsQ], ⟨Int.le_refl _, by omega⟩, fun k hk => ⟨fun hc => ?_, fun hc => ?_⟩⟩
  ·have hc := of_decide_eq_true hc
   obtain ⟨k1, k2⟩ := hk
   have h1 := keep_one (k := k.toNat) h.1 (by omega)
   have hq : goodZ pr pw ph 1 ((a.drop (k.toNat * 3)).take (1 * 3)) = true := by
    have := keep_good (m := oneM k.toNat) hg
    rwa [h1.1, h1.2] at this
   have hq2 : ((a.drop (k.toNat * 3)).take (1 * 3)).length = 1 * 3 := by rw [List.length_take, List.length_drop]; omega
   have hi : kInv n (k + 1) /\ ((n : Int) - (k + 1)).toNat < ((n : Int) - k).toNat := ⟨⟨by omega, by omega⟩, by omega⟩
   have hne : (k + 1 == 0) = false := beq_eq_false_iff_ne.2 (by omega)
   rw [wrap64_in (x := k + 1) (by omega), show (k + 1).toNat - k.toNat = 1 by omega, cnt_one (r := pr) (w := pw) (h := ph) h.1 (show k.toNat < n by omega)]
   refine ⟨trivial, ⟨k1, by omega, by omega, by show n * 3 <= a.length; omega⟩, ⟨hq, hq2⟩, fun hz => ?_, fun hz => ⟨fun hb => ?_, fun hb => ?_⟩⟩
   ·rw [beq_iff_eq] at hz
    have hle := cnt_le pr pw ph n a (oneM k.toNat)
    by_cases hb : (cntM pr pw ph n a (oneM k.toNat) : Int) < (bsQ pr pw ph n a k.toNat).2
    ·rw [bsQ_yes k1 hb, hne]
     simp [hi]
    ·rw [bsQ_no k1 hb, hne]
     rw [hz] at hb hle ⊢
     simp only [Int.toNat_zero, bsQ] at hb hle ⊢
     have : ((cntM pr pw ph n a (oneM 0) : Nat) : Int) = (textsZ pr pw ph).length := by omega
     simp [this]
     exact ⟨⟨by omega, by omega⟩, by omega⟩
   ·rw [hz] at hb
    have hb := of_decide_eq_true hb
    rw [bsQ_yes k1 hb, hne]
    simp [hi.1]
    omega
   ·rw [hz] at hb ⊢
    have hb := of_decide_eq_false hb
    rw [bsQ_no k1 hb, hne]
    simp [hi]
  ·have hc := of_decide_eq_false hc
   obtain ⟨k1, k2⟩ := hk
   rw [show k.toNat = n by omega]
   exact retG_nk rfl (.inl rfl)
theorem vc_impl_BestClue (pr : List UInt8) (pw ph : Int) (n : Nat) (a : List Int) (h : a.length = n * 3 /\ n <= 2000000) : VC_impl_BestClue pr pw ph n a
  (retG 1 (.tup [.int .i64 (bsB pr pw ph n a), .bool (goodZ pr pw ph n a && decide (0 < n))]) [⟨.ints .i64 a, 83, .rows 3⟩]) := by
 unfold VC_impl_BestClue bsB
 refine ⟨⟨h⟩, fun hg => ?_, fun hg => ⟨fun h0 => ?_, fun h0 => ?_⟩⟩
 ·rw [Bool.not_eq_true'] at hg
  rw [hg]
  exact retG_nk rfl (.inl rfl)
 ·rw [beq_iff_eq] at h0
  rw [decide_eq_false (show ¬ 0 < n by omega), Bool.and_false]
  exact retG_nk rfl (.inl rfl)
 ·rw [beq_eq_false_iff_ne] at h0
  rw [Bool.not_eq_false'] at hg
  obtain ⟨_, hn, _, hT⟩ := goodZ_in hg
  rw [hg, decide_eq_true (show 0 < n by omega)]
  simp only [cond_true, Bool.and_self]
  have hL : goodL (candL pr pw ph n a (textsZ pr pw ph)) (textsZ pr pw ph).length := candL_good (by omega) hT
  refine ⟨by simp [bsQ], ⟨Int.le_refl _, by omega⟩, fun k hk => ⟨fun hc => ?_, fun hc => ?_⟩⟩
  ·have hc := of_decide_eq_true hc
   obtain ⟨k1, k2⟩ := hk
   have hp := pow60 (n := n) (by omega)
   have hf := one_bd (show k.toNat < n by omega)
   have hi : kInv n (k + 1) /\ ((n : Int) - (k + 1)).toNat < ((n : Int) - k).toNat := ⟨⟨by omega, by omega⟩, by omega⟩
   rw [wrap64_in (x := k + 1) (by omega), show ((2 ^ k.toNat : Nat) : Int) = oneM k.toNat from rfl]
   simp only [fit_cnt hf.1 hf.2]
   refine ⟨⟨k1, by omega⟩, ⟨hL, hf.1, by omega⟩, fun hb => ?_, fun hb => ?_⟩
   ·rw [bsQ_yes k1 (of_decide_eq_true hb)]
    simp [hi]
   ·rw [bsQ_no k1 (of_decide_eq_false hb)]
    simp [hi]
  ·have hc := of_decide_eq_false hc
   obtain ⟨k1, k2⟩ := hk
   rw [show k.toNat = n by omega]
   exact retG_nk rfl (.inl rfl)
end Go.Vi
