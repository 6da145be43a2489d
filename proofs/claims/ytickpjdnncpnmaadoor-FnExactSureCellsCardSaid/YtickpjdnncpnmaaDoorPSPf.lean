import Derived.Test.YtickpjdnncpnmaaDoorPXPf
/- Puzzles: sure cells. -/
namespace Go.Vi
def surB (r : List UInt8) (w h : Int) (n : Nat) (a : List Int) : List (List UInt8) := bif goodZ r w h n a then solZ r w h n a else []
/-- The first j texts have the byte of the first one at i. -/
def agreeB (L : List (List UInt8)) (j i : Nat) : Bool := (L.take j).all fun t => t.getD i 0 == (L.getD 0 []).getD i 0
def sureA (L : List (List UInt8)) (j i : Nat) : UInt8 := bif agreeB L j i then (L.getD 0 []).getD i 0 else 63
def sureT (L : List (List UInt8)) (m : Nat) : List UInt8 := (List.range m).map fun i => sureA L L.length i
def sureS (L : List (List UInt8)) (m : Nat) : List UInt8 := bif decide (0 < L.length) then sureT L m else []
def rowJ (L : List (List UInt8)) (m j : Nat) : List UInt8 := (List.range m).map fun i => sureA L j i
def mixJ (L : List (List UInt8)) (m j i : Nat) : List UInt8 := (List.range m).map fun q => sureA L (bif decide (q < i) then j + 1 else j) q
def surInv (m : Int) (i : Int) : Prop := 0 <= i /\ i <= m
def surIn (L : List (List UInt8)) (m i j : Int) : Prop := 0 <= i /\ i < m /\ 0 <= j /\ j <= L.length /\ agreeB L j.toNat i.toNat = true
def ann_spec_SureCells : Nat -> St -> Option Ann := fun key st =>
 match st.mem with
 | ⟨.ints kd a, e, k0⟩ :: ⟨.vals [.str r, .int i1 w, .int i2 h, .row x n], e1, k1⟩ :: ⟨.strs L, e2, k2⟩ :: _ =>
  (match Nat.beq key 8, Nat.beq key 12, strAt st 5, intAt st 6 with
  | true, _, _, _ => some {
    α := Int
    find := fun st => intAt st 6
    head := fun i => { only st [(1, .ptr 1 0), (4, .row 2 L.length), (5, .str (sureT L i.toNat)), (6, .int .i64 i)] with mem := [⟨.ints kd a, e, k0⟩, ⟨.vals [.str r, .int i1 w, .int i2 h, .row x n], e1, k1⟩, ⟨.strs L, e2, k2⟩] }
    inv := fun i => surInv (w * h) i
    meas := fun i => (w * h - i).toNat
    auto := true }
  | _, true, some o, some i => some {
    α := Int
    find := fun st => intAt st 36
    head := fun j => { only st [(1, .ptr 1 0), (4, .row 2 L.length), (5, .str o), (6, .int .i64 i), (7, .str [(L.getD 0 []).getD i.toNat 0]), (34, .row 2 L.length), (35, .int .i64 L.length), (36, .int .i64 j)] with mem := [⟨.ints kd a, e, k0⟩, ⟨.vals [.str r, .int i1 w, .int i2 h, .row x n], e1, k1⟩, ⟨.strs L, e2, k2⟩] }
    inv := fun j => surIn L (w * h) i j
    meas := fun j => ((L.length : Int) - j).toNat
    auto := true }
  | _, _, _, _ => none)
 | _ => none
def surJ (L : List (List UInt8)) (j : Int) : Prop := 0 <= j /\ j <= L.length
def surI (L : List (List UInt8)) (m : Nat) (j i : Int) : Prop := 0 <= j /\ j < L.length /\ 0 <= i /\ i <= m
def ann_impl_SureCells : Nat -> St -> Option Ann := fun key st =>
 match st.mem with
 | ⟨.ints kd a, e, k0⟩ :: ⟨.vals [.str r, .int i1 w, .int i2 h, .row x n], e1, k1⟩ :: ⟨.strs L, e2, k2⟩ :: ⟨_, e3, k3⟩ :: _ =>
  (match Nat.beq key 6, Nat.beq key 9, st.get 6, intAt st 24, strAt st 8 with
  | true, _, .row _ m, _, _ => some {
    α := Int
    find := fun st => intAt st 24
    head := fun j => { only st [(1, .ptr 1 0), (4, .row 2 L.length), (6, .row 3 m), (22, .row 2 L.length), (23, .int .i64 L.length), (24, .int .i64 j)] with mem := [⟨.ints kd a, e, k0⟩, ⟨.vals [.str r, .int i1 w, .int i2 h, .row x n], e1, k1⟩, ⟨.strs L, e2, k2⟩, ⟨.bytes (rowJ L m j.toNat), e3, k3⟩] }
    inv := fun j => surJ L j
    meas := fun j => ((L.length : Int) - j).toNat
    auto := true }
  | _, true, .row _ m, some j, some t => some {
    α := Int
    find := fun st => intAt st 30
    head := fun i => { only st [(1, .ptr 1 0), (4, .row 2 L.length), (6, .row 3 m), (8, .str t), (22, .row 2 L.length), (23, .int .i64 L.length), (24, .int .i64 j), (28, .row 3 m), (29, .int .i64 m), (30, .int .i64 i)] with mem := [⟨.ints kd a, e, k0⟩, ⟨.vals [.str r, .int i1 w, .int i2 h, .row x n], e1, k1⟩, ⟨.strs L, e2, k2⟩, ⟨.bytes (mixJ L m j.toNat i.toNat), e3, k3⟩] }
    inv := fun i => surI L m j i
    meas := fun i => ((m : Int) - i).toNat
    auto := true }
  | _, _, _, _, _ => none)
 | _ => none
end Go.Vi

/- Closed forms of the functions of this chapter. -/
namespace Go.Vi
set_option linter.unusedVariables false
def F_spec_SureCells : FSpec := fun args m =>
 match args, m with
 | [.agg [.str pr, .int .i64 pw, .int .i64 ph, .row 0 n]], [⟨.ints .i64 a, 83, .rows 3⟩] => some (a.length = n * 3 /\ n <= 2000000, .tup [.str (sureS (surB pr pw ph n a) (pw * ph).toNat), .bool (decide (0 < (surB pr pw ph n a).length))])
 | _, _ => none
def F_impl_SureCells : FSpec := fun args m =>
 match args, m with
 | [.agg [.str pr, .int .i64 pw, .int .i64 ph, .row 0 n]], [⟨.ints .i64 a, 83, .rows 3⟩] => some (a.length = n * 3 /\ n <= 2000000, .tup [.str (sureS (surB pr pw ph n a) (pw * ph).toNat), .bool (decide (0 < (surB pr pw ph n a).length))])
 | _, _ => none
end Go.Vi

/- The conditions, reckoned out by program: texts alone. -/
namespace Go.Vi
set_option linter.unusedVariables false
def VC_spec_SureCells (pr:List UInt8)(pw:Int)(ph:Int)(n:Nat)(a:List Int)(K:V → List Blk → Prop):Prop:=
 At (List.length a=n * (3:Nat)∧n≤(2000000:Nat))∧((!goodZ pr pw ph n a)=true→
 K (V.tup [V.str ([]:List UInt8),V.lit false]) [⟨Cells.ints .i64 a,83,Kind.rows (3:Nat)⟩,⟨Cells.vals [V.str pr,V.int .i64 pw,V.int .i64 ph,V.row (0:Nat) n],31,Kind.box⟩])∧
 ((!goodZ pr pw ph n a)=false→At (goodZ pr pw ph n a=true∧List.length a=n * (3:Nat))∧(((↑(List.length (solZ pr pw ph n a)):Int)==(0:Int))=true→
 K (V.tup [V.str ([]:List UInt8),V.lit false]) [⟨Cells.ints .i64 a,83,Kind.rows (3:Nat)⟩,⟨Cells.vals [V.str pr,V.int .i64 pw,V.int .i64 ph,V.row (0:Nat) n],31,Kind.box⟩,⟨Cells.strs (solZ pr pw ph n a),9,Kind.row⟩])∧
 (((↑(List.length (solZ pr pw ph n a)):Int)==(0:Int))=false→(True∧(((1:Nat)=(1:Nat)∧(0:Nat)=(0:Nat))∧((2:Nat)=(2:Nat)∧List.length (solZ pr pw ph n a)=List.length (solZ pr pw ph n a))∧
 nilB=sureT (solZ pr pw ph n a) (Int.toNat (0:Int))∧(True∧(0:Int)=(0:Int))∧True)∧((True∧IntKind.i64=IntKind.i64∧a=a)∧(True∧pr=pr∧(True∧pw=pw)∧(True∧ph=ph)∧((0:Nat)=(0:Nat)∧n=n)∧True)∧(True∧
 solZ pr pw ph n a=solZ pr pw ph n a)∧True)∧True)∧At (surInv (pw * ph) (0:Int))∧∀(a_3:Int),surInv (pw * ph) a_3→(decide (a_3 < IntKind.wrap .i64 (pw * ph))=true→At ((0:Int)≤(0:Int)∧
 (0:Int) < (↑(List.length (solZ pr pw ph n a)):Int))∧At (Int.toNat (0:Int) < List.length (solZ pr pw ph n a))∧At ((0:Int)≤a_3∧a_3≤IntKind.wrap .i64 (a_3 + (1:Int))∧
 IntKind.wrap .i64 (a_3 + (1:Int))≤(↑(List.length (List.getD (solZ pr pw ph n a) (Int.toNat (0:Int)) [])):Int))∧(True∧(((1:Nat)=(1:Nat)∧(0:Nat)=(0:Nat))∧((2:Nat)=(2:Nat)∧
 List.length (solZ pr pw ph n a)=List.length (solZ pr pw ph n a))∧sureT (solZ pr pw ph n a) (Int.toNat a_3)=sureT (solZ pr pw ph n a) (Int.toNat a_3)∧(True∧a_3=a_3)∧
 List.drop (Int.toNat a_3) (List.take (Int.toNat (IntKind.wrap .i64 (a_3 + (1:Int)))) (List.getD (solZ pr pw ph n a) (Int.toNat (0:Int)) []))=[List.getD (List.getD (solZ pr pw ph n a) (0:Nat) []) (Int.toNat a_3) (0:UInt8)]∧
 ((2:Nat)=(2:Nat)∧List.length (solZ pr pw ph n a)=List.length (solZ pr pw ph n a))∧(True∧(↑(List.length (solZ pr pw ph n a)):Int)=(↑(List.length (solZ pr pw ph n a)):Int))∧(True∧(0:Int)=(0:Int))∧True)∧((True∧
 IntKind.i64=IntKind.i64∧a=a)∧(True∧pr=pr∧(True∧pw=pw)∧(True∧ph=ph)∧((0:Nat)=(0:Nat)∧n=n)∧True)∧(True∧solZ pr pw ph n a=solZ pr pw ph n a)∧True)∧True)∧At (surIn (solZ pr pw ph n a) (pw * ph) a_3 (0:Int))∧
 ∀(a_6:Int),surIn (solZ pr pw ph n a) (pw * ph) a_3 a_6→(decide (a_6 < (↑(List.length (solZ pr pw ph n a)):Int))=true→At ((0:Int)≤a_6∧a_6 < (↑(List.length (solZ pr pw ph n a)):Int))∧
 At (Int.toNat a_6 < List.length (solZ pr pw ph n a))∧At ((0:Int)≤a_3∧a_3≤IntKind.wrap .i64 (a_3 + (1:Int))∧IntKind.wrap .i64 (a_3 + (1:Int))≤(↑(List.length (List.getD (solZ pr pw ph n a) (Int.toNat a_6) [])):Int))∧
 ((!List.drop (Int.toNat a_3) (List.take (Int.toNat (IntKind.wrap .i64 (a_3 + (1:Int)))) (List.getD (solZ pr pw ph n a) (Int.toNat a_6) []))==[List.getD (List.getD (solZ pr pw ph n a) (0:Nat) []) (Int.toNat a_3) (0:UInt8)])=true→
 At (List.length (sureT (solZ pr pw ph n a) (Int.toNat a_3)) + List.length (Array.toList #[(63:UInt8)])≤(9223372036854775807:Nat))∧(True∧(((1:Nat)=(1:Nat)∧(0:Nat)=(0:Nat))∧((2:Nat)=(2:Nat)∧
 List.length (solZ pr pw ph n a)=List.length (solZ pr pw ph n a))∧sureT (solZ pr pw ph n a) (Int.toNat a_3) ++ Array.toList #[(63:UInt8)]=sureT (solZ pr pw ph n a) (Int.toNat (IntKind.wrap .i64 (a_3 + (1:Int))))∧(True∧
 IntKind.wrap .i64 (a_3 + (1:Int))=IntKind.wrap .i64 (a_3 + (1:Int)))∧True)∧((True∧IntKind.i64=IntKind.i64∧a=a)∧(True∧pr=pr∧(True∧pw=pw)∧(True∧ph=ph)∧((0:Nat)=(0:Nat)∧n=n)∧True)∧(True∧solZ pr pw ph n a=solZ pr pw ph n a)∧
 True)∧True)∧At (surInv (pw * ph) (IntKind.wrap .i64 (a_3 + (1:Int)))∧Int.toNat (pw * ph - IntKind.wrap .i64 (a_3 + (1:Int))) < Int.toNat (pw * ph - a_3)))∧
 ((!List.drop (Int.toNat a_3) (List.take (Int.toNat (IntKind.wrap .i64 (a_3 + (1:Int)))) (List.getD (solZ pr pw ph n a) (Int.toNat a_6) []))==[List.getD (List.getD (solZ pr pw ph n a) (0:Nat) []) (Int.toNat a_3) (0:UInt8)])=false→
 (True∧(((1:Nat)=(1:Nat)∧(0:Nat)=(0:Nat))∧((2:Nat)=(2:Nat)∧List.length (solZ pr pw ph n a)=List.length (solZ pr pw ph n a))∧sureT (solZ pr pw ph n a) (Int.toNat a_3)=sureT (solZ pr pw ph n a) (Int.toNat a_3)∧(True∧
 a_3=a_3)∧[List.getD (List.getD (solZ pr pw ph n a) (0:Nat) []) (Int.toNat a_3) (0:UInt8)]=[List.getD (List.getD (solZ pr pw ph n a) (0:Nat) []) (Int.toNat a_3) (0:UInt8)]∧((2:Nat)=(2:Nat)∧
 List.length (solZ pr pw ph n a)=List.length (solZ pr pw ph n a))∧(True∧(↑(List.length (solZ pr pw ph n a)):Int)=(↑(List.length (solZ pr pw ph n a)):Int))∧(True∧
 IntKind.wrap .i64 (a_6 + (1:Int))=IntKind.wrap .i64 (a_6 + (1:Int)))∧True)∧((True∧IntKind.i64=IntKind.i64∧a=a)∧(True∧pr=pr∧(True∧pw=pw)∧(True∧ph=ph)∧((0:Nat)=(0:Nat)∧n=n)∧True)∧(True∧solZ pr pw ph n a=solZ pr pw ph n a)∧
 True)∧True)∧At (surIn (solZ pr pw ph n a) (pw * ph) a_3 (IntKind.wrap .i64 (a_6 + (1:Int)))∧
 Int.toNat ((↑(List.length (solZ pr pw ph n a)):Int) - IntKind.wrap .i64 (a_6 + (1:Int))) < Int.toNat ((↑(List.length (solZ pr pw ph n a)):Int) - a_6))))∧(decide (a_6 < (↑(List.length (solZ pr pw ph n a)):Int))=false→
 At (List.length (sureT (solZ pr pw ph n a) (Int.toNat a_3)) + List.length [List.getD (List.getD (solZ pr pw ph n a) (0:Nat) []) (Int.toNat a_3) (0:UInt8)]≤(9223372036854775807:Nat))∧(True∧(((1:Nat)=(1:Nat)∧
 (0:Nat)=(0:Nat))∧((2:Nat)=(2:Nat)∧List.length (solZ pr pw ph n a)=List.length (solZ pr pw ph n a))∧
 sureT (solZ pr pw ph n a) (Int.toNat a_3) ++ [List.getD (List.getD (solZ pr pw ph n a) (0:Nat) []) (Int.toNat a_3) (0:UInt8)]=sureT (solZ pr pw ph n a) (Int.toNat (IntKind.wrap .i64 (a_3 + (1:Int))))∧(True∧
 IntKind.wrap .i64 (a_3 + (1:Int))=IntKind.wrap .i64 (a_3 + (1:Int)))∧True)∧((True∧IntKind.i64=IntKind.i64∧a=a)∧(True∧pr=pr∧(True∧pw=pw)∧(True∧ph=ph)∧((0:Nat)=(0:Nat)∧n=n)∧True)∧(True∧solZ pr pw ph n a=solZ pr pw ph n a)∧
 True)∧True)∧At (surInv (pw * ph) (IntKind.wrap .i64 (a_3 + (1:Int)))∧Int.toNat (pw * ph - IntKind.wrap .i64 (a_3 + (1:Int))) < Int.toNat (pw * ph - a_3))))∧(decide (a_3 < IntKind.wrap .i64 (pw * ph))=false→
 K (V.tup [V.str (sureT (solZ pr pw ph n a) (Int.toNat a_3)),V.lit true]) [⟨Cells.ints .i64 a,83,Kind.rows (3:Nat)⟩,⟨Cells.vals [V.str pr,V.int .i64 pw,V.int .i64 ph,V.row (0:Nat) n],31,Kind.box⟩,⟨Cells.strs (solZ pr pw ph n a),9,Kind.row⟩])))
def VC_impl_SureCells (pr:List UInt8)(pw:Int)(ph:Int)(n:Nat)(a:List Int)(K:V → List Blk → Prop):Prop:=
 At (List.length a=n * (3:Nat)∧n≤(2000000:Nat))∧(((↑(List.length (bif goodZ pr pw ph n a then solZ pr pw ph n a else [])):Int)==(0:Int))=true→
 K (V.tup [V.str ([]:List UInt8),V.lit false]) [⟨Cells.ints .i64 a,83,Kind.rows (3:Nat)⟩,⟨Cells.vals [V.str pr,V.int .i64 pw,V.int .i64 ph,V.row (0:Nat) n],31,Kind.box⟩,⟨Cells.strs (bif goodZ pr pw ph n a then solZ pr pw ph n a else []),9,Kind.row⟩])∧
 (((↑(List.length (bif goodZ pr pw ph n a then solZ pr pw ph n a else [])):Int)==(0:Int))=false→At ((0:Int)≤(0:Int)∧(0:Int) < (↑(List.length (bif goodZ pr pw ph n a then solZ pr pw ph n a else [])):Int))∧
 At (Int.toNat (0:Int) < List.length (bif goodZ pr pw ph n a then solZ pr pw ph n a else []))∧
 At (List.length (List.getD (bif goodZ pr pw ph n a then solZ pr pw ph n a else []) (Int.toNat (0:Int)) [])≤(9223372036854775807:Nat))∧(True∧(((1:Nat)=(1:Nat)∧(0:Nat)=(0:Nat))∧((2:Nat)=(2:Nat)∧
 List.length (bif goodZ pr pw ph n a then solZ pr pw ph n a else [])=List.length (bif goodZ pr pw ph n a then solZ pr pw ph n a else []))∧((3:Nat)=(3:Nat)∧
 List.length (List.getD (bif goodZ pr pw ph n a then solZ pr pw ph n a else []) (Int.toNat (0:Int)) [])=List.length (List.getD (bif goodZ pr pw ph n a then solZ pr pw ph n a else []) (Int.toNat (0:Int)) []))∧
 ((2:Nat)=(2:Nat)∧List.length (bif goodZ pr pw ph n a then solZ pr pw ph n a else [])=List.length (bif goodZ pr pw ph n a then solZ pr pw ph n a else []))∧(True∧
 (↑(List.length (bif goodZ pr pw ph n a then solZ pr pw ph n a else [])):Int)=(↑(List.length (bif goodZ pr pw ph n a then solZ pr pw ph n a else [])):Int))∧(True∧(0:Int)=(0:Int))∧True)∧((True∧IntKind.i64=IntKind.i64∧a=a)∧
 (True∧pr=pr∧(True∧pw=pw)∧(True∧ph=ph)∧((0:Nat)=(0:Nat)∧n=n)∧True)∧(True∧(bif goodZ pr pw ph n a then solZ pr pw ph n a else [])=bif goodZ pr pw ph n a then solZ pr pw ph n a else [])∧(True∧
 List.getD (bif goodZ pr pw ph n a then solZ pr pw ph n a else []) (Int.toNat (0:Int)) []=rowJ (bif goodZ pr pw ph n a then solZ pr pw ph n a else []) (List.length (List.getD (bif goodZ pr pw ph n a then solZ pr pw ph n a else []) (Int.toNat (0:Int)) [])) (Int.toNat (0:Int)))∧
 True)∧True)∧At (surJ (bif goodZ pr pw ph n a then solZ pr pw ph n a else []) (0:Int))∧∀(a_2:Int),surJ (bif goodZ pr pw ph n a then solZ pr pw ph n a else []) a_2→
 (decide (a_2 < (↑(List.length (bif goodZ pr pw ph n a then solZ pr pw ph n a else [])):Int))=true→At ((0:Int)≤a_2∧a_2 < (↑(List.length (bif goodZ pr pw ph n a then solZ pr pw ph n a else [])):Int))∧
 At (Int.toNat a_2 < List.length (bif goodZ pr pw ph n a then solZ pr pw ph n a else []))∧(True∧(((1:Nat)=(1:Nat)∧(0:Nat)=(0:Nat))∧((2:Nat)=(2:Nat)∧
 List.length (bif goodZ pr pw ph n a then solZ pr pw ph n a else [])=List.length (bif goodZ pr pw ph n a then solZ pr pw ph n a else []))∧((3:Nat)=(3:Nat)∧
 List.length (List.getD (bif goodZ pr pw ph n a then solZ pr pw ph n a else []) (Int.toNat (0:Int)) [])=List.length (List.getD (bif goodZ pr pw ph n a then solZ pr pw ph n a else []) (Int.toNat (0:Int)) []))∧
 List.getD (bif goodZ pr pw ph n a then solZ pr pw ph n a else []) (Int.toNat a_2) []=List.getD (bif goodZ pr pw ph n a then solZ pr pw ph n a else []) (Int.toNat a_2) []∧((2:Nat)=(2:Nat)∧
 List.length (bif goodZ pr pw ph n a then solZ pr pw ph n a else [])=List.length (bif goodZ pr pw ph n a then solZ pr pw ph n a else []))∧(True∧
 (↑(List.length (bif goodZ pr pw ph n a then solZ pr pw ph n a else [])):Int)=(↑(List.length (bif goodZ pr pw ph n a then solZ pr pw ph n a else [])):Int))∧(True∧a_2=a_2)∧((3:Nat)=(3:Nat)∧
 List.length (List.getD (bif goodZ pr pw ph n a then solZ pr pw ph n a else []) (Int.toNat (0:Int)) [])=List.length (List.getD (bif goodZ pr pw ph n a then solZ pr pw ph n a else []) (Int.toNat (0:Int)) []))∧(True∧
 (↑(List.length (List.getD (bif goodZ pr pw ph n a then solZ pr pw ph n a else []) (Int.toNat (0:Int)) [])):Int)=(↑(List.length (List.getD (bif goodZ pr pw ph n a then solZ pr pw ph n a else []) (Int.toNat (0:Int)) [])):Int))∧
 (True∧(0:Int)=(0:Int))∧True)∧((True∧IntKind.i64=IntKind.i64∧a=a)∧(True∧pr=pr∧(True∧pw=pw)∧(True∧ph=ph)∧((0:Nat)=(0:Nat)∧n=n)∧True)∧(True∧
 (bif goodZ pr pw ph n a then solZ pr pw ph n a else [])=bif goodZ pr pw ph n a then solZ pr pw ph n a else [])∧(True∧
 rowJ (bif goodZ pr pw ph n a then solZ pr pw ph n a else []) (List.length (List.getD (bif goodZ pr pw ph n a then solZ pr pw ph n a else []) (Int.toNat (0:Int)) [])) (Int.toNat a_2)=mixJ (bif goodZ pr pw ph n a then solZ pr pw ph n a else []) (List.length (List.getD (bif goodZ pr pw ph n a then solZ pr pw ph n a else []) (Int.toNat (0:Int)) [])) (Int.toNat a_2) (Int.toNat (0:Int)))∧
 True)∧True)∧At (surI (bif goodZ pr pw ph n a then solZ pr pw ph n a else []) (List.length (List.getD (bif goodZ pr pw ph n a then solZ pr pw ph n a else []) (Int.toNat (0:Int)) [])) a_2 (0:Int))∧
 ∀(a_5:Int),surI (bif goodZ pr pw ph n a then solZ pr pw ph n a else []) (List.length (List.getD (bif goodZ pr pw ph n a then solZ pr pw ph n a else []) (Int.toNat (0:Int)) [])) a_2 a_5→
 (decide (a_5 < (↑(List.length (List.getD (bif goodZ pr pw ph n a then solZ pr pw ph n a else []) (Int.toNat (0:Int)) [])):Int))=true→True∧At ((0:Int)≤a_5∧
 a_5 < (↑(List.length (List.getD (bif goodZ pr pw ph n a then solZ pr pw ph n a else []) (Int.toNat a_2) [])):Int))∧At ((0:Int)≤a_5∧
 a_5 < (↑(List.length (List.getD (bif goodZ pr pw ph n a then solZ pr pw ph n a else []) (Int.toNat (0:Int)) [])):Int))∧
 At (Int.toNat a_5 < List.length (mixJ (bif goodZ pr pw ph n a then solZ pr pw ph n a else []) (List.length (List.getD (bif goodZ pr pw ph n a then solZ pr pw ph n a else []) (Int.toNat (0:Int)) [])) (Int.toNat a_2) (Int.toNat a_5)))∧
 (((↑(UInt8.toNat (List.getD (List.getD (bif goodZ pr pw ph n a then solZ pr pw ph n a else []) (Int.toNat a_2) []) (Int.toNat a_5) (0:UInt8))):Int) != (↑(UInt8.toNat (List.getD (mixJ (bif goodZ pr pw ph n a then solZ pr pw ph n a else []) (List.length (List.getD (bif goodZ pr pw ph n a then solZ pr pw ph n a else []) (Int.toNat (0:Int)) [])) (Int.toNat a_2) (Int.toNat a_5)) (Int.toNat a_5) (0:UInt8))):Int))=true→
 At ((0:Int)≤a_5∧a_5 < (↑(List.length (List.getD (bif goodZ pr pw ph n a then solZ pr pw ph n a else []) (Int.toNat (0:Int)) [])):Int))∧
 At (Int.toNat a_5 < List.length (mixJ (bif goodZ pr pw ph n a then solZ pr pw ph n a else []) (List.length (List.getD (bif goodZ pr pw ph n a then solZ pr pw ph n a else []) (Int.toNat (0:Int)) [])) (Int.toNat a_2) (Int.toNat a_5))∧
 (0:Int)≤(63:Int)∧(63:Int) < (256:Int))∧(True∧(((1:Nat)=(1:Nat)∧(0:Nat)=(0:Nat))∧((2:Nat)=(2:Nat)∧
 List.length (bif goodZ pr pw ph n a then solZ pr pw ph n a else [])=List.length (bif goodZ pr pw ph n a then solZ pr pw ph n a else []))∧((3:Nat)=(3:Nat)∧
 List.length (List.getD (bif goodZ pr pw ph n a then solZ pr pw ph n a else []) (Int.toNat (0:Int)) [])=List.length (List.getD (bif goodZ pr pw ph n a then solZ pr pw ph n a else []) (Int.toNat (0:Int)) []))∧
 List.getD (bif goodZ pr pw ph n a then solZ pr pw ph n a else []) (Int.toNat a_2) []=List.getD (bif goodZ pr pw ph n a then solZ pr pw ph n a else []) (Int.toNat a_2) []∧((2:Nat)=(2:Nat)∧
 List.length (bif goodZ pr pw ph n a then solZ pr pw ph n a else [])=List.length (bif goodZ pr pw ph n a then solZ pr pw ph n a else []))∧(True∧
 (↑(List.length (bif goodZ pr pw ph n a then solZ pr pw ph n a else [])):Int)=(↑(List.length (bif goodZ pr pw ph n a then solZ pr pw ph n a else [])):Int))∧(True∧a_2=a_2)∧((3:Nat)=(3:Nat)∧
 List.length (List.getD (bif goodZ pr pw ph n a then solZ pr pw ph n a else []) (Int.toNat (0:Int)) [])=List.length (List.getD (bif goodZ pr pw ph n a then solZ pr pw ph n a else []) (Int.toNat (0:Int)) []))∧(True∧
 (↑(List.length (List.getD (bif goodZ pr pw ph n a then solZ pr pw ph n a else []) (Int.toNat (0:Int)) [])):Int)=(↑(List.length (List.getD (bif goodZ pr pw ph n a then solZ pr pw ph n a else []) (Int.toNat (0:Int)) [])):Int))∧
 (True∧IntKind.wrap .i64 (a_5 + (1:Int))=IntKind.wrap .i64 (a_5 + (1:Int)))∧True)∧((True∧IntKind.i64=IntKind.i64∧a=a)∧(True∧pr=pr∧(True∧pw=pw)∧(True∧ph=ph)∧((0:Nat)=(0:Nat)∧n=n)∧True)∧(True∧
 (bif goodZ pr pw ph n a then solZ pr pw ph n a else [])=bif goodZ pr pw ph n a then solZ pr pw ph n a else [])∧(True∧
 List.set (mixJ (bif goodZ pr pw ph n a then solZ pr pw ph n a else []) (List.length (List.getD (bif goodZ pr pw ph n a then solZ pr pw ph n a else []) (Int.toNat (0:Int)) [])) (Int.toNat a_2) (Int.toNat a_5)) (Int.toNat a_5) (UInt8.ofNat (Int.toNat (63:Int)))=mixJ (bif goodZ pr pw ph n a then solZ pr pw ph n a else []) (List.length (List.getD (bif goodZ pr pw ph n a then solZ pr pw ph n a else []) (Int.toNat (0:Int)) [])) (Int.toNat a_2) (Int.toNat (IntKind.wrap .i64 (a_5 + (1:Int)))))∧
 True)∧True)∧
 At (surI (bif goodZ pr pw ph n a then solZ pr pw ph n a else []) (List.length (List.getD (bif goodZ pr pw ph n a then solZ pr pw ph n a else []) (Int.toNat (0:Int)) [])) a_2 (IntKind.wrap .i64 (a_5 + (1:Int)))∧
 Int.toNat ((↑(List.length (List.getD (bif goodZ pr pw ph n a then solZ pr pw ph n a else []) (Int.toNat (0:Int)) [])):Int) - IntKind.wrap .i64 (a_5 + (1:Int))) < Int.toNat ((↑(List.length (List.getD (bif goodZ pr pw ph n a then solZ pr pw ph n a else []) (Int.toNat (0:Int)) [])):Int) - a_5)))∧
 (((↑(UInt8.toNat (List.getD (List.getD (bif goodZ pr pw ph n a then solZ pr pw ph n a else []) (Int.toNat a_2) []) (Int.toNat a_5) (0:UInt8))):Int) != (↑(UInt8.toNat (List.getD (mixJ (bif goodZ pr pw ph n a then solZ pr pw ph n a else []) (List.length (List.getD (bif goodZ pr pw ph n a then solZ pr pw ph n a else []) (Int.toNat (0:Int)) [])) (Int.toNat a_2) (Int.toNat a_5)) (Int.toNat a_5) (0:UInt8))):Int))=false→
 (True∧(((1:Nat)=(1:Nat)∧(0:Nat)=(0:Nat))∧((2:Nat)=(2:Nat)∧List.length (bif goodZ pr pw ph n a then solZ pr pw ph n a else [])=List.length (bif goodZ pr pw ph n a then solZ pr pw ph n a else []))∧((3:Nat)=(3:Nat)∧
 List.length (List.getD (bif goodZ pr pw ph n a then solZ pr pw ph n a else []) (Int.toNat (0:Int)) [])=List.length (List.getD (bif goodZ pr pw ph n a then solZ pr pw ph n a else []) (Int.toNat (0:Int)) []))∧
 List.getD (bif goodZ pr pw ph n a then solZ pr pw ph n a else []) (Int.toNat a_2) []=List.getD (bif goodZ pr pw ph n a then solZ pr pw ph n a else []) (Int.toNat a_2) []∧((2:Nat)=(2:Nat)∧
 List.length (bif goodZ pr pw ph n a then solZ pr pw ph n a else [])=List.length (bif goodZ pr pw ph n a then solZ pr pw ph n a else []))∧(True∧
 (↑(List.length (bif goodZ pr pw ph n a then solZ pr pw ph n a else [])):Int)=(↑(List.length (bif goodZ pr pw ph n a then solZ pr pw ph n a else [])):Int))∧(True∧a_2=a_2)∧((3:Nat)=(3:Nat)∧
 List.length (List.getD (bif goodZ pr pw ph n a then solZ pr pw ph n a else []) (Int.toNat (0:Int)) [])=List.length (List.getD (bif goodZ pr pw ph n a then solZ pr pw ph n a else []) (Int.toNat (0:Int)) []))∧(True∧
 (↑(List.length (List.getD (bif goodZ pr pw ph n a then solZ pr pw ph n a else []) (Int.toNat (0:Int)) [])):Int)=(↑(List.length (List.getD (bif goodZ pr pw ph n a then solZ pr pw ph n a else []) (Int.toNat (0:Int)) [])):Int))∧
 (True∧IntKind.wrap .i64 (a_5 + (1:Int))=IntKind.wrap .i64 (a_5 + (1:Int)))∧True)∧((True∧IntKind.i64=IntKind.i64∧a=a)∧(True∧pr=pr∧(True∧pw=pw)∧(True∧ph=ph)∧((0:Nat)=(0:Nat)∧n=n)∧True)∧(True∧
 (bif goodZ pr pw ph n a then solZ pr pw ph n a else [])=bif goodZ pr pw ph n a then solZ pr pw ph n a else [])∧(True∧
 mixJ (bif goodZ pr pw ph n a then solZ pr pw ph n a else []) (List.length (List.getD (bif goodZ pr pw ph n a then solZ pr pw ph n a else []) (Int.toNat (0:Int)) [])) (Int.toNat a_2) (Int.toNat a_5)=mixJ (bif goodZ pr pw ph n a then solZ pr pw ph n a else []) (List.length (List.getD (bif goodZ pr pw ph n a then solZ pr pw ph n a else []) (Int.toNat (0:Int)) [])) (Int.toNat a_2) (Int.toNat (IntKind.wrap .i64 (a_5 + (1:Int)))))∧
 True)∧True)∧
 At (surI (bif goodZ pr pw ph n a then solZ pr pw ph n a else []) (List.length (List.getD (bif goodZ pr pw ph n a then solZ pr pw ph n a else []) (Int.toNat (0:Int)) [])) a_2 (IntKind.wrap .i64 (a_5 + (1:Int)))∧
 Int.toNat ((↑(List.length (List.getD (bif goodZ pr pw ph n a then solZ pr pw ph n a else []) (Int.toNat (0:Int)) [])):Int) - IntKind.wrap .i64 (a_5 + (1:Int))) < Int.toNat ((↑(List.length (List.getD (bif goodZ pr pw ph n a then solZ pr pw ph n a else []) (Int.toNat (0:Int)) [])):Int) - a_5))))∧
 (decide (a_5 < (↑(List.length (List.getD (bif goodZ pr pw ph n a then solZ pr pw ph n a else []) (Int.toNat (0:Int)) [])):Int))=false→(True∧(((1:Nat)=(1:Nat)∧(0:Nat)=(0:Nat))∧((2:Nat)=(2:Nat)∧
 List.length (bif goodZ pr pw ph n a then solZ pr pw ph n a else [])=List.length (bif goodZ pr pw ph n a then solZ pr pw ph n a else []))∧((3:Nat)=(3:Nat)∧
 List.length (List.getD (bif goodZ pr pw ph n a then solZ pr pw ph n a else []) (Int.toNat (0:Int)) [])=List.length (List.getD (bif goodZ pr pw ph n a then solZ pr pw ph n a else []) (Int.toNat (0:Int)) []))∧
 ((2:Nat)=(2:Nat)∧List.length (bif goodZ pr pw ph n a then solZ pr pw ph n a else [])=List.length (bif goodZ pr pw ph n a then solZ pr pw ph n a else []))∧(True∧
 (↑(List.length (bif goodZ pr pw ph n a then solZ pr pw ph n a else [])):Int)=(↑(List.length (bif goodZ pr pw ph n a then solZ pr pw ph n a else [])):Int))∧(True∧
 IntKind.wrap .i64 (a_2 + (1:Int))=IntKind.wrap .i64 (a_2 + (1:Int)))∧True)∧((True∧IntKind.i64=IntKind.i64∧a=a)∧(True∧pr=pr∧(True∧pw=pw)∧(True∧ph=ph)∧((0:Nat)=(0:Nat)∧n=n)∧True)∧(True∧
 (bif goodZ pr pw ph n a then solZ pr pw ph n a else [])=bif goodZ pr pw ph n a then solZ pr pw ph n a else [])∧(True∧
 mixJ (bif goodZ pr pw ph n a then solZ pr pw ph n a else []) (List.length (List.getD (bif goodZ pr pw ph n a then solZ pr pw ph n a else []) (Int.toNat (0:Int)) [])) (Int.toNat a_2) (Int.toNat a_5)=rowJ (bif goodZ pr pw ph n a then solZ pr pw ph n a else []) (List.length (List.getD (bif goodZ pr pw ph n a then solZ pr pw ph n a else []) (Int.toNat (0:Int)) [])) (Int.toNat (IntKind.wrap .i64 (a_2 + (1:Int)))))∧
 True)∧True)∧At (surJ (bif goodZ pr pw ph n a then solZ pr pw ph n a else []) (IntKind.wrap .i64 (a_2 + (1:Int)))∧
 Int.toNat ((↑(List.length (bif goodZ pr pw ph n a then solZ pr pw ph n a else [])):Int) - IntKind.wrap .i64 (a_2 + (1:Int))) < Int.toNat ((↑(List.length (bif goodZ pr pw ph n a then solZ pr pw ph n a else [])):Int) - a_2))))∧
 (decide (a_2 < (↑(List.length (bif goodZ pr pw ph n a then solZ pr pw ph n a else [])):Int))=false→
 At (List.length (List.getD (bif goodZ pr pw ph n a then solZ pr pw ph n a else []) (Int.toNat (0:Int)) [])≤List.length (rowJ (bif goodZ pr pw ph n a then solZ pr pw ph n a else []) (List.length (List.getD (bif goodZ pr pw ph n a then solZ pr pw ph n a else []) (Int.toNat (0:Int)) [])) (Int.toNat a_2)))∧
 K (V.tup [V.str (List.take (List.length (List.getD (bif goodZ pr pw ph n a then solZ pr pw ph n a else []) (Int.toNat (0:Int)) [])) (rowJ (bif goodZ pr pw ph n a then solZ pr pw ph n a else []) (List.length (List.getD (bif goodZ pr pw ph n a then solZ pr pw ph n a else []) (Int.toNat (0:Int)) [])) (Int.toNat a_2))),V.lit true]) [⟨Cells.ints .i64 a,83,Kind.rows (3:Nat)⟩,⟨Cells.vals [V.str pr,V.int .i64 pw,V.int .i64 ph,V.row (0:Nat) n],31,Kind.box⟩,⟨Cells.strs (bif goodZ pr pw ph n a then solZ pr pw ph n a else []),9,Kind.row⟩,⟨Cells.bytes (rowJ (bif goodZ pr pw ph n a then solZ pr pw ph n a else []) (List.length (List.getD (bif goodZ pr pw ph n a then solZ pr pw ph n a else []) (Int.toNat (0:Int)) [])) (Int.toNat a_2)),5,Kind.marked⟩]))
end Go.Vi

/- Sure cells: the conditions hold. -/
namespace Go.Vi
theorem agree_succ {L : List (List UInt8)} {j i : Nat} (hj : j < L.length) : agreeB L (j + 1) i = (agreeB L j i && (L.getD j []).getD i 0 == (L.getD 0 []).getD i 0) := by
 unfold agreeB
 rw [List.take_succ_eq_append_getElem hj, List.all_append]
 have hg : L[j] = L.getD j [] := by rw [List.getD_eq_getElem?_getD, List.getElem?_eq_getElem hj]; rfl
 rw [hg]
 simp only [List.all_cons, List.all_nil, Bool.and_true]
theorem agree_no {L : List (List UInt8)} {j i : Nat} (h : agreeB L j i = false) : agreeB L L.length i = false := by
 unfold agreeB at h ⊢
 rw [List.all_eq_false] at h ⊢
 obtain ⟨t, ht, hn⟩ := h
 exact ⟨t, by rw [List.take_length]; exact List.mem_of_mem_take ht, hn⟩
theorem sureT_succ (L : List (List UInt8)) (i : Nat) : sureT L (i + 1) = sureT L i ++ [sureA L L.length i] := by
 unfold sureT
 rw [List.range_succ, List.map_append]
 rfl
theorem sureT_len (L : List (List UInt8)) (i : Nat) : (sureT L i).length = i := by simp [sureT]
theorem sub_one {t : List UInt8} {i : Nat} (h : i < t.length) : (t.take (i + 1)).drop i = [t.getD i 0] := by
 rw [List.take_succ_eq_append_getElem h, List.drop_append_of_le_length (by rw [List.length_take]; omega), List.drop_eq_nil_of_le (by rw [List.length_take]; omega), List.nil_append, List.getD_eq_getElem?_getD, List.getElem?_eq_getElem h]
 rfl
theorem rowJ_len (L : List (List UInt8)) (m j : Nat) : (rowJ L m j).length = m := by simp [rowJ]
theorem mixJ_len (L : List (List UInt8)) (m j i : Nat) : (mixJ L m j i).length = m := by simp [mixJ]
theorem rowJ_at {L : List (List UInt8)} {m j q : Nat} (h : q < m) : (rowJ L m j)[q]'(by rw [rowJ_len]; exact h) = sureA L j q := by simp [rowJ]
theorem mixJ_at {L : List (List UInt8)} {m j i q : Nat} (h : q < m) : (mixJ L m j i)[q]'(by rw [mixJ_len]; exact h) = sureA L (bif decide (q < i) then j + 1 else j) q := by simp [mixJ]
theorem row0 {L : List (List UInt8)} {m : Nat} (h : (L.getD 0 []).length = m) : L.getD 0 [] = rowJ L m 0 := by
 refine List.ext_getElem (by rw [rowJ_len, h]) fun q h1 h2 => ?_
 rw [rowJ_at (by omega), sureA, agreeB]
 simp only [List.take_zero, List.all_nil, cond_true]
 rw [List.getD_eq_getElem?_getD (l := L.getD 0 []), List.getElem?_eq_getElem h1]
 rfl
theorem mix0 (L : List (List UInt8)) (m j : Nat) : rowJ L m j = mixJ L m j 0 := by
 refine List.ext_getElem (by rw [rowJ_len, mixJ_len]) fun q h1 h2 => ?_
 rw [rowJ_len] at h1
 rw [rowJ_at h1, mixJ_at h1, decide_eq_false (by omega)]
 rfl
theorem mixE (L : List (List UInt8)) (m j : Nat) : mixJ L m j m = rowJ L m (j + 1) := by
 refine List.ext_getElem (by rw [rowJ_len, mixJ_len]) fun q h1 h2 => ?_
 rw [mixJ_len] at h1
 rw [rowJ_at h1, mixJ_at h1, decide_eq_true h1]
 rfl
theorem mix_here {L : List (List UInt8)} {m j i : Nat} (h : i < m) : (mixJ L m j i).getD i 0 = sureA L j i := by
 rw [List.getD_eq_getElem?_getD, List.getElem?_eq_getElem (by rw [mixJ_len]; exact h), mixJ_at h, decide_eq_false (by omega)]
 rfl
theorem mix_set {L : List (List UInt8)} {m j i : Nat} {b : UInt8} (hb : b = sureA L (j + 1) i) : (mixJ L m j i).set i b = mixJ L m j (i + 1) := by
 subst hb
 refine List.ext_getElem (by rw [List.length_set, mixJ_len, mixJ_len]) fun q h1 h2 => ?_
 rw [mixJ_len] at h2
 rw [List.getElem_set]
 by_cases hq : i = q
 ·subst hq
  rw [if_pos rfl, mixJ_at h2, decide_eq_true (by omega)]
  rfl
 ·rw [if_neg hq, mixJ_at h2, mixJ_at h2]
  by_cases hl : q < i
  ·rw [decide_eq_true hl, decide_eq_true (by omega)]
  ·rw [decide_eq_false hl, decide_eq_false (by omega)]
theorem mix_stay {L : List (List UInt8)} {m j i : Nat} (hb : sureA L (j + 1) i = sureA L j i) : mixJ L m j i = mixJ L m j (i + 1) := by
 refine List.ext_getElem (by rw [mixJ_len, mixJ_len]) fun q h1 h2 => ?_
 rw [mixJ_len] at h2
 rw [mixJ_at h2, mixJ_at h2]
 by_cases hq : q = i
 ·subst hq
  rw [decide_eq_false (by omega), decide_eq_true (by omega)]
  exact hb.symm
 ·by_cases hl : q < i
  ·rw [decide_eq_true hl, decide_eq_true (by omega)]
  ·rw [decide_eq_false hl, decide_eq_false (by omega)]
theorem sure_no {L : List (List UInt8)} {j i : Nat} (hj : j < L.length) (h : (L.getD j []).getD i 0 ≠ sureA L j i) : sureA L (j + 1) i = 63 := by
 unfold sureA at h ⊢
 rw [agree_succ hj]
 cases ha : agreeB L j i
 ·rfl
 ·rw [ha, cond_true] at h
  rw [Bool.true_and, beq_eq_false_iff_ne.2 h]
  rfl
theorem sure_yes {L : List (List UInt8)} {j i : Nat} (hj : j < L.length) (h : (L.getD j []).getD i 0 = sureA L j i) (hd : (L.getD j []).getD i 0 ≠ 63) : sureA L (j + 1) i = sureA L j i := by
 unfold sureA at h ⊢
 rw [agree_succ hj]
 cases ha : agreeB L j i
 ·rw [ha] at h
  exact absurd h hd
 ·rw [ha, cond_true] at h
  rw [Bool.true_and, beq_iff_eq.2 h]
theorem sol_in {r t : List UInt8} {w h : Int} {n : Nat} {a : List Int} (hg : goodZ r w h n a = true) (ht : t ∈ solZ r w h n a) : t.length = (w * h).toNat /\ colsB t r.length = true := by
 have hb := size_bd (goodZ_in hg).1
 exact texts_mem (c := r.length) (by omega) (List.mem_filter.1 ht).1
theorem sol_few {r : List UInt8} {w h : Int} {n : Nat} {a : List Int} (hg : goodZ r w h n a = true) : (solZ r w h n a).length <= 300 := Nat.le_trans (List.length_filter_le _ _) (goodZ_in hg).2.2.2
theorem cols_ne {t : List UInt8} {k : Int} {i : Nat} (hc : colsB t k = true) (hk : k <= 9) (hi : i < t.length) : t.getD i 0 ≠ 63 := by
 intro he
 unfold colsB at hc
 rw [List.all_eq_true] at hc
 have := hc (t.getD i 0) (by rw [List.getD_eq_getElem?_getD, List.getElem?_eq_getElem hi]; exact List.getElem_mem hi)
 rw [he, inB_eq] at this
 have h63 : (63 : UInt8).toNat = 63 := rfl
 omega
theorem retG_st {a : List Int} {e : TypeId} {s s' : List UInt8} {c : Bool} {x : V} {rest : List Blk} (h1 : s' = s) (hx : x = .lit c \/ x = .bool c) : retG 1 (.tup [.str s, .bool c]) [⟨.ints .i64 a, e, .rows 3⟩] (.tup [.str s', x]) (⟨.ints .i64 a, e, .rows 3⟩ :: rest) := by
 subst h1
 rcases hx with rfl | rfl
 all_goals
  unfold retG leSel leSelBy autoSel
  simp [pairsL, pairsV, idPairs, pairsIn, selOf, lookN, selMem, chkB, nodupSel, hasSel, prefSel, leSt, leL, leV, nilToL, V.nilTo, selL, V.sel, Cells.selN, leMem, leCells, memUnder, underL, V.under]
theorem len0 {L : List (List UInt8)} (h : (((L.length : Nat) : Int) == 0) = true) : L = [] := by
 rw [beq_iff_eq] at h
 exact List.eq_nil_of_length_eq_zero (by omega)
theorem vc_spec_SureCells (pr : List UInt8) (pw ph : Int) (n : Nat) (a : List Int) (h : a.length = n * 3 /\ n <= 2000000) : VC_spec_SureCells pr pw ph n a
  (retG 1 (.tup [.str (sureS (surB pr pw ph n a) (pw * ph).toNat), .bool (decide (0 < (surB pr pw ph n a).length))]) [⟨.ints .i64 a, 83, .rows 3⟩]) := by
 unfold VC_spec_SureCells
 refine ⟨⟨h⟩, fun hg => ?_, fun hg => ?_⟩
 ·rw [Bool.not_eq_true'] at hg
  rw [show surB pr pw ph n a = [] by unfold surB; rw [hg]; rfl]
  exact retG_st rfl (.inl rfl)
 ·rw [Bool.not_eq_false'] at hg
  rw [show surB pr pw ph n a = solZ pr pw ph n a by unfold surB; rw [hg]; rfl]
  have hb := size_bd (goodZ_in hg).1
  have hL : ∀ j, j < (solZ pr pw ph n a).length -> ((solZ pr pw ph n a).getD j []).length = (pw * ph).toNat := fun j hj => (sol_in hg (getD_in hj)).1
  have hF := sol_few hg
  generalize hLL : solZ pr pw ph n a = L at *
  refine ⟨⟨hg, h.1⟩, fun h0 => ?_, fun h0 => ?_⟩
  ·rw [len0 h0]
   exact retG_st rfl (.inl rfl)
  ·have hp : 0 < L.length := by
    have := beq_eq_false_iff_ne.1 h0
    omega
   refine ⟨by simp [sureT], ⟨Int.le_refl _, by omega⟩, fun i hi => ⟨fun hc => ?_, fun hc => ?_⟩⟩
   ·have hc := of_decide_eq_true hc
    obtain ⟨i1, i2⟩ := hi
    rw [wrap64_in (x := pw * ph) (by omega)] at hc
    have e0 := hL 0 hp
    have hin : i.toNat < (L.getD 0 []).length := by omega
    have hto : (i + 1).toNat = i.toNat + 1 := by omega
    have hl := sureT_len L i.toNat
    simp only [wrap64_in (x := i + 1) (by omega), hto, Int.toNat_zero, sub_one hin]
    refine ⟨⟨by omega, by omega⟩, ⟨hp⟩, ⟨by omega, by omega, by omega⟩, by simp, ⟨i1, by omega, by omega, by omega, rfl⟩, fun j hj => ⟨fun hcj => ?_, fun hcj => ?_⟩⟩
    ·have hcj := of_decide_eq_true hcj
     obtain ⟨_, _, j1, j2, hag⟩ := hj
     have hjl : j.toNat < L.length := by omega
     have ej := hL j.toNat hjl
     have hinj : i.toNat < (L.getD j.toNat []).length := by omega
     simp only [sub_one hinj]
     refine ⟨⟨by omega, by omega⟩, ⟨hjl⟩, ⟨by omega, by omega, by omega⟩, fun hne => ?_, fun heq => ?_⟩
     ·rw [Bool.not_eq_true', beq_eq_false_iff_ne] at hne
      have hbad : agreeB L (j.toNat + 1) i.toNat = false := by
       rw [agree_succ hjl, beq_eq_false_iff_ne.2 (fun he => hne (by rw [he])), Bool.and_false]
      have hs : sureA L L.length i.toNat = 63 := by unfold sureA; rw [agree_no hbad]; rfl
      rw [sureT_succ, hs]
      have hi' : surInv (pw * ph) (i + 1) /\ (pw * ph - (i + 1)).toNat < (pw * ph - i).toNat := ⟨⟨by omega, by omega⟩, by omega⟩
      refine ⟨⟨?_⟩, by simp, ⟨hi'⟩⟩
      show (sureT L i.toNat).length + 1 <= _
      omega
     ·rw [Bool.not_eq_false', beq_iff_eq] at heq
      have hgood : agreeB L (j + 1).toNat i.toNat = true := by
       rw [show (j + 1).toNat = j.toNat + 1 by omega, agree_succ hjl, hag, List.cons.inj heq |>.1]
       simp
      have hj' : surIn L (pw * ph) i (j + 1) /\ ((L.length : Int) - (j + 1)).toNat < ((L.length : Int) - j).toNat := ⟨⟨by omega, by omega, by omega, by omega, hgood⟩, by omega⟩
      rw [wrap64_in (x := j + 1) (by omega)]
      exact ⟨by simp, ⟨hj'⟩⟩
    ·have hcj := of_decide_eq_false hcj
     obtain ⟨_, _, j1, j2, hag⟩ := hj
     rw [show j.toNat = L.length by omega] at hag
     have hs : sureA L L.length i.toNat = (L.getD 0 []).getD i.toNat 0 := by unfold sureA; rw [hag]; rfl
     rw [sureT_succ, hs]
     have hi' : surInv (pw * ph) (i + 1) /\ (pw * ph - (i + 1)).toNat < (pw * ph - i).toNat := ⟨⟨by omega, by omega⟩, by omega⟩
     refine ⟨⟨?_⟩, by simp, ⟨hi'⟩⟩
     show (sureT L i.toNat).length + 1 <= _
     omega
   ·have hc := of_decide_eq_false hc
    obtain ⟨i1, i2⟩ := hi
    rw [wrap64_in (x := pw * ph) (by omega)] at hc
    rw [show i = pw * ph by omega, decide_eq_true hp]
    refine retG_st ?_ (.inl rfl)
    unfold sureS
    rw [decide_eq_true hp]
    rfl
theorem vc_impl_SureCells (pr : List UInt8) (pw ph : Int) (n : Nat) (a : List Int) (h : a.length = n * 3 /\ n <= 2000000) : VC_impl_SureCells pr pw ph n a
  (retG 1 (.tup [.str (sureS (surB pr pw ph n a) (pw * ph).toNat), .bool (decide (0 < (surB pr pw ph n a).length))]) [⟨.ints .i64 a, 83, .rows 3⟩]) := by
 unfold VC_impl_SureCells
 have hL : ∀ j, j < (surB pr pw ph n a).length -> ((surB pr pw ph n a).getD j []).length = (pw * ph).toNat /\ colsB ((surB pr pw ph n a).getD j []) pr.length = true /\ pr.length <= 6 /\ pw * ph <= 9 /\ (surB pr pw ph n a).length <= 300 := by
  intro j hj
  unfold surB at hj ⊢
  cases hg : goodZ pr pw ph n a
  ·rw [hg] at hj
   exact absurd hj (by simp)
  ·rw [hg] at hj
   have hb := size_bd (goodZ_in hg).1
   obtain ⟨h1, h2⟩ := sol_in hg (getD_in hj)
   exact ⟨h1, h2, by omega, by omega, sol_few hg⟩
 rw [show (bif goodZ pr pw ph n a then solZ pr pw ph n a else []) = surB pr pw ph n a from rfl]
 generalize surB pr pw ph n a = L at *
 refine ⟨⟨h⟩, fun h0 => ?_, fun h0 => ?_⟩
 ·rw [len0 h0]
  exact retG_st rfl (.inl rfl)
 ·have hp : 0 < L.length := by
   have := beq_eq_false_iff_ne.1 h0
   omega
  obtain ⟨e0, _, hk, h9, hF⟩ := hL 0 hp
  simp only [Int.toNat_zero, e0]
  generalize hm : (pw * ph).toNat = m at *
  have hLl : L.length <= L.length := Nat.le_refl _
  refine ⟨⟨by omega, by omega⟩, ⟨hp⟩, ⟨by omega⟩, by simp [<- row0 e0], ⟨Int.le_refl _, by omega⟩, fun j hj => ⟨fun hc => ?_, fun hc => ?_⟩⟩
  ·have hc := of_decide_eq_true hc
   obtain ⟨j1, j2⟩ := hj
   have hjl : j.toNat < L.length := by omega
   obtain ⟨ej, cj, _⟩ := hL j.toNat hjl
   refine ⟨⟨by omega, by omega⟩, ⟨hjl⟩, by simp [<- mix0], ⟨j1, hc, Int.le_refl _, by omega⟩, fun i hi => ⟨fun hci => ?_, fun hci => ?_⟩⟩
   ·have hci := of_decide_eq_true hci
    obtain ⟨_, _, i1, i2⟩ := hi
    have hil : i.toNat < m := by omega
    have hml := mixJ_len L m j.toNat i.toNat
    have hdn := cols_ne (i := i.toNat) cj (by omega) (by omega)
    have hi' : surI L m j (i + 1) /\ ((m : Int) - (i + 1)).toNat < ((m : Int) - i).toNat := ⟨⟨j1, hc, by omega, by omega⟩, by omega⟩
    rw [mix_here hil, wrap64_in (x := i + 1) (by omega), show (i + 1).toNat = i.toNat + 1 by omega]
    refine ⟨trivial, ⟨by omega, by omega⟩, ⟨by omega, by omega⟩, ⟨by omega⟩, fun hne => ?_, fun heq => ?_⟩
    ·rw [bne_iff_ne] at hne
     have hs := sure_no hjl (fun he => hne (by rw [he]))
     refine ⟨⟨by omega, by omega⟩, ⟨by omega, by omega, by omega⟩, ?_, ⟨hi'⟩⟩
     rw [mix_set (b := UInt8.ofNat (Int.toNat 63)) (by rw [hs]; rfl)]
     simp
    ·rw [bne_eq_false_iff_eq] at heq
     have hs := sure_yes hjl (UInt8.toNat_inj.1 (by omega)) hdn
     refine ⟨?_, ⟨hi'⟩⟩
     rw [<- mix_stay hs]
     simp
   ·have hci := of_decide_eq_false hci
    obtain ⟨_, _, i1, i2⟩ := hi
    have hj' : surJ L (j + 1) /\ ((L.length : Int) - (j + 1)).toNat < ((L.length : Int) - j).toNat := ⟨⟨by omega, by omega⟩, by omega⟩
    rw [wrap64_in (x := j + 1) (by omega), show i.toNat = m by omega, show (j + 1).toNat = j.toNat + 1 by omega, mixE]
    exact ⟨by simp, ⟨hj'⟩⟩
  ·have hc := of_decide_eq_false hc
   obtain ⟨j1, j2⟩ := hj
   have hl := rowJ_len L m j.toNat
   refine ⟨⟨by omega⟩, ?_⟩
   rw [show j.toNat = L.length by omega, decide_eq_true hp]
   refine retG_st ?_ (.inl rfl)
   rw [List.take_of_length_le (by rw [rowJ_len]; omega)]
   unfold sureS
   rw [decide_eq_true hp]
   rfl
end Go.Vi
