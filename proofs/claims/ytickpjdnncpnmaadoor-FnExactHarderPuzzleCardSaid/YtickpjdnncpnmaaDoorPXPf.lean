import Derived.Test.YtickpjdnncpnmaaDoorPCPf
/- Puzzles: all solutions, as the reference finds them. -/
namespace Go.Vi
def lookD (r : List UInt8) (w h : Int) (n : Nat) (a : List Int) (b : List UInt8) (d : Nat) : List (List UInt8) := (List.range d).flatMap fun c : Nat => lookX r w h n a (b ++ num1 (c : Int))
def lk1 (r : List UInt8) (w h : Int) (n : Nat) (a : List Int) (b : List UInt8) (i : Int) : Prop := 0 <= i /\ i <= n /\ fitsN r w h a b i.toNat = true
def lk2 (r : List UInt8) (d : Int) : Prop := 0 <= d /\ d <= r.length
def ann_spec_pzLook : Nat -> St -> Option Ann := fun key st =>
 match Nat.beq key 4, Nat.beq key 10, strAt st 1 with
 | true, _, some b =>
  (match st.mem with
  | [⟨.ints _ a, _, _⟩, _, _, ⟨.vals [.str r, .int _ w, .int _ h, .row x n], _, _⟩, _] => some {
      α := Int
      find := fun st => intAt st 29
      head := fun i => { only st [(1, .str b), (2, .ptr 1 0), (3, .ptr 3 0), (6, .ptr 4 0), (27, .row x n), (28, .int .i64 n), (29, .int .i64 i)] with mem := st.mem }
      inv := fun i => lk1 r w h n a b i
      meas := fun i => ((n : Int) - i).toNat
      auto := true }
  | [⟨.ints _ a, _, _⟩, _, ⟨.vals [.str r, .int _ w, .int _ h, .row x n], _, _⟩, _] => some {
      α := Int
      find := fun st => intAt st 29
      head := fun i => { only st [(1, .str b), (2, .ptr 1 0), (3, .ptr 2 0), (6, .ptr 3 0), (27, .row x n), (28, .int .i64 n), (29, .int .i64 i)] with mem := st.mem }
      inv := fun i => lk1 r w h n a b i
      meas := fun i => ((n : Int) - i).toNat
      auto := true }
  | _ => none)
 | _, true, some b =>
  (match st.mem with
  | [⟨.ints kd a, e0, k0⟩, ⟨_, e1, k1⟩, ⟨.strs l, e2, k2⟩, ⟨.vals [.str r, .int i1 w, .int i2 h, .row x n], e3, k3⟩] => some {
      α := Int
      find := fun st => intAt st 49
      head := fun d => { only st [(1, .str b), (2, .ptr 1 0), (3, .ptr 3 0), (48, .int .i64 r.length), (49, .int .i64 d)] with mem := [⟨.ints kd a, e0, k0⟩, ⟨.vals [.row 4 (l ++ lookD r w h n a b d.toNat).length], e1, k1⟩, ⟨.dead, e2, k2⟩, ⟨.vals [.str r, .int i1 w, .int i2 h, .row x n], e3, k3⟩, ⟨.strs (l ++ lookD r w h n a b d.toNat), e2, k2⟩] }
      inv := fun d => lk2 r d
      meas := fun d => ((r.length : Int) - d).toNat
      auto := true }
  | [⟨.ints kd a, e0, k0⟩, ⟨_, e1, k1⟩, ⟨.vals [.str r, .int i1 w, .int i2 h, .row x n], e3, k3⟩] => some {
      α := Int
      find := fun st => intAt st 49
      head := fun d => { only st [(1, .str b), (2, .ptr 1 0), (3, .ptr 2 0), (48, .int .i64 r.length), (49, .int .i64 d)] with mem := [⟨.ints kd a, e0, k0⟩, ⟨.vals [.row 3 (lookD r w h n a b d.toNat).length], e1, k1⟩, ⟨.vals [.str r, .int i1 w, .int i2 h, .row x n], e3, k3⟩, ⟨.strs (lookD r w h n a b d.toNat), 9, .row⟩] }
      inv := fun d => lk2 r d
      meas := fun d => ((r.length : Int) - d).toNat
      auto := true }
  | _ => none)
 | _, _, _ => none
end Go.Vi

/- Closed forms of the functions of this chapter. -/
namespace Go.Vi
set_option linter.unusedVariables false
def F_spec_pzLook (mm : Nat) : GSpec := fun args m =>
 match args, m with
 | [.agg [.str pr, .int .i64 pw, .int .i64 ph, .row 0 n], .str b, .ptr 1 0], [⟨.ints .i64 a, 83, .rows 3⟩, ⟨.vals [.row 2 m], 26, .box⟩, ⟨.strs (l), 9, .row⟩] => some ((pw * ph).toNat - b.length < mm /\ goodZ pr pw ph n a = true /\ a.length = n * 3 /\ (b.length : Int) <= pw * ph /\ colsB b pr.length = true /\ l.length = m /\ m + pr.length ^ ((pw * ph).toNat - b.length) <= 1000, .tup [], [⟨.ints .i64 a, 83, .rows 3⟩, ⟨.vals [.row 3 (l ++ lookX pr pw ph n a b).length], 26, .box⟩, ⟨.dead, 9, .row⟩, ⟨.strs (l ++ lookX pr pw ph n a b), 9, .row⟩])
 | [.agg [.str pr, .int .i64 pw, .int .i64 ph, .row 0 n], .str b, .ptr 1 0], [⟨.ints .i64 a, 83, .rows 3⟩, ⟨.vals [.raw (.slice none 0 0)], 26, .box⟩] => some ((pw * ph).toNat - b.length < mm /\ goodZ pr pw ph n a = true /\ a.length = n * 3 /\ (b.length : Int) <= pw * ph /\ colsB b pr.length = true /\ pr.length ^ ((pw * ph).toNat - b.length) <= 1000, .tup [], [⟨.ints .i64 a, 83, .rows 3⟩, ⟨.vals [.row 2 (lookX pr pw ph n a b).length], 26, .box⟩, ⟨.strs (lookX pr pw ph n a b), 9, .row⟩])
 | [.agg [.str pr, .int .i64 pw, .int .i64 ph, .row 0 n], .str b, .ptr 1 0], [⟨.ints .i64 a, 83, .arg 3⟩, ⟨.vals [.row 2 m], 26, .box⟩, ⟨.strs (l), 9, .row⟩] => some ((pw * ph).toNat - b.length < mm /\ goodZ pr pw ph n a = true /\ a.length = n * 3 /\ (b.length : Int) <= pw * ph /\ colsB b pr.length = true /\ l.length = m /\ m + pr.length ^ ((pw * ph).toNat - b.length) <= 1000, .tup [], [⟨.ints .i64 a, 83, .arg 3⟩, ⟨.vals [.row 3 (l ++ lookX pr pw ph n a b).length], 26, .box⟩, ⟨.dead, 9, .row⟩, ⟨.strs (l ++ lookX pr pw ph n a b), 9, .row⟩])
 | [.agg [.str pr, .int .i64 pw, .int .i64 ph, .row 0 n], .str b, .ptr 1 0], [⟨.ints .i64 a, 83, .arg 3⟩, ⟨.vals [.raw (.slice none 0 0)], 26, .box⟩] => some ((pw * ph).toNat - b.length < mm /\ goodZ pr pw ph n a = true /\ a.length = n * 3 /\ (b.length : Int) <= pw * ph /\ colsB b pr.length = true /\ pr.length ^ ((pw * ph).toNat - b.length) <= 1000, .tup [], [⟨.ints .i64 a, 83, .arg 3⟩, ⟨.vals [.row 2 (lookX pr pw ph n a b).length], 26, .box⟩, ⟨.strs (lookX pr pw ph n a b), 9, .row⟩])
 | _, _ => none
def F_spec_pzAll : GSpec := fun args m =>
 match args, m with
 | [.agg [.str pr, .int .i64 pw, .int .i64 ph, .row 0 n]], [⟨.ints .i64 a, 83, .rows 3⟩] => some (goodZ pr pw ph n a = true /\ a.length = n * 3, .row 1 (solZ pr pw ph n a).length, [⟨.ints .i64 a, 83, .rows 3⟩, ⟨.strs (solZ pr pw ph n a), 9, .row⟩])
 | [.agg [.str pr, .int .i64 pw, .int .i64 ph, .row 0 n]], [⟨.ints .i64 a, 83, .arg 3⟩] => some (goodZ pr pw ph n a = true /\ a.length = n * 3, .row 1 (solZ pr pw ph n a).length, [⟨.ints .i64 a, 83, .arg 3⟩, ⟨.strs (solZ pr pw ph n a), 9, .row⟩])
 | _, _ => none
end Go.Vi

/- The conditions, reckoned out by program: texts alone. -/
namespace Go.Vi
set_option linter.unusedVariables false
def VC_spec_pzLook (b:List UInt8)(pr:List UInt8)(pw:Int)(ph:Int)(n:Nat)(a:List Int)(m:Nat)(l:List (List UInt8))(mm:Nat)(K:V → List Blk → Prop):Prop:=
 (((↑(List.length b):Int)==IntKind.wrap .i64 (pw * ph))=true→(True∧(b=b∧((1:Nat)=(1:Nat)∧(0:Nat)=(0:Nat))∧((3:Nat)=(3:Nat)∧(0:Nat)=(0:Nat))∧((4:Nat)=(4:Nat)∧(0:Nat)=(0:Nat))∧((0:Nat)=(0:Nat)∧n=n)∧(True∧(↑n:Int)=(↑n:Int))∧
 (True∧(0:Int)=(0:Int))∧True)∧((True∧IntKind.i64=IntKind.i64∧a=a)∧(True∧((2:Nat)=(2:Nat)∧m=m)∧True)∧(True∧l=l)∧(True∧pr=pr∧(True∧pw=pw)∧(True∧ph=ph)∧((0:Nat)=(0:Nat)∧n=n)∧True)∧(True∧pr=pr∧(True∧pw=pw)∧(True∧ph=ph)∧b=b∧
 (True∧(0:Int)=(0:Int))∧(True∧(0:Int)=(0:Int))∧(True∧(0:Int)=(0:Int))∧True)∧True)∧True)∧At (lk1 pr pw ph n a b (0:Int))∧∀(a_2:Int),lk1 pr pw ph n a b a_2→(decide (a_2 < (↑n:Int))=true→At ((0:Int)≤a_2∧a_2 < (↑n:Int))∧
 At (Int.toNat a_2 * (3:Nat) + (3:Nat)≤List.length a)∧At (goodB { r := pr,w := pw,h := ph,c := b,x := (0:Int),y := (0:Int),d := (0:Int) }=true∧
 clueB (List.getD a (Int.toNat a_2 * (3:Nat)) (0:Int)) (List.getD a (Int.toNat a_2 * (3:Nat) + (1:Nat)) (0:Int)) (List.getD a (Int.toNat a_2 * (3:Nat) + (1:Nat) + (1:Nat)) (0:Int)) (↑(List.length pr):Int) (pw * ph)=true)∧
 ((!fitB (List.getD a (Int.toNat a_2 * (3:Nat)) (0:Int)) (List.getD a (Int.toNat a_2 * (3:Nat) + (1:Nat)) (0:Int)) (List.getD a (Int.toNat a_2 * (3:Nat) + (1:Nat) + (1:Nat)) (0:Int)) { r := pr,w := pw,h := ph,c := b,x := (0:Int),y := (0:Int),d := (0:Int) })=true→
 K (V.tup []) [⟨Cells.ints .i64 a,83,Kind.rows (3:Nat)⟩,⟨Cells.vals [V.row (2:Nat) m],26,Kind.box⟩,⟨Cells.strs l,9,Kind.row⟩,⟨Cells.vals [V.str pr,V.int .i64 pw,V.int .i64 ph,V.row (0:Nat) n],31,Kind.box⟩,⟨Cells.vals [V.str pr,V.int .i64 pw,V.int .i64 ph,V.str b,V.int .i64 (0:Int),V.int .i64 (0:Int),V.int .i64 (0:Int)],53,Kind.box⟩,⟨Cells.vals [V.int .i64 (List.getD a (Int.toNat a_2 * (3:Nat)) (0:Int)),V.int .i64 (List.getD a (Int.toNat a_2 * (3:Nat) + (1:Nat)) (0:Int)),V.int .i64 (List.getD a (Int.toNat a_2 * (3:Nat) + (1:Nat) + (1:Nat)) (0:Int))],83,Kind.box⟩])∧
 ((!fitB (List.getD a (Int.toNat a_2 * (3:Nat)) (0:Int)) (List.getD a (Int.toNat a_2 * (3:Nat) + (1:Nat)) (0:Int)) (List.getD a (Int.toNat a_2 * (3:Nat) + (1:Nat) + (1:Nat)) (0:Int)) { r := pr,w := pw,h := ph,c := b,x := (0:Int),y := (0:Int),d := (0:Int) })=false→
 (True∧(b=b∧((1:Nat)=(1:Nat)∧(0:Nat)=(0:Nat))∧((3:Nat)=(3:Nat)∧(0:Nat)=(0:Nat))∧((4:Nat)=(4:Nat)∧(0:Nat)=(0:Nat))∧((0:Nat)=(0:Nat)∧n=n)∧(True∧(↑n:Int)=(↑n:Int))∧(True∧
 IntKind.wrap .i64 (a_2 + (1:Int))=IntKind.wrap .i64 (a_2 + (1:Int)))∧True)∧((True∧IntKind.i64=IntKind.i64∧a=a)∧(True∧((2:Nat)=(2:Nat)∧m=m)∧True)∧(True∧l=l)∧(True∧pr=pr∧(True∧pw=pw)∧(True∧ph=ph)∧((0:Nat)=(0:Nat)∧n=n)∧
 True)∧(True∧pr=pr∧(True∧pw=pw)∧(True∧ph=ph)∧b=b∧(True∧(0:Int)=(0:Int))∧(True∧(0:Int)=(0:Int))∧(True∧(0:Int)=(0:Int))∧True)∧True)∧True)∧At (lk1 pr pw ph n a b (IntKind.wrap .i64 (a_2 + (1:Int)))∧
 Int.toNat ((↑n:Int) - IntKind.wrap .i64 (a_2 + (1:Int))) < Int.toNat ((↑n:Int) - a_2))))∧(decide (a_2 < (↑n:Int))=false→At ((List.length l=m * (1:Nat)∧(1:Nat) * (1:Nat)≤List.length [b])∧posM Kind.row (1:Nat)∧
 m + (1:Nat)≤(1000000000:Nat))∧
 K (V.tup []) [⟨Cells.ints .i64 a,83,Kind.rows (3:Nat)⟩,⟨Cells.vals [V.row (6:Nat) (m + (1:Nat))],26,Kind.box⟩,⟨Cells.dead,9,Kind.row⟩,⟨Cells.vals [V.str pr,V.int .i64 pw,V.int .i64 ph,V.row (0:Nat) n],31,Kind.box⟩,⟨Cells.vals [V.str pr,V.int .i64 pw,V.int .i64 ph,V.str b,V.int .i64 (0:Int),V.int .i64 (0:Int),V.int .i64 (0:Int)],53,Kind.box⟩,⟨Cells.strs [b],9,Kind.row⟩,⟨Cells.strs (l ++ List.take ((1:Nat) * (1:Nat)) [b]),9,Kind.row⟩]))∧
 (((↑(List.length b):Int)==IntKind.wrap .i64 (pw * ph))=false→(True∧(b=b∧((1:Nat)=(1:Nat)∧(0:Nat)=(0:Nat))∧((3:Nat)=(3:Nat)∧(0:Nat)=(0:Nat))∧(True∧(↑(List.length pr):Int)=(↑(List.length pr):Int))∧(True∧(0:Int)=(0:Int))∧
 True)∧((True∧IntKind.i64=IntKind.i64∧a=a)∧(True∧((4:Nat)=(4:Nat)∧m=List.length (l ++ lookD pr pw ph n a b (Int.toNat (0:Int))))∧True)∧(True∧True)∧(True∧pr=pr∧(True∧pw=pw)∧(True∧ph=ph)∧((0:Nat)=(0:Nat)∧n=n)∧True)∧(True∧
 l=l ++ lookD pr pw ph n a b (Int.toNat (0:Int)))∧True)∧True)∧At (lk2 pr (0:Int))∧∀(a_2:Int),lk2 pr a_2→(decide (a_2 < (↑(List.length pr):Int))=true→True∧At ((0:Int)≤a_2∧a_2≤(9:Int))∧
 At (List.length b + List.length (num1 a_2)≤(9223372036854775807:Nat))∧At (Int.toNat (pw * ph) - List.length (b ++ num1 a_2) < mm∧goodZ pr pw ph n a=true∧List.length a=n * (3:Nat)∧
 (↑(List.length (b ++ num1 a_2)):Int)≤pw * ph∧colsB (b ++ num1 a_2) (↑(List.length pr):Int)=true∧List.length (l ++ lookD pr pw ph n a b (Int.toNat a_2))=List.length (l ++ lookD pr pw ph n a b (Int.toNat a_2))∧
 List.length (l ++ lookD pr pw ph n a b (Int.toNat a_2)) + List.length pr ^ (Int.toNat (pw * ph) - List.length (b ++ num1 a_2))≤(1000:Nat))∧(True∧(b=b∧((1:Nat)=(1:Nat)∧(0:Nat)=(0:Nat))∧((3:Nat)=(3:Nat)∧(0:Nat)=(0:Nat))∧
 (True∧(↑(List.length pr):Int)=(↑(List.length pr):Int))∧(True∧IntKind.wrap .i64 (a_2 + (1:Int))=IntKind.wrap .i64 (a_2 + (1:Int)))∧True)∧((True∧IntKind.i64=IntKind.i64∧a=a)∧(True∧((4:Nat)=(4:Nat)∧
 List.length (l ++ lookD pr pw ph n a b (Int.toNat a_2) ++ lookX pr pw ph n a (b ++ num1 a_2))=List.length (l ++ lookD pr pw ph n a b (Int.toNat (IntKind.wrap .i64 (a_2 + (1:Int))))))∧True)∧(True∧True)∧(True∧pr=pr∧(True∧
 pw=pw)∧(True∧ph=ph)∧((0:Nat)=(0:Nat)∧n=n)∧True)∧(True∧l ++ lookD pr pw ph n a b (Int.toNat a_2) ++ lookX pr pw ph n a (b ++ num1 a_2)=l ++ lookD pr pw ph n a b (Int.toNat (IntKind.wrap .i64 (a_2 + (1:Int)))))∧True)∧
 True)∧At (lk2 pr (IntKind.wrap .i64 (a_2 + (1:Int)))∧Int.toNat ((↑(List.length pr):Int) - IntKind.wrap .i64 (a_2 + (1:Int))) < Int.toNat ((↑(List.length pr):Int) - a_2)))∧(decide (a_2 < (↑(List.length pr):Int))=false→
 K (V.tup []) [⟨Cells.ints .i64 a,83,Kind.rows (3:Nat)⟩,⟨Cells.vals [V.row (4:Nat) (List.length (l ++ lookD pr pw ph n a b (Int.toNat a_2)))],26,Kind.box⟩,⟨Cells.dead,9,Kind.row⟩,⟨Cells.vals [V.str pr,V.int .i64 pw,V.int .i64 ph,V.row (0:Nat) n],31,Kind.box⟩,⟨Cells.strs (l ++ lookD pr pw ph n a b (Int.toNat a_2)),9,Kind.row⟩]))
def VC_spec_pzLook_2 (b:List UInt8)(pr:List UInt8)(pw:Int)(ph:Int)(n:Nat)(a:List Int)(mm:Nat)(K:V → List Blk → Prop):Prop:=
 (((↑(List.length b):Int)==IntKind.wrap .i64 (pw * ph))=true→(True∧(b=b∧((1:Nat)=(1:Nat)∧(0:Nat)=(0:Nat))∧((2:Nat)=(2:Nat)∧(0:Nat)=(0:Nat))∧((3:Nat)=(3:Nat)∧(0:Nat)=(0:Nat))∧((0:Nat)=(0:Nat)∧n=n)∧(True∧(↑n:Int)=(↑n:Int))∧
 (True∧(0:Int)=(0:Int))∧True)∧((True∧IntKind.i64=IntKind.i64∧a=a)∧(True∧Value.slice none (0:Nat) (0:Nat)=Value.slice none (0:Nat) (0:Nat)∧True)∧(True∧pr=pr∧(True∧pw=pw)∧(True∧ph=ph)∧((0:Nat)=(0:Nat)∧n=n)∧True)∧(True∧
 pr=pr∧(True∧pw=pw)∧(True∧ph=ph)∧b=b∧(True∧(0:Int)=(0:Int))∧(True∧(0:Int)=(0:Int))∧(True∧(0:Int)=(0:Int))∧True)∧True)∧True)∧At (lk1 pr pw ph n a b (0:Int))∧∀(a_2:Int),lk1 pr pw ph n a b a_2→(decide (a_2 < (↑n:Int))=true→
 At ((0:Int)≤a_2∧a_2 < (↑n:Int))∧At (Int.toNat a_2 * (3:Nat) + (3:Nat)≤List.length a)∧At (goodB { r := pr,w := pw,h := ph,c := b,x := (0:Int),y := (0:Int),d := (0:Int) }=true∧
 clueB (List.getD a (Int.toNat a_2 * (3:Nat)) (0:Int)) (List.getD a (Int.toNat a_2 * (3:Nat) + (1:Nat)) (0:Int)) (List.getD a (Int.toNat a_2 * (3:Nat) + (1:Nat) + (1:Nat)) (0:Int)) (↑(List.length pr):Int) (pw * ph)=true)∧
 ((!fitB (List.getD a (Int.toNat a_2 * (3:Nat)) (0:Int)) (List.getD a (Int.toNat a_2 * (3:Nat) + (1:Nat)) (0:Int)) (List.getD a (Int.toNat a_2 * (3:Nat) + (1:Nat) + (1:Nat)) (0:Int)) { r := pr,w := pw,h := ph,c := b,x := (0:Int),y := (0:Int),d := (0:Int) })=true→
 K (V.tup []) [⟨Cells.ints .i64 a,83,Kind.rows (3:Nat)⟩,⟨Cells.vals [V.raw (Value.slice none (0:Nat) (0:Nat))],26,Kind.box⟩,⟨Cells.vals [V.str pr,V.int .i64 pw,V.int .i64 ph,V.row (0:Nat) n],31,Kind.box⟩,⟨Cells.vals [V.str pr,V.int .i64 pw,V.int .i64 ph,V.str b,V.int .i64 (0:Int),V.int .i64 (0:Int),V.int .i64 (0:Int)],53,Kind.box⟩,⟨Cells.vals [V.int .i64 (List.getD a (Int.toNat a_2 * (3:Nat)) (0:Int)),V.int .i64 (List.getD a (Int.toNat a_2 * (3:Nat) + (1:Nat)) (0:Int)),V.int .i64 (List.getD a (Int.toNat a_2 * (3:Nat) + (1:Nat) + (1:Nat)) (0:Int))],83,Kind.box⟩])∧
 ((!fitB (List.getD a (Int.toNat a_2 * (3:Nat)) (0:Int)) (List.getD a (Int.toNat a_2 * (3:Nat) + (1:Nat)) (0:Int)) (List.getD a (Int.toNat a_2 * (3:Nat) + (1:Nat) + (1:Nat)) (0:Int)) { r := pr,w := pw,h := ph,c := b,x := (0:Int),y := (0:Int),d := (0:Int) })=false→
 (True∧(b=b∧((1:Nat)=(1:Nat)∧(0:Nat)=(0:Nat))∧((2:Nat)=(2:Nat)∧(0:Nat)=(0:Nat))∧((3:Nat)=(3:Nat)∧(0:Nat)=(0:Nat))∧((0:Nat)=(0:Nat)∧n=n)∧(True∧(↑n:Int)=(↑n:Int))∧(True∧
 IntKind.wrap .i64 (a_2 + (1:Int))=IntKind.wrap .i64 (a_2 + (1:Int)))∧True)∧((True∧IntKind.i64=IntKind.i64∧a=a)∧(True∧Value.slice none (0:Nat) (0:Nat)=Value.slice none (0:Nat) (0:Nat)∧True)∧(True∧pr=pr∧(True∧pw=pw)∧(True∧
 ph=ph)∧((0:Nat)=(0:Nat)∧n=n)∧True)∧(True∧pr=pr∧(True∧pw=pw)∧(True∧ph=ph)∧b=b∧(True∧(0:Int)=(0:Int))∧(True∧(0:Int)=(0:Int))∧(True∧(0:Int)=(0:Int))∧True)∧True)∧True)∧
 At (lk1 pr pw ph n a b (IntKind.wrap .i64 (a_2 + (1:Int)))∧Int.toNat ((↑n:Int) - IntKind.wrap .i64 (a_2 + (1:Int))) < Int.toNat ((↑n:Int) - a_2))))∧(decide (a_2 < (↑n:Int))=false→
 At ((List.length ([]:List (List UInt8))=(0:Nat) * (1:Nat)∧(1:Nat) * (1:Nat)≤List.length [b])∧(0:Nat) < (1:Nat)∧(1:Nat)≤(1000000000:Nat))∧
 K (V.tup []) [⟨Cells.ints .i64 a,83,Kind.rows (3:Nat)⟩,⟨Cells.vals [V.row (5:Nat) (1:Nat)],26,Kind.box⟩,⟨Cells.vals [V.str pr,V.int .i64 pw,V.int .i64 ph,V.row (0:Nat) n],31,Kind.box⟩,⟨Cells.vals [V.str pr,V.int .i64 pw,V.int .i64 ph,V.str b,V.int .i64 (0:Int),V.int .i64 (0:Int),V.int .i64 (0:Int)],53,Kind.box⟩,⟨Cells.strs [b],9,Kind.row⟩,⟨Cells.strs (([]:List (List UInt8)) ++ List.take ((1:Nat) * (1:Nat)) [b]),9,Kind.row⟩]))∧
 (((↑(List.length b):Int)==IntKind.wrap .i64 (pw * ph))=false→(True∧(b=b∧((1:Nat)=(1:Nat)∧(0:Nat)=(0:Nat))∧((2:Nat)=(2:Nat)∧(0:Nat)=(0:Nat))∧(True∧(↑(List.length pr):Int)=(↑(List.length pr):Int))∧(True∧(0:Int)=(0:Int))∧
 True)∧((True∧IntKind.i64=IntKind.i64∧a=a)∧(True∧((3:Nat)=(3:Nat)∧(0:Nat)=(0:Nat))∧True)∧(True∧pr=pr∧(True∧pw=pw)∧(True∧ph=ph)∧((0:Nat)=(0:Nat)∧n=n)∧True)∧(True∧nilS=lookD pr pw ph n a b (Int.toNat (0:Int)))∧True)∧True)∧
 At (lk2 pr (0:Int))∧∀(a_2:Int),lk2 pr a_2→(decide (a_2 < (↑(List.length pr):Int))=true→True∧At ((0:Int)≤a_2∧a_2≤(9:Int))∧At (List.length b + List.length (num1 a_2)≤(9223372036854775807:Nat))∧
 At (Int.toNat (pw * ph) - List.length (b ++ num1 a_2) < mm∧goodZ pr pw ph n a=true∧List.length a=n * (3:Nat)∧(↑(List.length (b ++ num1 a_2)):Int)≤pw * ph∧colsB (b ++ num1 a_2) (↑(List.length pr):Int)=true∧
 List.length (lookD pr pw ph n a b (Int.toNat a_2))=List.length (lookD pr pw ph n a b (Int.toNat a_2))∧
 List.length (lookD pr pw ph n a b (Int.toNat a_2)) + List.length pr ^ (Int.toNat (pw * ph) - List.length (b ++ num1 a_2))≤(1000:Nat))∧(True∧(b=b∧((1:Nat)=(1:Nat)∧(0:Nat)=(0:Nat))∧((2:Nat)=(2:Nat)∧(0:Nat)=(0:Nat))∧(True∧
 (↑(List.length pr):Int)=(↑(List.length pr):Int))∧(True∧IntKind.wrap .i64 (a_2 + (1:Int))=IntKind.wrap .i64 (a_2 + (1:Int)))∧True)∧((True∧IntKind.i64=IntKind.i64∧a=a)∧(True∧((3:Nat)=(3:Nat)∧
 List.length (lookD pr pw ph n a b (Int.toNat a_2) ++ lookX pr pw ph n a (b ++ num1 a_2))=List.length (lookD pr pw ph n a b (Int.toNat (IntKind.wrap .i64 (a_2 + (1:Int))))))∧True)∧(True∧pr=pr∧(True∧pw=pw)∧(True∧ph=ph)∧
 ((0:Nat)=(0:Nat)∧n=n)∧True)∧(True∧lookD pr pw ph n a b (Int.toNat a_2) ++ lookX pr pw ph n a (b ++ num1 a_2)=lookD pr pw ph n a b (Int.toNat (IntKind.wrap .i64 (a_2 + (1:Int)))))∧True)∧True)∧
 At (lk2 pr (IntKind.wrap .i64 (a_2 + (1:Int)))∧Int.toNat ((↑(List.length pr):Int) - IntKind.wrap .i64 (a_2 + (1:Int))) < Int.toNat ((↑(List.length pr):Int) - a_2)))∧(decide (a_2 < (↑(List.length pr):Int))=false→
 K (V.tup []) [⟨Cells.ints .i64 a,83,Kind.rows (3:Nat)⟩,⟨Cells.vals [V.row (3:Nat) (List.length (lookD pr pw ph n a b (Int.toNat a_2)))],26,Kind.box⟩,⟨Cells.vals [V.str pr,V.int .i64 pw,V.int .i64 ph,V.row (0:Nat) n],31,Kind.box⟩,⟨Cells.strs (lookD pr pw ph n a b (Int.toNat a_2)),9,Kind.row⟩]))
def VC_spec_pzLook_3 (b:List UInt8)(pr:List UInt8)(pw:Int)(ph:Int)(n:Nat)(a:List Int)(m:Nat)(l:List (List UInt8))(mm:Nat)(K:V → List Blk → Prop):Prop:=
 (((↑(List.length b):Int)==IntKind.wrap .i64 (pw * ph))=true→(True∧(b=b∧((1:Nat)=(1:Nat)∧(0:Nat)=(0:Nat))∧((3:Nat)=(3:Nat)∧(0:Nat)=(0:Nat))∧((4:Nat)=(4:Nat)∧(0:Nat)=(0:Nat))∧((0:Nat)=(0:Nat)∧n=n)∧(True∧(↑n:Int)=(↑n:Int))∧
 (True∧(0:Int)=(0:Int))∧True)∧((True∧IntKind.i64=IntKind.i64∧a=a)∧(True∧((2:Nat)=(2:Nat)∧m=m)∧True)∧(True∧l=l)∧(True∧pr=pr∧(True∧pw=pw)∧(True∧ph=ph)∧((0:Nat)=(0:Nat)∧n=n)∧True)∧(True∧pr=pr∧(True∧pw=pw)∧(True∧ph=ph)∧b=b∧
 (True∧(0:Int)=(0:Int))∧(True∧(0:Int)=(0:Int))∧(True∧(0:Int)=(0:Int))∧True)∧True)∧True)∧At (lk1 pr pw ph n a b (0:Int))∧∀(a_2:Int),lk1 pr pw ph n a b a_2→(decide (a_2 < (↑n:Int))=true→At ((0:Int)≤a_2∧a_2 < (↑n:Int))∧
 At (Int.toNat a_2 * (3:Nat) + (3:Nat)≤List.length a)∧At (goodB { r := pr,w := pw,h := ph,c := b,x := (0:Int),y := (0:Int),d := (0:Int) }=true∧
 clueB (List.getD a (Int.toNat a_2 * (3:Nat)) (0:Int)) (List.getD a (Int.toNat a_2 * (3:Nat) + (1:Nat)) (0:Int)) (List.getD a (Int.toNat a_2 * (3:Nat) + (1:Nat) + (1:Nat)) (0:Int)) (↑(List.length pr):Int) (pw * ph)=true)∧
 ((!fitB (List.getD a (Int.toNat a_2 * (3:Nat)) (0:Int)) (List.getD a (Int.toNat a_2 * (3:Nat) + (1:Nat)) (0:Int)) (List.getD a (Int.toNat a_2 * (3:Nat) + (1:Nat) + (1:Nat)) (0:Int)) { r := pr,w := pw,h := ph,c := b,x := (0:Int),y := (0:Int),d := (0:Int) })=true→
 K (V.tup []) [⟨Cells.ints .i64 a,83,Kind.arg (3:Nat)⟩,⟨Cells.vals [V.row (2:Nat) m],26,Kind.box⟩,⟨Cells.strs l,9,Kind.row⟩,⟨Cells.vals [V.str pr,V.int .i64 pw,V.int .i64 ph,V.row (0:Nat) n],31,Kind.box⟩,⟨Cells.vals [V.str pr,V.int .i64 pw,V.int .i64 ph,V.str b,V.int .i64 (0:Int),V.int .i64 (0:Int),V.int .i64 (0:Int)],53,Kind.box⟩,⟨Cells.vals [V.int .i64 (List.getD a (Int.toNat a_2 * (3:Nat)) (0:Int)),V.int .i64 (List.getD a (Int.toNat a_2 * (3:Nat) + (1:Nat)) (0:Int)),V.int .i64 (List.getD a (Int.toNat a_2 * (3:Nat) + (1:Nat) + (1:Nat)) (0:Int))],83,Kind.box⟩])∧
 ((!fitB (List.getD a (Int.toNat a_2 * (3:Nat)) (0:Int)) (List.getD a (Int.toNat a_2 * (3:Nat) + (1:Nat)) (0:Int)) (List.getD a (Int.toNat a_2 * (3:Nat) + (1:Nat) + (1:Nat)) (0:Int)) { r := pr,w := pw,h := ph,c := b,x := (0:Int),y := (0:Int),d := (0:Int) })=false→
 (True∧(b=b∧((1:Nat)=(1:Nat)∧(0:Nat)=(0:Nat))∧((3:Nat)=(3:Nat)∧(0:Nat)=(0:Nat))∧((4:Nat)=(4:Nat)∧(0:Nat)=(0:Nat))∧((0:Nat)=(0:Nat)∧n=n)∧(True∧(↑n:Int)=(↑n:Int))∧(True∧
 IntKind.wrap .i64 (a_2 + (1:Int))=IntKind.wrap .i64 (a_2 + (1:Int)))∧True)∧((True∧IntKind.i64=IntKind.i64∧a=a)∧(True∧((2:Nat)=(2:Nat)∧m=m)∧True)∧(True∧l=l)∧(True∧pr=pr∧(True∧pw=pw)∧(True∧ph=ph)∧((0:Nat)=(0:Nat)∧n=n)∧
 True)∧(True∧pr=pr∧(True∧pw=pw)∧(True∧ph=ph)∧b=b∧(True∧(0:Int)=(0:Int))∧(True∧(0:Int)=(0:Int))∧(True∧(0:Int)=(0:Int))∧True)∧True)∧True)∧At (lk1 pr pw ph n a b (IntKind.wrap .i64 (a_2 + (1:Int)))∧
 Int.toNat ((↑n:Int) - IntKind.wrap .i64 (a_2 + (1:Int))) < Int.toNat ((↑n:Int) - a_2))))∧(decide (a_2 < (↑n:Int))=false→At ((List.length l=m * (1:Nat)∧(1:Nat) * (1:Nat)≤List.length [b])∧posM Kind.row (1:Nat)∧
 m + (1:Nat)≤(1000000000:Nat))∧
 K (V.tup []) [⟨Cells.ints .i64 a,83,Kind.arg (3:Nat)⟩,⟨Cells.vals [V.row (6:Nat) (m + (1:Nat))],26,Kind.box⟩,⟨Cells.dead,9,Kind.row⟩,⟨Cells.vals [V.str pr,V.int .i64 pw,V.int .i64 ph,V.row (0:Nat) n],31,Kind.box⟩,⟨Cells.vals [V.str pr,V.int .i64 pw,V.int .i64 ph,V.str b,V.int .i64 (0:Int),V.int .i64 (0:Int),V.int .i64 (0:Int)],53,Kind.box⟩,⟨Cells.strs [b],9,Kind.row⟩,⟨Cells.strs (l ++ List.take ((1:Nat) * (1:Nat)) [b]),9,Kind.row⟩]))∧
 (((↑(List.length b):Int)==IntKind.wrap .i64 (pw * ph))=false→(True∧(b=b∧((1:Nat)=(1:Nat)∧(0:Nat)=(0:Nat))∧((3:Nat)=(3:Nat)∧(0:Nat)=(0:Nat))∧(True∧(↑(List.length pr):Int)=(↑(List.length pr):Int))∧(True∧(0:Int)=(0:Int))∧
 True)∧((True∧IntKind.i64=IntKind.i64∧a=a)∧(True∧((4:Nat)=(4:Nat)∧m=List.length (l ++ lookD pr pw ph n a b (Int.toNat (0:Int))))∧True)∧(True∧True)∧(True∧pr=pr∧(True∧pw=pw)∧(True∧ph=ph)∧((0:Nat)=(0:Nat)∧n=n)∧True)∧(True∧
 l=l ++ lookD pr pw ph n a b (Int.toNat (0:Int)))∧True)∧True)∧At (lk2 pr (0:Int))∧∀(a_2:Int),lk2 pr a_2→(decide (a_2 < (↑(List.length pr):Int))=true→True∧At ((0:Int)≤a_2∧a_2≤(9:Int))∧
 At (List.length b + List.length (num1 a_2)≤(9223372036854775807:Nat))∧At (Int.toNat (pw * ph) - List.length (b ++ num1 a_2) < mm∧goodZ pr pw ph n a=true∧List.length a=n * (3:Nat)∧
 (↑(List.length (b ++ num1 a_2)):Int)≤pw * ph∧colsB (b ++ num1 a_2) (↑(List.length pr):Int)=true∧List.length (l ++ lookD pr pw ph n a b (Int.toNat a_2))=List.length (l ++ lookD pr pw ph n a b (Int.toNat a_2))∧
 List.length (l ++ lookD pr pw ph n a b (Int.toNat a_2)) + List.length pr ^ (Int.toNat (pw * ph) - List.length (b ++ num1 a_2))≤(1000:Nat))∧(True∧(b=b∧((1:Nat)=(1:Nat)∧(0:Nat)=(0:Nat))∧((3:Nat)=(3:Nat)∧(0:Nat)=(0:Nat))∧
 (True∧(↑(List.length pr):Int)=(↑(List.length pr):Int))∧(True∧IntKind.wrap .i64 (a_2 + (1:Int))=IntKind.wrap .i64 (a_2 + (1:Int)))∧True)∧((True∧IntKind.i64=IntKind.i64∧a=a)∧(True∧((4:Nat)=(4:Nat)∧
 List.length (l ++ lookD pr pw ph n a b (Int.toNat a_2) ++ lookX pr pw ph n a (b ++ num1 a_2))=List.length (l ++ lookD pr pw ph n a b (Int.toNat (IntKind.wrap .i64 (a_2 + (1:Int))))))∧True)∧(True∧True)∧(True∧pr=pr∧(True∧
 pw=pw)∧(True∧ph=ph)∧((0:Nat)=(0:Nat)∧n=n)∧True)∧(True∧l ++ lookD pr pw ph n a b (Int.toNat a_2) ++ lookX pr pw ph n a (b ++ num1 a_2)=l ++ lookD pr pw ph n a b (Int.toNat (IntKind.wrap .i64 (a_2 + (1:Int)))))∧True)∧
 True)∧At (lk2 pr (IntKind.wrap .i64 (a_2 + (1:Int)))∧Int.toNat ((↑(List.length pr):Int) - IntKind.wrap .i64 (a_2 + (1:Int))) < Int.toNat ((↑(List.length pr):Int) - a_2)))∧(decide (a_2 < (↑(List.length pr):Int))=false→
 K (V.tup []) [⟨Cells.ints .i64 a,83,Kind.arg (3:Nat)⟩,⟨Cells.vals [V.row (4:Nat) (List.length (l ++ lookD pr pw ph n a b (Int.toNat a_2)))],26,Kind.box⟩,⟨Cells.dead,9,Kind.row⟩,⟨Cells.vals [V.str pr,V.int .i64 pw,V.int .i64 ph,V.row (0:Nat) n],31,Kind.box⟩,⟨Cells.strs (l ++ lookD pr pw ph n a b (Int.toNat a_2)),9,Kind.row⟩]))
def VC_spec_pzLook_4 (b:List UInt8)(pr:List UInt8)(pw:Int)(ph:Int)(n:Nat)(a:List Int)(mm:Nat)(K:V → List Blk → Prop):Prop:=
 (((↑(List.length b):Int)==IntKind.wrap .i64 (pw * ph))=true→(True∧(b=b∧((1:Nat)=(1:Nat)∧(0:Nat)=(0:Nat))∧((2:Nat)=(2:Nat)∧(0:Nat)=(0:Nat))∧((3:Nat)=(3:Nat)∧(0:Nat)=(0:Nat))∧((0:Nat)=(0:Nat)∧n=n)∧(True∧(↑n:Int)=(↑n:Int))∧
 (True∧(0:Int)=(0:Int))∧True)∧((True∧IntKind.i64=IntKind.i64∧a=a)∧(True∧Value.slice none (0:Nat) (0:Nat)=Value.slice none (0:Nat) (0:Nat)∧True)∧(True∧pr=pr∧(True∧pw=pw)∧(True∧ph=ph)∧((0:Nat)=(0:Nat)∧n=n)∧True)∧(True∧
 pr=pr∧(True∧pw=pw)∧(True∧ph=ph)∧b=b∧(True∧(0:Int)=(0:Int))∧(True∧(0:Int)=(0:Int))∧(True∧(0:Int)=(0:Int))∧True)∧True)∧True)∧At (lk1 pr pw ph n a b (0:Int))∧∀(a_2:Int),lk1 pr pw ph n a b a_2→(decide (a_2 < (↑n:Int))=true→
 At ((0:Int)≤a_2∧a_2 < (↑n:Int))∧At (Int.toNat a_2 * (3:Nat) + (3:Nat)≤List.length a)∧At (goodB { r := pr,w := pw,h := ph,c := b,x := (0:Int),y := (0:Int),d := (0:Int) }=true∧
 clueB (List.getD a (Int.toNat a_2 * (3:Nat)) (0:Int)) (List.getD a (Int.toNat a_2 * (3:Nat) + (1:Nat)) (0:Int)) (List.getD a (Int.toNat a_2 * (3:Nat) + (1:Nat) + (1:Nat)) (0:Int)) (↑(List.length pr):Int) (pw * ph)=true)∧
 ((!fitB (List.getD a (Int.toNat a_2 * (3:Nat)) (0:Int)) (List.getD a (Int.toNat a_2 * (3:Nat) + (1:Nat)) (0:Int)) (List.getD a (Int.toNat a_2 * (3:Nat) + (1:Nat) + (1:Nat)) (0:Int)) { r := pr,w := pw,h := ph,c := b,x := (0:Int),y := (0:Int),d := (0:Int) })=true→
 K (V.tup []) [⟨Cells.ints .i64 a,83,Kind.arg (3:Nat)⟩,⟨Cells.vals [V.raw (Value.slice none (0:Nat) (0:Nat))],26,Kind.box⟩,⟨Cells.vals [V.str pr,V.int .i64 pw,V.int .i64 ph,V.row (0:Nat) n],31,Kind.box⟩,⟨Cells.vals [V.str pr,V.int .i64 pw,V.int .i64 ph,V.str b,V.int .i64 (0:Int),V.int .i64 (0:Int),V.int .i64 (0:Int)],53,Kind.box⟩,⟨Cells.vals [V.int .i64 (List.getD a (Int.toNat a_2 * (3:Nat)) (0:Int)),V.int .i64 (List.getD a (Int.toNat a_2 * (3:Nat) + (1:Nat)) (0:Int)),V.int .i64 (List.getD a (Int.toNat a_2 * (3:Nat) + (1:Nat) + (1:Nat)) (0:Int))],83,Kind.box⟩])∧
 ((!fitB (List.getD a (Int.toNat a_2 * (3:Nat)) (0:Int)) (List.getD a (Int.toNat a_2 * (3:Nat) + (1:Nat)) (0:Int)) (List.getD a (Int.toNat a_2 * (3:Nat) + (1:Nat) + (1:Nat)) (0:Int)) { r := pr,w := pw,h := ph,c := b,x := (0:Int),y := (0:Int),d := (0:Int) })=false→
 (True∧(b=b∧((1:Nat)=(1:Nat)∧(0:Nat)=(0:Nat))∧((2:Nat)=(2:Nat)∧(0:Nat)=(0:Nat))∧((3:Nat)=(3:Nat)∧(0:Nat)=(0:Nat))∧((0:Nat)=(0:Nat)∧n=n)∧(True∧(↑n:Int)=(↑n:Int))∧(True∧
 IntKind.wrap .i64 (a_2 + (1:Int))=IntKind.wrap .i64 (a_2 + (1:Int)))∧True)∧((True∧IntKind.i64=IntKind.i64∧a=a)∧(True∧Value.slice none (0:Nat) (0:Nat)=Value.slice none (0:Nat) (0:Nat)∧True)∧(True∧pr=pr∧(True∧pw=pw)∧(True∧
 ph=ph)∧((0:Nat)=(0:Nat)∧n=n)∧True)∧(True∧pr=pr∧(True∧pw=pw)∧(True∧ph=ph)∧b=b∧(True∧(0:Int)=(0:Int))∧(True∧(0:Int)=(0:Int))∧(True∧(0:Int)=(0:Int))∧True)∧True)∧True)∧
 At (lk1 pr pw ph n a b (IntKind.wrap .i64 (a_2 + (1:Int)))∧Int.toNat ((↑n:Int) - IntKind.wrap .i64 (a_2 + (1:Int))) < Int.toNat ((↑n:Int) - a_2))))∧(decide (a_2 < (↑n:Int))=false→
 At ((List.length ([]:List (List UInt8))=(0:Nat) * (1:Nat)∧(1:Nat) * (1:Nat)≤List.length [b])∧(0:Nat) < (1:Nat)∧(1:Nat)≤(1000000000:Nat))∧
 K (V.tup []) [⟨Cells.ints .i64 a,83,Kind.arg (3:Nat)⟩,⟨Cells.vals [V.row (5:Nat) (1:Nat)],26,Kind.box⟩,⟨Cells.vals [V.str pr,V.int .i64 pw,V.int .i64 ph,V.row (0:Nat) n],31,Kind.box⟩,⟨Cells.vals [V.str pr,V.int .i64 pw,V.int .i64 ph,V.str b,V.int .i64 (0:Int),V.int .i64 (0:Int),V.int .i64 (0:Int)],53,Kind.box⟩,⟨Cells.strs [b],9,Kind.row⟩,⟨Cells.strs (([]:List (List UInt8)) ++ List.take ((1:Nat) * (1:Nat)) [b]),9,Kind.row⟩]))∧
 (((↑(List.length b):Int)==IntKind.wrap .i64 (pw * ph))=false→(True∧(b=b∧((1:Nat)=(1:Nat)∧(0:Nat)=(0:Nat))∧((2:Nat)=(2:Nat)∧(0:Nat)=(0:Nat))∧(True∧(↑(List.length pr):Int)=(↑(List.length pr):Int))∧(True∧(0:Int)=(0:Int))∧
 True)∧((True∧IntKind.i64=IntKind.i64∧a=a)∧(True∧((3:Nat)=(3:Nat)∧(0:Nat)=(0:Nat))∧True)∧(True∧pr=pr∧(True∧pw=pw)∧(True∧ph=ph)∧((0:Nat)=(0:Nat)∧n=n)∧True)∧(True∧nilS=lookD pr pw ph n a b (Int.toNat (0:Int)))∧True)∧True)∧
 At (lk2 pr (0:Int))∧∀(a_2:Int),lk2 pr a_2→(decide (a_2 < (↑(List.length pr):Int))=true→True∧At ((0:Int)≤a_2∧a_2≤(9:Int))∧At (List.length b + List.length (num1 a_2)≤(9223372036854775807:Nat))∧
 At (Int.toNat (pw * ph) - List.length (b ++ num1 a_2) < mm∧goodZ pr pw ph n a=true∧List.length a=n * (3:Nat)∧(↑(List.length (b ++ num1 a_2)):Int)≤pw * ph∧colsB (b ++ num1 a_2) (↑(List.length pr):Int)=true∧
 List.length (lookD pr pw ph n a b (Int.toNat a_2))=List.length (lookD pr pw ph n a b (Int.toNat a_2))∧
 List.length (lookD pr pw ph n a b (Int.toNat a_2)) + List.length pr ^ (Int.toNat (pw * ph) - List.length (b ++ num1 a_2))≤(1000:Nat))∧(True∧(b=b∧((1:Nat)=(1:Nat)∧(0:Nat)=(0:Nat))∧((2:Nat)=(2:Nat)∧(0:Nat)=(0:Nat))∧(True∧
 (↑(List.length pr):Int)=(↑(List.length pr):Int))∧(True∧IntKind.wrap .i64 (a_2 + (1:Int))=IntKind.wrap .i64 (a_2 + (1:Int)))∧True)∧((True∧IntKind.i64=IntKind.i64∧a=a)∧(True∧((3:Nat)=(3:Nat)∧
 List.length (lookD pr pw ph n a b (Int.toNat a_2) ++ lookX pr pw ph n a (b ++ num1 a_2))=List.length (lookD pr pw ph n a b (Int.toNat (IntKind.wrap .i64 (a_2 + (1:Int))))))∧True)∧(True∧pr=pr∧(True∧pw=pw)∧(True∧ph=ph)∧
 ((0:Nat)=(0:Nat)∧n=n)∧True)∧(True∧lookD pr pw ph n a b (Int.toNat a_2) ++ lookX pr pw ph n a (b ++ num1 a_2)=lookD pr pw ph n a b (Int.toNat (IntKind.wrap .i64 (a_2 + (1:Int)))))∧True)∧True)∧
 At (lk2 pr (IntKind.wrap .i64 (a_2 + (1:Int)))∧Int.toNat ((↑(List.length pr):Int) - IntKind.wrap .i64 (a_2 + (1:Int))) < Int.toNat ((↑(List.length pr):Int) - a_2)))∧(decide (a_2 < (↑(List.length pr):Int))=false→
 K (V.tup []) [⟨Cells.ints .i64 a,83,Kind.arg (3:Nat)⟩,⟨Cells.vals [V.row (3:Nat) (List.length (lookD pr pw ph n a b (Int.toNat a_2)))],26,Kind.box⟩,⟨Cells.vals [V.str pr,V.int .i64 pw,V.int .i64 ph,V.row (0:Nat) n],31,Kind.box⟩,⟨Cells.strs (lookD pr pw ph n a b (Int.toNat a_2)),9,Kind.row⟩]))
def VC_spec_pzAll (pr:List UInt8)(pw:Int)(ph:Int)(n:Nat)(a:List Int)(K:V → List Blk → Prop):Prop:=
 At (Int.toNat (pw * ph) - List.length ([]:List UInt8) < (11:Nat)∧goodZ pr pw ph n a=true∧List.length a=n * (3:Nat)∧(↑(List.length ([]:List UInt8)):Int)≤pw * ph∧colsB ([]:List UInt8) (↑(List.length pr):Int)=true∧
 List.length pr ^ (Int.toNat (pw * ph) - List.length ([]:List UInt8))≤(1000:Nat))∧
 K (V.row (3:Nat) (List.length (lookX pr pw ph n a ([]:List UInt8)))) [⟨Cells.ints .i64 a,83,Kind.rows (3:Nat)⟩,⟨Cells.vals [V.str pr,V.int .i64 pw,V.int .i64 ph,V.row (0:Nat) n],31,Kind.box⟩,⟨Cells.vals [V.row (3:Nat) (List.length (lookX pr pw ph n a ([]:List UInt8)))],26,Kind.box⟩,⟨Cells.strs (lookX pr pw ph n a ([]:List UInt8)),9,Kind.row⟩]
def VC_spec_pzAll_2 (pr:List UInt8)(pw:Int)(ph:Int)(n:Nat)(a:List Int)(K:V → List Blk → Prop):Prop:=
 At (Int.toNat (pw * ph) - List.length ([]:List UInt8) < (11:Nat)∧goodZ pr pw ph n a=true∧List.length a=n * (3:Nat)∧(↑(List.length ([]:List UInt8)):Int)≤pw * ph∧colsB ([]:List UInt8) (↑(List.length pr):Int)=true∧
 List.length pr ^ (Int.toNat (pw * ph) - List.length ([]:List UInt8))≤(1000:Nat))∧
 K (V.row (3:Nat) (List.length (lookX pr pw ph n a ([]:List UInt8)))) [⟨Cells.ints .i64 a,83,Kind.arg (3:Nat)⟩,⟨Cells.vals [V.str pr,V.int .i64 pw,V.int .i64 ph,V.row (0:Nat) n],31,Kind.box⟩,⟨Cells.vals [V.row (3:Nat) (List.length (lookX pr pw ph n a ([]:List UInt8)))],26,Kind.box⟩,⟨Cells.strs (lookX pr pw ph n a ([]:List UInt8)),9,Kind.row⟩]
end Go.Vi

/- The reference's search finds the texts that fit, in order. -/
namespace Go.Vi
theorem lookX_leaf {r : List UInt8} {w h : Int} {n : Nat} {a : List Int} {b : List UInt8} (hb : b.length = (w * h).toNat) : lookX r w h n a b = bif fitsN r w h a b n then [b] else [] := by
 unfold lookX
 rw [hb, Nat.sub_self]
 simp only [textsC, List.map_cons, List.map_nil, List.append_nil, List.filter_cons, List.filter_nil]
 cases fitsN r w h a b n <;> simp
theorem lookX_split {r : List UInt8} {w h : Int} {n : Nat} {a : List Int} {b : List UInt8} (hb : b.length < (w * h).toNat) : lookX r w h n a b = lookD r w h n a b r.length := by
 unfold lookD lookX
 obtain ⟨k, hk⟩ : ∃ k, (w * h).toNat - b.length = k + 1 := ⟨(w * h).toNat - b.length - 1, by omega⟩
 rw [hk, textsC, List.map_flatMap, List.filter_flatMap]
 congr 1
 funext d
 rw [show (w * h).toNat - (b ++ num1 (d : Int)).length = k by rw [List.length_append, num1_len]; omega, List.map_map]
 congr 2
 funext t
 simp
theorem lookD_succ (r : List UInt8) (w h : Int) (n : Nat) (a : List Int) (b : List UInt8) (d : Nat) : lookD r w h n a b (d + 1) = lookD r w h n a b d ++ lookX r w h n a (b ++ num1 (d : Int)) := by
 simp [lookD, List.range_succ]
theorem lookX_len (r : List UInt8) (w h : Int) (n : Nat) (a : List Int) (b : List UInt8) : (lookX r w h n a b).length <= r.length ^ ((w * h).toNat - b.length) := by
 unfold lookX
 exact Nat.le_trans (List.length_filter_le _ _) (by rw [List.length_map, texts_len]; exact Nat.le_refl _)
theorem lookD_len {r : List UInt8} {w h : Int} {n : Nat} {a : List Int} {b : List UInt8} {k : Nat} (hk : (w * h).toNat - b.length = k + 1) : ∀ d, (lookD r w h n a b d).length <= d * r.length ^ k
 | 0 => by simp [lookD]
 | d + 1 => by
  have h1 := lookD_len (r := r) (n := n) (a := a) hk d
  have h2 := lookX_len r w h n a (b ++ num1 (d : Int))
  rw [show (w * h).toNat - (b ++ num1 (d : Int)).length = k by rw [List.length_append, num1_len]; omega] at h2
  rw [lookD_succ, List.length_append, Nat.succ_mul]
  omega
theorem fits_no {r : List UInt8} {w h : Int} {a : List Int} {t : List UInt8} {i : Nat} (hf : fitAt r w h a t i = false) : ∀ {n : Nat}, i < n -> fitsN r w h a t n = false
 | n + 1, hi => by
  simp only [fitsN]
  by_cases he : i = n
  ·rw [<- he, hf, Bool.and_false]
  ·rw [fits_no hf (show i < n by omega), Bool.false_and]
theorem good_B {r t : List UInt8} {w h : Int} (hs : sizeB r w h = true) (h1 : (t.length : Int) = w * h) (h2 : colsB t r.length = true) : goodB (wdT r w h t) = true := by
 have hb := size_bd hs
 have hr : ruleB r = true := by
  simp only [sizeB, Bool.and_eq_true] at hs
  exact hs.1.1.1
 have hw : inB w 1 9 = true := by rw [inB_eq]; omega
 have hh : inB h 1 9 = true := by rw [inB_eq]; omega
 have hl : ((t.length : Int) == w * h) = true := by rw [beq_iff_eq, h1]
 have hx : inB 0 0 (w - 1) = true := by rw [inB_eq]; omega
 have hy : inB 0 0 (h - 1) = true := by rw [inB_eq]; omega
 simp only [goodB, wdT, hr, hw, hh, hl, h2, hx, hy, Bool.and_true, Bool.true_and]
 rfl
theorem cols_app {b : List UInt8} {c : Nat} {d : Int} (hb : colsB b c = true) (d1 : 0 <= d) (d2 : d < c) (hc : c <= 9) : colsB (b ++ num1 d) c = true := by
 have := num1_dig (d := d.toNat) (c := c) (by omega) hc
 rw [Int.toNat_of_nonneg d1] at this
 unfold colsB at hb ⊢
 rw [List.all_append, hb, Bool.true_and, List.all_eq_true]
 exact this
theorem retG_l1 {k0 : Kind} {a : List Int} {t : List (List UInt8)} {e0 e1 e2 : TypeId} {b1 b2 b3 : Blk} : retG 3 (.tup []) [⟨.ints .i64 a, e0, k0⟩, ⟨.vals [.row 3 t.length], e1, .box⟩, ⟨.dead, e2, .row⟩, ⟨.strs t, e2, .row⟩] (.tup []) [⟨.ints .i64 a, e0, k0⟩, ⟨.vals [.row 2 t.length], e1, .box⟩, ⟨.strs t, e2, .row⟩, b1, b2, b3] := by
 unfold retG leSel leSelBy autoSel
 simp [pairsL, pairsV, idPairs, pairsIn, selOf, lookN, selMemD, liveSel, Cells.isDead, chkB, nodupSel, hasSel, prefSel, leSt, leL, leV, nilToL, V.nilTo, isNilS, isGhost, findSel, selL, V.sel, Cells.selN, leMem, leCells, memUnder, underL, V.under]
 exact trivial
theorem retG_l2 {k0 : Kind} {a : List Int} {t : List (List UInt8)} {e0 e1 e2 : TypeId} {b1 b2 b3 : Blk} : retG 3 (.tup []) [⟨.ints .i64 a, e0, k0⟩, ⟨.vals [.row 3 t.length], e1, .box⟩, ⟨.dead, e2, .row⟩, ⟨.strs t, e2, .row⟩] (.tup []) [⟨.ints .i64 a, e0, k0⟩, ⟨.vals [.row 6 t.length], e1, .box⟩, ⟨.dead, e2, .row⟩, b1, b2, b3, ⟨.strs t, e2, .row⟩] := by
 unfold retG leSel leSelBy autoSel
 simp [pairsL, pairsV, idPairs, pairsIn, selOf, lookN, selMem, chkB, nodupSel, hasSel, prefSel, leSt, leL, leV, nilToL, V.nilTo, isNilS, isGhost, findSel, selL, V.sel, Cells.selN, leMem, leCells, memUnder, underL, V.under]
 exact trivial
theorem retG_l3 {k0 : Kind} {a : List Int} {t : List (List UInt8)} {e0 e1 e2 : TypeId} {b1 : Blk} : retG 3 (.tup []) [⟨.ints .i64 a, e0, k0⟩, ⟨.vals [.row 3 t.length], e1, .box⟩, ⟨.dead, e2, .row⟩, ⟨.strs t, e2, .row⟩] (.tup []) [⟨.ints .i64 a, e0, k0⟩, ⟨.vals [.row 4 t.length], e1, .box⟩, ⟨.dead, e2, .row⟩, b1, ⟨.strs t, e2, .row⟩] := by
 unfold retG leSel leSelBy autoSel
 simp [pairsL, pairsV, idPairs, pairsIn, selOf, lookN, selMem, chkB, nodupSel, hasSel, prefSel, leSt, leL, leV, nilToL, V.nilTo, isNilS, isGhost, findSel, selL, V.sel, Cells.selN, leMem, leCells, memUnder, underL, V.under]
 exact trivial
theorem retG_l4 {k0 : Kind} {a : List Int} {e0 e1 e2 : TypeId} {b1 b2 b3 : Blk} : retG 2 (.tup []) [⟨.ints .i64 a, e0, k0⟩, ⟨.vals [.row 2 0], e1, .box⟩, ⟨.strs [], e2, .row⟩] (.tup []) [⟨.ints .i64 a, e0, k0⟩, ⟨.vals [.raw (.slice none 0 0)], e1, .box⟩, b1, b2, b3] := by
 unfold retG leSel leSelBy autoSel
 simp [pairsL, pairsV, idPairs, pairsIn, selOf, lookN, selMem, chkB, nodupSel, hasSel, prefSel, leSt, leL, leV, nilToL, V.nilTo, isNilS, isGhost, findSel, selL, V.sel, Cells.selN, Cells.none0, Kind.isRow, leMem, leCells, memUnder, underL, V.under]
 exact trivial
theorem retG_l5 {k0 : Kind} {a : List Int} {b : List UInt8} {e0 e1 e2 : TypeId} {b1 b2 b3 : Blk} : retG 2 (.tup []) [⟨.ints .i64 a, e0, k0⟩, ⟨.vals [.row 2 1], e1, .box⟩, ⟨.strs [b], e2, .row⟩] (.tup []) [⟨.ints .i64 a, e0, k0⟩, ⟨.vals [.row 5 1], e1, .box⟩, b1, b2, b3, ⟨.strs [b], e2, .row⟩] := by
 unfold retG leSel leSelBy autoSel
 simp [pairsL, pairsV, idPairs, pairsIn, selOf, lookN, selMem, chkB, nodupSel, hasSel, prefSel, leSt, leL, leV, nilToL, V.nilTo, isNilS, isGhost, findSel, selL, V.sel, Cells.selN, leMem, leCells, memUnder, underL, V.under]
 exact trivial
theorem retG_l6 {k0 : Kind} {a : List Int} {t : List (List UInt8)} {e0 e1 e2 : TypeId} {b1 : Blk} : retG 2 (.tup []) [⟨.ints .i64 a, e0, k0⟩, ⟨.vals [.row 2 t.length], e1, .box⟩, ⟨.strs t, e2, .row⟩] (.tup []) [⟨.ints .i64 a, e0, k0⟩, ⟨.vals [.row 3 t.length], e1, .box⟩, b1, ⟨.strs t, e2, .row⟩] := by
 unfold retG leSel leSelBy autoSel
 simp [pairsL, pairsV, idPairs, pairsIn, selOf, lookN, selMem, chkB, nodupSel, hasSel, prefSel, leSt, leL, leV, nilToL, V.nilTo, isNilS, isGhost, findSel, selL, V.sel, Cells.selN, leMem, leCells, memUnder, underL, V.under]
 exact trivial
theorem vc_spec_pzLook (b pr : List UInt8) (pw ph : Int) (n : Nat) (a : List Int) (m : Nat) (l : List (List UInt8)) (mm : Nat)
  (h : (pw * ph).toNat - b.length < mm + 1 /\ goodZ pr pw ph n a = true /\ a.length = n * 3 /\ (b.length : Int) <= pw * ph /\ colsB b pr.length = true /\ l.length = m /\ m + pr.length ^ ((pw * ph).toNat - b.length) <= 1000) :
  VC_spec_pzLook b pr pw ph n a m l mm (retG 3 (.tup []) [⟨.ints .i64 a, 83, .rows 3⟩, ⟨.vals [.row 3 (l ++ lookX pr pw ph n a b).length], 26, .box⟩, ⟨.dead, 9, .row⟩, ⟨.strs (l ++ lookX pr pw ph n a b), 9, .row⟩]) := by
 unfold VC_spec_pzLook
 obtain ⟨hmm, hg, ha, hbl, hcb, hlm, hpw⟩ := h
 subst hlm
 obtain ⟨hs, hn, hall, hT⟩ := goodZ_in hg
 have hb := size_bd hs
 rw [wrap64_in (x := pw * ph) (by omega)]
 refine ⟨fun he => ?_, fun he => ?_⟩
 ·rw [beq_iff_eq] at he
  have hl := lookX_leaf (r := pr) (n := n) (a := a) (show b.length = (pw * ph).toNat by omega)
  have hw := good_B hs he hcb
  refine ⟨by simp, ⟨Int.le_refl _, by omega, rfl⟩, fun i hi => ⟨fun hc => ?_, fun hc => ?_⟩⟩
  ·have hc := of_decide_eq_true hc
   obtain ⟨i1, i2, hf⟩ := hi
   rw [wrap64_in (x := i + 1) (by omega)]
   refine ⟨⟨i1, hc⟩, ⟨by omega⟩, ⟨hw, allC_at hall (by omega)⟩, fun hn => ?_, fun hn => ?_⟩
   ·rw [Bool.not_eq_true'] at hn
    rw [hl, fits_no (i := i.toNat) hn (by omega)]
    simp only [cond_false, List.append_nil]
    exact retG_l1
   ·rw [Bool.not_eq_false'] at hn
    have hn' : fitAt pr pw ph a b i.toNat = true := hn
    have h3 : fitsN pr pw ph a b (i + 1).toNat = true := by
     rw [show (i + 1).toNat = i.toNat + 1 by omega]
     simp only [fitsN, hf, hn', Bool.and_self]
    exact ⟨by simp, ⟨⟨by omega, by omega, h3⟩, by omega⟩⟩
  ·have hc := of_decide_eq_false hc
   obtain ⟨i1, i2, hf⟩ := hi
   rw [show i.toNat = n by omega] at hf
   rw [hl, hf]
   simp only [cond_true]
   refine ⟨⟨⟨by omega, by simp⟩, posM1, by omega⟩, ?_⟩
   rw [show l.length + 1 = (l ++ [b]).length by simp, show l ++ List.take (1 * 1) [b] = l ++ [b] by simp]
   exact retG_l2
 ·rw [beq_eq_false_iff_ne] at he
  obtain ⟨k, hk⟩ : ∃ k, (pw * ph).toNat - b.length = k + 1 := ⟨(pw * ph).toNat - b.length - 1, by omega⟩
  have hX := lookX_split (r := pr) (n := n) (a := a) (show b.length < (pw * ph).toNat by omega)
  refine ⟨by simp [lookD], ⟨Int.le_refl _, by omega⟩, fun d hd => ⟨fun hc => ?_, fun hc => ?_⟩⟩
  ·have hc := of_decide_eq_true hc
   obtain ⟨d1, d2⟩ := hd
   have hlen := lookD_len (r := pr) (n := n) (a := a) hk d.toNat
   have hpk : (pw * ph).toNat - (b ++ num1 d).length = k := by rw [List.length_append, num1_len]; omega
   have hmul : (d.toNat + 1) * pr.length ^ k <= pr.length * pr.length ^ k := Nat.mul_le_mul_right _ (by omega)
   rw [Nat.succ_mul] at hmul
   rw [hk, Nat.pow_succ, Nat.mul_comm (pr.length ^ k)] at hpw
   have hsc := lookD_succ pr pw ph n a b d.toNat
   rw [Int.toNat_of_nonneg d1] at hsc
   rw [wrap64_in (x := d + 1) (by omega), show (d + 1).toNat = d.toNat + 1 by omega, hsc, hpk]
   refine ⟨trivial, ⟨d1, by omega⟩, ⟨by rw [num1_len]; omega⟩, ⟨by omega, hg, ha, by rw [List.length_append, num1_len]; omega, cols_app hcb d1 hc (by omega), rfl, by rw [List.length_append]; omega⟩, by simp, ⟨⟨by omega, by omega⟩, by omega⟩⟩
  ·have hc := of_decide_eq_false hc
   obtain ⟨d1, d2⟩ := hd
   rw [show d.toNat = pr.length by omega, <- hX]
   exact retG_l3
theorem vc_spec_pzLook_2 (b pr : List UInt8) (pw ph : Int) (n : Nat) (a : List Int) (mm : Nat)
  (h : (pw * ph).toNat - b.length < mm + 1 /\ goodZ pr pw ph n a = true /\ a.length = n * 3 /\ (b.length : Int) <= pw * ph /\ colsB b pr.length = true /\ pr.length ^ ((pw * ph).toNat - b.length) <= 1000) :
  VC_spec_pzLook_2 b pr pw ph n a mm (retG 2 (.tup []) [⟨.ints .i64 a, 83, .rows 3⟩, ⟨.vals [.row 2 (lookX pr pw ph n a b).length], 26, .box⟩, ⟨.strs (lookX pr pw ph n a b), 9, .row⟩]) := by
 unfold VC_spec_pzLook_2
 obtain ⟨hmm, hg, ha, hbl, hcb, hpw⟩ := h
 obtain ⟨hs, hn, hall, hT⟩ := goodZ_in hg
 have hb := size_bd hs
 rw [wrap64_in (x := pw * ph) (by omega)]
 refine ⟨fun he => ?_, fun he => ?_⟩
 ·rw [beq_iff_eq] at he
  have hl := lookX_leaf (r := pr) (n := n) (a := a) (show b.length = (pw * ph).toNat by omega)
  have hw := good_B hs he hcb
  refine ⟨by simp, ⟨Int.le_refl _, by omega, rfl⟩, fun i hi => ⟨fun hc => ?_, fun hc => ?_⟩⟩
  ·have hc := of_decide_eq_true hc
   obtain ⟨i1, i2, hf⟩ := hi
   rw [wrap64_in (x := i + 1) (by omega)]
   refine ⟨⟨i1, hc⟩, ⟨by omega⟩, ⟨hw, allC_at hall (by omega)⟩, fun hn => ?_, fun hn => ?_⟩
   ·rw [Bool.not_eq_true'] at hn
    rw [hl, fits_no (i := i.toNat) hn (by omega)]
    exact retG_l4
   ·rw [Bool.not_eq_false'] at hn
    have hn' : fitAt pr pw ph a b i.toNat = true := hn
    have h3 : fitsN pr pw ph a b (i + 1).toNat = true := by
     rw [show (i + 1).toNat = i.toNat + 1 by omega]
     simp only [fitsN, hf, hn', Bool.and_self]
    exact ⟨by simp, ⟨⟨by omega, by omega, h3⟩, by omega⟩⟩
  ·have hc := of_decide_eq_false hc
   obtain ⟨i1, i2, hf⟩ := hi
   rw [show i.toNat = n by omega] at hf
   rw [hl, hf]
   exact ⟨⟨⟨by simp, by simp⟩, by omega, by omega⟩, retG_l5⟩
 ·rw [beq_eq_false_iff_ne] at he
  obtain ⟨k, hk⟩ : ∃ k, (pw * ph).toNat - b.length = k + 1 := ⟨(pw * ph).toNat - b.length - 1, by omega⟩
  have hX := lookX_split (r := pr) (n := n) (a := a) (show b.length < (pw * ph).toNat by omega)
  refine ⟨by simp [lookD], ⟨Int.le_refl _, by omega⟩, fun d hd => ⟨fun hc => ?_, fun hc => ?_⟩⟩
  ·have hc := of_decide_eq_true hc
   obtain ⟨d1, d2⟩ := hd
   have hlen := lookD_len (r := pr) (n := n) (a := a) hk d.toNat
   have hpk : (pw * ph).toNat - (b ++ num1 d).length = k := by rw [List.length_append, num1_len]; omega
   have hmul : (d.toNat + 1) * pr.length ^ k <= pr.length * pr.length ^ k := Nat.mul_le_mul_right _ (by omega)
   rw [Nat.succ_mul] at hmul
   rw [hk, Nat.pow_succ, Nat.mul_comm (pr.length ^ k)] at hpw
   have hsc := lookD_succ pr pw ph n a b d.toNat
   rw [Int.toNat_of_nonneg d1] at hsc
   rw [wrap64_in (x := d + 1) (by omega), show (d + 1).toNat = d.toNat + 1 by omega, hsc, hpk]
   refine ⟨trivial, ⟨d1, by omega⟩, ⟨by rw [num1_len]; omega⟩, ⟨by omega, hg, ha, by rw [List.length_append, num1_len]; omega, cols_app hcb d1 hc (by omega), rfl, by omega⟩, by simp, ⟨⟨by omega, by omega⟩, by omega⟩⟩
  ·have hc := of_decide_eq_false hc
   obtain ⟨d1, d2⟩ := hd
   rw [show d.toNat = pr.length by omega, <- hX]
   exact retG_l6
theorem lookX_nil (r : List UInt8) (w h : Int) (n : Nat) (a : List Int) : lookX r w h n a [] = solZ r w h n a := by
 unfold lookX solZ textsZ
 simp
theorem retG_a {k0 : Kind} {a : List Int} {t : List (List UInt8)} {e0 e2 : TypeId} {b1 b2 : Blk} : retG 1 (.row 1 t.length) [⟨.ints .i64 a, e0, k0⟩, ⟨.strs t, e2, .row⟩] (.row 3 t.length) [⟨.ints .i64 a, e0, k0⟩, b1, b2, ⟨.strs t, e2, .row⟩] := by
 unfold retG leSel leSelBy autoSel
 simp [pairsL, pairsV, idPairs, pairsIn, selOf, lookN, selMem, chkB, nodupSel, hasSel, prefSel, leSt, leL, leV, nilToL, V.nilTo, isNilS, isGhost, findSel, selL, V.sel, Cells.selN, leMem, leCells, memUnder, underL, V.under]
 exact trivial
theorem vc_spec_pzAll (pr : List UInt8) (pw ph : Int) (n : Nat) (a : List Int) (h : goodZ pr pw ph n a = true /\ a.length = n * 3) : VC_spec_pzAll pr pw ph n a
  (retG 1 (.row 1 (solZ pr pw ph n a).length) [⟨.ints .i64 a, 83, .rows 3⟩, ⟨.strs (solZ pr pw ph n a), 9, .row⟩]) := by
 unfold VC_spec_pzAll
 obtain ⟨hs, hn, hall, hT⟩ := goodZ_in h.1
 have hb := size_bd hs
 rw [textsZ, texts_len] at hT
 rw [lookX_nil]
 simp only [List.length_nil, Nat.sub_zero]
 exact ⟨⟨by omega, h.1, h.2, by omega, rfl, by omega⟩, retG_a⟩
theorem vc_spec_pzLook_3 (b pr : List UInt8) (pw ph : Int) (n : Nat) (a : List Int) (m : Nat) (l : List (List UInt8)) (mm : Nat)
  (h : (pw * ph).toNat - b.length < mm + 1 /\ goodZ pr pw ph n a = true /\ a.length = n * 3 /\ (b.length : Int) <= pw * ph /\ colsB b pr.length = true /\ l.length = m /\ m + pr.length ^ ((pw * ph).toNat - b.length) <= 1000) :
  VC_spec_pzLook_3 b pr pw ph n a m l mm (retG 3 (.tup []) [⟨.ints .i64 a, 83, .arg 3⟩, ⟨.vals [.row 3 (l ++ lookX pr pw ph n a b).length], 26, .box⟩, ⟨.dead, 9, .row⟩, ⟨.strs (l ++ lookX pr pw ph n a b), 9, .row⟩]) := by
 unfold VC_spec_pzLook_3
 obtain ⟨hmm, hg, ha, hbl, hcb, hlm, hpw⟩ := h
 subst hlm
 obtain ⟨hs, hn, hall, hT⟩ := goodZ_in hg
 have hb := size_bd hs
 rw [wrap64_in (x := pw * ph) (by omega)]
 refine ⟨fun he => ?_, fun he => ?_⟩
 ·rw [beq_iff_eq] at he
  have hl := lookX_leaf (r := pr) (n := n) (a := a) (show b.length = (pw * ph).toNat by omega)
  have hw := good_B hs he hcb
  refine ⟨by simp, ⟨Int.le_refl _, by omega, rfl⟩, fun i hi => ⟨fun hc => ?_, fun hc => ?_⟩⟩
  ·have hc := of_decide_eq_true hc
   obtain ⟨i1, i2, hf⟩ := hi
   rw [wrap64_in (x := i + 1) (by omega)]
   refine ⟨⟨i1, hc⟩, ⟨by omega⟩, ⟨hw, allC_at hall (by omega)⟩, fun hn => ?_, fun hn => ?_⟩
   ·rw [Bool.not_eq_true'] at hn
    rw [hl, fits_no (i := i.toNat) hn (by omega)]
    simp only [cond_false, List.append_nil]
    exact retG_l1
   ·rw [Bool.not_eq_false'] at hn
    have hn' : fitAt pr pw ph a b i.toNat = true := hn
    have h3 : fitsN pr pw ph a b (i + 1).toNat = true := by
     rw [show (i + 1).toNat = i.toNat + 1 by omega]
     simp only [fitsN, hf, hn', Bool.and_self]
    exact ⟨by simp, ⟨⟨by omega, by omega, h3⟩, by omega⟩⟩
  ·have hc := of_decide_eq_false hc
   obtain ⟨i1, i2, hf⟩ := hi
   rw [show i.toNat = n by omega] at hf
   rw [hl, hf]
   simp only [cond_true]
   refine ⟨⟨⟨by omega, by simp⟩, posM1, by omega⟩, ?_⟩
   rw [show l.length + 1 = (l ++ [b]).length by simp, show l ++ List.take (1 * 1) [b] = l ++ [b] by simp]
   exact retG_l2
 ·rw [beq_eq_false_iff_ne] at he
  obtain ⟨k, hk⟩ : ∃ k, (pw * ph).toNat - b.length = k + 1 := ⟨(pw * ph).toNat - b.length - 1, by omega⟩
  have hX := lookX_split (r := pr) (n := n) (a := a) (show b.length < (pw * ph).toNat by omega)
  refine ⟨by simp [lookD], ⟨Int.le_refl _, by omega⟩, fun d hd => ⟨fun hc => ?_, fun hc => ?_⟩⟩
  ·have hc := of_decide_eq_true hc
   obtain ⟨d1, d2⟩ := hd
   have hlen := lookD_len (r := pr) (n := n) (a := a) hk d.toNat
   have hpk : (pw * ph).toNat - (b ++ num1 d).length = k := by rw [List.length_append, num1_len]; omega
   have hmul : (d.toNat + 1) * pr.length ^ k <= pr.length * pr.length ^ k := Nat.mul_le_mul_right _ (by omega)
   rw [Nat.succ_mul] at hmul
   rw [hk, Nat.pow_succ, Nat.mul_comm (pr.length ^ k)] at hpw
   have hsc := lookD_succ pr pw ph n a b d.toNat
   rw [Int.toNat_of_nonneg d1] at hsc
   rw [wrap64_in (x := d + 1) (by omega), show (d + 1).toNat = d.toNat + 1 by omega, hsc, hpk]
   refine ⟨trivial, ⟨d1, by omega⟩, ⟨by rw [num1_len]; omega⟩, ⟨by omega, hg, ha, by rw [List.length_append, num1_len]; omega, cols_app hcb d1 hc (by omega), rfl, by rw [List.length_append]; omega⟩, by simp, ⟨⟨by omega, by omega⟩, by omega⟩⟩
  ·have hc := of_decide_eq_false hc
   obtain ⟨d1, d2⟩ := hd
   rw [show d.toNat = pr.length by omega, <- hX]
   exact retG_l3
theorem vc_spec_pzLook_4 (b pr : List UInt8) (pw ph : Int) (n : Nat) (a : List Int) (mm : Nat)
  (h : (pw * ph).toNat - b.length < mm + 1 /\ goodZ pr pw ph n a = true /\ a.length = n * 3 /\ (b.length : Int) <= pw * ph /\ colsB b pr.length = true /\ pr.length ^ ((pw * ph).toNat - b.length) <= 1000) :
  VC_spec_pzLook_4 b pr pw ph n a mm (retG 2 (.tup []) [⟨.ints .i64 a, 83, .arg 3⟩, ⟨.vals [.row 2 (lookX pr pw ph n a b).length], 26, .box⟩, ⟨.strs (lookX pr pw ph n a b), 9, .row⟩]) := by
 unfold VC_spec_pzLook_4
 obtain ⟨hmm, hg, ha, hbl, hcb, hpw⟩ := h
 obtain ⟨hs, hn, hall, hT⟩ := goodZ_in hg
 have hb := size_bd hs
 rw [wrap64_in (x := pw * ph) (by omega)]
 refine ⟨fun he => ?_, fun he => ?_⟩
 ·rw [beq_iff_eq] at he
  have hl := lookX_leaf (r := pr) (n := n) (a := a) (show b.length = (pw * ph).toNat by omega)
  have hw := good_B hs he hcb
  refine ⟨by simp, ⟨Int.le_refl _, by omega, rfl⟩, fun i hi => ⟨fun hc => ?_, fun hc => ?_⟩⟩
  ·have hc := of_decide_eq_true hc
   obtain ⟨i1, i2, hf⟩ := hi
   rw [wrap64_in (x := i + 1) (by omega)]
   refine ⟨⟨i1, hc⟩, ⟨by omega⟩, ⟨hw, allC_at hall (by omega)⟩, fun hn => ?_, fun hn => ?_⟩
   ·rw [Bool.not_eq_true'] at hn
    rw [hl, fits_no (i := i.toNat) hn (by omega)]
    exact retG_l4
   ·rw [Bool.not_eq_false'] at hn
    have hn' : fitAt pr pw ph a b i.toNat = true := hn
    have h3 : fitsN pr pw ph a b (i + 1).toNat = true := by
     rw [show (i + 1).toNat = i.toNat + 1 by omega]
     simp only [fitsN, hf, hn', Bool.and_self]
    exact ⟨by simp, ⟨⟨by omega, by omega, h3⟩, by omega⟩⟩
  ·have hc := of_decide_eq_false hc
   obtain ⟨i1, i2, hf⟩ := hi
   rw [show i.toNat = n by omega] at hf
   rw [hl, hf]
   exact ⟨⟨⟨by simp, by simp⟩, by omega, by omega⟩, retG_l5⟩
 ·rw [beq_eq_false_iff_ne] at he
  obtain ⟨k, hk⟩ : ∃ k, (pw * ph).toNat - b.length = k + 1 := ⟨(pw * ph).toNat - b.length - 1, by omega⟩
  have hX := lookX_split (r := pr) (n := n) (a := a) (show b.length < (pw * ph).toNat by omega)
  refine ⟨by simp [lookD], ⟨Int.le_refl _, by omega⟩, fun d hd => ⟨fun hc => ?_, fun hc => ?_⟩⟩
  ·have hc := of_decide_eq_true hc
   obtain ⟨d1, d2⟩ := hd
   have hlen := lookD_len (r := pr) (n := n) (a := a) hk d.toNat
   have hpk : (pw * ph).toNat - (b ++ num1 d).length = k := by rw [List.length_append, num1_len]; omega
   have hmul : (d.toNat + 1) * pr.length ^ k <= pr.length * pr.length ^ k := Nat.mul_le_mul_right _ (by omega)
   rw [Nat.succ_mul] at hmul
   rw [hk, Nat.pow_succ, Nat.mul_comm (pr.length ^ k)] at hpw
   have hsc := lookD_succ pr pw ph n a b d.toNat
   rw [Int.toNat_of_nonneg d1] at hsc
   rw [wrap64_in (x := d + 1) (by omega), show (d + 1).toNat = d.toNat + 1 by omega, hsc, hpk]
   refine ⟨trivial, ⟨d1, by omega⟩, ⟨by rw [num1_len]; omega⟩, ⟨by omega, hg, ha, by rw [List.length_append, num1_len]; omega, cols_app hcb d1 hc (by omega), rfl, by omega⟩, by simp, ⟨⟨by omega, by omega⟩, by omega⟩⟩
  ·have hc := of_decide_eq_false hc
   obtain ⟨d1, d2⟩ := hd
   rw [show d.toNat = pr.length by omega, <- hX]
   exact retG_l6
theorem vc_spec_pzAll_2 (pr : List UInt8) (pw ph : Int) (n : Nat) (a : List Int) (h : goodZ pr pw ph n a = true /\ a.length = n * 3) : VC_spec_pzAll_2 pr pw ph n a
  (retG 1 (.row 1 (solZ pr pw ph n a).length) [⟨.ints .i64 a, 83, .arg 3⟩, ⟨.strs (solZ pr pw ph n a), 9, .row⟩]) := by
 unfold VC_spec_pzAll_2
 obtain ⟨hs, hn, hall, hT⟩ := goodZ_in h.1
 have hb := size_bd hs
 rw [textsZ, texts_len] at hT
 rw [lookX_nil]
 simp only [List.length_nil, Nat.sub_zero]
 exact ⟨⟨by omega, h.1, h.2, by omega, rfl, by omega⟩, retG_a⟩
end Go.Vi
