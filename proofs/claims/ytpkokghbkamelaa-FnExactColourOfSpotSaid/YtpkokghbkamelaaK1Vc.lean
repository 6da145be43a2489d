/- The conditions, reckoned out by program: texts alone. -/
import Derived.Test.YtpkokghbkamelaaK1Defs
namespace Go.Vi
set_option linter.unusedVariables false
def VC_impl_isNearPlace (x:Int)(y:Int)(K:V → Prop):Prop:=
 At True∧(inB x (-1000:Int) (1000:Int)=true→At True∧K (V.bool (inB y (-1000:Int) (1000:Int))))∧(inB x (-1000:Int) (1000:Int)=false→K (V.lit false))
def VC_impl_endlessOf (pr:List UInt8)(n:Nat)(px:Int)(py:Int)(pd:Int)(a:List Int)(K:V → List Blk → Prop):Prop:=
 (((True∧(((1:Nat)=(1:Nat)∧(0:Nat)=(0:Nat))∧((3:Nat)=(3:Nat)∧(0:Nat)=(0:Nat))∧True)∧((True∧IntKind.i64=IntKind.i64∧a=a)∧(True∧pr=pr∧((0:Nat)=(0:Nat)∧n=n)∧(True∧px=px)∧(True∧py=py)∧(True∧pd=pd)∧True)∧(True∧
 ([]:List (V × V))=[])∧(True∧pr=pr∧(2:Nat)=(2:Nat)∧(True∧px=px)∧(True∧py=py)∧(True∧pd=pd)∧True)∧True)∧True)∧True)∧True)∧((((1:Nat)=(1:Nat)∧(0:Nat)=(0:Nat))∧((3:Nat)=(3:Nat)∧(0:Nat)=(0:Nat))∧((0:Nat)=(0:Nat)∧n=n)∧(True∧
 (↑n:Int)=(↑n:Int))∧(True∧(0:Int)=(0:Int))∧True)∧((True∧IntKind.i64=IntKind.i64∧a=a)∧(True∧pr=pr∧((0:Nat)=(0:Nat)∧n=n)∧(True∧px=px)∧(True∧py=py)∧(True∧pd=pd)∧True)∧(True∧[]=mapOf a (Int.toNat (0:Int)))∧(True∧pr=pr∧
 (2:Nat)=(2:Nat)∧(True∧px=px)∧(True∧py=py)∧(True∧pd=pd)∧True)∧True)∧True)∧At (ivInv n (fun (x:Int) ↦ True) (0:Int))∧∀(a_1:Int),ivInv n (fun (x:Int) ↦ True) a_1→(decide (a_1 < (↑n:Int))=true→At ((0:Int)≤a_1∧
 a_1 < (↑n:Int))∧At (Int.toNat a_1 * (3:Nat) + (3:Nat)≤List.length a)∧((At (keysFit [KS.int IntKind.i64,KS.int IntKind.i64] (mapOf a (Int.toNat a_1))=true)∧True∧(((1:Nat)=(1:Nat)∧(0:Nat)=(0:Nat))∧((3:Nat)=(3:Nat)∧
 (0:Nat)=(0:Nat))∧((0:Nat)=(0:Nat)∧n=n)∧(True∧(↑n:Int)=(↑n:Int))∧(True∧a_1=a_1)∧True)∧((True∧IntKind.i64=IntKind.i64∧a=a)∧(True∧pr=pr∧((0:Nat)=(0:Nat)∧n=n)∧(True∧px=px)∧(True∧py=py)∧(True∧pd=pd)∧True)∧(True∧
 putK (V.agg [V.int .i64 (List.getD a (Int.toNat a_1 * (3:Nat)) (0:Int)),V.int .i64 (List.getD a (Int.toNat a_1 * (3:Nat) + (1:Nat)) (0:Int))]) (V.int .i64 (List.getD a (Int.toNat a_1 * (3:Nat) + (1:Nat) + (1:Nat)) (0:Int))) (mapOf a (Int.toNat a_1))=mapOf a (Int.toNat a_1 + (1:Nat)))∧
 (True∧pr=pr∧(2:Nat)=(2:Nat)∧(True∧px=px)∧(True∧py=py)∧(True∧pd=pd)∧True)∧True)∧True)∧True)∧((((1:Nat)=(1:Nat)∧(0:Nat)=(0:Nat))∧((3:Nat)=(3:Nat)∧(0:Nat)=(0:Nat))∧((0:Nat)=(0:Nat)∧n=n)∧(True∧(↑n:Int)=(↑n:Int))∧(True∧
 IntKind.wrap .i64 (a_1 + (1:Int))=IntKind.wrap .i64 (a_1 + (1:Int)))∧True)∧((True∧IntKind.i64=IntKind.i64∧a=a)∧(True∧pr=pr∧((0:Nat)=(0:Nat)∧n=n)∧(True∧px=px)∧(True∧py=py)∧(True∧pd=pd)∧True)∧(True∧
 mapOf a (Int.toNat a_1 + (1:Nat))=mapOf a (Int.toNat (IntKind.wrap .i64 (a_1 + (1:Int)))))∧(True∧pr=pr∧(2:Nat)=(2:Nat)∧(True∧px=px)∧(True∧py=py)∧(True∧pd=pd)∧True)∧True)∧True)∧
 At (ivInv n (fun (x:Int) ↦ True) (IntKind.wrap .i64 (a_1 + (1:Int)))∧Int.toNat ((↑n:Int) - IntKind.wrap .i64 (a_1 + (1:Int))) < Int.toNat ((↑n:Int) - a_1)))∧(decide (a_1 < (↑n:Int))=false→
 K (V.ptr (3:Nat) (0:Nat)) [⟨Cells.ints .i64 a,63,Kind.rows (3:Nat)⟩,⟨Cells.vals [V.str pr,V.row (0:Nat) n,V.int .i64 px,V.int .i64 py,V.int .i64 pd],30,Kind.box⟩,⟨Cells.map (mapOf a (Int.toNat a_1)),44,Kind.map⟩,⟨Cells.vals [V.str pr,V.mp (2:Nat),V.int .i64 px,V.int .i64 py,V.int .i64 pd],50,Kind.box⟩])
def VC_spec_enAt (x:Int)(y:Int)(n:Nat)(a:List Int)(K:V → List Blk → Prop):Prop:=
 ((((0:Nat)=(0:Nat)∧n=n)∧(True∧x=x)∧(True∧y=y)∧(True∧(0:Int)=(0:Int))∧(True∧(↑n:Int)=(↑n:Int))∧True)∧((True∧IntKind.i64=IntKind.i64∧a=a)∧True)∧True)∧At (halfInv a n x y ((0:Int),(↑n:Int)))∧
 ∀(a_1:Int × Int),halfInv a n x y a_1→(decide (Prod.fst a_1 < Prod.snd a_1)=true→At ((2:Int) ≠ (0:Int))∧At ((0:Int)≤IntKind.wrap .i64 (Int.tdiv (IntKind.wrap .i64 (Prod.fst a_1 + Prod.snd a_1)) (2:Int))∧
 IntKind.wrap .i64 (Int.tdiv (IntKind.wrap .i64 (Prod.fst a_1 + Prod.snd a_1)) (2:Int)) < (↑n:Int))∧
 At (Int.toNat (IntKind.wrap .i64 (Int.tdiv (IntKind.wrap .i64 (Prod.fst a_1 + Prod.snd a_1)) (2:Int))) * (3:Nat) + (3:Nat)≤List.length a)∧At True∧
 (lessS (List.getD a (Int.toNat (IntKind.wrap .i64 (Int.tdiv (IntKind.wrap .i64 (Prod.fst a_1 + Prod.snd a_1)) (2:Int))) * (3:Nat)) (0:Int)) (List.getD a (Int.toNat (IntKind.wrap .i64 (Int.tdiv (IntKind.wrap .i64 (Prod.fst a_1 + Prod.snd a_1)) (2:Int))) * (3:Nat) + (1:Nat)) (0:Int)) x y=true→
 ((((0:Nat)=(0:Nat)∧n=n)∧(True∧x=x)∧(True∧y=y)∧(True∧
 IntKind.wrap .i64 (IntKind.wrap .i64 (Int.tdiv (IntKind.wrap .i64 (Prod.fst a_1 + Prod.snd a_1)) (2:Int)) + (1:Int))=IntKind.wrap .i64 (IntKind.wrap .i64 (Int.tdiv (IntKind.wrap .i64 (Prod.fst a_1 + Prod.snd a_1)) (2:Int)) + (1:Int)))∧
 (True∧Prod.snd a_1=Prod.snd a_1)∧True)∧((True∧IntKind.i64=IntKind.i64∧a=a)∧True)∧True)∧
 At (halfInv a n x y (IntKind.wrap .i64 (IntKind.wrap .i64 (Int.tdiv (IntKind.wrap .i64 (Prod.fst a_1 + Prod.snd a_1)) (2:Int)) + (1:Int)),Prod.snd a_1)∧
 Int.toNat (Prod.snd a_1 - IntKind.wrap .i64 (IntKind.wrap .i64 (Int.tdiv (IntKind.wrap .i64 (Prod.fst a_1 + Prod.snd a_1)) (2:Int)) + (1:Int))) < Int.toNat (Prod.snd a_1 - Prod.fst a_1)))∧
 (lessS (List.getD a (Int.toNat (IntKind.wrap .i64 (Int.tdiv (IntKind.wrap .i64 (Prod.fst a_1 + Prod.snd a_1)) (2:Int))) * (3:Nat)) (0:Int)) (List.getD a (Int.toNat (IntKind.wrap .i64 (Int.tdiv (IntKind.wrap .i64 (Prod.fst a_1 + Prod.snd a_1)) (2:Int))) * (3:Nat) + (1:Nat)) (0:Int)) x y=false→
 ((((0:Nat)=(0:Nat)∧n=n)∧(True∧x=x)∧(True∧y=y)∧(True∧Prod.fst a_1=Prod.fst a_1)∧(True∧
 IntKind.wrap .i64 (Int.tdiv (IntKind.wrap .i64 (Prod.fst a_1 + Prod.snd a_1)) (2:Int))=IntKind.wrap .i64 (Int.tdiv (IntKind.wrap .i64 (Prod.fst a_1 + Prod.snd a_1)) (2:Int)))∧True)∧((True∧IntKind.i64=IntKind.i64∧a=a)∧
 True)∧True)∧At (halfInv a n x y (Prod.fst a_1,IntKind.wrap .i64 (Int.tdiv (IntKind.wrap .i64 (Prod.fst a_1 + Prod.snd a_1)) (2:Int)))∧
 Int.toNat (IntKind.wrap .i64 (Int.tdiv (IntKind.wrap .i64 (Prod.fst a_1 + Prod.snd a_1)) (2:Int)) - Prod.fst a_1) < Int.toNat (Prod.snd a_1 - Prod.fst a_1))))∧(decide (Prod.fst a_1 < Prod.snd a_1)=false→True∧
 (decide (Prod.fst a_1 < (↑n:Int))=true→At ((0:Int)≤Prod.fst a_1∧Prod.fst a_1 < (↑n:Int))∧At (Int.toNat (Prod.fst a_1) * (3:Nat) + (0:Nat) < List.length a)∧
 ((List.getD a (Int.toNat (Prod.fst a_1) * (3:Nat) + (0:Nat)) (0:Int)==x)=true→At ((0:Int)≤Prod.fst a_1∧Prod.fst a_1 < (↑n:Int))∧At (Int.toNat (Prod.fst a_1) * (3:Nat) + (1:Nat) < List.length a)∧
 K (V.tup [V.int .i64 (Prod.fst a_1),V.bool (List.getD a (Int.toNat (Prod.fst a_1) * (3:Nat) + (1:Nat)) (0:Int)==y)]) [⟨Cells.ints .i64 a,63,Kind.rows (3:Nat)⟩])∧
 ((List.getD a (Int.toNat (Prod.fst a_1) * (3:Nat) + (0:Nat)) (0:Int)==x)=false→K (V.tup [V.int .i64 (Prod.fst a_1),V.lit false]) [⟨Cells.ints .i64 a,63,Kind.rows (3:Nat)⟩]))∧
 (decide (Prod.fst a_1 < (↑n:Int))=false→K (V.tup [V.int .i64 (Prod.fst a_1),V.lit false]) [⟨Cells.ints .i64 a,63,Kind.rows (3:Nat)⟩]))
def VC_spec_enColour (x:Int)(y:Int)(pr:List UInt8)(n:Nat)(px:Int)(py:Int)(pd:Int)(a:List Int)(K:V → List Blk → Prop):Prop:=
 At (List.length a=n * (3:Nat)∧n≤(2000000:Nat)∧srtd a n)∧(isF a n x y=true→At ((0:Int)≤lowF a n x y∧lowF a n x y < (↑n:Int))∧At (Int.toNat (lowF a n x y) * (3:Nat) + (2:Nat) < List.length a)∧
 K (V.int .i64 (List.getD a (Int.toNat (lowF a n x y) * (3:Nat) + (2:Nat)) (0:Int))) [⟨Cells.ints .i64 a,63,Kind.rows (3:Nat)⟩,⟨Cells.vals [V.str pr,V.row (0:Nat) n,V.int .i64 px,V.int .i64 py,V.int .i64 pd],30,Kind.box⟩])∧
 (isF a n x y=false→K (V.int .i64 (0:Int)) [⟨Cells.ints .i64 a,63,Kind.rows (3:Nat)⟩,⟨Cells.vals [V.str pr,V.row (0:Nat) n,V.int .i64 px,V.int .i64 py,V.int .i64 pd],30,Kind.box⟩])
def VC_spec_enCell (x:Int)(y:Int)(pr:List UInt8)(n:Nat)(px:Int)(py:Int)(pd:Int)(a:List Int)(K:V → List Blk → Prop):Prop:=
 At (List.length a=n * (3:Nat)∧n≤(2000000:Nat))∧(goodP pr n a px py pd=true→At True∧(inB x (-1000:Int) (1000:Int)=true→At True∧
 K (V.bool (inB y (-1000:Int) (1000:Int))) [⟨Cells.ints .i64 a,63,Kind.rows (3:Nat)⟩,⟨Cells.vals [V.str pr,V.row (0:Nat) n,V.int .i64 px,V.int .i64 py,V.int .i64 pd],30,Kind.box⟩])∧
 (inB x (-1000:Int) (1000:Int)=false→K (V.lit false) [⟨Cells.ints .i64 a,63,Kind.rows (3:Nat)⟩,⟨Cells.vals [V.str pr,V.row (0:Nat) n,V.int .i64 px,V.int .i64 py,V.int .i64 pd],30,Kind.box⟩]))∧
 (goodP pr n a px py pd=false→K (V.lit false) [⟨Cells.ints .i64 a,63,Kind.rows (3:Nat)⟩,⟨Cells.vals [V.str pr,V.row (0:Nat) n,V.int .i64 px,V.int .i64 py,V.int .i64 pd],30,Kind.box⟩])
def VC_spec_ColourOfSpot (x:Int)(y:Int)(pr:List UInt8)(n:Nat)(px:Int)(py:Int)(pd:Int)(a:List Int)(K:V → List Blk → Prop):Prop:=
 At (List.length a=n * (3:Nat)∧n≤(2000000:Nat))∧((!(goodP pr n a px py pd && (farB x && farB y)))=true→
 K (V.tup [V.int .i64 (0:Int),V.lit false]) [⟨Cells.ints .i64 a,63,Kind.rows (3:Nat)⟩,⟨Cells.vals [V.str pr,V.row (0:Nat) n,V.int .i64 px,V.int .i64 py,V.int .i64 pd],30,Kind.box⟩])∧
 ((!(goodP pr n a px py pd && (farB x && farB y)))=false→At (List.length a=n * (3:Nat)∧n≤(2000000:Nat)∧srtd a n)∧
 K (V.tup [V.int .i64 (bif isF a n x y then spK a (Int.toNat (lowF a n x y)) else (0:Int)),V.lit true]) [⟨Cells.ints .i64 a,63,Kind.rows (3:Nat)⟩,⟨Cells.vals [V.str pr,V.row (0:Nat) n,V.int .i64 px,V.int .i64 py,V.int .i64 pd],30,Kind.box⟩])
def VC_impl_ColourOfSpot (x:Int)(y:Int)(pr:List UInt8)(n:Nat)(px:Int)(py:Int)(pd:Int)(a:List Int)(K:V → List Blk → Prop):Prop:=
 At (List.length a=n * (3:Nat)∧n≤(2000000:Nat))∧((!goodP pr n a px py pd)=true→
 K (V.tup [V.int .i64 (0:Int),V.lit false]) [⟨Cells.ints .i64 a,63,Kind.rows (3:Nat)⟩,⟨Cells.vals [V.str pr,V.row (0:Nat) n,V.int .i64 px,V.int .i64 py,V.int .i64 pd],30,Kind.box⟩])∧
 ((!goodP pr n a px py pd)=false→At True∧((!(farB x && farB y))=true→
 K (V.tup [V.int .i64 (0:Int),V.lit false]) [⟨Cells.ints .i64 a,63,Kind.rows (3:Nat)⟩,⟨Cells.vals [V.str pr,V.row (0:Nat) n,V.int .i64 px,V.int .i64 py,V.int .i64 pd],30,Kind.box⟩])∧
 ((!(farB x && farB y))=false→At (List.length a=n * (3:Nat)∧n≤(2000000:Nat))∧At (keysFit [KS.int IntKind.i64,KS.int IntKind.i64] (mapOf a n)=true∧valsInt IntKind.i64 (mapOf a n)=true)∧
 K (V.tup [V.int .i64 (lookI (V.agg [V.int .i64 x,V.int .i64 y]) (mapOf a n)),V.lit true]) [⟨Cells.ints .i64 a,63,Kind.rows (3:Nat)⟩,⟨Cells.vals [V.str pr,V.row (0:Nat) n,V.int .i64 px,V.int .i64 py,V.int .i64 pd],30,Kind.box⟩,⟨Cells.vals [V.str pr,V.mp (3:Nat),V.int .i64 px,V.int .i64 py,V.int .i64 pd],50,Kind.box⟩,⟨Cells.map (mapOf a n),44,Kind.map⟩]))
end Go.Vi
