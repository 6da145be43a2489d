/- The conditions, reckoned out by program: texts alone. -/
import Derived.Test.YtickpjdnncpnmaaDoorCLDefs
namespace Go.Vi
set_option linter.unusedVariables false
def VC_laws_eqClue (ax:Int)(ay:Int)(ak:Int)(bx:Int)(by_:Int)(bk:Int)(K:V → Prop):Prop:=
 ((ax != bx)=true→K (V.lit false))∧((ax != bx)=false→((ay != by_)=true→K (V.lit false))∧((ay != by_)=false→((ak != bk)=true→K (V.lit false))∧((ak != bk)=false→K (V.lit true))))
def VC_laws_eqClueS (n:Nat)(m:Nat)(a:List Int)(b:List Int)(K:V → List Blk → Prop):Prop:=
 (((↑n:Int) != (↑m:Int))=true→K (V.lit false) [⟨Cells.ints .i64 a,83,Kind.rows (3:Nat)⟩,⟨Cells.ints .i64 b,83,Kind.rows (3:Nat)⟩])∧(((↑n:Int) != (↑m:Int))=false→((((0:Nat)=(0:Nat)∧n=n)∧
 ((1:Nat)=(1:Nat)∧m=m)∧(True∧(0:Int)=(0:Int))∧True)∧((True∧IntKind.i64=IntKind.i64∧a=a)∧(True∧IntKind.i64=IntKind.i64∧b=b)∧True)∧True)∧At (spsInv a b n (0:Int))∧∀(a_2:Int),spsInv a b n a_2→(decide (a_2 < (↑n:Int))=true→
 True∧At ((0:Int)≤a_2∧a_2 < (↑n:Int))∧At (Int.toNat a_2 * (3:Nat) + (3:Nat)≤List.length a)∧At ((0:Int)≤a_2∧a_2 < (↑m:Int))∧At (Int.toNat a_2 * (3:Nat) + (3:Nat)≤List.length b)∧At True∧
 ((!(List.getD a (Int.toNat a_2 * (3:Nat)) (0:Int)==List.getD b (Int.toNat a_2 * (3:Nat)) (0:Int) && List.getD a (Int.toNat a_2 * (3:Nat) + (1:Nat)) (0:Int)==List.getD b (Int.toNat a_2 * (3:Nat) + (1:Nat)) (0:Int) && List.getD a (Int.toNat a_2 * (3:Nat) + (1:Nat) + (1:Nat)) (0:Int)==List.getD b (Int.toNat a_2 * (3:Nat) + (1:Nat) + (1:Nat)) (0:Int)))=true→
 K (V.lit false) [⟨Cells.ints .i64 a,83,Kind.rows (3:Nat)⟩,⟨Cells.ints .i64 b,83,Kind.rows (3:Nat)⟩])∧
 ((!(List.getD a (Int.toNat a_2 * (3:Nat)) (0:Int)==List.getD b (Int.toNat a_2 * (3:Nat)) (0:Int) && List.getD a (Int.toNat a_2 * (3:Nat) + (1:Nat)) (0:Int)==List.getD b (Int.toNat a_2 * (3:Nat) + (1:Nat)) (0:Int) && List.getD a (Int.toNat a_2 * (3:Nat) + (1:Nat) + (1:Nat)) (0:Int)==List.getD b (Int.toNat a_2 * (3:Nat) + (1:Nat) + (1:Nat)) (0:Int)))=false→
 ((((0:Nat)=(0:Nat)∧n=n)∧((1:Nat)=(1:Nat)∧m=m)∧(True∧IntKind.wrap .i64 (a_2 + (1:Int))=IntKind.wrap .i64 (a_2 + (1:Int)))∧True)∧((True∧IntKind.i64=IntKind.i64∧a=a)∧(True∧IntKind.i64=IntKind.i64∧b=b)∧True)∧True)∧
 At (spsInv a b n (IntKind.wrap .i64 (a_2 + (1:Int)))∧Int.toNat ((↑n:Int) - IntKind.wrap .i64 (a_2 + (1:Int))) < Int.toNat ((↑n:Int) - a_2))))∧(decide (a_2 < (↑n:Int))=false→
 K (V.lit true) [⟨Cells.ints .i64 a,83,Kind.rows (3:Nat)⟩,⟨Cells.ints .i64 b,83,Kind.rows (3:Nat)⟩]))
def VC_laws_eqPuzzle (ar:List UInt8)(aw:Int)(ah:Int)(cr:List UInt8)(cw:Int)(ch:Int)(n:Nat)(m:Nat)(a:List Int)(b:List Int)(K:V → List Blk → Prop):Prop:=
 ((!ar==cr)=true→
 K (V.lit false) [⟨Cells.ints .i64 a,83,Kind.rows (3:Nat)⟩,⟨Cells.ints .i64 b,83,Kind.rows (3:Nat)⟩,⟨Cells.vals [V.str ar,V.int .i64 aw,V.int .i64 ah,V.row (0:Nat) n],31,Kind.box⟩,⟨Cells.vals [V.str cr,V.int .i64 cw,V.int .i64 ch,V.row (1:Nat) m],31,Kind.box⟩])∧
 ((!ar==cr)=false→((aw != cw)=true→
 K (V.lit false) [⟨Cells.ints .i64 a,83,Kind.rows (3:Nat)⟩,⟨Cells.ints .i64 b,83,Kind.rows (3:Nat)⟩,⟨Cells.vals [V.str ar,V.int .i64 aw,V.int .i64 ah,V.row (0:Nat) n],31,Kind.box⟩,⟨Cells.vals [V.str cr,V.int .i64 cw,V.int .i64 ch,V.row (1:Nat) m],31,Kind.box⟩])∧
 ((aw != cw)=false→((ah != ch)=true→
 K (V.lit false) [⟨Cells.ints .i64 a,83,Kind.rows (3:Nat)⟩,⟨Cells.ints .i64 b,83,Kind.rows (3:Nat)⟩,⟨Cells.vals [V.str ar,V.int .i64 aw,V.int .i64 ah,V.row (0:Nat) n],31,Kind.box⟩,⟨Cells.vals [V.str cr,V.int .i64 cw,V.int .i64 ch,V.row (1:Nat) m],31,Kind.box⟩])∧
 ((ah != ch)=false→At (List.length a=(3:Nat) * n∧List.length b=(3:Nat) * m∧n≤(2000000:Nat)∧m≤(2000000:Nat))∧((!a==b)=true→
 K (V.lit false) [⟨Cells.ints .i64 a,83,Kind.rows (3:Nat)⟩,⟨Cells.ints .i64 b,83,Kind.rows (3:Nat)⟩,⟨Cells.vals [V.str ar,V.int .i64 aw,V.int .i64 ah,V.row (0:Nat) n],31,Kind.box⟩,⟨Cells.vals [V.str cr,V.int .i64 cw,V.int .i64 ch,V.row (1:Nat) m],31,Kind.box⟩])∧
 ((!a==b)=false→
 K (V.lit true) [⟨Cells.ints .i64 a,83,Kind.rows (3:Nat)⟩,⟨Cells.ints .i64 b,83,Kind.rows (3:Nat)⟩,⟨Cells.vals [V.str ar,V.int .i64 aw,V.int .i64 ah,V.row (0:Nat) n],31,Kind.box⟩,⟨Cells.vals [V.str cr,V.int .i64 cw,V.int .i64 ch,V.row (1:Nat) m],31,Kind.box⟩]))))
def VC_laws_markClueS (k:Int)(n:Nat)(a:List Int)(K:V → List Blk → Prop):Prop:=
 ((((0:Nat)=(0:Nat)∧n=n)∧(True∧k=k + (3:Int) * (0:Int))∧(True∧(0:Int)=(0:Int))∧True)∧((True∧IntKind.i64=IntKind.i64∧a=mksRow a k (sp3 (0:Int)))∧True)∧True)∧At (mksInv n (0:Int))∧∀(a_1:Int),mksInv n a_1→
 (decide (a_1 < (↑n:Int))=true→At ((0:Int)≤a_1∧a_1 < (↑n:Int))∧At (Int.toNat a_1 * (3:Nat) + (0:Nat) < List.length (mksRow a k (sp3 a_1)))∧At ((0:Int)≤a_1∧a_1 < (↑n:Int))∧
 At (Int.toNat a_1 * (3:Nat) + (1:Nat) < List.length (List.set (mksRow a k (sp3 a_1)) (Int.toNat a_1 * (3:Nat) + (0:Nat)) (k + (3:Int) * a_1)))∧At ((0:Int)≤a_1∧a_1 < (↑n:Int))∧
 At (Int.toNat a_1 * (3:Nat) + (2:Nat) < List.length (List.set (List.set (mksRow a k (sp3 a_1)) (Int.toNat a_1 * (3:Nat) + (0:Nat)) (k + (3:Int) * a_1)) (Int.toNat a_1 * (3:Nat) + (1:Nat)) (IntKind.wrap .i64 (k + (3:Int) * a_1 + (1:Int)))))∧
 ((((0:Nat)=(0:Nat)∧n=n)∧(True∧IntKind.wrap .i64 (IntKind.wrap .i64 (IntKind.wrap .i64 (k + (3:Int) * a_1 + (1:Int)) + (1:Int)) + (1:Int))=k + (3:Int) * IntKind.wrap .i64 (a_1 + (1:Int)))∧(True∧
 IntKind.wrap .i64 (a_1 + (1:Int))=IntKind.wrap .i64 (a_1 + (1:Int)))∧True)∧((True∧IntKind.i64=IntKind.i64∧
 List.set (List.set (List.set (mksRow a k (sp3 a_1)) (Int.toNat a_1 * (3:Nat) + (0:Nat)) (k + (3:Int) * a_1)) (Int.toNat a_1 * (3:Nat) + (1:Nat)) (IntKind.wrap .i64 (k + (3:Int) * a_1 + (1:Int)))) (Int.toNat a_1 * (3:Nat) + (2:Nat)) (IntKind.wrap .i64 (IntKind.wrap .i64 (k + (3:Int) * a_1 + (1:Int)) + (1:Int)))=mksRow a k (sp3 (IntKind.wrap .i64 (a_1 + (1:Int)))))∧
 True)∧True)∧At (mksInv n (IntKind.wrap .i64 (a_1 + (1:Int)))∧Int.toNat ((↑n:Int) - IntKind.wrap .i64 (a_1 + (1:Int))) < Int.toNat ((↑n:Int) - a_1)))∧(decide (a_1 < (↑n:Int))=false→
 K (V.int .i64 (k + (3:Int) * a_1)) [⟨Cells.ints .i64 (mksRow a k (sp3 a_1)),83,Kind.rows (3:Nat)⟩])
def VC_laws_heldClueS (k:Int)(n:Nat)(a:List Int)(K:V → List Blk → Prop):Prop:=
 ((((0:Nat)=(0:Nat)∧n=n)∧(True∧k=k + (3:Int) * (0:Int))∧(True∧(0:Int)=(0:Int))∧True)∧((True∧IntKind.i64=IntKind.i64∧a=a)∧True)∧True)∧At (hlsInv a n k (0:Int))∧∀(a_1:Int),hlsInv a n k a_1→(decide (a_1 < (↑n:Int))=true→
 At ((0:Int)≤a_1∧a_1 < (↑n:Int))∧At (Int.toNat a_1 * (3:Nat) + (0:Nat) < List.length a)∧((List.getD a (Int.toNat a_1 * (3:Nat) + (0:Nat)) (0:Int) != k + (3:Int) * a_1)=true→
 K (V.int .i64 (-1:Int)) [⟨Cells.ints .i64 a,83,Kind.rows (3:Nat)⟩])∧((List.getD a (Int.toNat a_1 * (3:Nat) + (0:Nat)) (0:Int) != k + (3:Int) * a_1)=false→At ((0:Int)≤a_1∧a_1 < (↑n:Int))∧
 At (Int.toNat a_1 * (3:Nat) + (1:Nat) < List.length a)∧((List.getD a (Int.toNat a_1 * (3:Nat) + (1:Nat)) (0:Int) != IntKind.wrap .i64 (k + (3:Int) * a_1 + (1:Int)))=true→
 K (V.int .i64 (-1:Int)) [⟨Cells.ints .i64 a,83,Kind.rows (3:Nat)⟩])∧((List.getD a (Int.toNat a_1 * (3:Nat) + (1:Nat)) (0:Int) != IntKind.wrap .i64 (k + (3:Int) * a_1 + (1:Int)))=false→At ((0:Int)≤a_1∧
 a_1 < (↑n:Int))∧At (Int.toNat a_1 * (3:Nat) + (2:Nat) < List.length a)∧((List.getD a (Int.toNat a_1 * (3:Nat) + (2:Nat)) (0:Int) != IntKind.wrap .i64 (IntKind.wrap .i64 (k + (3:Int) * a_1 + (1:Int)) + (1:Int)))=true→
 K (V.int .i64 (-1:Int)) [⟨Cells.ints .i64 a,83,Kind.rows (3:Nat)⟩])∧
 ((List.getD a (Int.toNat a_1 * (3:Nat) + (2:Nat)) (0:Int) != IntKind.wrap .i64 (IntKind.wrap .i64 (k + (3:Int) * a_1 + (1:Int)) + (1:Int)))=false→((((0:Nat)=(0:Nat)∧n=n)∧(True∧
 IntKind.wrap .i64 (IntKind.wrap .i64 (IntKind.wrap .i64 (k + (3:Int) * a_1 + (1:Int)) + (1:Int)) + (1:Int))=k + (3:Int) * IntKind.wrap .i64 (a_1 + (1:Int)))∧(True∧
 IntKind.wrap .i64 (a_1 + (1:Int))=IntKind.wrap .i64 (a_1 + (1:Int)))∧True)∧((True∧IntKind.i64=IntKind.i64∧a=a)∧True)∧True)∧At (hlsInv a n k (IntKind.wrap .i64 (a_1 + (1:Int)))∧
 Int.toNat ((↑n:Int) - IntKind.wrap .i64 (a_1 + (1:Int))) < Int.toNat ((↑n:Int) - a_1))))))∧(decide (a_1 < (↑n:Int))=false→K (V.int .i64 (k + (3:Int) * a_1)) [⟨Cells.ints .i64 a,83,Kind.rows (3:Nat)⟩])
def VC_laws_markPuzzle (k:Int)(pr:List UInt8)(pw:Int)(ph:Int)(n:Nat)(a:List Int)(K:V → List Blk → Prop):Prop:=
 At (List.length a=(3:Nat) * n∧n≤(2000000:Nat)∧(0:Int)≤k∧k≤(1000:Int))∧
 K (V.int .i64 (k + (↑((3:Nat) * n):Int))) [⟨Cells.ints .i64 (ramp k ((3:Nat) * n)),83,Kind.rows (3:Nat)⟩,⟨Cells.vals [V.str pr,V.int .i64 pw,V.int .i64 ph,V.row (0:Nat) n],31,Kind.box⟩]
def VC_laws_heldPuzzle (k:Int)(pr:List UInt8)(pw:Int)(ph:Int)(n:Nat)(a:List Int)(K:V → List Blk → Prop):Prop:=
 At (List.length a=(3:Nat) * n∧n≤(2000000:Nat)∧(0:Int)≤k∧k≤(1000:Int))∧(decide ((bif a==ramp k ((3:Nat) * n) then k + (↑((3:Nat) * n):Int) else (-1:Int)) < (0:Int))=true→
 K (V.int .i64 (-1:Int)) [⟨Cells.ints .i64 a,83,Kind.rows (3:Nat)⟩,⟨Cells.vals [V.str pr,V.int .i64 pw,V.int .i64 ph,V.row (0:Nat) n],31,Kind.box⟩])∧
 (decide ((bif a==ramp k ((3:Nat) * n) then k + (↑((3:Nat) * n):Int) else (-1:Int)) < (0:Int))=false→
 K (V.int .i64 (bif a==ramp k ((3:Nat) * n) then k + (↑((3:Nat) * n):Int) else (-1:Int))) [⟨Cells.ints .i64 a,83,Kind.rows (3:Nat)⟩,⟨Cells.vals [V.str pr,V.int .i64 pw,V.int .i64 ph,V.row (0:Nat) n],31,Kind.box⟩])
def VC_laws_szClueS (left:Int)(n:Nat)(a:List Int)(K:V → List Blk → Prop):Prop:=
 (decide (IntKind.wrap .i64 (left - (↑n:Int)) < (0:Int))=true→K (V.int .i64 (-1:Int)) [⟨Cells.ints .i64 a,99,Kind.arg (3:Nat)⟩])∧(decide (IntKind.wrap .i64 (left - (↑n:Int)) < (0:Int))=false→
 K (V.int .i64 (IntKind.wrap .i64 (left - (↑n:Int)))) [⟨Cells.ints .i64 a,99,Kind.arg (3:Nat)⟩])
def VC_laws_szPuzzle (left:Int)(pr:List UInt8)(pw:Int)(ph:Int)(n:Nat)(a:List Int)(K:V → List Blk → Prop):Prop:=
 (decide (IntKind.wrap .i64 (left - (↑(List.length pr):Int)) < (0:Int))=true→
 K (V.int .i64 (-1:Int)) [⟨Cells.ints .i64 a,99,Kind.arg (3:Nat)⟩,⟨Cells.vals [V.str pr,V.int .i64 pw,V.int .i64 ph,V.row (0:Nat) n],24,Kind.box⟩])∧
 (decide (IntKind.wrap .i64 (left - (↑(List.length pr):Int)) < (0:Int))=false→At ((0:Int)≤IntKind.wrap .i64 (left - (↑(List.length pr):Int))∧IntKind.wrap .i64 (left - (↑(List.length pr):Int))≤(1000000000:Int)∧
 (↑n:Int)≤(9223372036854775807:Int))∧(decide (szS n (IntKind.wrap .i64 (left - (↑(List.length pr):Int))) < (0:Int))=true→
 K (V.int .i64 (-1:Int)) [⟨Cells.ints .i64 a,99,Kind.arg (3:Nat)⟩,⟨Cells.vals [V.str pr,V.int .i64 pw,V.int .i64 ph,V.row (0:Nat) n],24,Kind.box⟩])∧
 (decide (szS n (IntKind.wrap .i64 (left - (↑(List.length pr):Int))) < (0:Int))=false→
 K (V.int .i64 (szS n (IntKind.wrap .i64 (left - (↑(List.length pr):Int))))) [⟨Cells.ints .i64 a,99,Kind.arg (3:Nat)⟩,⟨Cells.vals [V.str pr,V.int .i64 pw,V.int .i64 ph,V.row (0:Nat) n],24,Kind.box⟩]))
def VC_laws_toClue (ax:Int)(ay:Int)(ak:Int)(K:V → Prop):Prop:=
 K (V.agg [V.int .i64 ax,V.int .i64 ay,V.int .i64 ak])
def VC_laws_toClueS (n:Nat)(a:List Int)(K:V → List Blk → Prop):Prop:=
 At ((0:Int)≤(↑n:Int)∧(↑n:Int)≤(↑n:Int)∧(↑n:Int)≤(1000000000:Int))∧((((0:Nat)=(0:Nat)∧n=n)∧((1:Nat)=(1:Nat)∧n=n)∧(True∧(0:Int)=(0:Int))∧True)∧((True∧IntKind.i64=IntKind.i64∧a=a)∧(True∧IntKind.i64=IntKind.i64∧
 List.replicate (Int.toNat (↑n:Int) * (3:Nat)) (0:Int)=cpy a (Int.toNat (0:Int)))∧True)∧True)∧At (ivInv n (fun (x:Int) ↦ True) (0:Int))∧∀(a_1:Int),ivInv n (fun (x:Int) ↦ True) a_1→(decide (a_1 < (↑n:Int))=true→
 At ((0:Int)≤a_1∧a_1 < (↑n:Int))∧At (Int.toNat a_1 * (3:Nat) + (3:Nat)≤List.length a)∧At True∧At ((0:Int)≤a_1∧a_1 < (↑n:Int))∧
 At (Int.toNat a_1 * (3:Nat) + List.length [List.getD a (Int.toNat a_1 * (3:Nat)) (0:Int),List.getD a (Int.toNat a_1 * (3:Nat) + (1:Nat)) (0:Int),List.getD a (Int.toNat a_1 * (3:Nat) + (1:Nat) + (1:Nat)) (0:Int)]≤List.length (cpy a (Int.toNat a_1)))∧
 ((((0:Nat)=(0:Nat)∧n=n)∧((1:Nat)=(1:Nat)∧n=n)∧(True∧IntKind.wrap .i64 (a_1 + (1:Int))=IntKind.wrap .i64 (a_1 + (1:Int)))∧True)∧((True∧IntKind.i64=IntKind.i64∧a=a)∧(True∧IntKind.i64=IntKind.i64∧
 setInts (cpy a (Int.toNat a_1)) (Int.toNat a_1 * (3:Nat)) [List.getD a (Int.toNat a_1 * (3:Nat)) (0:Int),List.getD a (Int.toNat a_1 * (3:Nat) + (1:Nat)) (0:Int),List.getD a (Int.toNat a_1 * (3:Nat) + (1:Nat) + (1:Nat)) (0:Int)]=cpy a (Int.toNat (IntKind.wrap .i64 (a_1 + (1:Int)))))∧
 True)∧True)∧At (ivInv n (fun (x:Int) ↦ True) (IntKind.wrap .i64 (a_1 + (1:Int)))∧Int.toNat ((↑n:Int) - IntKind.wrap .i64 (a_1 + (1:Int))) < Int.toNat ((↑n:Int) - a_1)))∧(decide (a_1 < (↑n:Int))=false→
 K (V.row (1:Nat) n) [⟨Cells.ints .i64 a,99,Kind.arg (3:Nat)⟩,⟨Cells.ints .i64 (cpy a (Int.toNat a_1)),83,Kind.rows (3:Nat)⟩])
def VC_laws_toPuzzle (pr:List UInt8)(pw:Int)(ph:Int)(n:Nat)(a:List Int)(K:V → List Blk → Prop):Prop:=
 At (List.length a=n * (3:Nat)∧n≤(2000000:Nat))∧
 K (V.agg [V.str pr,V.int .i64 pw,V.int .i64 ph,V.row (4:Nat) n]) [⟨Cells.ints .i64 a,99,Kind.arg (3:Nat)⟩,⟨Cells.vals [V.str pr,V.int .i64 pw,V.int .i64 ph,V.row (0:Nat) n],24,Kind.box⟩,⟨Cells.vals [V.str pr,V.int .i64 pw,V.int .i64 ph,V.row (4:Nat) n],31,Kind.box⟩,⟨Cells.vals [V.str pr,V.int .i64 pw,V.int .i64 ph,V.row (4:Nat) n],31,Kind.box⟩,⟨Cells.ints .i64 a,83,Kind.rows (3:Nat)⟩]
end Go.Vi
