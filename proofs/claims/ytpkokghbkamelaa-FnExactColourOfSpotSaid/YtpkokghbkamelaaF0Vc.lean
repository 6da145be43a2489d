/- The conditions, reckoned out by program: texts alone. -/
import Derived.Test.YtpkokghbkamelaaF0Defs
namespace Go.Vi
set_option linter.unusedVariables false
def VC_laws_eqSpot (ax:Int)(ay:Int)(ak:Int)(bx:Int)(by_:Int)(bk:Int)(K:V → Prop):Prop:=
 ((ax != bx)=true→K (V.lit false))∧((ax != bx)=false→((ay != by_)=true→K (V.lit false))∧((ay != by_)=false→((ak != bk)=true→K (V.lit false))∧((ak != bk)=false→K (V.lit true))))
def VC_laws_eqSpotS (n:Nat)(m:Nat)(a:List Int)(b:List Int)(K:V → List Blk → Prop):Prop:=
 (((↑n:Int) != (↑m:Int))=true→K (V.lit false) [⟨Cells.ints .i64 a,63,Kind.rows (3:Nat)⟩,⟨Cells.ints .i64 b,63,Kind.rows (3:Nat)⟩])∧(((↑n:Int) != (↑m:Int))=false→((((0:Nat)=(0:Nat)∧n=n)∧
 ((1:Nat)=(1:Nat)∧m=m)∧(True∧(0:Int)=(0:Int))∧True)∧((True∧IntKind.i64=IntKind.i64∧a=a)∧(True∧IntKind.i64=IntKind.i64∧b=b)∧True)∧True)∧At (spsInv a b n (0:Int))∧∀(a_2:Int),spsInv a b n a_2→(decide (a_2 < (↑n:Int))=true→
 True∧At ((0:Int)≤a_2∧a_2 < (↑n:Int))∧At (Int.toNat a_2 * (3:Nat) + (3:Nat)≤List.length a)∧At ((0:Int)≤a_2∧a_2 < (↑m:Int))∧At (Int.toNat a_2 * (3:Nat) + (3:Nat)≤List.length b)∧At True∧
 ((!(List.getD a (Int.toNat a_2 * (3:Nat)) (0:Int)==List.getD b (Int.toNat a_2 * (3:Nat)) (0:Int) && List.getD a (Int.toNat a_2 * (3:Nat) + (1:Nat)) (0:Int)==List.getD b (Int.toNat a_2 * (3:Nat) + (1:Nat)) (0:Int) && List.getD a (Int.toNat a_2 * (3:Nat) + (1:Nat) + (1:Nat)) (0:Int)==List.getD b (Int.toNat a_2 * (3:Nat) + (1:Nat) + (1:Nat)) (0:Int)))=true→
 K (V.lit false) [⟨Cells.ints .i64 a,63,Kind.rows (3:Nat)⟩,⟨Cells.ints .i64 b,63,Kind.rows (3:Nat)⟩])∧
 ((!(List.getD a (Int.toNat a_2 * (3:Nat)) (0:Int)==List.getD b (Int.toNat a_2 * (3:Nat)) (0:Int) && List.getD a (Int.toNat a_2 * (3:Nat) + (1:Nat)) (0:Int)==List.getD b (Int.toNat a_2 * (3:Nat) + (1:Nat)) (0:Int) && List.getD a (Int.toNat a_2 * (3:Nat) + (1:Nat) + (1:Nat)) (0:Int)==List.getD b (Int.toNat a_2 * (3:Nat) + (1:Nat) + (1:Nat)) (0:Int)))=false→
 ((((0:Nat)=(0:Nat)∧n=n)∧((1:Nat)=(1:Nat)∧m=m)∧(True∧IntKind.wrap .i64 (a_2 + (1:Int))=IntKind.wrap .i64 (a_2 + (1:Int)))∧True)∧((True∧IntKind.i64=IntKind.i64∧a=a)∧(True∧IntKind.i64=IntKind.i64∧b=b)∧True)∧True)∧
 At (spsInv a b n (IntKind.wrap .i64 (a_2 + (1:Int)))∧Int.toNat ((↑n:Int) - IntKind.wrap .i64 (a_2 + (1:Int))) < Int.toNat ((↑n:Int) - a_2))))∧(decide (a_2 < (↑n:Int))=false→
 K (V.lit true) [⟨Cells.ints .i64 a,63,Kind.rows (3:Nat)⟩,⟨Cells.ints .i64 b,63,Kind.rows (3:Nat)⟩]))
def VC_laws_eqPlain (ar:List UInt8)(an:Nat)(ax:Int)(ay:Int)(ad:Int)(cr:List UInt8)(cn:Nat)(cx:Int)(cy:Int)(cd:Int)(a:List Int)(b:List Int)(K:V → List Blk → Prop):Prop:=
 ((!ar==cr)=true→
 K (V.lit false) [⟨Cells.ints .i64 a,63,Kind.rows (3:Nat)⟩,⟨Cells.ints .i64 b,63,Kind.rows (3:Nat)⟩,⟨Cells.vals [V.str ar,V.row (0:Nat) an,V.int .i64 ax,V.int .i64 ay,V.int .i64 ad],30,Kind.box⟩,⟨Cells.vals [V.str cr,V.row (1:Nat) cn,V.int .i64 cx,V.int .i64 cy,V.int .i64 cd],30,Kind.box⟩])∧
 ((!ar==cr)=false→At (List.length a=(3:Nat) * an∧List.length b=(3:Nat) * cn∧an≤(2000000:Nat)∧cn≤(2000000:Nat))∧((!a==b)=true→
 K (V.lit false) [⟨Cells.ints .i64 a,63,Kind.rows (3:Nat)⟩,⟨Cells.ints .i64 b,63,Kind.rows (3:Nat)⟩,⟨Cells.vals [V.str ar,V.row (0:Nat) an,V.int .i64 ax,V.int .i64 ay,V.int .i64 ad],30,Kind.box⟩,⟨Cells.vals [V.str cr,V.row (1:Nat) cn,V.int .i64 cx,V.int .i64 cy,V.int .i64 cd],30,Kind.box⟩])∧
 ((!a==b)=false→((ax != cx)=true→
 K (V.lit false) [⟨Cells.ints .i64 a,63,Kind.rows (3:Nat)⟩,⟨Cells.ints .i64 b,63,Kind.rows (3:Nat)⟩,⟨Cells.vals [V.str ar,V.row (0:Nat) an,V.int .i64 ax,V.int .i64 ay,V.int .i64 ad],30,Kind.box⟩,⟨Cells.vals [V.str cr,V.row (1:Nat) cn,V.int .i64 cx,V.int .i64 cy,V.int .i64 cd],30,Kind.box⟩])∧
 ((ax != cx)=false→((ay != cy)=true→
 K (V.lit false) [⟨Cells.ints .i64 a,63,Kind.rows (3:Nat)⟩,⟨Cells.ints .i64 b,63,Kind.rows (3:Nat)⟩,⟨Cells.vals [V.str ar,V.row (0:Nat) an,V.int .i64 ax,V.int .i64 ay,V.int .i64 ad],30,Kind.box⟩,⟨Cells.vals [V.str cr,V.row (1:Nat) cn,V.int .i64 cx,V.int .i64 cy,V.int .i64 cd],30,Kind.box⟩])∧
 ((ay != cy)=false→((ad != cd)=true→
 K (V.lit false) [⟨Cells.ints .i64 a,63,Kind.rows (3:Nat)⟩,⟨Cells.ints .i64 b,63,Kind.rows (3:Nat)⟩,⟨Cells.vals [V.str ar,V.row (0:Nat) an,V.int .i64 ax,V.int .i64 ay,V.int .i64 ad],30,Kind.box⟩,⟨Cells.vals [V.str cr,V.row (1:Nat) cn,V.int .i64 cx,V.int .i64 cy,V.int .i64 cd],30,Kind.box⟩])∧
 ((ad != cd)=false→
 K (V.lit true) [⟨Cells.ints .i64 a,63,Kind.rows (3:Nat)⟩,⟨Cells.ints .i64 b,63,Kind.rows (3:Nat)⟩,⟨Cells.vals [V.str ar,V.row (0:Nat) an,V.int .i64 ax,V.int .i64 ay,V.int .i64 ad],30,Kind.box⟩,⟨Cells.vals [V.str cr,V.row (1:Nat) cn,V.int .i64 cx,V.int .i64 cy,V.int .i64 cd],30,Kind.box⟩])))))
def VC_laws_markSpotS (k:Int)(n:Nat)(a:List Int)(K:V → List Blk → Prop):Prop:=
 ((((0:Nat)=(0:Nat)∧n=n)∧(True∧k=k + (3:Int) * (0:Int))∧(True∧(0:Int)=(0:Int))∧True)∧((True∧IntKind.i64=IntKind.i64∧a=mksRow a k (sp3 (0:Int)))∧True)∧True)∧At (mksInv n (0:Int))∧∀(a_1:Int),mksInv n a_1→
 (decide (a_1 < (↑n:Int))=true→At ((0:Int)≤a_1∧a_1 < (↑n:Int))∧At (Int.toNat a_1 * (3:Nat) + (0:Nat) < List.length (mksRow a k (sp3 a_1)))∧At ((0:Int)≤a_1∧a_1 < (↑n:Int))∧
 At (Int.toNat a_1 * (3:Nat) + (1:Nat) < List.length (List.set (mksRow a k (sp3 a_1)) (Int.toNat a_1 * (3:Nat) + (0:Nat)) (k + (3:Int) * a_1)))∧At ((0:Int)≤a_1∧a_1 < (↑n:Int))∧
 At (Int.toNat a_1 * (3:Nat) + (2:Nat) < List.length (List.set (List.set (mksRow a k (sp3 a_1)) (Int.toNat a_1 * (3:Nat) + (0:Nat)) (k + (3:Int) * a_1)) (Int.toNat a_1 * (3:Nat) + (1:Nat)) (IntKind.wrap .i64 (k + (3:Int) * a_1 + (1:Int)))))∧
 ((((0:Nat)=(0:Nat)∧n=n)∧(True∧IntKind.wrap .i64 (IntKind.wrap .i64 (IntKind.wrap .i64 (k + (3:Int) * a_1 + (1:Int)) + (1:Int)) + (1:Int))=k + (3:Int) * IntKind.wrap .i64 (a_1 + (1:Int)))∧(True∧
 IntKind.wrap .i64 (a_1 + (1:Int))=IntKind.wrap .i64 (a_1 + (1:Int)))∧True)∧((True∧IntKind.i64=IntKind.i64∧
 List.set (List.set (List.set (mksRow a k (sp3 a_1)) (Int.toNat a_1 * (3:Nat) + (0:Nat)) (k + (3:Int) * a_1)) (Int.toNat a_1 * (3:Nat) + (1:Nat)) (IntKind.wrap .i64 (k + (3:Int) * a_1 + (1:Int)))) (Int.toNat a_1 * (3:Nat) + (2:Nat)) (IntKind.wrap .i64 (IntKind.wrap .i64 (k + (3:Int) * a_1 + (1:Int)) + (1:Int)))=mksRow a k (sp3 (IntKind.wrap .i64 (a_1 + (1:Int)))))∧
 True)∧True)∧At (mksInv n (IntKind.wrap .i64 (a_1 + (1:Int)))∧Int.toNat ((↑n:Int) - IntKind.wrap .i64 (a_1 + (1:Int))) < Int.toNat ((↑n:Int) - a_1)))∧(decide (a_1 < (↑n:Int))=false→
 K (V.int .i64 (k + (3:Int) * a_1)) [⟨Cells.ints .i64 (mksRow a k (sp3 a_1)),63,Kind.rows (3:Nat)⟩])
def VC_laws_heldSpotS (k:Int)(n:Nat)(a:List Int)(K:V → List Blk → Prop):Prop:=
 ((((0:Nat)=(0:Nat)∧n=n)∧(True∧k=k + (3:Int) * (0:Int))∧(True∧(0:Int)=(0:Int))∧True)∧((True∧IntKind.i64=IntKind.i64∧a=a)∧True)∧True)∧At (hlsInv a n k (0:Int))∧∀(a_1:Int),hlsInv a n k a_1→(decide (a_1 < (↑n:Int))=true→
 At ((0:Int)≤a_1∧a_1 < (↑n:Int))∧At (Int.toNat a_1 * (3:Nat) + (0:Nat) < List.length a)∧((List.getD a (Int.toNat a_1 * (3:Nat) + (0:Nat)) (0:Int) != k + (3:Int) * a_1)=true→
 K (V.int .i64 (-1:Int)) [⟨Cells.ints .i64 a,63,Kind.rows (3:Nat)⟩])∧((List.getD a (Int.toNat a_1 * (3:Nat) + (0:Nat)) (0:Int) != k + (3:Int) * a_1)=false→At ((0:Int)≤a_1∧a_1 < (↑n:Int))∧
 At (Int.toNat a_1 * (3:Nat) + (1:Nat) < List.length a)∧((List.getD a (Int.toNat a_1 * (3:Nat) + (1:Nat)) (0:Int) != IntKind.wrap .i64 (k + (3:Int) * a_1 + (1:Int)))=true→
 K (V.int .i64 (-1:Int)) [⟨Cells.ints .i64 a,63,Kind.rows (3:Nat)⟩])∧((List.getD a (Int.toNat a_1 * (3:Nat) + (1:Nat)) (0:Int) != IntKind.wrap .i64 (k + (3:Int) * a_1 + (1:Int)))=false→At ((0:Int)≤a_1∧
 a_1 < (↑n:Int))∧At (Int.toNat a_1 * (3:Nat) + (2:Nat) < List.length a)∧((List.getD a (Int.toNat a_1 * (3:Nat) + (2:Nat)) (0:Int) != IntKind.wrap .i64 (IntKind.wrap .i64 (k + (3:Int) * a_1 + (1:Int)) + (1:Int)))=true→
 K (V.int .i64 (-1:Int)) [⟨Cells.ints .i64 a,63,Kind.rows (3:Nat)⟩])∧
 ((List.getD a (Int.toNat a_1 * (3:Nat) + (2:Nat)) (0:Int) != IntKind.wrap .i64 (IntKind.wrap .i64 (k + (3:Int) * a_1 + (1:Int)) + (1:Int)))=false→((((0:Nat)=(0:Nat)∧n=n)∧(True∧
 IntKind.wrap .i64 (IntKind.wrap .i64 (IntKind.wrap .i64 (k + (3:Int) * a_1 + (1:Int)) + (1:Int)) + (1:Int))=k + (3:Int) * IntKind.wrap .i64 (a_1 + (1:Int)))∧(True∧
 IntKind.wrap .i64 (a_1 + (1:Int))=IntKind.wrap .i64 (a_1 + (1:Int)))∧True)∧((True∧IntKind.i64=IntKind.i64∧a=a)∧True)∧True)∧At (hlsInv a n k (IntKind.wrap .i64 (a_1 + (1:Int)))∧
 Int.toNat ((↑n:Int) - IntKind.wrap .i64 (a_1 + (1:Int))) < Int.toNat ((↑n:Int) - a_1))))))∧(decide (a_1 < (↑n:Int))=false→K (V.int .i64 (k + (3:Int) * a_1)) [⟨Cells.ints .i64 a,63,Kind.rows (3:Nat)⟩])
end Go.Vi
