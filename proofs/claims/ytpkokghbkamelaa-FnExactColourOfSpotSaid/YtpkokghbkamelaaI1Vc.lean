/- The conditions, reckoned out by program: texts alone. -/
import Derived.Test.YtpkokghbkamelaaI1Defs
namespace Go.Vi
set_option linter.unusedVariables false
def VC_laws_szSpotS (left:Int)(n:Nat)(a:List Int)(K:V → List Blk → Prop):Prop:=
 (decide (IntKind.wrap .i64 (left - (↑n:Int)) < (0:Int))=true→K (V.int .i64 (-1:Int)) [⟨Cells.ints .i64 a,65,Kind.arg (3:Nat)⟩])∧(decide (IntKind.wrap .i64 (left - (↑n:Int)) < (0:Int))=false→
 K (V.int .i64 (IntKind.wrap .i64 (left - (↑n:Int)))) [⟨Cells.ints .i64 a,65,Kind.arg (3:Nat)⟩])
def VC_laws_szPlain (left:Int)(pr:List UInt8)(n:Nat)(px:Int)(py:Int)(pd:Int)(a:List Int)(K:V → List Blk → Prop):Prop:=
 (decide (IntKind.wrap .i64 (left - (↑(List.length pr):Int)) < (0:Int))=true→
 K (V.int .i64 (-1:Int)) [⟨Cells.ints .i64 a,65,Kind.arg (3:Nat)⟩,⟨Cells.vals [V.str pr,V.row (0:Nat) n,V.int .i64 px,V.int .i64 py,V.int .i64 pd],24,Kind.box⟩])∧
 (decide (IntKind.wrap .i64 (left - (↑(List.length pr):Int)) < (0:Int))=false→At ((0:Int)≤IntKind.wrap .i64 (left - (↑(List.length pr):Int))∧IntKind.wrap .i64 (left - (↑(List.length pr):Int))≤(1000000000:Int)∧
 (↑n:Int)≤(9223372036854775807:Int))∧(decide (szS n (IntKind.wrap .i64 (left - (↑(List.length pr):Int))) < (0:Int))=true→
 K (V.int .i64 (-1:Int)) [⟨Cells.ints .i64 a,65,Kind.arg (3:Nat)⟩,⟨Cells.vals [V.str pr,V.row (0:Nat) n,V.int .i64 px,V.int .i64 py,V.int .i64 pd],24,Kind.box⟩])∧
 (decide (szS n (IntKind.wrap .i64 (left - (↑(List.length pr):Int))) < (0:Int))=false→
 K (V.int .i64 (szS n (IntKind.wrap .i64 (left - (↑(List.length pr):Int))))) [⟨Cells.ints .i64 a,65,Kind.arg (3:Nat)⟩,⟨Cells.vals [V.str pr,V.row (0:Nat) n,V.int .i64 px,V.int .i64 py,V.int .i64 pd],24,Kind.box⟩]))
def VC_laws_toSpot (ax:Int)(ay:Int)(ak:Int)(K:V → Prop):Prop:=
 K (V.agg [V.int .i64 ax,V.int .i64 ay,V.int .i64 ak])
def VC_laws_toSpotS (n:Nat)(a:List Int)(K:V → List Blk → Prop):Prop:=
 At ((0:Int)≤(↑n:Int)∧(↑n:Int)≤(↑n:Int)∧(↑n:Int)≤(1000000000:Int))∧((((0:Nat)=(0:Nat)∧n=n)∧((1:Nat)=(1:Nat)∧n=n)∧(True∧(0:Int)=(0:Int))∧True)∧((True∧IntKind.i64=IntKind.i64∧a=a)∧(True∧IntKind.i64=IntKind.i64∧
 List.replicate (Int.toNat (↑n:Int) * (3:Nat)) (0:Int)=cpy a (Int.toNat (0:Int)))∧True)∧True)∧At (ivInv n (fun (x:Int) ↦ True) (0:Int))∧∀(a_1:Int),ivInv n (fun (x:Int) ↦ True) a_1→(decide (a_1 < (↑n:Int))=true→
 At ((0:Int)≤a_1∧a_1 < (↑n:Int))∧At (Int.toNat a_1 * (3:Nat) + (3:Nat)≤List.length a)∧At True∧At ((0:Int)≤a_1∧a_1 < (↑n:Int))∧
 At (Int.toNat a_1 * (3:Nat) + List.length [List.getD a (Int.toNat a_1 * (3:Nat)) (0:Int),List.getD a (Int.toNat a_1 * (3:Nat) + (1:Nat)) (0:Int),List.getD a (Int.toNat a_1 * (3:Nat) + (1:Nat) + (1:Nat)) (0:Int)]≤List.length (cpy a (Int.toNat a_1)))∧
 ((((0:Nat)=(0:Nat)∧n=n)∧((1:Nat)=(1:Nat)∧n=n)∧(True∧IntKind.wrap .i64 (a_1 + (1:Int))=IntKind.wrap .i64 (a_1 + (1:Int)))∧True)∧((True∧IntKind.i64=IntKind.i64∧a=a)∧(True∧IntKind.i64=IntKind.i64∧
 setInts (cpy a (Int.toNat a_1)) (Int.toNat a_1 * (3:Nat)) [List.getD a (Int.toNat a_1 * (3:Nat)) (0:Int),List.getD a (Int.toNat a_1 * (3:Nat) + (1:Nat)) (0:Int),List.getD a (Int.toNat a_1 * (3:Nat) + (1:Nat) + (1:Nat)) (0:Int)]=cpy a (Int.toNat (IntKind.wrap .i64 (a_1 + (1:Int)))))∧
 True)∧True)∧At (ivInv n (fun (x:Int) ↦ True) (IntKind.wrap .i64 (a_1 + (1:Int)))∧Int.toNat ((↑n:Int) - IntKind.wrap .i64 (a_1 + (1:Int))) < Int.toNat ((↑n:Int) - a_1)))∧(decide (a_1 < (↑n:Int))=false→
 K (V.row (1:Nat) n) [⟨Cells.ints .i64 a,65,Kind.arg (3:Nat)⟩,⟨Cells.ints .i64 (cpy a (Int.toNat a_1)),63,Kind.rows (3:Nat)⟩])
def VC_laws_toPlain (pr:List UInt8)(n:Nat)(px:Int)(py:Int)(pd:Int)(a:List Int)(K:V → List Blk → Prop):Prop:=
 At (List.length a=n * (3:Nat)∧n≤(2000000:Nat))∧
 K (V.agg [V.str pr,V.row (4:Nat) n,V.int .i64 px,V.int .i64 py,V.int .i64 pd]) [⟨Cells.ints .i64 a,65,Kind.arg (3:Nat)⟩,⟨Cells.vals [V.str pr,V.row (0:Nat) n,V.int .i64 px,V.int .i64 py,V.int .i64 pd],24,Kind.box⟩,⟨Cells.vals [V.str pr,V.row (4:Nat) n,V.int .i64 px,V.int .i64 py,V.int .i64 pd],30,Kind.box⟩,⟨Cells.vals [V.str pr,V.row (4:Nat) n,V.int .i64 px,V.int .i64 py,V.int .i64 pd],30,Kind.box⟩,⟨Cells.ints .i64 a,63,Kind.rows (3:Nat)⟩]
def VC_spec_enFar (n:Int)(K:V → Prop):Prop:=
 At True∧K (V.bool (inB n (-1000:Int) (1000:Int)))
def VC_spec_enLess (ax:Int)(ay:Int)(ak:Int)(bx:Int)(by_:Int)(bk:Int)(K:V → Prop):Prop:=
 (decide (ay < by_)=true→K (V.lit true))∧(decide (ay < by_)=false→((ay==by_)=true→K (V.bool (decide (ax < bx))))∧((ay==by_)=false→K (V.lit false)))
def VC_cmp_Compare_int (a:Int)(b:Int)(K:V → Prop):Prop:=
 ((a != a)=true→((b != b)=true→K (V.int .i64 (0:Int)))∧((b != b)=false→K (V.int .i64 (-1:Int))))∧((a != a)=false→((b != b)=true→K (V.int .i64 (1:Int)))∧((b != b)=false→(decide (a < b)=true→K (V.int .i64 (-1:Int)))∧
 (decide (a < b)=false→(decide (a > b)=true→K (V.int .i64 (1:Int)))∧(decide (a > b)=false→K (V.int .i64 (0:Int))))))
def VC_cmp_Or_int (n:Nat)(a:List Int)(K:V → List Blk → Prop):Prop:=
 (((True∧(0:Int)=(0:Int))∧((0:Nat)=(0:Nat)∧n=n)∧(True∧(↑n:Int)=(↑n:Int))∧(True∧(0:Int)=(0:Int))∧True)∧((True∧IntKind.i64=IntKind.i64∧a=a)∧True)∧True)∧
 At (ivInv n (fun (i:Int) ↦ orF a=orF (List.drop (Int.toNat i) a)) (0:Int))∧∀(a_1:Int),ivInv n (fun (i:Int) ↦ orF a=orF (List.drop (Int.toNat i) a)) a_1→(decide (a_1 < (↑n:Int))=true→At ((0:Int)≤a_1∧a_1 < (↑n:Int))∧
 At (Int.toNat a_1 < List.length a)∧((List.getD a (Int.toNat a_1) (0:Int) != (0:Int))=true→K (V.int .i64 (List.getD a (Int.toNat a_1) (0:Int))) [⟨Cells.ints .i64 a,3,Kind.row⟩])∧
 ((List.getD a (Int.toNat a_1) (0:Int) != (0:Int))=false→(((True∧(0:Int)=(0:Int))∧((0:Nat)=(0:Nat)∧n=n)∧(True∧(↑n:Int)=(↑n:Int))∧(True∧IntKind.wrap .i64 (a_1 + (1:Int))=IntKind.wrap .i64 (a_1 + (1:Int)))∧True)∧((True∧
 IntKind.i64=IntKind.i64∧a=a)∧True)∧True)∧At (ivInv n (fun (i:Int) ↦ orF a=orF (List.drop (Int.toNat i) a)) (IntKind.wrap .i64 (a_1 + (1:Int)))∧
 Int.toNat ((↑n:Int) - IntKind.wrap .i64 (a_1 + (1:Int))) < Int.toNat ((↑n:Int) - a_1))))∧(decide (a_1 < (↑n:Int))=false→K (V.int .i64 (0:Int)) [⟨Cells.ints .i64 a,3,Kind.row⟩])
def VC_impl_compareSpots (ax:Int)(ay:Int)(ak:Int)(bx:Int)(by_:Int)(bk:Int)(K:V → Prop):Prop:=
 True∧At True∧At True∧At ((2:Nat)=List.length [cmp3 ay by_,cmp3 ax bx]∧(2:Nat)≤(100:Nat))∧K (V.int .i64 (orF [cmp3 ay by_,cmp3 ax bx]))
def VC_spec_enGood (pr:List UInt8)(n:Nat)(px:Int)(py:Int)(pd:Int)(a:List Int)(K:V → List Blk → Prop):Prop:=
 At True∧((!ruleB pr)=true→K (V.lit false) [⟨Cells.ints .i64 a,63,Kind.rows (3:Nat)⟩,⟨Cells.vals [V.str pr,V.row (0:Nat) n,V.int .i64 px,V.int .i64 py,V.int .i64 pd],30,Kind.box⟩])∧
 ((!ruleB pr)=false→(decide ((↑n:Int) > (300:Int))=true→
 K (V.lit false) [⟨Cells.ints .i64 a,63,Kind.rows (3:Nat)⟩,⟨Cells.vals [V.str pr,V.row (0:Nat) n,V.int .i64 px,V.int .i64 py,V.int .i64 pd],30,Kind.box⟩])∧(decide ((↑n:Int) > (300:Int))=false→
 At True∧((!inB px (-1000:Int) (1000:Int))=true→
 K (V.lit false) [⟨Cells.ints .i64 a,63,Kind.rows (3:Nat)⟩,⟨Cells.vals [V.str pr,V.row (0:Nat) n,V.int .i64 px,V.int .i64 py,V.int .i64 pd],30,Kind.box⟩])∧((!inB px (-1000:Int) (1000:Int))=false→
 At True∧((!inB py (-1000:Int) (1000:Int))=true→
 K (V.lit false) [⟨Cells.ints .i64 a,63,Kind.rows (3:Nat)⟩,⟨Cells.vals [V.str pr,V.row (0:Nat) n,V.int .i64 px,V.int .i64 py,V.int .i64 pd],30,Kind.box⟩])∧((!inB py (-1000:Int) (1000:Int))=false→
 At True∧((!inB pd (0:Int) (3:Int))=true→K (V.lit false) [⟨Cells.ints .i64 a,63,Kind.rows (3:Nat)⟩,⟨Cells.vals [V.str pr,V.row (0:Nat) n,V.int .i64 px,V.int .i64 py,V.int .i64 pd],30,Kind.box⟩])∧
 ((!inB pd (0:Int) (3:Int))=false→((((1:Nat)=(1:Nat)∧(0:Nat)=(0:Nat))∧((0:Nat)=(0:Nat)∧n=n)∧(True∧(↑n:Int)=(↑n:Int))∧(True∧(0:Int)=(0:Int))∧True)∧((True∧IntKind.i64=IntKind.i64∧a=a)∧(True∧pr=pr∧((0:Nat)=(0:Nat)∧n=n)∧
 (True∧px=px)∧(True∧py=py)∧(True∧pd=pd)∧True)∧True)∧True)∧At (n≤(300:Nat)∧(1:Nat)≤List.length pr∧List.length pr≤(6:Nat)∧ivInv n (fun (i:Int) ↦ allS (↑(List.length pr):Int) a (Int.toNat i)=true) (0:Int))∧
 ∀(a_6:Int),n≤(300:Nat)∧(1:Nat)≤List.length pr∧List.length pr≤(6:Nat)∧ivInv n (fun (i:Int) ↦ allS (↑(List.length pr):Int) a (Int.toNat i)=true) a_6→(decide (a_6 < (↑n:Int))=true→At ((0:Int)≤a_6∧a_6 < (↑n:Int))∧
 At (Int.toNat a_6 * (3:Nat) + (3:Nat)≤List.length a)∧True∧At True∧((!inB (List.getD a (Int.toNat a_6 * (3:Nat)) (0:Int)) (-1000:Int) (1000:Int))=true→
 K (V.lit false) [⟨Cells.ints .i64 a,63,Kind.rows (3:Nat)⟩,⟨Cells.vals [V.str pr,V.row (0:Nat) n,V.int .i64 px,V.int .i64 py,V.int .i64 pd],30,Kind.box⟩,⟨Cells.vals [V.int .i64 (List.getD a (Int.toNat a_6 * (3:Nat)) (0:Int)),V.int .i64 (List.getD a (Int.toNat a_6 * (3:Nat) + (1:Nat)) (0:Int)),V.int .i64 (List.getD a (Int.toNat a_6 * (3:Nat) + (1:Nat) + (1:Nat)) (0:Int))],63,Kind.box⟩])∧
 ((!inB (List.getD a (Int.toNat a_6 * (3:Nat)) (0:Int)) (-1000:Int) (1000:Int))=false→At True∧((!inB (List.getD a (Int.toNat a_6 * (3:Nat) + (1:Nat)) (0:Int)) (-1000:Int) (1000:Int))=true→
 K (V.lit false) [⟨Cells.ints .i64 a,63,Kind.rows (3:Nat)⟩,⟨Cells.vals [V.str pr,V.row (0:Nat) n,V.int .i64 px,V.int .i64 py,V.int .i64 pd],30,Kind.box⟩,⟨Cells.vals [V.int .i64 (List.getD a (Int.toNat a_6 * (3:Nat)) (0:Int)),V.int .i64 (List.getD a (Int.toNat a_6 * (3:Nat) + (1:Nat)) (0:Int)),V.int .i64 (List.getD a (Int.toNat a_6 * (3:Nat) + (1:Nat) + (1:Nat)) (0:Int))],63,Kind.box⟩])∧
 ((!inB (List.getD a (Int.toNat a_6 * (3:Nat) + (1:Nat)) (0:Int)) (-1000:Int) (1000:Int))=false→At True∧
 ((!inB (List.getD a (Int.toNat a_6 * (3:Nat) + (1:Nat) + (1:Nat)) (0:Int)) (1:Int) (IntKind.wrap .i64 ((↑(List.length pr):Int) - (1:Int))))=true→
 K (V.lit false) [⟨Cells.ints .i64 a,63,Kind.rows (3:Nat)⟩,⟨Cells.vals [V.str pr,V.row (0:Nat) n,V.int .i64 px,V.int .i64 py,V.int .i64 pd],30,Kind.box⟩,⟨Cells.vals [V.int .i64 (List.getD a (Int.toNat a_6 * (3:Nat)) (0:Int)),V.int .i64 (List.getD a (Int.toNat a_6 * (3:Nat) + (1:Nat)) (0:Int)),V.int .i64 (List.getD a (Int.toNat a_6 * (3:Nat) + (1:Nat) + (1:Nat)) (0:Int))],63,Kind.box⟩])∧
 ((!inB (List.getD a (Int.toNat a_6 * (3:Nat) + (1:Nat) + (1:Nat)) (0:Int)) (1:Int) (IntKind.wrap .i64 ((↑(List.length pr):Int) - (1:Int))))=false→(decide (a_6 > (0:Int))=true→
 At ((0:Int)≤IntKind.wrap .i64 (a_6 - (1:Int))∧IntKind.wrap .i64 (a_6 - (1:Int)) < (↑n:Int))∧At (Int.toNat (IntKind.wrap .i64 (a_6 - (1:Int))) * (3:Nat) + (3:Nat)≤List.length a)∧At True∧
 ((!lessS (List.getD a (Int.toNat (IntKind.wrap .i64 (a_6 - (1:Int))) * (3:Nat)) (0:Int)) (List.getD a (Int.toNat (IntKind.wrap .i64 (a_6 - (1:Int))) * (3:Nat) + (1:Nat)) (0:Int)) (List.getD a (Int.toNat a_6 * (3:Nat)) (0:Int)) (List.getD a (Int.toNat a_6 * (3:Nat) + (1:Nat)) (0:Int)))=true→
 K (V.lit false) [⟨Cells.ints .i64 a,63,Kind.rows (3:Nat)⟩,⟨Cells.vals [V.str pr,V.row (0:Nat) n,V.int .i64 px,V.int .i64 py,V.int .i64 pd],30,Kind.box⟩,⟨Cells.vals [V.int .i64 (List.getD a (Int.toNat a_6 * (3:Nat)) (0:Int)),V.int .i64 (List.getD a (Int.toNat a_6 * (3:Nat) + (1:Nat)) (0:Int)),V.int .i64 (List.getD a (Int.toNat a_6 * (3:Nat) + (1:Nat) + (1:Nat)) (0:Int))],63,Kind.box⟩])∧
 ((!lessS (List.getD a (Int.toNat (IntKind.wrap .i64 (a_6 - (1:Int))) * (3:Nat)) (0:Int)) (List.getD a (Int.toNat (IntKind.wrap .i64 (a_6 - (1:Int))) * (3:Nat) + (1:Nat)) (0:Int)) (List.getD a (Int.toNat a_6 * (3:Nat)) (0:Int)) (List.getD a (Int.toNat a_6 * (3:Nat) + (1:Nat)) (0:Int)))=false→
 ((((1:Nat)=(1:Nat)∧(0:Nat)=(0:Nat))∧((0:Nat)=(0:Nat)∧n=n)∧(True∧(↑n:Int)=(↑n:Int))∧(True∧IntKind.wrap .i64 (a_6 + (1:Int))=IntKind.wrap .i64 (a_6 + (1:Int)))∧True)∧((True∧IntKind.i64=IntKind.i64∧a=a)∧(True∧pr=pr∧
 ((0:Nat)=(0:Nat)∧n=n)∧(True∧px=px)∧(True∧py=py)∧(True∧pd=pd)∧True)∧True)∧True)∧At ((n≤(300:Nat)∧(1:Nat)≤List.length pr∧List.length pr≤(6:Nat)∧
 ivInv n (fun (i:Int) ↦ allS (↑(List.length pr):Int) a (Int.toNat i)=true) (IntKind.wrap .i64 (a_6 + (1:Int))))∧Int.toNat ((↑n:Int) - IntKind.wrap .i64 (a_6 + (1:Int))) < Int.toNat ((↑n:Int) - a_6))))∧
 (decide (a_6 > (0:Int))=false→((((1:Nat)=(1:Nat)∧(0:Nat)=(0:Nat))∧((0:Nat)=(0:Nat)∧n=n)∧(True∧(↑n:Int)=(↑n:Int))∧(True∧IntKind.wrap .i64 (a_6 + (1:Int))=IntKind.wrap .i64 (a_6 + (1:Int)))∧True)∧((True∧
 IntKind.i64=IntKind.i64∧a=a)∧(True∧pr=pr∧((0:Nat)=(0:Nat)∧n=n)∧(True∧px=px)∧(True∧py=py)∧(True∧pd=pd)∧True)∧True)∧True)∧At ((n≤(300:Nat)∧(1:Nat)≤List.length pr∧List.length pr≤(6:Nat)∧
 ivInv n (fun (i:Int) ↦ allS (↑(List.length pr):Int) a (Int.toNat i)=true) (IntKind.wrap .i64 (a_6 + (1:Int))))∧Int.toNat ((↑n:Int) - IntKind.wrap .i64 (a_6 + (1:Int))) < Int.toNat ((↑n:Int) - a_6)))))))∧
 (decide (a_6 < (↑n:Int))=false→K (V.lit true) [⟨Cells.ints .i64 a,63,Kind.rows (3:Nat)⟩,⟨Cells.vals [V.str pr,V.row (0:Nat) n,V.int .i64 px,V.int .i64 py,V.int .i64 pd],30,Kind.box⟩]))))))
def VC_impl_IsPlain (pr:List UInt8)(n:Nat)(px:Int)(py:Int)(pd:Int)(a:List Int)(K:V → List Blk → Prop):Prop:=
 At True∧((!ruleB pr)=true→K (V.lit false) [⟨Cells.ints .i64 a,63,Kind.rows (3:Nat)⟩,⟨Cells.vals [V.str pr,V.row (0:Nat) n,V.int .i64 px,V.int .i64 py,V.int .i64 pd],30,Kind.box⟩])∧
 ((!ruleB pr)=false→At True∧(inB px (-1000:Int) (1000:Int)=true→At True∧((!inB py (-1000:Int) (1000:Int))=true→
 K (V.lit false) [⟨Cells.ints .i64 a,63,Kind.rows (3:Nat)⟩,⟨Cells.vals [V.str pr,V.row (0:Nat) n,V.int .i64 px,V.int .i64 py,V.int .i64 pd],30,Kind.box⟩])∧((!inB py (-1000:Int) (1000:Int))=false→
 At True∧((!inB pd (0:Int) (3:Int))=true→K (V.lit false) [⟨Cells.ints .i64 a,63,Kind.rows (3:Nat)⟩,⟨Cells.vals [V.str pr,V.row (0:Nat) n,V.int .i64 px,V.int .i64 py,V.int .i64 pd],30,Kind.box⟩])∧
 ((!inB pd (0:Int) (3:Int))=false→(decide ((↑n:Int) > (300:Int))=true→
 K (V.lit false) [⟨Cells.ints .i64 a,63,Kind.rows (3:Nat)⟩,⟨Cells.vals [V.str pr,V.row (0:Nat) n,V.int .i64 px,V.int .i64 py,V.int .i64 pd],30,Kind.box⟩])∧(decide ((↑n:Int) > (300:Int))=false→
 ((((1:Nat)=(1:Nat)∧(0:Nat)=(0:Nat))∧((0:Nat)=(0:Nat)∧n=n)∧(True∧(↑n:Int)=(↑n:Int))∧(True∧(0:Int)=(0:Int))∧True)∧((True∧IntKind.i64=IntKind.i64∧a=a)∧(True∧pr=pr∧((0:Nat)=(0:Nat)∧n=n)∧(True∧px=px)∧(True∧py=py)∧(True∧
 pd=pd)∧True)∧True)∧True)∧At (n≤(300:Nat)∧(1:Nat)≤List.length pr∧List.length pr≤(6:Nat)∧ivInv n (fun (i:Int) ↦ allS (↑(List.length pr):Int) a (Int.toNat i)=true) (0:Int))∧∀(a_6:Int),n≤(300:Nat)∧(1:Nat)≤List.length pr∧
 List.length pr≤(6:Nat)∧ivInv n (fun (i:Int) ↦ allS (↑(List.length pr):Int) a (Int.toNat i)=true) a_6→(decide (a_6 < (↑n:Int))=true→At ((0:Int)≤a_6∧a_6 < (↑n:Int))∧At (Int.toNat a_6 * (3:Nat) + (3:Nat)≤List.length a)∧
 At True∧(inB (List.getD a (Int.toNat a_6 * (3:Nat)) (0:Int)) (-1000:Int) (1000:Int)=true→At True∧((!inB (List.getD a (Int.toNat a_6 * (3:Nat) + (1:Nat)) (0:Int)) (-1000:Int) (1000:Int))=true→
 K (V.lit false) [⟨Cells.ints .i64 a,63,Kind.rows (3:Nat)⟩,⟨Cells.vals [V.str pr,V.row (0:Nat) n,V.int .i64 px,V.int .i64 py,V.int .i64 pd],30,Kind.box⟩,⟨Cells.vals [V.int .i64 (List.getD a (Int.toNat a_6 * (3:Nat)) (0:Int)),V.int .i64 (List.getD a (Int.toNat a_6 * (3:Nat) + (1:Nat)) (0:Int)),V.int .i64 (List.getD a (Int.toNat a_6 * (3:Nat) + (1:Nat) + (1:Nat)) (0:Int))],63,Kind.box⟩])∧
 ((!inB (List.getD a (Int.toNat a_6 * (3:Nat) + (1:Nat)) (0:Int)) (-1000:Int) (1000:Int))=false→At True∧
 ((!inB (List.getD a (Int.toNat a_6 * (3:Nat) + (1:Nat) + (1:Nat)) (0:Int)) (1:Int) (IntKind.wrap .i64 ((↑(List.length pr):Int) - (1:Int))))=true→
 K (V.lit false) [⟨Cells.ints .i64 a,63,Kind.rows (3:Nat)⟩,⟨Cells.vals [V.str pr,V.row (0:Nat) n,V.int .i64 px,V.int .i64 py,V.int .i64 pd],30,Kind.box⟩,⟨Cells.vals [V.int .i64 (List.getD a (Int.toNat a_6 * (3:Nat)) (0:Int)),V.int .i64 (List.getD a (Int.toNat a_6 * (3:Nat) + (1:Nat)) (0:Int)),V.int .i64 (List.getD a (Int.toNat a_6 * (3:Nat) + (1:Nat) + (1:Nat)) (0:Int))],63,Kind.box⟩])∧
 ((!inB (List.getD a (Int.toNat a_6 * (3:Nat) + (1:Nat) + (1:Nat)) (0:Int)) (1:Int) (IntKind.wrap .i64 ((↑(List.length pr):Int) - (1:Int))))=false→True∧(decide (a_6 > (0:Int))=true→
 At ((0:Int)≤IntKind.wrap .i64 (a_6 - (1:Int))∧IntKind.wrap .i64 (a_6 - (1:Int)) < (↑n:Int))∧At (Int.toNat (IntKind.wrap .i64 (a_6 - (1:Int))) * (3:Nat) + (3:Nat)≤List.length a)∧At True∧
 (decide (cmpS (List.getD a (Int.toNat (IntKind.wrap .i64 (a_6 - (1:Int))) * (3:Nat)) (0:Int)) (List.getD a (Int.toNat (IntKind.wrap .i64 (a_6 - (1:Int))) * (3:Nat) + (1:Nat)) (0:Int)) (List.getD a (Int.toNat a_6 * (3:Nat)) (0:Int)) (List.getD a (Int.toNat a_6 * (3:Nat) + (1:Nat)) (0:Int)) ≥ (0:Int))=true→
 K (V.lit false) [⟨Cells.ints .i64 a,63,Kind.rows (3:Nat)⟩,⟨Cells.vals [V.str pr,V.row (0:Nat) n,V.int .i64 px,V.int .i64 py,V.int .i64 pd],30,Kind.box⟩,⟨Cells.vals [V.int .i64 (List.getD a (Int.toNat a_6 * (3:Nat)) (0:Int)),V.int .i64 (List.getD a (Int.toNat a_6 * (3:Nat) + (1:Nat)) (0:Int)),V.int .i64 (List.getD a (Int.toNat a_6 * (3:Nat) + (1:Nat) + (1:Nat)) (0:Int))],63,Kind.box⟩])∧
 (decide (cmpS (List.getD a (Int.toNat (IntKind.wrap .i64 (a_6 - (1:Int))) * (3:Nat)) (0:Int)) (List.getD a (Int.toNat (IntKind.wrap .i64 (a_6 - (1:Int))) * (3:Nat) + (1:Nat)) (0:Int)) (List.getD a (Int.toNat a_6 * (3:Nat)) (0:Int)) (List.getD a (Int.toNat a_6 * (3:Nat) + (1:Nat)) (0:Int)) ≥ (0:Int))=false→
 ((((1:Nat)=(1:Nat)∧(0:Nat)=(0:Nat))∧((0:Nat)=(0:Nat)∧n=n)∧(True∧(↑n:Int)=(↑n:Int))∧(True∧IntKind.wrap .i64 (a_6 + (1:Int))=IntKind.wrap .i64 (a_6 + (1:Int)))∧True)∧((True∧IntKind.i64=IntKind.i64∧a=a)∧(True∧pr=pr∧
 ((0:Nat)=(0:Nat)∧n=n)∧(True∧px=px)∧(True∧py=py)∧(True∧pd=pd)∧True)∧True)∧True)∧At ((n≤(300:Nat)∧(1:Nat)≤List.length pr∧List.length pr≤(6:Nat)∧
 ivInv n (fun (i:Int) ↦ allS (↑(List.length pr):Int) a (Int.toNat i)=true) (IntKind.wrap .i64 (a_6 + (1:Int))))∧Int.toNat ((↑n:Int) - IntKind.wrap .i64 (a_6 + (1:Int))) < Int.toNat ((↑n:Int) - a_6))))∧
 (decide (a_6 > (0:Int))=false→((((1:Nat)=(1:Nat)∧(0:Nat)=(0:Nat))∧((0:Nat)=(0:Nat)∧n=n)∧(True∧(↑n:Int)=(↑n:Int))∧(True∧IntKind.wrap .i64 (a_6 + (1:Int))=IntKind.wrap .i64 (a_6 + (1:Int)))∧True)∧((True∧
 IntKind.i64=IntKind.i64∧a=a)∧(True∧pr=pr∧((0:Nat)=(0:Nat)∧n=n)∧(True∧px=px)∧(True∧py=py)∧(True∧pd=pd)∧True)∧True)∧True)∧At ((n≤(300:Nat)∧(1:Nat)≤List.length pr∧List.length pr≤(6:Nat)∧
 ivInv n (fun (i:Int) ↦ allS (↑(List.length pr):Int) a (Int.toNat i)=true) (IntKind.wrap .i64 (a_6 + (1:Int))))∧Int.toNat ((↑n:Int) - IntKind.wrap .i64 (a_6 + (1:Int))) < Int.toNat ((↑n:Int) - a_6))))))∧
 (inB (List.getD a (Int.toNat a_6 * (3:Nat)) (0:Int)) (-1000:Int) (1000:Int)=false→
 K (V.lit false) [⟨Cells.ints .i64 a,63,Kind.rows (3:Nat)⟩,⟨Cells.vals [V.str pr,V.row (0:Nat) n,V.int .i64 px,V.int .i64 py,V.int .i64 pd],30,Kind.box⟩,⟨Cells.vals [V.int .i64 (List.getD a (Int.toNat a_6 * (3:Nat)) (0:Int)),V.int .i64 (List.getD a (Int.toNat a_6 * (3:Nat) + (1:Nat)) (0:Int)),V.int .i64 (List.getD a (Int.toNat a_6 * (3:Nat) + (1:Nat) + (1:Nat)) (0:Int))],63,Kind.box⟩]))∧
 (decide (a_6 < (↑n:Int))=false→K (V.lit true) [⟨Cells.ints .i64 a,63,Kind.rows (3:Nat)⟩,⟨Cells.vals [V.str pr,V.row (0:Nat) n,V.int .i64 px,V.int .i64 py,V.int .i64 pd],30,Kind.box⟩])))))∧
 (inB px (-1000:Int) (1000:Int)=false→K (V.lit false) [⟨Cells.ints .i64 a,63,Kind.rows (3:Nat)⟩,⟨Cells.vals [V.str pr,V.row (0:Nat) n,V.int .i64 px,V.int .i64 py,V.int .i64 pd],30,Kind.box⟩]))
end Go.Vi
