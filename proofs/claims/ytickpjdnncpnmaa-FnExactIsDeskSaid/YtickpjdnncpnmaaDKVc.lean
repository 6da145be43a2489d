/- The conditions, reckoned out by program: texts alone. -/
import Derived.Test.YtickpjdnncpnmaaDKDefs
namespace Go.Vi
set_option linter.unusedVariables false
def VC_impl_isSign (b:Int)(K:V → Prop):Prop:=
 ((b==(76:Int))=true→K (V.lit true))∧((b==(76:Int))=false→((b==(82:Int))=true→K (V.lit true))∧((b==(82:Int))=false→((b==(78:Int))=true→K (V.lit true))∧((b==(78:Int))=false→K (V.bool (b==(85:Int))))))
def VC_spec_tuGood (s:List UInt8)(K:V → Prop):Prop:=
 At ((2:Int) ≠ (0:Int))∧((Int.tmod (↑(List.length s):Int) (2:Int) != (0:Int))=true→K (V.lit false))∧((Int.tmod (↑(List.length s):Int) (2:Int) != (0:Int))=false→At ((2:Int) ≠ (0:Int))∧At True∧
 ((!inB (IntKind.wrap .i64 (Int.tdiv (↑(List.length s):Int) (2:Int))) (1:Int) (9:Int))=true→K (V.lit false))∧((!inB (IntKind.wrap .i64 (Int.tdiv (↑(List.length s):Int) (2:Int))) (1:Int) (9:Int))=false→((s=s∧(True∧
 (0:Int)=(0:Int))∧True)∧True∧True)∧At (pgInv s (0:Int))∧∀(a:Int),pgInv s a→(decide (a < (↑(List.length s):Int))=true→At ((0:Int)≤a∧a < (↑(List.length s):Int))∧
 (decide ((↑(UInt8.toNat (List.getD s (Int.toNat a) (0:UInt8))):Int) < (48:Int))=true→K (V.lit false))∧(decide ((↑(UInt8.toNat (List.getD s (Int.toNat a) (0:UInt8))):Int) < (48:Int))=false→At ((0:Int)≤a∧
 a < (↑(List.length s):Int))∧(decide ((↑(UInt8.toNat (List.getD s (Int.toNat a) (0:UInt8))):Int) > (57:Int))=true→K (V.lit false))∧(decide ((↑(UInt8.toNat (List.getD s (Int.toNat a) (0:UInt8))):Int) > (57:Int))=false→
 At ((0:Int)≤IntKind.wrap .i64 (a + (1:Int))∧IntKind.wrap .i64 (a + (1:Int))≤IntKind.wrap .i64 (a + (2:Int))∧IntKind.wrap .i64 (a + (2:Int))≤(↑(List.length s):Int))∧At True∧
 ((!ruleB (List.drop (Int.toNat (IntKind.wrap .i64 (a + (1:Int)))) (List.take (Int.toNat (IntKind.wrap .i64 (a + (2:Int)))) s)))=true→K (V.lit false))∧
 ((!ruleB (List.drop (Int.toNat (IntKind.wrap .i64 (a + (1:Int)))) (List.take (Int.toNat (IntKind.wrap .i64 (a + (2:Int)))) s)))=false→((s=s∧(True∧IntKind.wrap .i64 (a + (2:Int))=IntKind.wrap .i64 (a + (2:Int)))∧True)∧
 True∧True)∧At (pgInv s (IntKind.wrap .i64 (a + (2:Int)))∧Int.toNat ((↑(List.length s):Int) - IntKind.wrap .i64 (a + (2:Int))) < Int.toNat ((↑(List.length s):Int) - a))))))∧(decide (a < (↑(List.length s):Int))=false→
 K (V.lit true))))
def VC_impl_partsOf (s:List UInt8)(K:V → List Blk → Prop):Prop:=
 At ((2:Int) ≠ (0:Int))∧((Int.tmod (↑(List.length s):Int) (2:Int) != (0:Int))=true→K (V.tup [V.raw (Value.slice none (0:Nat) (0:Nat)),V.lit false]) [])∧((Int.tmod (↑(List.length s):Int) (2:Int) != (0:Int))=false→
 At ((2:Int) ≠ (0:Int))∧At True∧((!inB (IntKind.wrap .i64 (Int.tdiv (↑(List.length s):Int) (2:Int))) (1:Int) (9:Int))=true→K (V.tup [V.raw (Value.slice none (0:Nat) (0:Nat)),V.lit false]) [])∧
 ((!inB (IntKind.wrap .i64 (Int.tdiv (↑(List.length s):Int) (2:Int))) (1:Int) (9:Int))=false→At ((2:Int) ≠ (0:Int))∧At ((0:Int)≤(0:Int)∧(0:Int)≤IntKind.wrap .i64 (Int.tdiv (↑(List.length s):Int) (2:Int))∧
 IntKind.wrap .i64 (Int.tdiv (↑(List.length s):Int) (2:Int))≤(1000000000:Int))∧(True∧(s=s∧((0:Nat)=(0:Nat)∧(0:Nat)=(0:Nat))∧(True∧(0:Int)=(0:Int))∧True)∧((True∧True∧
 List.replicate (Int.toNat (0:Int) * (2:Nat)) (Sc.mk ((0:Int)) ([]))=ptS (List.take (Int.toNat (0:Int)) s))∧True)∧True)∧At (pgInv s (0:Int))∧∀(a:Int),pgInv s a→(decide (a < (↑(List.length s):Int))=true→At ((0:Int)≤a∧
 a < (↑(List.length s):Int))∧At ((0:Int)≤(↑(UInt8.toNat (List.getD s (Int.toNat a) (0:UInt8))):Int)∧(↑(UInt8.toNat (List.getD s (Int.toNat a) (0:UInt8))):Int) < (256:Int))∧At ((0:Int)≤IntKind.wrap .i64 (a + (1:Int))∧
 IntKind.wrap .i64 (a + (1:Int)) < (↑(List.length s):Int))∧((At True∧((!inB ((↑(UInt8.toNat (List.getD s (Int.toNat a) (0:UInt8))):Int) - (48:Int)) (0:Int) (9:Int))=true→
 K (V.tup [V.raw (Value.slice none (0:Nat) (0:Nat)),V.lit false]) [⟨Cells.recs [Sh.int IntKind.i64,Sh.int IntKind.u8] (ptS (List.take (Int.toNat a) s)),84,Kind.rows (2:Nat)⟩,⟨Cells.vals [V.int .i64 ((↑(UInt8.toNat (List.getD s (Int.toNat a) (0:UInt8))):Int) - (48:Int)),V.int .u8 (↑(UInt8.toNat (List.getD s (Int.toNat (IntKind.wrap .i64 (a + (1:Int)))) (0:UInt8))):Int)],84,Kind.box⟩])∧
 ((!inB ((↑(UInt8.toNat (List.getD s (Int.toNat a) (0:UInt8))):Int) - (48:Int)) (0:Int) (9:Int))=false→At True∧((!signI (↑(UInt8.toNat (List.getD s (Int.toNat (IntKind.wrap .i64 (a + (1:Int)))) (0:UInt8))):Int))=true→
 K (V.tup [V.raw (Value.slice none (0:Nat) (0:Nat)),V.lit false]) [⟨Cells.recs [Sh.int IntKind.i64,Sh.int IntKind.u8] (ptS (List.take (Int.toNat a) s)),84,Kind.rows (2:Nat)⟩,⟨Cells.vals [V.int .i64 ((↑(UInt8.toNat (List.getD s (Int.toNat a) (0:UInt8))):Int) - (48:Int)),V.int .u8 (↑(UInt8.toNat (List.getD s (Int.toNat (IntKind.wrap .i64 (a + (1:Int)))) (0:UInt8))):Int)],84,Kind.box⟩])∧
 ((!signI (↑(UInt8.toNat (List.getD s (Int.toNat (IntKind.wrap .i64 (a + (1:Int)))) (0:UInt8))):Int))=false→At ((List.length (ptS (List.take (Int.toNat a) s))=Int.toNat a / (2:Nat) * (2:Nat)∧
 (1:Nat) * (2:Nat)≤List.length [(Sc.mk ((↑(UInt8.toNat (List.getD s (Int.toNat a) (0:UInt8))):Int) - (48:Int)) ([])),(Sc.mk ((↑(UInt8.toNat (List.getD s (Int.toNat (IntKind.wrap .i64 (a + (1:Int)))) (0:UInt8))):Int)) ([]))])∧
 posM (Kind.rows (2:Nat)) (1:Nat)∧Int.toNat a / (2:Nat) + (1:Nat)≤(1000000000:Nat))∧(True∧(s=s∧((0:Nat)=(0:Nat)∧Int.toNat a / (2:Nat) + (1:Nat)=Int.toNat (IntKind.wrap .i64 (a + (2:Int))) / (2:Nat))∧(True∧
 IntKind.wrap .i64 (a + (2:Int))=IntKind.wrap .i64 (a + (2:Int)))∧True)∧((True∧True∧
 ptS (List.take (Int.toNat a) s) ++ List.take ((1:Nat) * (2:Nat)) [(Sc.mk ((↑(UInt8.toNat (List.getD s (Int.toNat a) (0:UInt8))):Int) - (48:Int)) ([])),(Sc.mk ((↑(UInt8.toNat (List.getD s (Int.toNat (IntKind.wrap .i64 (a + (1:Int)))) (0:UInt8))):Int)) ([]))]=ptS (List.take (Int.toNat (IntKind.wrap .i64 (a + (2:Int)))) s))∧
 True)∧True)∧At (pgInv s (IntKind.wrap .i64 (a + (2:Int)))∧Int.toNat ((↑(List.length s):Int) - IntKind.wrap .i64 (a + (2:Int))) < Int.toNat ((↑(List.length s):Int) - a)))))∧True)∧True)∧
 (decide (a < (↑(List.length s):Int))=false→
 K (V.tup [V.row (0:Nat) (Int.toNat a / (2:Nat)),V.lit true]) [⟨Cells.recs [Sh.int IntKind.i64,Sh.int IntKind.u8] (ptS (List.take (Int.toNat a) s)),84,Kind.rows (2:Nat)⟩])))
def VC_impl_IsProgram (s:List UInt8)(K:V → Prop):Prop:=
 At ((↑(List.length s):Int)≤(9223372036854775807:Int))∧K (V.bool (progB s))
def VC_spec_IsDesk (dwRule:List UInt8)(dwWidth:Int)(dwHeight:Int)(dwCells:List UInt8)(dwX:Int)(dwY:Int)(dwWay:Int)(dkRule:List UInt8)(dkWidth:Int)(dkHeight:Int)(dkCells:List UInt8)(dkX:Int)(dkY:Int)(dkWay:Int)(dProgram:List UInt8)(K:V → Prop):Prop:=
 At True∧(goodB { r := dwRule,w := dwWidth,h := dwHeight,c := dwCells,x := dwX,y := dwY,d := dwWay }=true→At True∧(goodB { r := dkRule,w := dkWidth,h := dkHeight,c := dkCells,x := dkX,y := dkY,d := dkWay }=true→
 At ((↑(List.length dProgram):Int)≤(9223372036854775807:Int))∧K (V.bool (progB dProgram)))∧(goodB { r := dkRule,w := dkWidth,h := dkHeight,c := dkCells,x := dkX,y := dkY,d := dkWay }=false→K (V.lit false)))∧
 (goodB { r := dwRule,w := dwWidth,h := dwHeight,c := dwCells,x := dwX,y := dwY,d := dwWay }=false→K (V.lit false))
def VC_impl_IsDesk (dwRule:List UInt8)(dwWidth:Int)(dwHeight:Int)(dwCells:List UInt8)(dwX:Int)(dwY:Int)(dwWay:Int)(dkRule:List UInt8)(dkWidth:Int)(dkHeight:Int)(dkCells:List UInt8)(dkX:Int)(dkY:Int)(dkWay:Int)(dProgram:List UInt8)(K:V → Prop):Prop:=
 At True∧(goodB { r := dwRule,w := dwWidth,h := dwHeight,c := dwCells,x := dwX,y := dwY,d := dwWay }=true→At True∧(goodB { r := dkRule,w := dkWidth,h := dkHeight,c := dkCells,x := dkX,y := dkY,d := dkWay }=true→
 At ((↑(List.length dProgram):Int)≤(9223372036854775807:Int))∧K (V.bool (progB dProgram)))∧(goodB { r := dkRule,w := dkWidth,h := dkHeight,c := dkCells,x := dkX,y := dkY,d := dkWay }=false→K (V.lit false)))∧
 (goodB { r := dwRule,w := dwWidth,h := dwHeight,c := dwCells,x := dwX,y := dwY,d := dwWay }=false→K (V.lit false))
end Go.Vi
