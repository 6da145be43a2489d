/- The conditions of the door, reckoned out by program: texts alone. -/
import Derived.Test.YtickpjdnncpnmaaDoorPDDoorDefs
namespace Go.Vi
set_option linter.unusedVariables false
def VC_admit (k:Int)(a:Int)(b:Int)(cols:Int)(cells:Int)(K:V → Prop)(KP:Value → Prop):Prop:=
 At ((0:Int)≤cols∧cols≤(1000:Int)∧(0:Int)≤cells∧cells≤(1000:Int))∧At True∧((!inB a (0:Int) (gA k cells))=true→
 KP (Value.iface 83 (Value.agg #[Value.int IntKind.i64 k,Value.int IntKind.i64 a,Value.int IntKind.i64 b])))∧((!inB a (0:Int) (gA k cells))=false→At True∧((!inB b (0:Int) (gB k cols cells))=true→
 KP (Value.iface 83 (Value.agg #[Value.int IntKind.i64 k,Value.int IntKind.i64 a,Value.int IntKind.i64 b])))∧((!inB b (0:Int) (gB k cols cells))=false→K (V.tup [])))
def VC_areClues (cols:Int)(cells:Int)(n:Nat)(a:List Int)(e:TypeId)(K:Exit → St → Prop):Prop:=
 (((True∧cols=cols)∧(True∧cells=cells)∧((1:Nat)=(1:Nat)∧(0:Nat)=(0:Nat))∧((0:Nat)=(0:Nat)∧n=n)∧(True∧(↑n:Int)=(↑n:Int))∧(True∧(0:Int)=(0:Int))∧True)∧
 ((Bool.rec False True (Nat.beq e e && decide (Kind.rows (3:Nat)=Kind.rows (3:Nat)))∧IntKind.i64=IntKind.i64∧a=a)∧(True∧false=false∧True)∧True)∧True)∧At (aclInv n a cols cells (0:Int))∧
 ∀(a_1:Int),aclInv n a cols cells a_1→(decide (a_1 < (↑n:Int))=true→At ((0:Int)≤a_1∧a_1 < (↑n:Int))∧At (Int.toNat a_1 * (3:Nat) + (3:Nat)≤List.length a)∧At ((0:Int)≤cols∧cols≤(1000:Int)∧(0:Int)≤cells∧cells≤(1000:Int))∧
 (clueB (List.getD a (Int.toNat a_1 * (3:Nat)) (0:Int)) (List.getD a (Int.toNat a_1 * (3:Nat) + (1:Nat)) (0:Int)) (List.getD a (Int.toNat a_1 * (3:Nat) + (1:Nat) + (1:Nat)) (0:Int)) cols cells=true→(((True∧cols=cols)∧
 (True∧cells=cells)∧((1:Nat)=(1:Nat)∧(0:Nat)=(0:Nat))∧((0:Nat)=(0:Nat)∧n=n)∧(True∧(↑n:Int)=(↑n:Int))∧(True∧IntKind.wrap .i64 (a_1 + (1:Int))=IntKind.wrap .i64 (a_1 + (1:Int)))∧True)∧
 ((Bool.rec False True (Nat.beq e e && decide (Kind.rows (3:Nat)=Kind.rows (3:Nat)))∧IntKind.i64=IntKind.i64∧a=a)∧(True∧false=false∧True)∧True)∧True)∧At (aclInv n a cols cells (IntKind.wrap .i64 (a_1 + (1:Int)))∧
 Int.toNat ((↑n:Int) - IntKind.wrap .i64 (a_1 + (1:Int))) < Int.toNat ((↑n:Int) - a_1)))∧
 (¬clueB (List.getD a (Int.toNat a_1 * (3:Nat)) (0:Int)) (List.getD a (Int.toNat a_1 * (3:Nat) + (1:Nat)) (0:Int)) (List.getD a (Int.toNat a_1 * (3:Nat) + (1:Nat) + (1:Nat)) (0:Int)) cols cells=true→
 K (Exit.panic (oneP (Value.iface 83 (cluV (List.getD a (Int.toNat a_1 * (3:Nat)) (0:Int)) (List.getD a (Int.toNat a_1 * (3:Nat) + (1:Nat)) (0:Int)) (List.getD a (Int.toNat a_1 * (3:Nat) + (1:Nat) + (1:Nat)) (0:Int)))))) { slots := [V.undef,V.int .i64 cols,V.int .i64 cells,V.undef,V.undef,V.undef,V.ptr (1:Nat) (0:Nat),V.undef,V.ptr (2:Nat) (0:Nat),V.undef,V.row (0:Nat) n,V.int .i64 (↑n:Int),V.int .i64 a_1,V.lit true,V.ptr (0:Nat) (Int.toNat a_1 * (3:Nat)),V.agg [V.int .i64 (List.getD a (Int.toNat a_1 * (3:Nat)) (0:Int)),V.int .i64 (List.getD a (Int.toNat a_1 * (3:Nat) + (1:Nat)) (0:Int)),V.int .i64 (List.getD a (Int.toNat a_1 * (3:Nat) + (1:Nat) + (1:Nat)) (0:Int))],V.agg [V.int .i64 (List.getD a (Int.toNat a_1 * (3:Nat)) (0:Int)),V.int .i64 (List.getD a (Int.toNat a_1 * (3:Nat) + (1:Nat)) (0:Int)),V.int .i64 (List.getD a (Int.toNat a_1 * (3:Nat) + (1:Nat) + (1:Nat)) (0:Int))],V.int .i64 cols,V.int .i64 cells,V.undef,V.undef],mem := [⟨Cells.ints .i64 a,e,Kind.rows (3:Nat)⟩,⟨Cells.vals [V.lit false],4,Kind.box⟩,⟨Cells.vals [V.int .i64 (List.getD a (Int.toNat a_1 * (3:Nat)) (0:Int)),V.int .i64 (List.getD a (Int.toNat a_1 * (3:Nat) + (1:Nat)) (0:Int)),V.int .i64 (List.getD a (Int.toNat a_1 * (3:Nat) + (1:Nat) + (1:Nat)) (0:Int))],83,Kind.box⟩] }))∧
 (decide (a_1 < (↑n:Int))=false→
 K Exit.ret { slots := [V.undef,V.int .i64 cols,V.int .i64 cells,V.undef,V.undef,V.undef,V.ptr (1:Nat) (0:Nat),V.undef,V.undef,V.undef,V.row (0:Nat) n,V.int .i64 (↑n:Int),V.int .i64 a_1,V.lit false,V.undef,V.undef,V.undef,V.undef,V.undef,V.undef,V.undef],mem := [⟨Cells.ints .i64 a,e,Kind.rows (3:Nat)⟩,⟨Cells.vals [V.lit true],4,Kind.box⟩] })
def VC_catch (k:Int)(x:Int)(y:Int)(b:Bool)(o:Bool)(n:Nat)(a:List Int)(e:TypeId)(kd:Kind)(K:Exit → St → Prop):Prop:=
 
 K Exit.normal { slots := [V.ptr (1:Nat) (0:Nat),V.ptr (2:Nat) (0:Nat),V.bool b,V.tup [V.agg [V.int .i64 k,V.int .i64 x,V.int .i64 y],V.bool b],V.undef,V.tup [V.agg [V.int .i64 k,V.int .i64 x,V.int .i64 y],V.bool b],V.agg [V.int .i64 k,V.int .i64 x,V.int .i64 y],V.bool b,V.bool b,V.bool !b],mem := [⟨Cells.ints .i64 a,e,kd⟩,⟨Cells.vals [V.bool !b],4,Kind.box⟩,⟨Cells.vals [V.int .i64 k,V.int .i64 x,V.int .i64 y],83,Kind.box⟩] }
def VC_res (a:List Int)(e:TypeId)(b:Bool)(K:List V → Prop):Prop:=
 K [V.bool b]
end Go.Vi
