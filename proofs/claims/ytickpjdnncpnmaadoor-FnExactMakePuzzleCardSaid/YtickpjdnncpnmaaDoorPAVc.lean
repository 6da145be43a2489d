/- The conditions, reckoned out by program: texts alone. -/
import Derived.Test.YtickpjdnncpnmaaDoorPADefs
namespace Go.Vi
set_option linter.unusedVariables false
def VC_spec_pzPower (s:List UInt8)(n:Int)(K:V → Prop):Prop:=
 ((s=s∧(True∧n=n)∧(True∧(0:Int)=(0:Int))∧(True∧(1:Int)=(1:Int))∧True)∧True∧True)∧At (powInv s n (n,(1:Int)))∧∀(a:Int × Int),powInv s n a→(decide (Prod.fst a > (0:Int))=true→
 (decide (IntKind.wrap .i64 (Prod.snd a * (↑(List.length s):Int)) > (300:Int))=true→K (V.int .i64 (0:Int)))∧(decide (IntKind.wrap .i64 (Prod.snd a * (↑(List.length s):Int)) > (300:Int))=false→((s=s∧(True∧
 IntKind.wrap .i64 (Prod.fst a - (1:Int))=IntKind.wrap .i64 (Prod.fst a - (1:Int)))∧(True∧(0:Int)=(0:Int))∧(True∧
 IntKind.wrap .i64 (Prod.snd a * (↑(List.length s):Int))=IntKind.wrap .i64 (Prod.snd a * (↑(List.length s):Int)))∧True)∧True∧True)∧
 At (powInv s n (IntKind.wrap .i64 (Prod.fst a - (1:Int)),IntKind.wrap .i64 (Prod.snd a * (↑(List.length s):Int)))∧Int.toNat (IntKind.wrap .i64 (Prod.fst a - (1:Int))) < Int.toNat (Prod.fst a))))∧
 (decide (Prod.fst a > (0:Int))=false→K (V.int .i64 (Prod.snd a)))
def VC_spec_pzSize (s:List UInt8)(w:Int)(h:Int)(K:V → Prop):Prop:=
 At True∧(ruleB s=true→At True∧(inB w (1:Int) (9:Int)=true→At True∧(inB h (1:Int) (9:Int)=true→(decide (IntKind.wrap .i64 (w * h)≤(9:Int))=true→At ((1:Nat)≤List.length s∧List.length s≤(6:Nat)∧
 (0:Int)≤IntKind.wrap .i64 (w * h)∧IntKind.wrap .i64 (w * h)≤(9:Int))∧K (V.bool (decide (pow300 (List.length s) (Int.toNat (IntKind.wrap .i64 (w * h))) > (0:Int)))))∧(decide (IntKind.wrap .i64 (w * h)≤(9:Int))=false→
 K (V.lit false)))∧(inB h (1:Int) (9:Int)=false→K (V.lit false)))∧(inB w (1:Int) (9:Int)=false→K (V.lit false)))∧(ruleB s=false→K (V.lit false))
def VC_impl_isSize (w:Int)(h:Int)(K:V → Prop):Prop:=
 At True∧(inB w (1:Int) (9:Int)=true→At True∧K (V.bool (inB h (1:Int) (9:Int))))∧(inB w (1:Int) (9:Int)=false→K (V.lit false))
def VC_impl_CountBoards (s:List UInt8)(w:Int)(h:Int)(K:V → Prop):Prop:=
 At True∧((!ruleB s)=true→K (V.tup [V.int .i64 (0:Int),V.lit false]))∧((!ruleB s)=false→At True∧((!(inB w (1:Int) (9:Int) && inB h (1:Int) (9:Int)))=true→K (V.tup [V.int .i64 (0:Int),V.lit false]))∧
 ((!(inB w (1:Int) (9:Int) && inB h (1:Int) (9:Int)))=false→(decide (IntKind.wrap .i64 (w * h) > (9:Int))=true→K (V.tup [V.int .i64 (0:Int),V.lit false]))∧(decide (IntKind.wrap .i64 (w * h) > (9:Int))=false→((s=s∧(True∧
 (0:Int)=(0:Int))∧false=false∧(True∧(1:Int)=(1:Int))∧(True∧IntKind.wrap .i64 (w * h)=IntKind.wrap .i64 (w * h))∧(True∧(0:Int)=(0:Int))∧True)∧True∧True)∧At (cntInv s (IntKind.wrap .i64 (w * h)) ((0:Int),(1:Int)))∧
 ∀(a:Int × Int),cntInv s (IntKind.wrap .i64 (w * h)) a→(decide (Prod.fst a < IntKind.wrap .i64 (w * h))=true→((s=s∧(True∧(0:Int)=(0:Int))∧false=false∧(True∧
 IntKind.wrap .i64 (Prod.snd a * (↑(List.length s):Int))=IntKind.wrap .i64 (Prod.snd a * (↑(List.length s):Int)))∧(True∧IntKind.wrap .i64 (w * h)=IntKind.wrap .i64 (w * h))∧(True∧
 IntKind.wrap .i64 (Prod.fst a + (1:Int))=IntKind.wrap .i64 (Prod.fst a + (1:Int)))∧True)∧True∧True)∧
 At (cntInv s (IntKind.wrap .i64 (w * h)) (IntKind.wrap .i64 (Prod.fst a + (1:Int)),IntKind.wrap .i64 (Prod.snd a * (↑(List.length s):Int)))∧
 Int.toNat (IntKind.wrap .i64 (w * h) - IntKind.wrap .i64 (Prod.fst a + (1:Int))) < Int.toNat (IntKind.wrap .i64 (w * h) - Prod.fst a)))∧(decide (Prod.fst a < IntKind.wrap .i64 (w * h))=false→
 (decide (Prod.snd a > (300:Int))=true→K (V.tup [V.int .i64 (0:Int),V.lit false]))∧(decide (Prod.snd a > (300:Int))=false→K (V.tup [V.int .i64 (Prod.snd a),V.lit true]))))))
def VC_spec_pzClue (s:List UInt8)(cells:Int)(cx:Int)(cy:Int)(ck:Int)(K:V → Prop):Prop:=
 ((cx==(0:Int))=true→At True∧(inB cy (0:Int) (IntKind.wrap .i64 (cells - (1:Int)))=true→At True∧K (V.bool (inB ck (0:Int) (IntKind.wrap .i64 ((↑(List.length s):Int) - (1:Int))))))∧
 (inB cy (0:Int) (IntKind.wrap .i64 (cells - (1:Int)))=false→K (V.lit false)))∧((cx==(0:Int))=false→((cx==(1:Int))=true→At True∧(inB cy (0:Int) (50:Int)=true→At True∧
 K (V.bool (inB ck (0:Int) (IntKind.wrap .i64 (cells - (1:Int))))))∧(inB cy (0:Int) (50:Int)=false→K (V.lit false)))∧((cx==(1:Int))=false→((cx==(2:Int))=true→At True∧(inB cy (0:Int) (50:Int)=true→At True∧
 K (V.bool (inB ck (0:Int) (3:Int))))∧(inB cy (0:Int) (50:Int)=false→K (V.lit false)))∧((cx==(2:Int))=false→((cx==(3:Int))=true→At True∧(inB cy (0:Int) (50:Int)=true→At True∧K (V.bool (inB ck (0:Int) cells)))∧
 (inB cy (0:Int) (50:Int)=false→K (V.lit false)))∧((cx==(3:Int))=false→((cx==(4:Int))=true→At True∧(inB cy (0:Int) (100:Int)=true→K (V.bool (ck==(0:Int))))∧(inB cy (0:Int) (100:Int)=false→K (V.lit false)))∧
 ((cx==(4:Int))=false→K (V.lit false))))))
end Go.Vi
