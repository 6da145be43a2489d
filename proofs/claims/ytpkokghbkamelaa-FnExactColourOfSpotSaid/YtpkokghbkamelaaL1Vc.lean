/- The conditions, reckoned out by program: texts alone. -/
import Derived.Test.YtpkokghbkamelaaL1Defs
namespace Go.Vi
set_option linter.unusedVariables false
def VC_spec_l1In (n:Int)(lo:Int)(hi:Int)(K:V → Prop):Prop:=
 (decide (n ≥ lo)=true→K (V.bool (decide (n≤hi))))∧(decide (n ≥ lo)=false→K (V.lit false))
def VC_impl_within (n:Int)(lo:Int)(hi:Int)(K:V → Prop):Prop:=
 (decide (lo≤n)=true→K (V.bool (decide (n≤hi))))∧(decide (lo≤n)=false→K (V.lit false))
def VC_impl_digit (b:Int)(K:V → Prop):Prop:=
 K (V.int .i64 (IntKind.wrap .i64 (IntKind.wrap .i64 b - (48:Int))))
def VC_spec_woRule (s:List UInt8)(K:V → Prop):Prop:=
 At True∧((!inB (↑(List.length s):Int) (1:Int) (6:Int))=true→K (V.lit false))∧((!inB (↑(List.length s):Int) (1:Int) (6:Int))=false→((s=s∧(True∧(0:Int)=(0:Int))∧True)∧True∧True)∧At (ruleInv s (0:Int))∧∀(a:Int),ruleInv s a→
 (decide (a < (↑(List.length s):Int))=true→At ((0:Int)≤a∧a < (↑(List.length s):Int))∧(((↑(UInt8.toNat (List.getD s (Int.toNat a) (0:UInt8))):Int)==(76:Int))=true→((s=s∧(True∧
 IntKind.wrap .i64 (a + (1:Int))=IntKind.wrap .i64 (a + (1:Int)))∧True)∧True∧True)∧At (ruleInv s (IntKind.wrap .i64 (a + (1:Int)))∧
 Int.toNat ((↑(List.length s):Int) - IntKind.wrap .i64 (a + (1:Int))) < Int.toNat ((↑(List.length s):Int) - a)))∧(((↑(UInt8.toNat (List.getD s (Int.toNat a) (0:UInt8))):Int)==(76:Int))=false→
 (((↑(UInt8.toNat (List.getD s (Int.toNat a) (0:UInt8))):Int)==(82:Int))=true→((s=s∧(True∧IntKind.wrap .i64 (a + (1:Int))=IntKind.wrap .i64 (a + (1:Int)))∧True)∧True∧True)∧At (ruleInv s (IntKind.wrap .i64 (a + (1:Int)))∧
 Int.toNat ((↑(List.length s):Int) - IntKind.wrap .i64 (a + (1:Int))) < Int.toNat ((↑(List.length s):Int) - a)))∧(((↑(UInt8.toNat (List.getD s (Int.toNat a) (0:UInt8))):Int)==(82:Int))=false→
 (((↑(UInt8.toNat (List.getD s (Int.toNat a) (0:UInt8))):Int)==(78:Int))=true→((s=s∧(True∧IntKind.wrap .i64 (a + (1:Int))=IntKind.wrap .i64 (a + (1:Int)))∧True)∧True∧True)∧At (ruleInv s (IntKind.wrap .i64 (a + (1:Int)))∧
 Int.toNat ((↑(List.length s):Int) - IntKind.wrap .i64 (a + (1:Int))) < Int.toNat ((↑(List.length s):Int) - a)))∧(((↑(UInt8.toNat (List.getD s (Int.toNat a) (0:UInt8))):Int)==(78:Int))=false→
 (((↑(UInt8.toNat (List.getD s (Int.toNat a) (0:UInt8))):Int)==(85:Int))=true→((s=s∧(True∧IntKind.wrap .i64 (a + (1:Int))=IntKind.wrap .i64 (a + (1:Int)))∧True)∧True∧True)∧At (ruleInv s (IntKind.wrap .i64 (a + (1:Int)))∧
 Int.toNat ((↑(List.length s):Int) - IntKind.wrap .i64 (a + (1:Int))) < Int.toNat ((↑(List.length s):Int) - a)))∧(((↑(UInt8.toNat (List.getD s (Int.toNat a) (0:UInt8))):Int)==(85:Int))=false→K (V.lit false))))))∧
 (decide (a < (↑(List.length s):Int))=false→K (V.lit true)))
def VC_impl_IsRule (s:List UInt8)(K:V → Prop):Prop:=
 At True∧((!inB (↑(List.length s):Int) (1:Int) (6:Int))=true→K (V.lit false))∧((!inB (↑(List.length s):Int) (1:Int) (6:Int))=false→((s=s∧(True∧(↑(List.length s):Int)=(↑(List.length s):Int))∧(True∧(0:Int)=(0:Int))∧True)∧
 True∧True)∧At (ruleInv s (0:Int))∧∀(a:Int),ruleInv s a→(decide (a < (↑(List.length s):Int))=true→At ((0:Int)≤a∧a < (↑(List.length s):Int))∧(((↑(UInt8.toNat (List.getD s (Int.toNat a) (0:UInt8))):Int)==(76:Int))=true→
 ((s=s∧(True∧(↑(List.length s):Int)=(↑(List.length s):Int))∧(True∧IntKind.wrap .i64 (a + (1:Int))=IntKind.wrap .i64 (a + (1:Int)))∧True)∧True∧True)∧At (ruleInv s (IntKind.wrap .i64 (a + (1:Int)))∧
 Int.toNat ((↑(List.length s):Int) - IntKind.wrap .i64 (a + (1:Int))) < Int.toNat ((↑(List.length s):Int) - a)))∧(((↑(UInt8.toNat (List.getD s (Int.toNat a) (0:UInt8))):Int)==(76:Int))=false→
 (((↑(UInt8.toNat (List.getD s (Int.toNat a) (0:UInt8))):Int)==(82:Int))=true→((s=s∧(True∧(↑(List.length s):Int)=(↑(List.length s):Int))∧(True∧IntKind.wrap .i64 (a + (1:Int))=IntKind.wrap .i64 (a + (1:Int)))∧True)∧True∧
 True)∧At (ruleInv s (IntKind.wrap .i64 (a + (1:Int)))∧Int.toNat ((↑(List.length s):Int) - IntKind.wrap .i64 (a + (1:Int))) < Int.toNat ((↑(List.length s):Int) - a)))∧
 (((↑(UInt8.toNat (List.getD s (Int.toNat a) (0:UInt8))):Int)==(82:Int))=false→(((↑(UInt8.toNat (List.getD s (Int.toNat a) (0:UInt8))):Int)==(78:Int))=true→((s=s∧(True∧(↑(List.length s):Int)=(↑(List.length s):Int))∧(True∧
 IntKind.wrap .i64 (a + (1:Int))=IntKind.wrap .i64 (a + (1:Int)))∧True)∧True∧True)∧At (ruleInv s (IntKind.wrap .i64 (a + (1:Int)))∧
 Int.toNat ((↑(List.length s):Int) - IntKind.wrap .i64 (a + (1:Int))) < Int.toNat ((↑(List.length s):Int) - a)))∧(((↑(UInt8.toNat (List.getD s (Int.toNat a) (0:UInt8))):Int)==(78:Int))=false→
 ((!(↑(UInt8.toNat (List.getD s (Int.toNat a) (0:UInt8))):Int)==(85:Int))=true→K (V.lit false))∧((!(↑(UInt8.toNat (List.getD s (Int.toNat a) (0:UInt8))):Int)==(85:Int))=false→((s=s∧(True∧
 (↑(List.length s):Int)=(↑(List.length s):Int))∧(True∧IntKind.wrap .i64 (a + (1:Int))=IntKind.wrap .i64 (a + (1:Int)))∧True)∧True∧True)∧At (ruleInv s (IntKind.wrap .i64 (a + (1:Int)))∧
 Int.toNat ((↑(List.length s):Int) - IntKind.wrap .i64 (a + (1:Int))) < Int.toNat ((↑(List.length s):Int) - a)))))))∧(decide (a < (↑(List.length s):Int))=false→K (V.lit true)))
def VC_spec_woGood (wr:List UInt8)(ww:Int)(wh:Int)(wc:List UInt8)(wx:Int)(wy:Int)(wd:Int)(K:V → Prop):Prop:=
 At True∧((!ruleB wr)=true→K (V.lit false))∧((!ruleB wr)=false→At True∧((!inB ww (1:Int) (9:Int))=true→K (V.lit false))∧((!inB ww (1:Int) (9:Int))=false→At True∧((!inB wh (1:Int) (9:Int))=true→K (V.lit false))∧
 ((!inB wh (1:Int) (9:Int))=false→(((↑(List.length wc):Int) != IntKind.wrap .i64 (ww * wh))=true→K (V.lit false))∧(((↑(List.length wc):Int) != IntKind.wrap .i64 (ww * wh))=false→((((0:Nat)=(0:Nat)∧(0:Nat)=(0:Nat))∧(True∧
 (0:Int)=(0:Int))∧True)∧((True∧wr=wr∧(True∧ww=ww)∧(True∧wh=wh)∧wc=wc∧(True∧wx=wx)∧(True∧wy=wy)∧(True∧wd=wd)∧True)∧True)∧True)∧At (colsInv wc (↑(List.length wr):Int) (0:Int))∧∀(a:Int),colsInv wc (↑(List.length wr):Int) a→
 (decide (a < (↑(List.length wc):Int))=true→True∧At ((0:Int)≤a∧a < (↑(List.length wc):Int))∧At True∧
 ((!inB (IntKind.wrap .i64 (IntKind.wrap .i64 (↑(UInt8.toNat (List.getD wc (Int.toNat a) (0:UInt8))):Int) - (48:Int))) (0:Int) (IntKind.wrap .i64 ((↑(List.length wr):Int) - (1:Int))))=true→K (V.lit false))∧
 ((!inB (IntKind.wrap .i64 (IntKind.wrap .i64 (↑(UInt8.toNat (List.getD wc (Int.toNat a) (0:UInt8))):Int) - (48:Int))) (0:Int) (IntKind.wrap .i64 ((↑(List.length wr):Int) - (1:Int))))=false→((((0:Nat)=(0:Nat)∧
 (0:Nat)=(0:Nat))∧(True∧IntKind.wrap .i64 (a + (1:Int))=IntKind.wrap .i64 (a + (1:Int)))∧True)∧((True∧wr=wr∧(True∧ww=ww)∧(True∧wh=wh)∧wc=wc∧(True∧wx=wx)∧(True∧wy=wy)∧(True∧wd=wd)∧True)∧True)∧True)∧
 At (colsInv wc (↑(List.length wr):Int) (IntKind.wrap .i64 (a + (1:Int)))∧Int.toNat ((↑(List.length wc):Int) - IntKind.wrap .i64 (a + (1:Int))) < Int.toNat ((↑(List.length wc):Int) - a))))∧
 (decide (a < (↑(List.length wc):Int))=false→At True∧(inB wx (0:Int) (IntKind.wrap .i64 (ww - (1:Int)))=true→At True∧(inB wy (0:Int) (IntKind.wrap .i64 (wh - (1:Int)))=true→At True∧K (V.bool (inB wd (0:Int) (3:Int))))∧
 (inB wy (0:Int) (IntKind.wrap .i64 (wh - (1:Int)))=false→K (V.lit false)))∧(inB wx (0:Int) (IntKind.wrap .i64 (ww - (1:Int)))=false→K (V.lit false)))))))
def VC_impl_areColours (s:List UInt8)(n:Int)(K:V → Prop):Prop:=
 ((s=s∧(True∧n=n)∧(True∧(↑(List.length s):Int)=(↑(List.length s):Int))∧(True∧(0:Int)=(0:Int))∧True)∧True∧True)∧At (colsInv s n (0:Int))∧∀(a:Int),colsInv s n a→(decide (a < (↑(List.length s):Int))=true→At ((0:Int)≤a∧
 a < (↑(List.length s):Int))∧At ((0:Int)≤(↑(UInt8.toNat (List.getD s (Int.toNat a) (0:UInt8))):Int)∧(↑(UInt8.toNat (List.getD s (Int.toNat a) (0:UInt8))):Int) < (256:Int))∧At True∧
 ((!inB ((↑(UInt8.toNat (List.getD s (Int.toNat a) (0:UInt8))):Int) - (48:Int)) (0:Int) (IntKind.wrap .i64 (n - (1:Int))))=true→K (V.lit false))∧
 ((!inB ((↑(UInt8.toNat (List.getD s (Int.toNat a) (0:UInt8))):Int) - (48:Int)) (0:Int) (IntKind.wrap .i64 (n - (1:Int))))=false→((s=s∧(True∧n=n)∧(True∧(↑(List.length s):Int)=(↑(List.length s):Int))∧(True∧
 IntKind.wrap .i64 (a + (1:Int))=IntKind.wrap .i64 (a + (1:Int)))∧True)∧True∧True)∧At (colsInv s n (IntKind.wrap .i64 (a + (1:Int)))∧
 Int.toNat ((↑(List.length s):Int) - IntKind.wrap .i64 (a + (1:Int))) < Int.toNat ((↑(List.length s):Int) - a))))∧(decide (a < (↑(List.length s):Int))=false→K (V.lit true))
def VC_impl_IsWorld (wr:List UInt8)(ww:Int)(wh:Int)(wc:List UInt8)(wx:Int)(wy:Int)(wd:Int)(K:V → Prop):Prop:=
 At True∧((!ruleB wr)=true→K (V.lit false))∧((!ruleB wr)=false→At True∧(inB ww (1:Int) (9:Int)=true→At True∧((!inB wh (1:Int) (9:Int))=true→K (V.lit false))∧((!inB wh (1:Int) (9:Int))=false→
 (((↑(List.length wc):Int) != IntKind.wrap .i64 (ww * wh))=true→K (V.lit false))∧(((↑(List.length wc):Int) != IntKind.wrap .i64 (ww * wh))=false→At ((-1000:Int)≤(↑(List.length wr):Int)∧(↑(List.length wr):Int)≤(1000:Int)∧
 List.length wc≤(1000:Nat))∧(colsB wc (↑(List.length wr):Int)=true→At True∧(inB wx (0:Int) (IntKind.wrap .i64 (ww - (1:Int)))=true→At True∧(inB wy (0:Int) (IntKind.wrap .i64 (wh - (1:Int)))=true→At True∧
 K (V.bool (inB wd (0:Int) (3:Int))))∧(inB wy (0:Int) (IntKind.wrap .i64 (wh - (1:Int)))=false→K (V.lit false)))∧(inB wx (0:Int) (IntKind.wrap .i64 (ww - (1:Int)))=false→K (V.lit false)))∧
 (colsB wc (↑(List.length wr):Int)=false→K (V.lit false)))))∧(inB ww (1:Int) (9:Int)=false→K (V.lit false)))
def VC_spec_woColour (wr:List UInt8)(ww:Int)(wh:Int)(wc:List UInt8)(wx:Int)(wy:Int)(wd:Int)(x:Int)(y:Int)(K:V → Prop):Prop:=
 At ((0:Int)≤IntKind.wrap .i64 (IntKind.wrap .i64 (y * ww) + x)∧IntKind.wrap .i64 (IntKind.wrap .i64 (y * ww) + x) < (↑(List.length wc):Int))∧
 K (V.int .i64 (IntKind.wrap .i64 (IntKind.wrap IntKind.u8 ((↑(UInt8.toNat (List.getD wc (Int.toNat (IntKind.wrap .i64 (IntKind.wrap .i64 (y * ww) + x))) (0:UInt8))):Int) - (48:Int)))))
def VC_impl_board_colour (wr:List UInt8)(ww:Int)(wh:Int)(wc:List UInt8)(wx:Int)(wy:Int)(wd:Int)(x:Int)(y:Int)(K:V → Prop):Prop:=
 At ((0:Int)≤IntKind.wrap .i64 (IntKind.wrap .i64 (y * ww) + x)∧IntKind.wrap .i64 (IntKind.wrap .i64 (y * ww) + x) < (↑(List.length wc):Int))∧
 At ((0:Int)≤(↑(UInt8.toNat (List.getD wc (Int.toNat (IntKind.wrap .i64 (IntKind.wrap .i64 (y * ww) + x))) (0:UInt8))):Int)∧
 (↑(UInt8.toNat (List.getD wc (Int.toNat (IntKind.wrap .i64 (IntKind.wrap .i64 (y * ww) + x))) (0:UInt8))):Int) < (256:Int))∧
 K (V.int .i64 ((↑(UInt8.toNat (List.getD wc (Int.toNat (IntKind.wrap .i64 (IntKind.wrap .i64 (y * ww) + x))) (0:UInt8))):Int) - (48:Int)))
def VC_laws_szWorld (wr:List UInt8)(ww:Int)(wh:Int)(wc:List UInt8)(wx:Int)(wy:Int)(wd:Int)(left:Int)(K:V → Prop):Prop:=
 (decide (IntKind.wrap .i64 (left - (↑(List.length wr):Int)) < (0:Int))=true→K (V.int .i64 (-1:Int)))∧(decide (IntKind.wrap .i64 (left - (↑(List.length wr):Int)) < (0:Int))=false→
 (decide (IntKind.wrap .i64 (IntKind.wrap .i64 (left - (↑(List.length wr):Int)) - (↑(List.length wc):Int)) < (0:Int))=true→K (V.int .i64 (-1:Int)))∧
 (decide (IntKind.wrap .i64 (IntKind.wrap .i64 (left - (↑(List.length wr):Int)) - (↑(List.length wc):Int)) < (0:Int))=false→
 K (V.int .i64 (IntKind.wrap .i64 (IntKind.wrap .i64 (left - (↑(List.length wr):Int)) - (↑(List.length wc):Int))))))
def VC_laws_eqWorld (ar:List UInt8)(aw:Int)(ah:Int)(ac:List UInt8)(ax:Int)(ay:Int)(ad:Int)(br:List UInt8)(bw:Int)(bh:Int)(bc:List UInt8)(bx:Int)(by_:Int)(bd:Int)(K:V → Prop):Prop:=
 ((!ar==br)=true→K (V.lit false))∧((!ar==br)=false→((aw != bw)=true→K (V.lit false))∧((aw != bw)=false→((ah != bh)=true→K (V.lit false))∧((ah != bh)=false→((!ac==bc)=true→K (V.lit false))∧((!ac==bc)=false→
 ((ax != bx)=true→K (V.lit false))∧((ax != bx)=false→((ay != by_)=true→K (V.lit false))∧((ay != by_)=false→((ad != bd)=true→K (V.lit false))∧((ad != bd)=false→K (V.lit true))))))))
def VC_spec_ColourAt (wr:List UInt8)(ww:Int)(wh:Int)(wc:List UInt8)(wx:Int)(wy:Int)(wd:Int)(x:Int)(y:Int)(K:V → Prop):Prop:=
 At True∧(goodB { r := wr,w := ww,h := wh,c := wc,x := wx,y := wy,d := wd }=true→At True∧(inB x (0:Int) (IntKind.wrap .i64 (ww - (1:Int)))=true→At True∧((!inB y (0:Int) (IntKind.wrap .i64 (wh - (1:Int))))=true→
 K (V.tup [V.int .i64 (0:Int),V.lit false]))∧((!inB y (0:Int) (IntKind.wrap .i64 (wh - (1:Int))))=false→At (goodB { r := wr,w := ww,h := wh,c := wc,x := wx,y := wy,d := wd }=true∧
 hasB { r := wr,w := ww,h := wh,c := wc,x := wx,y := wy,d := wd } x y=true)∧K (V.tup [V.int .i64 (colAt { r := wr,w := ww,h := wh,c := wc,x := wx,y := wy,d := wd } x y),V.lit true])))∧
 (inB x (0:Int) (IntKind.wrap .i64 (ww - (1:Int)))=false→K (V.tup [V.int .i64 (0:Int),V.lit false])))∧(goodB { r := wr,w := ww,h := wh,c := wc,x := wx,y := wy,d := wd }=false→K (V.tup [V.int .i64 (0:Int),V.lit false]))
def VC_impl_ColourAt (wr:List UInt8)(ww:Int)(wh:Int)(wc:List UInt8)(wx:Int)(wy:Int)(wd:Int)(x:Int)(y:Int)(K:V → Prop):Prop:=
 At True∧((!goodB { r := wr,w := ww,h := wh,c := wc,x := wx,y := wy,d := wd })=true→K (V.tup [V.int .i64 (0:Int),V.lit false]))∧((!goodB { r := wr,w := ww,h := wh,c := wc,x := wx,y := wy,d := wd })=false→At True∧
 (inB x (0:Int) (IntKind.wrap .i64 (ww - (1:Int)))=true→At True∧((!inB y (0:Int) (IntKind.wrap .i64 (wh - (1:Int))))=true→K (V.tup [V.int .i64 (0:Int),V.lit false]))∧
 ((!inB y (0:Int) (IntKind.wrap .i64 (wh - (1:Int))))=false→At (goodB { r := wr,w := ww,h := wh,c := wc,x := wx,y := wy,d := wd }=true∧hasB { r := wr,w := ww,h := wh,c := wc,x := wx,y := wy,d := wd } x y=true)∧
 K (V.tup [V.int .i64 (colAt { r := wr,w := ww,h := wh,c := wc,x := wx,y := wy,d := wd } x y),V.lit true])))∧(inB x (0:Int) (IntKind.wrap .i64 (ww - (1:Int)))=false→K (V.tup [V.int .i64 (0:Int),V.lit false])))
def VC_spec_PlaceAnt (wr:List UInt8)(ww:Int)(wh:Int)(wc:List UInt8)(wx:Int)(wy:Int)(wd:Int)(x:Int)(y:Int)(d:Int)(K:V → Prop):Prop:=
 At True∧(goodB { r := wr,w := ww,h := wh,c := wc,x := wx,y := wy,d := wd }=true→At True∧(inB x (0:Int) (IntKind.wrap .i64 (ww - (1:Int)))=true→At True∧((!inB y (0:Int) (IntKind.wrap .i64 (wh - (1:Int))))=true→
 K (V.tup [V.agg [V.str (Array.toList #[]),V.int .i64 (0:Int),V.int .i64 (0:Int),V.str (Array.toList #[]),V.int .i64 (0:Int),V.int .i64 (0:Int),V.int .i64 (0:Int)],V.lit false]))∧
 ((!inB y (0:Int) (IntKind.wrap .i64 (wh - (1:Int))))=false→At True∧((!inB d (0:Int) (3:Int))=true→
 K (V.tup [V.agg [V.str (Array.toList #[]),V.int .i64 (0:Int),V.int .i64 (0:Int),V.str (Array.toList #[]),V.int .i64 (0:Int),V.int .i64 (0:Int),V.int .i64 (0:Int)],V.lit false]))∧((!inB d (0:Int) (3:Int))=false→
 K (V.tup [V.agg [V.str wr,V.int .i64 ww,V.int .i64 wh,V.str wc,V.int .i64 x,V.int .i64 y,V.int .i64 d],V.lit true]))))∧(inB x (0:Int) (IntKind.wrap .i64 (ww - (1:Int)))=false→
 K (V.tup [V.agg [V.str (Array.toList #[]),V.int .i64 (0:Int),V.int .i64 (0:Int),V.str (Array.toList #[]),V.int .i64 (0:Int),V.int .i64 (0:Int),V.int .i64 (0:Int)],V.lit false])))∧
 (goodB { r := wr,w := ww,h := wh,c := wc,x := wx,y := wy,d := wd }=false→
 K (V.tup [V.agg [V.str (Array.toList #[]),V.int .i64 (0:Int),V.int .i64 (0:Int),V.str (Array.toList #[]),V.int .i64 (0:Int),V.int .i64 (0:Int),V.int .i64 (0:Int)],V.lit false]))
def VC_impl_PlaceAnt (wr:List UInt8)(ww:Int)(wh:Int)(wc:List UInt8)(wx:Int)(wy:Int)(wd:Int)(x:Int)(y:Int)(d:Int)(K:V → Prop):Prop:=
 At True∧((!goodB { r := wr,w := ww,h := wh,c := wc,x := wx,y := wy,d := wd })=true→
 K (V.tup [V.agg [V.str (Array.toList #[]),V.int .i64 (0:Int),V.int .i64 (0:Int),V.str (Array.toList #[]),V.int .i64 (0:Int),V.int .i64 (0:Int),V.int .i64 (0:Int)],V.lit false]))∧
 ((!goodB { r := wr,w := ww,h := wh,c := wc,x := wx,y := wy,d := wd })=false→At True∧(inB x (0:Int) (IntKind.wrap .i64 (ww - (1:Int)))=true→At True∧((!inB y (0:Int) (IntKind.wrap .i64 (wh - (1:Int))))=true→
 K (V.tup [V.agg [V.str (Array.toList #[]),V.int .i64 (0:Int),V.int .i64 (0:Int),V.str (Array.toList #[]),V.int .i64 (0:Int),V.int .i64 (0:Int),V.int .i64 (0:Int)],V.lit false]))∧
 ((!inB y (0:Int) (IntKind.wrap .i64 (wh - (1:Int))))=false→At True∧((!inB d (0:Int) (3:Int))=true→
 K (V.tup [V.agg [V.str (Array.toList #[]),V.int .i64 (0:Int),V.int .i64 (0:Int),V.str (Array.toList #[]),V.int .i64 (0:Int),V.int .i64 (0:Int),V.int .i64 (0:Int)],V.lit false]))∧((!inB d (0:Int) (3:Int))=false→
 K (V.tup [V.agg [V.str wr,V.int .i64 ww,V.int .i64 wh,V.str wc,V.int .i64 x,V.int .i64 y,V.int .i64 d],V.lit true]))))∧(inB x (0:Int) (IntKind.wrap .i64 (ww - (1:Int)))=false→
 K (V.tup [V.agg [V.str (Array.toList #[]),V.int .i64 (0:Int),V.int .i64 (0:Int),V.str (Array.toList #[]),V.int .i64 (0:Int),V.int .i64 (0:Int),V.int .i64 (0:Int)],V.lit false])))
end Go.Vi
