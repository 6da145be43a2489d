/- The conditions, reckoned out by program: texts alone. -/
import Derived.Test.YtpkokghbkamelaaDoorSCDefs
namespace Go.Vi
set_option linter.unusedVariables false
def VC_impl_digit (b:Int)(K:V → Prop):Prop:=
 K (V.int .i64 (IntKind.wrap .i64 (IntKind.wrap .i64 b - (48:Int))))
def VC_impl_isWay (a:Int)(K:V → Prop):Prop:=
 At True∧K (V.bool (inB a (0:Int) (3:Int)))
def VC_impl_hasCell (wr:List UInt8)(ww:Int)(wh:Int)(wc:List UInt8)(wx:Int)(wy:Int)(wd:Int)(x:Int)(y:Int)(K:V → Prop):Prop:=
 At True∧(inB x (0:Int) (IntKind.wrap .i64 (ww - (1:Int)))=true→At True∧K (V.bool (inB y (0:Int) (IntKind.wrap .i64 (wh - (1:Int))))))∧(inB x (0:Int) (IntKind.wrap .i64 (ww - (1:Int)))=false→K (V.lit false))
def VC_impl_areColours (s:List UInt8)(k:Int)(K:V → Prop):Prop:=
 ((s=s∧(True∧k=k)∧(True∧(↑(List.length s):Int)=(↑(List.length s):Int))∧(True∧(0:Int)=(0:Int))∧True)∧True∧True)∧At (colsInv s k (0:Int))∧∀(a:Int),colsInv s k a→(decide (a < (↑(List.length s):Int))=true→At ((0:Int)≤a∧
 a < (↑(List.length s):Int))∧At ((0:Int)≤(↑(UInt8.toNat (List.getD s (Int.toNat a) (0:UInt8))):Int)∧(↑(UInt8.toNat (List.getD s (Int.toNat a) (0:UInt8))):Int) < (256:Int))∧At True∧
 ((!inB ((↑(UInt8.toNat (List.getD s (Int.toNat a) (0:UInt8))):Int) - (48:Int)) (0:Int) (IntKind.wrap .i64 (k - (1:Int))))=true→K (V.lit false))∧
 ((!inB ((↑(UInt8.toNat (List.getD s (Int.toNat a) (0:UInt8))):Int) - (48:Int)) (0:Int) (IntKind.wrap .i64 (k - (1:Int))))=false→((s=s∧(True∧k=k)∧(True∧(↑(List.length s):Int)=(↑(List.length s):Int))∧(True∧
 IntKind.wrap .i64 (a + (1:Int))=IntKind.wrap .i64 (a + (1:Int)))∧True)∧True∧True)∧At (colsInv s k (IntKind.wrap .i64 (a + (1:Int)))∧
 Int.toNat ((↑(List.length s):Int) - IntKind.wrap .i64 (a + (1:Int))) < Int.toNat ((↑(List.length s):Int) - a))))∧(decide (a < (↑(List.length s):Int))=false→K (V.lit true))
def VC_laws_szScene (left:Int)(s:Int)(i:Int)(n:Nat)(c:List Sc)(w:Int)(h:Int)(u:List UInt8)(x:Int)(y:Int)(d:Int)(q:Int)(K:V → List Blk → Prop):Prop:=
 At (((0:Int)≤left∧left≤(1048576:Int))∧(↑n:Int)≤(9223372036854775807:Int)∧is3 c n∧∀(r:Row3),r ∈ rows3 c→(↑(List.length (Row3.t r)):Int)≤(9223372036854775807:Int))∧(decide (szT (rows3 c) left < (0:Int))=true→
 K (V.int .i64 (-1:Int)) [⟨Cells.recs [Sh.int IntKind.i64,Sh.str,Sh.int IntKind.i64] c,139,Kind.arg (3:Nat)⟩,⟨Cells.vals [V.int .i64 s,V.int .i64 i,V.row (0:Nat) n,V.int .i64 w,V.int .i64 h,V.str u,V.int .i64 x,V.int .i64 y,V.int .i64 d,V.int .i64 q],26,Kind.box⟩])∧
 (decide (szT (rows3 c) left < (0:Int))=false→(decide (IntKind.wrap .i64 (szT (rows3 c) left - (↑(List.length u):Int)) < (0:Int))=true→
 K (V.int .i64 (-1:Int)) [⟨Cells.recs [Sh.int IntKind.i64,Sh.str,Sh.int IntKind.i64] c,139,Kind.arg (3:Nat)⟩,⟨Cells.vals [V.int .i64 s,V.int .i64 i,V.row (0:Nat) n,V.int .i64 w,V.int .i64 h,V.str u,V.int .i64 x,V.int .i64 y,V.int .i64 d,V.int .i64 q],26,Kind.box⟩])∧
 (decide (IntKind.wrap .i64 (szT (rows3 c) left - (↑(List.length u):Int)) < (0:Int))=false→
 K (V.int .i64 (IntKind.wrap .i64 (szT (rows3 c) left - (↑(List.length u):Int)))) [⟨Cells.recs [Sh.int IntKind.i64,Sh.str,Sh.int IntKind.i64] c,139,Kind.arg (3:Nat)⟩,⟨Cells.vals [V.int .i64 s,V.int .i64 i,V.row (0:Nat) n,V.int .i64 w,V.int .i64 h,V.str u,V.int .i64 x,V.int .i64 y,V.int .i64 d,V.int .i64 q],26,Kind.box⟩]))
def VC_laws_toScene (s:Int)(i:Int)(n:Nat)(c:List Sc)(w:Int)(h:Int)(u:List UInt8)(x:Int)(y:Int)(d:Int)(q:Int)(K:V → List Blk → Prop):Prop:=
 At (is3 c n∧n≤(2000000:Nat))∧
 K (V.agg [V.int .i64 s,V.int .i64 i,V.row (4:Nat) n,V.int .i64 w,V.int .i64 h,V.str u,V.int .i64 x,V.int .i64 y,V.int .i64 d,V.int .i64 q]) [⟨Cells.recs [Sh.int IntKind.i64,Sh.str,Sh.int IntKind.i64] c,139,Kind.arg (3:Nat)⟩,⟨Cells.vals [V.int .i64 s,V.int .i64 i,V.row (0:Nat) n,V.int .i64 w,V.int .i64 h,V.str u,V.int .i64 x,V.int .i64 y,V.int .i64 d,V.int .i64 q],26,Kind.box⟩,⟨Cells.vals [V.int .i64 s,V.int .i64 i,V.row (4:Nat) n,V.int .i64 w,V.int .i64 h,V.str u,V.int .i64 x,V.int .i64 y,V.int .i64 d,V.int .i64 q],33,Kind.box⟩,⟨Cells.vals [V.int .i64 s,V.int .i64 i,V.row (4:Nat) n,V.int .i64 w,V.int .i64 h,V.str u,V.int .i64 x,V.int .i64 y,V.int .i64 d,V.int .i64 q],33,Kind.box⟩,⟨Cells.recs [Sh.int IntKind.i64,Sh.str,Sh.int IntKind.i64] c,96,Kind.rows (3:Nat)⟩]
def VC_spec_taScene (s:Int)(i:Int)(n:Nat)(c:List Sc)(w:Int)(h:Int)(u:List UInt8)(x:Int)(y:Int)(d:Int)(q:Int)(K:V → List Blk → Prop):Prop:=
 At (is3 c n∧n≤(2000000:Nat))∧((!tabB s i (rows3 c))=true→
 K (V.lit false) [⟨Cells.recs [Sh.int IntKind.i64,Sh.str,Sh.int IntKind.i64] c,96,Kind.rows (3:Nat)⟩,⟨Cells.vals [V.int .i64 s,V.int .i64 i,V.row (0:Nat) n,V.int .i64 w,V.int .i64 h,V.str u,V.int .i64 x,V.int .i64 y,V.int .i64 d,V.int .i64 q],33,Kind.box⟩])∧
 ((!tabB s i (rows3 c))=false→At True∧((!inB w (1:Int) (9:Int))=true→
 K (V.lit false) [⟨Cells.recs [Sh.int IntKind.i64,Sh.str,Sh.int IntKind.i64] c,96,Kind.rows (3:Nat)⟩,⟨Cells.vals [V.int .i64 s,V.int .i64 i,V.row (0:Nat) n,V.int .i64 w,V.int .i64 h,V.str u,V.int .i64 x,V.int .i64 y,V.int .i64 d,V.int .i64 q],33,Kind.box⟩])∧
 ((!inB w (1:Int) (9:Int))=false→At True∧((!inB h (1:Int) (9:Int))=true→
 K (V.lit false) [⟨Cells.recs [Sh.int IntKind.i64,Sh.str,Sh.int IntKind.i64] c,96,Kind.rows (3:Nat)⟩,⟨Cells.vals [V.int .i64 s,V.int .i64 i,V.row (0:Nat) n,V.int .i64 w,V.int .i64 h,V.str u,V.int .i64 x,V.int .i64 y,V.int .i64 d,V.int .i64 q],33,Kind.box⟩])∧
 ((!inB h (1:Int) (9:Int))=false→(((↑(List.length u):Int) != IntKind.wrap .i64 (w * h))=true→
 K (V.lit false) [⟨Cells.recs [Sh.int IntKind.i64,Sh.str,Sh.int IntKind.i64] c,96,Kind.rows (3:Nat)⟩,⟨Cells.vals [V.int .i64 s,V.int .i64 i,V.row (0:Nat) n,V.int .i64 w,V.int .i64 h,V.str u,V.int .i64 x,V.int .i64 y,V.int .i64 d,V.int .i64 q],33,Kind.box⟩])∧
 (((↑(List.length u):Int) != IntKind.wrap .i64 (w * h))=false→((((1:Nat)=(1:Nat)∧(0:Nat)=(0:Nat))∧(True∧(0:Int)=(0:Int))∧True)∧((True∧True∧c=c)∧(True∧(True∧s=s)∧(True∧i=i)∧((0:Nat)=(0:Nat)∧n=n)∧(True∧w=w)∧(True∧h=h)∧u=u∧
 (True∧x=x)∧(True∧y=y)∧(True∧d=d)∧(True∧q=q)∧True)∧True)∧True)∧At (colsInv u i (0:Int))∧∀(a:Int),colsInv u i a→(decide (a < (↑(List.length u):Int))=true→True∧At ((0:Int)≤a∧a < (↑(List.length u):Int))∧At True∧
 ((!inB (IntKind.wrap .i64 (IntKind.wrap .i64 (↑(UInt8.toNat (List.getD u (Int.toNat a) (0:UInt8))):Int) - (48:Int))) (0:Int) (IntKind.wrap .i64 (i - (1:Int))))=true→
 K (V.lit false) [⟨Cells.recs [Sh.int IntKind.i64,Sh.str,Sh.int IntKind.i64] c,96,Kind.rows (3:Nat)⟩,⟨Cells.vals [V.int .i64 s,V.int .i64 i,V.row (0:Nat) n,V.int .i64 w,V.int .i64 h,V.str u,V.int .i64 x,V.int .i64 y,V.int .i64 d,V.int .i64 q],33,Kind.box⟩])∧
 ((!inB (IntKind.wrap .i64 (IntKind.wrap .i64 (↑(UInt8.toNat (List.getD u (Int.toNat a) (0:UInt8))):Int) - (48:Int))) (0:Int) (IntKind.wrap .i64 (i - (1:Int))))=false→((((1:Nat)=(1:Nat)∧(0:Nat)=(0:Nat))∧(True∧
 IntKind.wrap .i64 (a + (1:Int))=IntKind.wrap .i64 (a + (1:Int)))∧True)∧((True∧True∧c=c)∧(True∧(True∧s=s)∧(True∧i=i)∧((0:Nat)=(0:Nat)∧n=n)∧(True∧w=w)∧(True∧h=h)∧u=u∧(True∧x=x)∧(True∧y=y)∧(True∧d=d)∧(True∧q=q)∧True)∧True)∧
 True)∧At (colsInv u i (IntKind.wrap .i64 (a + (1:Int)))∧Int.toNat ((↑(List.length u):Int) - IntKind.wrap .i64 (a + (1:Int))) < Int.toNat ((↑(List.length u):Int) - a))))∧(decide (a < (↑(List.length u):Int))=false→At True∧
 (inB x (0:Int) (IntKind.wrap .i64 (w - (1:Int)))=true→At True∧(inB y (0:Int) (IntKind.wrap .i64 (h - (1:Int)))=true→At True∧(inB d (0:Int) (3:Int)=true→At True∧
 K (V.bool (inB q (0:Int) (IntKind.wrap .i64 (s - (1:Int))))) [⟨Cells.recs [Sh.int IntKind.i64,Sh.str,Sh.int IntKind.i64] c,96,Kind.rows (3:Nat)⟩,⟨Cells.vals [V.int .i64 s,V.int .i64 i,V.row (0:Nat) n,V.int .i64 w,V.int .i64 h,V.str u,V.int .i64 x,V.int .i64 y,V.int .i64 d,V.int .i64 q],33,Kind.box⟩])∧
 (inB d (0:Int) (3:Int)=false→
 K (V.lit false) [⟨Cells.recs [Sh.int IntKind.i64,Sh.str,Sh.int IntKind.i64] c,96,Kind.rows (3:Nat)⟩,⟨Cells.vals [V.int .i64 s,V.int .i64 i,V.row (0:Nat) n,V.int .i64 w,V.int .i64 h,V.str u,V.int .i64 x,V.int .i64 y,V.int .i64 d,V.int .i64 q],33,Kind.box⟩]))∧
 (inB y (0:Int) (IntKind.wrap .i64 (h - (1:Int)))=false→
 K (V.lit false) [⟨Cells.recs [Sh.int IntKind.i64,Sh.str,Sh.int IntKind.i64] c,96,Kind.rows (3:Nat)⟩,⟨Cells.vals [V.int .i64 s,V.int .i64 i,V.row (0:Nat) n,V.int .i64 w,V.int .i64 h,V.str u,V.int .i64 x,V.int .i64 y,V.int .i64 d,V.int .i64 q],33,Kind.box⟩]))∧
 (inB x (0:Int) (IntKind.wrap .i64 (w - (1:Int)))=false→
 K (V.lit false) [⟨Cells.recs [Sh.int IntKind.i64,Sh.str,Sh.int IntKind.i64] c,96,Kind.rows (3:Nat)⟩,⟨Cells.vals [V.int .i64 s,V.int .i64 i,V.row (0:Nat) n,V.int .i64 w,V.int .i64 h,V.str u,V.int .i64 x,V.int .i64 y,V.int .i64 d,V.int .i64 q],33,Kind.box⟩]))))))
def VC_spec_IsScene (s:Int)(i:Int)(n:Nat)(c:List Sc)(w:Int)(h:Int)(u:List UInt8)(x:Int)(y:Int)(d:Int)(q:Int)(K:V → List Blk → Prop):Prop:=
 At (is3 c n∧n≤(2000000:Nat))∧
 K (V.bool (sceneB s i (rows3 c) w h u x y d q)) [⟨Cells.recs [Sh.int IntKind.i64,Sh.str,Sh.int IntKind.i64] c,96,Kind.rows (3:Nat)⟩,⟨Cells.vals [V.int .i64 s,V.int .i64 i,V.row (0:Nat) n,V.int .i64 w,V.int .i64 h,V.str u,V.int .i64 x,V.int .i64 y,V.int .i64 d,V.int .i64 q],33,Kind.box⟩]
def VC_impl_actorOf (s:Int)(i:Int)(n:Nat)(c:List Sc)(w:Int)(h:Int)(u:List UInt8)(x:Int)(y:Int)(d:Int)(q:Int)(K:V → List Blk → Prop):Prop:=
 
 K (V.agg [V.str ([]:List UInt8),V.int .i64 w,V.int .i64 h,V.str u,V.int .i64 x,V.int .i64 y,V.int .i64 d,V.int .i64 q]) [⟨Cells.recs [Sh.int IntKind.i64,Sh.str,Sh.int IntKind.i64] c,96,Kind.rows (3:Nat)⟩,⟨Cells.vals [V.int .i64 s,V.int .i64 i,V.row (0:Nat) n,V.int .i64 w,V.int .i64 h,V.str u,V.int .i64 x,V.int .i64 y,V.int .i64 d,V.int .i64 q],33,Kind.box⟩,⟨Cells.vals [V.str ([]:List UInt8),V.int .i64 w,V.int .i64 h,V.str u,V.int .i64 x,V.int .i64 y,V.int .i64 d,V.int .i64 q],82,Kind.box⟩,⟨Cells.vals [V.str ([]:List UInt8),V.int .i64 w,V.int .i64 h,V.str u,V.int .i64 x,V.int .i64 y,V.int .i64 d],78,Kind.box⟩]
def VC_impl_IsScene (s:Int)(i:Int)(n:Nat)(c:List Sc)(w:Int)(h:Int)(u:List UInt8)(x:Int)(y:Int)(d:Int)(q:Int)(g0:List UInt8)(g1:List UInt8)(g2:List UInt8)(g3:List UInt8)(K:V → List Blk → Prop):Prop:=
 At (is3 c n∧n≤(2000000:Nat)∧isSg g0 g1 g2 g3)∧((!tabB s i (rows3 c))=true→
 K (V.lit false) [⟨Cells.recs [Sh.int IntKind.i64,Sh.str,Sh.int IntKind.i64] c,96,Kind.rows (3:Nat)⟩,⟨Cells.vals [V.str g0,V.str g1,V.str g2,V.str g3],9,Kind.gl 0⟩,⟨Cells.vals [V.int .i64 s,V.int .i64 i,V.row (0:Nat) n,V.int .i64 w,V.int .i64 h,V.str u,V.int .i64 x,V.int .i64 y,V.int .i64 d,V.int .i64 q],33,Kind.box⟩])∧
 ((!tabB s i (rows3 c))=false→At True∧((!(inB w (1:Int) (9:Int) && inB h (1:Int) (9:Int)))=true→
 K (V.lit false) [⟨Cells.recs [Sh.int IntKind.i64,Sh.str,Sh.int IntKind.i64] c,96,Kind.rows (3:Nat)⟩,⟨Cells.vals [V.str g0,V.str g1,V.str g2,V.str g3],9,Kind.gl 0⟩,⟨Cells.vals [V.int .i64 s,V.int .i64 i,V.row (0:Nat) n,V.int .i64 w,V.int .i64 h,V.str u,V.int .i64 x,V.int .i64 y,V.int .i64 d,V.int .i64 q],33,Kind.box⟩])∧
 ((!(inB w (1:Int) (9:Int) && inB h (1:Int) (9:Int)))=false→(((↑(List.length u):Int) != IntKind.wrap .i64 (w * h))=true→
 K (V.lit false) [⟨Cells.recs [Sh.int IntKind.i64,Sh.str,Sh.int IntKind.i64] c,96,Kind.rows (3:Nat)⟩,⟨Cells.vals [V.str g0,V.str g1,V.str g2,V.str g3],9,Kind.gl 0⟩,⟨Cells.vals [V.int .i64 s,V.int .i64 i,V.row (0:Nat) n,V.int .i64 w,V.int .i64 h,V.str u,V.int .i64 x,V.int .i64 y,V.int .i64 d,V.int .i64 q],33,Kind.box⟩])∧
 (((↑(List.length u):Int) != IntKind.wrap .i64 (w * h))=false→(True∧At (is3 c n∧n≤(2000000:Nat))∧At (inB w (1:Int) (9:Int)=true∧inB h (1:Int) (9:Int)=true)∧
 ((inB x (0:Int) (w - (1:Int)) && inB y (0:Int) (h - (1:Int)))=true→At True∧(inB d (0:Int) (3:Int)=true→At True∧True∧(((2:Nat)=(2:Nat)∧(0:Nat)=(0:Nat))∧
 inB q (0:Int) (IntKind.wrap .i64 (s - (1:Int)))=(hasX { w := w,h := h,u := u,x := x,y := y,d := d,q := q } x y && inB d (0:Int) (3:Int) && inB q (0:Int) (s - (1:Int)))∧True)∧((True∧True∧c=c)∧(True∧g0=g0∧g1=g1∧g2=g2∧
 g3=g3∧True)∧(True∧(True∧s=s)∧(True∧i=i)∧((0:Nat)=(0:Nat)∧n=n)∧(True∧w=w)∧(True∧h=h)∧u=u∧(True∧x=x)∧(True∧y=y)∧(True∧d=d)∧(True∧q=q)∧True)∧True)∧True)∧(inB d (0:Int) (3:Int)=false→True∧(((2:Nat)=(2:Nat)∧(0:Nat)=(0:Nat))∧
 false=(hasX { w := w,h := h,u := u,x := x,y := y,d := d,q := q } x y && inB d (0:Int) (3:Int) && inB q (0:Int) (s - (1:Int)))∧True)∧((True∧True∧c=c)∧(True∧g0=g0∧g1=g1∧g2=g2∧g3=g3∧True)∧(True∧(True∧s=s)∧(True∧i=i)∧
 ((0:Nat)=(0:Nat)∧n=n)∧(True∧w=w)∧(True∧h=h)∧u=u∧(True∧x=x)∧(True∧y=y)∧(True∧d=d)∧(True∧q=q)∧True)∧True)∧True))∧((inB x (0:Int) (w - (1:Int)) && inB y (0:Int) (h - (1:Int)))=false→True∧(((2:Nat)=(2:Nat)∧(0:Nat)=(0:Nat))∧
 false=(hasX { w := w,h := h,u := u,x := x,y := y,d := d,q := q } x y && inB d (0:Int) (3:Int) && inB q (0:Int) (s - (1:Int)))∧True)∧((True∧True∧c=c)∧(True∧g0=g0∧g1=g1∧g2=g2∧g3=g3∧True)∧(True∧(True∧s=s)∧(True∧i=i)∧
 ((0:Nat)=(0:Nat)∧n=n)∧(True∧w=w)∧(True∧h=h)∧u=u∧(True∧x=x)∧(True∧y=y)∧(True∧d=d)∧(True∧q=q)∧True)∧True)∧True))∧At ((-1000:Int)≤i∧i≤(1000:Int)∧List.length u≤(1000:Nat))∧(colsB u i=true→
 K (V.bool (hasX { w := w,h := h,u := u,x := x,y := y,d := d,q := q } x y && inB d (0:Int) (3:Int) && inB q (0:Int) (s - (1:Int)))) [⟨Cells.recs [Sh.int IntKind.i64,Sh.str,Sh.int IntKind.i64] c,96,Kind.rows (3:Nat)⟩,⟨Cells.vals [V.str g0,V.str g1,V.str g2,V.str g3],9,Kind.gl 0⟩,⟨Cells.vals [V.int .i64 s,V.int .i64 i,V.row (0:Nat) n,V.int .i64 w,V.int .i64 h,V.str u,V.int .i64 x,V.int .i64 y,V.int .i64 d,V.int .i64 q],33,Kind.box⟩])∧
 (colsB u i=false→
 K (V.lit false) [⟨Cells.recs [Sh.int IntKind.i64,Sh.str,Sh.int IntKind.i64] c,96,Kind.rows (3:Nat)⟩,⟨Cells.vals [V.str g0,V.str g1,V.str g2,V.str g3],9,Kind.gl 0⟩,⟨Cells.vals [V.int .i64 s,V.int .i64 i,V.row (0:Nat) n,V.int .i64 w,V.int .i64 h,V.str u,V.int .i64 x,V.int .i64 y,V.int .i64 d,V.int .i64 q],33,Kind.box⟩]))))
end Go.Vi
