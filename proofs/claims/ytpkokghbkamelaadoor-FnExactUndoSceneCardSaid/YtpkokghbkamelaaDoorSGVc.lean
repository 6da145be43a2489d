/- The conditions, reckoned out by program: texts alone. -/
import Derived.Test.YtpkokghbkamelaaDoorSGDefs
namespace Go.Vi
set_option linter.unusedVariables false
def VC_spec_l1Mod (n:Int)(m:Int)(K:V → Prop):Prop:=
 At (m ≠ (0:Int))∧At (m ≠ (0:Int))∧K (V.int .i64 (Int.tmod (IntKind.wrap .i64 (Int.tmod n m + m)) m))
def VC_spec_woTurn (b:Int)(K:V → Prop):Prop:=
 ((b==(82:Int))=true→K (V.int .i64 (1:Int)))∧((b==(82:Int))=false→((b==(85:Int))=true→K (V.int .i64 (2:Int)))∧((b==(85:Int))=false→((b==(76:Int))=true→K (V.int .i64 (3:Int)))∧((b==(76:Int))=false→K (V.int .i64 (0:Int)))))
def VC_impl_direction (d:Int)(K:V → Prop):Prop:=
 ((d==(0:Int))=true→K (V.tup [V.int .i64 (0:Int),V.int .i64 (-1:Int)]))∧((d==(0:Int))=false→((d==(1:Int))=true→K (V.tup [V.int .i64 (1:Int),V.int .i64 (0:Int)]))∧((d==(1:Int))=false→((d==(2:Int))=true→
 K (V.tup [V.int .i64 (0:Int),V.int .i64 (1:Int)]))∧((d==(2:Int))=false→K (V.tup [V.int .i64 (-1:Int),V.int .i64 (0:Int)]))))
def VC_impl_board_colour (wr:List UInt8)(ww:Int)(wh:Int)(wc:List UInt8)(wx:Int)(wy:Int)(wd:Int)(x:Int)(y:Int)(K:V → Prop):Prop:=
 At ((0:Int)≤IntKind.wrap .i64 (IntKind.wrap .i64 (y * ww) + x)∧IntKind.wrap .i64 (IntKind.wrap .i64 (y * ww) + x) < (↑(List.length wc):Int))∧
 At ((0:Int)≤(↑(UInt8.toNat (List.getD wc (Int.toNat (IntKind.wrap .i64 (IntKind.wrap .i64 (y * ww) + x))) (0:UInt8))):Int)∧
 (↑(UInt8.toNat (List.getD wc (Int.toNat (IntKind.wrap .i64 (IntKind.wrap .i64 (y * ww) + x))) (0:UInt8))):Int) < (256:Int))∧
 K (V.int .i64 ((↑(UInt8.toNat (List.getD wc (Int.toNat (IntKind.wrap .i64 (IntKind.wrap .i64 (y * ww) + x))) (0:UInt8))):Int) - (48:Int)))
def VC_impl_board_painted (wr:List UInt8)(ww:Int)(wh:Int)(wc:List UInt8)(wx:Int)(wy:Int)(wd:Int)(x:Int)(y:Int)(k:Int)(K:V → Prop):Prop:=
 True∧At ((0:Int)≤IntKind.wrap .i64 (IntKind.wrap .i64 (y * ww) + x)∧IntKind.wrap .i64 (IntKind.wrap .i64 (y * ww) + x)≤(↑(List.length wc):Int))∧At ((0:Int)≤k∧k≤(9:Int))∧
 At (List.length (List.take (Int.toNat (IntKind.wrap .i64 (IntKind.wrap .i64 (y * ww) + x))) wc) + List.length (num1 k)≤(9223372036854775807:Nat))∧
 At ((0:Int)≤IntKind.wrap .i64 (IntKind.wrap .i64 (IntKind.wrap .i64 (y * ww) + x) + (1:Int))∧IntKind.wrap .i64 (IntKind.wrap .i64 (IntKind.wrap .i64 (y * ww) + x) + (1:Int))≤(↑(List.length wc):Int))∧
 At (List.length (List.take (Int.toNat (IntKind.wrap .i64 (IntKind.wrap .i64 (y * ww) + x))) wc ++ num1 k) + List.length (List.drop (Int.toNat (IntKind.wrap .i64 (IntKind.wrap .i64 (IntKind.wrap .i64 (y * ww) + x) + (1:Int)))) wc)≤(9223372036854775807:Nat))∧
 K (V.agg [V.str wr,V.int .i64 ww,V.int .i64 wh,V.str (List.take (Int.toNat (IntKind.wrap .i64 (IntKind.wrap .i64 (y * ww) + x))) wc ++ num1 k ++ List.drop (Int.toNat (IntKind.wrap .i64 (IntKind.wrap .i64 (IntKind.wrap .i64 (y * ww) + x) + (1:Int)))) wc),V.int .i64 wx,V.int .i64 wy,V.int .i64 wd])
def VC_impl_board_turned (wr:List UInt8)(ww:Int)(wh:Int)(wc:List UInt8)(wx:Int)(wy:Int)(wd:Int)(q:Int)(K:V → Prop):Prop:=
 At ((4:Int) ≠ (0:Int))∧K (V.agg [V.str wr,V.int .i64 ww,V.int .i64 wh,V.str wc,V.int .i64 wx,V.int .i64 wy,V.int .i64 (Int.tmod (IntKind.wrap .i64 (wd + q)) (4:Int))])
def VC_impl_board_moved (wr:List UInt8)(ww:Int)(wh:Int)(wc:List UInt8)(wx:Int)(wy:Int)(wd:Int)(k:Int)(K:V → Prop):Prop:=
 At True∧At (ww ≠ (0:Int))∧At (wh ≠ (0:Int))∧
 K (V.agg [V.str wr,V.int .i64 ww,V.int .i64 wh,V.str wc,V.int .i64 (Int.tmod (IntKind.wrap .i64 (IntKind.wrap .i64 (wx + IntKind.wrap .i64 (k * dirX wd)) + ww)) ww),V.int .i64 (Int.tmod (IntKind.wrap .i64 (IntKind.wrap .i64 (wy + IntKind.wrap .i64 (k * dirY wd)) + wh)) wh),V.int .i64 wd])
def VC_spec_taGo (k:Int)(s:Int)(i:Int)(n:Nat)(c:List Sc)(w:Int)(h:Int)(u:List UInt8)(x:Int)(y:Int)(d:Int)(q:Int)(K:V → List Blk → Prop):Prop:=
 ((d==(0:Int))=true→True∧At ((1:Int)≤h∧h≤(1000:Int)∧(-1000000:Int)≤IntKind.wrap .i64 (y - k)∧IntKind.wrap .i64 (y - k)≤(1000000:Int))∧
 K (V.tup []) [⟨Cells.vals [V.int .i64 s,V.int .i64 i,V.row (1:Nat) n,V.int .i64 w,V.int .i64 h,V.str u,V.int .i64 x,V.int .i64 (IntKind.wrap .i64 (y - k) % h),V.int .i64 d,V.int .i64 q],33,Kind.box⟩,⟨Cells.recs [Sh.int IntKind.i64,Sh.str,Sh.int IntKind.i64] c,96,Kind.rows (3:Nat)⟩])∧
 ((d==(0:Int))=false→((d==(1:Int))=true→True∧At ((1:Int)≤w∧w≤(1000:Int)∧(-1000000:Int)≤IntKind.wrap .i64 (x + k)∧IntKind.wrap .i64 (x + k)≤(1000000:Int))∧
 K (V.tup []) [⟨Cells.vals [V.int .i64 s,V.int .i64 i,V.row (1:Nat) n,V.int .i64 w,V.int .i64 h,V.str u,V.int .i64 (IntKind.wrap .i64 (x + k) % w),V.int .i64 y,V.int .i64 d,V.int .i64 q],33,Kind.box⟩,⟨Cells.recs [Sh.int IntKind.i64,Sh.str,Sh.int IntKind.i64] c,96,Kind.rows (3:Nat)⟩])∧
 ((d==(1:Int))=false→((d==(2:Int))=true→True∧At ((1:Int)≤h∧h≤(1000:Int)∧(-1000000:Int)≤IntKind.wrap .i64 (y + k)∧IntKind.wrap .i64 (y + k)≤(1000000:Int))∧
 K (V.tup []) [⟨Cells.vals [V.int .i64 s,V.int .i64 i,V.row (1:Nat) n,V.int .i64 w,V.int .i64 h,V.str u,V.int .i64 x,V.int .i64 (IntKind.wrap .i64 (y + k) % h),V.int .i64 d,V.int .i64 q],33,Kind.box⟩,⟨Cells.recs [Sh.int IntKind.i64,Sh.str,Sh.int IntKind.i64] c,96,Kind.rows (3:Nat)⟩])∧
 ((d==(2:Int))=false→True∧At ((1:Int)≤w∧w≤(1000:Int)∧(-1000000:Int)≤IntKind.wrap .i64 (x - k)∧IntKind.wrap .i64 (x - k)≤(1000000:Int))∧
 K (V.tup []) [⟨Cells.vals [V.int .i64 s,V.int .i64 i,V.row (1:Nat) n,V.int .i64 w,V.int .i64 h,V.str u,V.int .i64 (IntKind.wrap .i64 (x - k) % w),V.int .i64 y,V.int .i64 d,V.int .i64 q],33,Kind.box⟩,⟨Cells.recs [Sh.int IntKind.i64,Sh.str,Sh.int IntKind.i64] c,96,Kind.rows (3:Nat)⟩])))
def VC_spec_taPaint (k:Int)(s:Int)(i:Int)(n:Nat)(c:List Sc)(w:Int)(h:Int)(u:List UInt8)(x:Int)(y:Int)(d:Int)(q:Int)(K:V → List Blk → Prop):Prop:=
 True∧At ((0:Int)≤IntKind.wrap .i64 (IntKind.wrap .i64 (y * w) + x)∧IntKind.wrap .i64 (IntKind.wrap .i64 (y * w) + x) < (↑(List.length u):Int))∧True∧At ((0:Int)≤IntKind.wrap .i64 (IntKind.wrap .i64 (y * w) + x)∧
 IntKind.wrap .i64 (IntKind.wrap .i64 (y * w) + x)≤(↑(List.length u):Int))∧At ((0:Int)≤k∧k≤(9:Int))∧
 At (List.length (List.take (Int.toNat (IntKind.wrap .i64 (IntKind.wrap .i64 (y * w) + x))) u) + List.length (num1 k)≤(9223372036854775807:Nat))∧
 At ((0:Int)≤IntKind.wrap .i64 (IntKind.wrap .i64 (IntKind.wrap .i64 (y * w) + x) + (1:Int))∧IntKind.wrap .i64 (IntKind.wrap .i64 (IntKind.wrap .i64 (y * w) + x) + (1:Int))≤(↑(List.length u):Int))∧
 At (List.length (List.take (Int.toNat (IntKind.wrap .i64 (IntKind.wrap .i64 (y * w) + x))) u ++ num1 k) + List.length (List.drop (Int.toNat (IntKind.wrap .i64 (IntKind.wrap .i64 (IntKind.wrap .i64 (y * w) + x) + (1:Int)))) u)≤(9223372036854775807:Nat))∧
 K (V.int .i64 (IntKind.wrap .i64 (IntKind.wrap IntKind.u8 ((↑(UInt8.toNat (List.getD u (Int.toNat (IntKind.wrap .i64 (IntKind.wrap .i64 (y * w) + x))) (0:UInt8))):Int) - (48:Int))))) [⟨Cells.vals [V.int .i64 s,V.int .i64 i,V.row (1:Nat) n,V.int .i64 w,V.int .i64 h,V.str (List.take (Int.toNat (IntKind.wrap .i64 (IntKind.wrap .i64 (y * w) + x))) u ++ num1 k ++ List.drop (Int.toNat (IntKind.wrap .i64 (IntKind.wrap .i64 (IntKind.wrap .i64 (y * w) + x) + (1:Int)))) u),V.int .i64 x,V.int .i64 y,V.int .i64 d,V.int .i64 q],33,Kind.box⟩,⟨Cells.recs [Sh.int IntKind.i64,Sh.str,Sh.int IntKind.i64] c,96,Kind.rows (3:Nat)⟩]
def VC_spec_taOwn (s:Int)(i:Int)(n:Nat)(c:List Sc)(w:Int)(h:Int)(u:List UInt8)(x:Int)(y:Int)(d:Int)(q:Int)(K:V → List Blk → Prop):Prop:=
 At ((List.length ([]:List Sc)=(0:Nat) * (3:Nat)∧n * (3:Nat)≤List.length c)∧posM (rowKind (3:Nat)) n∧(0:Nat) + n≤(1000000000:Nat))∧
 K (V.agg [V.int .i64 s,V.int .i64 i,V.row (4:Nat) ((0:Nat) + n),V.int .i64 w,V.int .i64 h,V.str u,V.int .i64 x,V.int .i64 y,V.int .i64 d,V.int .i64 q]) [⟨Cells.recs [Sh.int IntKind.i64,Sh.str,Sh.int IntKind.i64] c,96,Kind.rows (3:Nat)⟩,⟨Cells.vals [V.int .i64 s,V.int .i64 i,V.row (4:Nat) ((0:Nat) + n),V.int .i64 w,V.int .i64 h,V.str u,V.int .i64 x,V.int .i64 y,V.int .i64 d,V.int .i64 q],33,Kind.box⟩,⟨Cells.vals [V.int .i64 s,V.int .i64 i,V.row (4:Nat) ((0:Nat) + n),V.int .i64 w,V.int .i64 h,V.str u,V.int .i64 x,V.int .i64 y,V.int .i64 d,V.int .i64 q],33,Kind.box⟩,⟨Cells.dead,96,Kind.rows (3:Nat)⟩,⟨Cells.recs [Sh.int IntKind.i64,Sh.str,Sh.int IntKind.i64] (([]:List Sc) ++ List.take (n * (3:Nat)) c),96,Kind.rows (3:Nat)⟩]
def VC_impl_rowAt (q:Int)(k:Int)(s:Int)(i:Int)(n:Nat)(c:List Sc)(K:V → List Blk → Prop):Prop:=
 At ((0:Int)≤IntKind.wrap .i64 (IntKind.wrap .i64 (q * i) + k)∧IntKind.wrap .i64 (IntKind.wrap .i64 (q * i) + k) < (↑n:Int))∧
 At (Int.toNat (IntKind.wrap .i64 (IntKind.wrap .i64 (q * i) + k)) * (3:Nat) + (3:Nat)≤List.length c∧Int.toNat (IntKind.wrap .i64 (IntKind.wrap .i64 (q * i) + k)) * (3:Nat) % (3:Nat)=(0:Nat))∧
 K (V.agg [V.int .i64 (Sc.i (List.getD c (Int.toNat (IntKind.wrap .i64 (IntKind.wrap .i64 (q * i) + k)) * (3:Nat)) (Sc.mk ((0:Int)) ([])))),V.str (Sc.s (List.getD c (Int.toNat (IntKind.wrap .i64 (IntKind.wrap .i64 (q * i) + k)) * (3:Nat) + (1:Nat)) (Sc.mk ((0:Int)) ([])))),V.int .i64 (Sc.i (List.getD c (Int.toNat (IntKind.wrap .i64 (IntKind.wrap .i64 (q * i) + k)) * (3:Nat) + (1:Nat) + (1:Nat)) (Sc.mk ((0:Int)) ([]))))]) [⟨Cells.recs [Sh.int IntKind.i64,Sh.str,Sh.int IntKind.i64] c,96,Kind.rows (3:Nat)⟩,⟨Cells.vals [V.int .i64 s,V.int .i64 i,V.row (0:Nat) n],31,Kind.box⟩,⟨Cells.vals [V.int .i64 (Sc.i (List.getD c (Int.toNat (IntKind.wrap .i64 (IntKind.wrap .i64 (q * i) + k)) * (3:Nat)) (Sc.mk ((0:Int)) ([])))),V.str (Sc.s (List.getD c (Int.toNat (IntKind.wrap .i64 (IntKind.wrap .i64 (q * i) + k)) * (3:Nat) + (1:Nat)) (Sc.mk ((0:Int)) ([])))),V.int .i64 (Sc.i (List.getD c (Int.toNat (IntKind.wrap .i64 (IntKind.wrap .i64 (q * i) + k)) * (3:Nat) + (1:Nat) + (1:Nat)) (Sc.mk ((0:Int)) ([]))))],96,Kind.box⟩]
def VC_impl_actor_scene_q1 (w:Int)(h:Int)(u:List UInt8)(x:Int)(y:Int)(d:Int)(q:Int)(s:Int)(i:Int)(n:Nat)(c:List Sc):Prop:=
 (At (is3 c n∧n≤(2000000:Nat)∧(1:Nat)≤n)∧(True∧(((1:Nat)=(1:Nat)∧(0:Nat)=(0:Nat))∧((2:Nat)=(2:Nat)∧(0:Nat)=(0:Nat))∧((3:Nat)=(3:Nat)∧(0:Nat)=(0:Nat))∧True)∧((True∧True∧c=c)∧(True∧nilB=nilB∧(True∧w=w)∧(True∧h=h)∧u=u∧(True∧
 x=x)∧(True∧y=y)∧(True∧d=d)∧(True∧q=q)∧True)∧(True∧(True∧s=s)∧(True∧i=i)∧((0:Nat)=(0:Nat)∧n=n)∧True)∧(True∧(True∧s=s)∧(True∧i=i)∧((4:Nat)=(4:Nat)∧n=n)∧(True∧w=w)∧(True∧h=h)∧u=u∧(True∧x=x)∧(True∧y=y)∧(True∧d=d)∧(True∧q=q)∧
 True)∧(True∧True∧c=c)∧True)∧True)∧True)
def VC_impl_actor_scene (w:Int)(h:Int)(u:List UInt8)(x:Int)(y:Int)(d:Int)(q:Int)(s:Int)(i:Int)(n:Nat)(c:List Sc)(K:V → List Blk → Prop):Prop:=
 ((VC_impl_actor_scene_q1 w h u x y d q s i n c)∧((VC_impl_actor_scene_q1 w h u x y d q s i n c)∧((VC_impl_actor_scene_q1 w h u x y d q s i n c)∧((VC_impl_actor_scene_q1 w h u x y d q s i n c)∧
 ((VC_impl_actor_scene_q1 w h u x y d q s i n c)∧((VC_impl_actor_scene_q1 w h u x y d q s i n c)∧((VC_impl_actor_scene_q1 w h u x y d q s i n c)∧((VC_impl_actor_scene_q1 w h u x y d q s i n c)∧True)∧True)∧
 ((VC_impl_actor_scene_q1 w h u x y d q s i n c)∧True)∧True)∧((VC_impl_actor_scene_q1 w h u x y d q s i n c)∧((VC_impl_actor_scene_q1 w h u x y d q s i n c)∧True)∧True)∧((VC_impl_actor_scene_q1 w h u x y d q s i n c)∧
 True)∧True)∧((VC_impl_actor_scene_q1 w h u x y d q s i n c)∧((VC_impl_actor_scene_q1 w h u x y d q s i n c)∧((VC_impl_actor_scene_q1 w h u x y d q s i n c)∧True)∧True)∧((VC_impl_actor_scene_q1 w h u x y d q s i n c)∧
 True)∧True)∧((VC_impl_actor_scene_q1 w h u x y d q s i n c)∧((VC_impl_actor_scene_q1 w h u x y d q s i n c)∧True)∧True)∧((VC_impl_actor_scene_q1 w h u x y d q s i n c)∧True)∧True)∧
 ((VC_impl_actor_scene_q1 w h u x y d q s i n c)∧((VC_impl_actor_scene_q1 w h u x y d q s i n c)∧((VC_impl_actor_scene_q1 w h u x y d q s i n c)∧((VC_impl_actor_scene_q1 w h u x y d q s i n c)∧True)∧True)∧
 ((VC_impl_actor_scene_q1 w h u x y d q s i n c)∧True)∧True)∧((VC_impl_actor_scene_q1 w h u x y d q s i n c)∧((VC_impl_actor_scene_q1 w h u x y d q s i n c)∧True)∧True)∧((VC_impl_actor_scene_q1 w h u x y d q s i n c)∧
 True)∧True)∧((VC_impl_actor_scene_q1 w h u x y d q s i n c)∧((VC_impl_actor_scene_q1 w h u x y d q s i n c)∧((VC_impl_actor_scene_q1 w h u x y d q s i n c)∧True)∧True)∧((VC_impl_actor_scene_q1 w h u x y d q s i n c)∧
 True)∧True)∧((VC_impl_actor_scene_q1 w h u x y d q s i n c)∧((VC_impl_actor_scene_q1 w h u x y d q s i n c)∧True)∧True)∧((VC_impl_actor_scene_q1 w h u x y d q s i n c)∧True)∧True)∧
 ((VC_impl_actor_scene_q1 w h u x y d q s i n c)∧((VC_impl_actor_scene_q1 w h u x y d q s i n c)∧((VC_impl_actor_scene_q1 w h u x y d q s i n c)∧((VC_impl_actor_scene_q1 w h u x y d q s i n c)∧
 ((VC_impl_actor_scene_q1 w h u x y d q s i n c)∧True)∧True)∧((VC_impl_actor_scene_q1 w h u x y d q s i n c)∧True)∧True)∧((VC_impl_actor_scene_q1 w h u x y d q s i n c)∧((VC_impl_actor_scene_q1 w h u x y d q s i n c)∧
 True)∧True)∧((VC_impl_actor_scene_q1 w h u x y d q s i n c)∧True)∧True)∧((VC_impl_actor_scene_q1 w h u x y d q s i n c)∧((VC_impl_actor_scene_q1 w h u x y d q s i n c)∧((VC_impl_actor_scene_q1 w h u x y d q s i n c)∧
 True)∧True)∧((VC_impl_actor_scene_q1 w h u x y d q s i n c)∧True)∧True)∧((VC_impl_actor_scene_q1 w h u x y d q s i n c)∧((VC_impl_actor_scene_q1 w h u x y d q s i n c)∧True)∧True)∧
 ((VC_impl_actor_scene_q1 w h u x y d q s i n c)∧True)∧True)∧((VC_impl_actor_scene_q1 w h u x y d q s i n c)∧((VC_impl_actor_scene_q1 w h u x y d q s i n c)∧((VC_impl_actor_scene_q1 w h u x y d q s i n c)∧
 ((VC_impl_actor_scene_q1 w h u x y d q s i n c)∧True)∧True)∧((VC_impl_actor_scene_q1 w h u x y d q s i n c)∧True)∧True)∧((VC_impl_actor_scene_q1 w h u x y d q s i n c)∧((VC_impl_actor_scene_q1 w h u x y d q s i n c)∧
 True)∧True)∧((VC_impl_actor_scene_q1 w h u x y d q s i n c)∧True)∧True)∧((VC_impl_actor_scene_q1 w h u x y d q s i n c)∧((VC_impl_actor_scene_q1 w h u x y d q s i n c)∧((VC_impl_actor_scene_q1 w h u x y d q s i n c)∧
 True)∧True)∧((VC_impl_actor_scene_q1 w h u x y d q s i n c)∧True)∧True)∧((VC_impl_actor_scene_q1 w h u x y d q s i n c)∧((VC_impl_actor_scene_q1 w h u x y d q s i n c)∧True)∧True)∧
 ((VC_impl_actor_scene_q1 w h u x y d q s i n c)∧True)∧True)∧((VC_impl_actor_scene_q1 w h u x y d q s i n c)∧((VC_impl_actor_scene_q1 w h u x y d q s i n c)∧((VC_impl_actor_scene_q1 w h u x y d q s i n c)∧
 ((VC_impl_actor_scene_q1 w h u x y d q s i n c)∧((VC_impl_actor_scene_q1 w h u x y d q s i n c)∧((VC_impl_actor_scene_q1 w h u x y d q s i n c)∧True)∧True)∧((VC_impl_actor_scene_q1 w h u x y d q s i n c)∧True)∧True)∧
 ((VC_impl_actor_scene_q1 w h u x y d q s i n c)∧((VC_impl_actor_scene_q1 w h u x y d q s i n c)∧True)∧True)∧((VC_impl_actor_scene_q1 w h u x y d q s i n c)∧True)∧True)∧((VC_impl_actor_scene_q1 w h u x y d q s i n c)∧
 ((VC_impl_actor_scene_q1 w h u x y d q s i n c)∧((VC_impl_actor_scene_q1 w h u x y d q s i n c)∧True)∧True)∧((VC_impl_actor_scene_q1 w h u x y d q s i n c)∧True)∧True)∧((VC_impl_actor_scene_q1 w h u x y d q s i n c)∧
 ((VC_impl_actor_scene_q1 w h u x y d q s i n c)∧True)∧True)∧((VC_impl_actor_scene_q1 w h u x y d q s i n c)∧True)∧True)∧((VC_impl_actor_scene_q1 w h u x y d q s i n c)∧((VC_impl_actor_scene_q1 w h u x y d q s i n c)∧
 ((VC_impl_actor_scene_q1 w h u x y d q s i n c)∧((VC_impl_actor_scene_q1 w h u x y d q s i n c)∧True)∧True)∧((VC_impl_actor_scene_q1 w h u x y d q s i n c)∧True)∧True)∧((VC_impl_actor_scene_q1 w h u x y d q s i n c)∧
 ((VC_impl_actor_scene_q1 w h u x y d q s i n c)∧True)∧True)∧((VC_impl_actor_scene_q1 w h u x y d q s i n c)∧True)∧True)∧((VC_impl_actor_scene_q1 w h u x y d q s i n c)∧((VC_impl_actor_scene_q1 w h u x y d q s i n c)∧
 ((VC_impl_actor_scene_q1 w h u x y d q s i n c)∧True)∧True)∧((VC_impl_actor_scene_q1 w h u x y d q s i n c)∧True)∧True)∧((VC_impl_actor_scene_q1 w h u x y d q s i n c)∧((VC_impl_actor_scene_q1 w h u x y d q s i n c)∧
 True)∧True)∧((VC_impl_actor_scene_q1 w h u x y d q s i n c)∧True)∧True)∧((VC_impl_actor_scene_q1 w h u x y d q s i n c)∧((VC_impl_actor_scene_q1 w h u x y d q s i n c)∧((VC_impl_actor_scene_q1 w h u x y d q s i n c)∧
 ((VC_impl_actor_scene_q1 w h u x y d q s i n c)∧((VC_impl_actor_scene_q1 w h u x y d q s i n c)∧True)∧True)∧((VC_impl_actor_scene_q1 w h u x y d q s i n c)∧True)∧True)∧((VC_impl_actor_scene_q1 w h u x y d q s i n c)∧
 ((VC_impl_actor_scene_q1 w h u x y d q s i n c)∧True)∧True)∧((VC_impl_actor_scene_q1 w h u x y d q s i n c)∧True)∧True)∧((VC_impl_actor_scene_q1 w h u x y d q s i n c)∧((VC_impl_actor_scene_q1 w h u x y d q s i n c)∧
 ((VC_impl_actor_scene_q1 w h u x y d q s i n c)∧True)∧True)∧((VC_impl_actor_scene_q1 w h u x y d q s i n c)∧True)∧True)∧((VC_impl_actor_scene_q1 w h u x y d q s i n c)∧((VC_impl_actor_scene_q1 w h u x y d q s i n c)∧
 True)∧True)∧((VC_impl_actor_scene_q1 w h u x y d q s i n c)∧True)∧True)∧((VC_impl_actor_scene_q1 w h u x y d q s i n c)∧((VC_impl_actor_scene_q1 w h u x y d q s i n c)∧((VC_impl_actor_scene_q1 w h u x y d q s i n c)∧
 ((VC_impl_actor_scene_q1 w h u x y d q s i n c)∧True)∧True)∧((VC_impl_actor_scene_q1 w h u x y d q s i n c)∧True)∧True)∧((VC_impl_actor_scene_q1 w h u x y d q s i n c)∧((VC_impl_actor_scene_q1 w h u x y d q s i n c)∧
 True)∧True)∧((VC_impl_actor_scene_q1 w h u x y d q s i n c)∧True)∧True)∧((VC_impl_actor_scene_q1 w h u x y d q s i n c)∧((VC_impl_actor_scene_q1 w h u x y d q s i n c)∧((VC_impl_actor_scene_q1 w h u x y d q s i n c)∧
 True)∧True)∧((VC_impl_actor_scene_q1 w h u x y d q s i n c)∧True)∧True)∧((VC_impl_actor_scene_q1 w h u x y d q s i n c)∧((VC_impl_actor_scene_q1 w h u x y d q s i n c)∧True)∧True)∧
 ((VC_impl_actor_scene_q1 w h u x y d q s i n c)∧True)∧True)∧
 K (V.agg [V.int .i64 s,V.int .i64 i,V.row (4:Nat) n,V.int .i64 w,V.int .i64 h,V.str u,V.int .i64 x,V.int .i64 y,V.int .i64 d,V.int .i64 q]) [⟨Cells.recs [Sh.int IntKind.i64,Sh.str,Sh.int IntKind.i64] c,96,Kind.rows (3:Nat)⟩,⟨Cells.vals [V.str [],V.int .i64 w,V.int .i64 h,V.str u,V.int .i64 x,V.int .i64 y,V.int .i64 d,V.int .i64 q],82,Kind.box⟩,⟨Cells.vals [V.int .i64 s,V.int .i64 i,V.row (0:Nat) n],31,Kind.box⟩,⟨Cells.vals [V.int .i64 s,V.int .i64 i,V.row (4:Nat) n,V.int .i64 w,V.int .i64 h,V.str u,V.int .i64 x,V.int .i64 y,V.int .i64 d,V.int .i64 q],33,Kind.box⟩,⟨Cells.recs [Sh.int IntKind.i64,Sh.str,Sh.int IntKind.i64] c,96,Kind.rows (3:Nat)⟩]
end Go.Vi
