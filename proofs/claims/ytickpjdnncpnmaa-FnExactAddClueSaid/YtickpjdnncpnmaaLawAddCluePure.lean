/- The conditions of FnExactAddClue. -/
import Derived.Test.YtickpjdnncpnmaaPOPf
namespace Go.Vi
set_option linter.unusedVariables false
set_option linter.unusedSimpArgs false
def VC_LawAddClue_q1 (a0r:List UInt8)(a0w:Int)(a0h:Int)(a0cn:Nat)(a0c:List Int)(a1x:Int)(a1y:Int)(a1k:Int):Prop:=
 (True∧(((1:Nat)=(1:Nat)∧(0:Nat)=(0:Nat))∧((2:Nat)=(2:Nat)∧(0:Nat)=(0:Nat))∧((3:Nat)=(3:Nat)∧(0:Nat)=(0:Nat))∧acG a0r a0w a0h a0cn a0c a1x a1y a1k=acG a0r a0w a0h a0cn a0c a1x a1y a1k∧((6:Nat)=(6:Nat)∧(0:Nat)=(0:Nat))∧
 ((7:Nat)=(7:Nat)∧(0:Nat)=(0:Nat))∧acG a0r a0w a0h a0cn a0c a1x a1y a1k=acG a0r a0w a0h a0cn a0c a1x a1y a1k∧True)∧((True∧IntKind.i64=IntKind.i64∧a0c=a0c)∧(True∧a0r=a0r∧(True∧a0w=a0w)∧(True∧a0h=a0h)∧((0:Nat)=(0:Nat)∧
 a0cn=a0cn)∧True)∧(True∧(True∧a1x=a1x)∧(True∧a1y=a1y)∧(True∧a1k=a1k)∧True)∧(True∧acR a0r a0w a0h a0cn a0c a1x a1y a1k=acR a0r a0w a0h a0cn a0c a1x a1y a1k∧(True∧
 acW a0r a0w a0h a0cn a0c a1x a1y a1k=acW a0r a0w a0h a0cn a0c a1x a1y a1k)∧(True∧acH a0r a0w a0h a0cn a0c a1x a1y a1k=acH a0r a0w a0h a0cn a0c a1x a1y a1k)∧((4:Nat)=(4:Nat)∧
 acN a0r a0w a0h a0cn a0c a1x a1y a1k=acN a0r a0w a0h a0cn a0c a1x a1y a1k)∧True)∧(True∧IntKind.i64=IntKind.i64∧acB a0r a0w a0h a0cn a0c a1x a1y a1k=acB a0r a0w a0h a0cn a0c a1x a1y a1k)∧(True∧IntKind.i64=IntKind.i64∧
 a0c=a0c)∧(True∧a0r=a0r∧(True∧a0w=a0w)∧(True∧a0h=a0h)∧((5:Nat)=(5:Nat)∧a0cn=a0cn)∧True)∧(True∧acR a0r a0w a0h a0cn a0c a1x a1y a1k=acR a0r a0w a0h a0cn a0c a1x a1y a1k∧(True∧
 acW a0r a0w a0h a0cn a0c a1x a1y a1k=acW a0r a0w a0h a0cn a0c a1x a1y a1k)∧(True∧acH a0r a0w a0h a0cn a0c a1x a1y a1k=acH a0r a0w a0h a0cn a0c a1x a1y a1k)∧((8:Nat)=(8:Nat)∧
 acN a0r a0w a0h a0cn a0c a1x a1y a1k=acN a0r a0w a0h a0cn a0c a1x a1y a1k)∧True)∧(True∧IntKind.i64=IntKind.i64∧acB a0r a0w a0h a0cn a0c a1x a1y a1k=acB a0r a0w a0h a0cn a0c a1x a1y a1k)∧True)∧True)
def VC_LawAddClue (a0r:List UInt8)(a0w:Int)(a0h:Int)(a0cn:Nat)(a0c:List Int)(a1x:Int)(a1y:Int)(a1k:Int)(K:V → Prop):Prop:=
 At ((0:Int)≤(1048576:Int)∧(1048576:Int)≤(1000000000:Int)∧(↑a0cn:Int)≤(9223372036854775807:Int)∧(↑(List.length a0r):Int)≤(9223372036854775807:Int))∧(decide (szP a0r a0cn (1048576:Int) < (0:Int))=true→K (V.lit true))∧
 (decide (szP a0r a0cn (1048576:Int) < (0:Int))=false→((((At (List.length a0c=a0cn * (3:Nat)∧a0cn≤(2000000:Nat))∧((At True∧(At (List.length a0c=a0cn * (3:Nat)∧a0cn≤(2000000:Nat))∧((True∧(((1:Nat)=(1:Nat)∧(0:Nat)=(0:Nat))∧
 ((2:Nat)=(2:Nat)∧(0:Nat)=(0:Nat))∧((3:Nat)=(3:Nat)∧(0:Nat)=(0:Nat))∧acG a0r a0w a0h a0cn a0c a1x a1y a1k=acG a0r a0w a0h a0cn a0c a1x a1y a1k∧True)∧((True∧IntKind.i64=IntKind.i64∧a0c=a0c)∧(True∧a0r=a0r∧(True∧a0w=a0w)∧
 (True∧a0h=a0h)∧((0:Nat)=(0:Nat)∧a0cn=a0cn)∧True)∧(True∧(True∧a1x=a1x)∧(True∧a1y=a1y)∧(True∧a1k=a1k)∧True)∧(True∧acR a0r a0w a0h a0cn a0c a1x a1y a1k=acR a0r a0w a0h a0cn a0c a1x a1y a1k∧(True∧
 acW a0r a0w a0h a0cn a0c a1x a1y a1k=acW a0r a0w a0h a0cn a0c a1x a1y a1k)∧(True∧acH a0r a0w a0h a0cn a0c a1x a1y a1k=acH a0r a0w a0h a0cn a0c a1x a1y a1k)∧((4:Nat)=(4:Nat)∧
 acN a0r a0w a0h a0cn a0c a1x a1y a1k=acN a0r a0w a0h a0cn a0c a1x a1y a1k)∧True)∧(True∧IntKind.i64=IntKind.i64∧acB a0r a0w a0h a0cn a0c a1x a1y a1k=acB a0r a0w a0h a0cn a0c a1x a1y a1k)∧True)∧True)∧True)∧True)∧
 ((At (List.length a0c=a0cn * (3:Nat)∧a0cn≤(2000000:Nat))∧(True∧(((1:Nat)=(1:Nat)∧(0:Nat)=(0:Nat))∧((2:Nat)=(2:Nat)∧(0:Nat)=(0:Nat))∧((3:Nat)=(3:Nat)∧(0:Nat)=(0:Nat))∧
 acG a0r a0w a0h a0cn a0c a1x a1y a1k=acG a0r a0w a0h a0cn a0c a1x a1y a1k∧True)∧((True∧IntKind.i64=IntKind.i64∧a0c=a0c)∧(True∧a0r=a0r∧(True∧a0w=a0w)∧(True∧a0h=a0h)∧((0:Nat)=(0:Nat)∧a0cn=a0cn)∧True)∧(True∧(True∧a1x=a1x)∧
 (True∧a1y=a1y)∧(True∧a1k=a1k)∧True)∧(True∧acR a0r a0w a0h a0cn a0c a1x a1y a1k=acR a0r a0w a0h a0cn a0c a1x a1y a1k∧(True∧acW a0r a0w a0h a0cn a0c a1x a1y a1k=acW a0r a0w a0h a0cn a0c a1x a1y a1k)∧(True∧
 acH a0r a0w a0h a0cn a0c a1x a1y a1k=acH a0r a0w a0h a0cn a0c a1x a1y a1k)∧((4:Nat)=(4:Nat)∧acN a0r a0w a0h a0cn a0c a1x a1y a1k=acN a0r a0w a0h a0cn a0c a1x a1y a1k)∧True)∧(True∧IntKind.i64=IntKind.i64∧
 acB a0r a0w a0h a0cn a0c a1x a1y a1k=acB a0r a0w a0h a0cn a0c a1x a1y a1k)∧True)∧True)∧True)∧True)∧True)∧((At True∧(At (List.length a0c=a0cn * (3:Nat)∧a0cn≤(2000000:Nat))∧(True∧(((1:Nat)=(1:Nat)∧(0:Nat)=(0:Nat))∧
 ((2:Nat)=(2:Nat)∧(0:Nat)=(0:Nat))∧((3:Nat)=(3:Nat)∧(0:Nat)=(0:Nat))∧acG a0r a0w a0h a0cn a0c a1x a1y a1k=acG a0r a0w a0h a0cn a0c a1x a1y a1k∧True)∧((True∧IntKind.i64=IntKind.i64∧a0c=a0c)∧(True∧a0r=a0r∧(True∧a0w=a0w)∧
 (True∧a0h=a0h)∧((0:Nat)=(0:Nat)∧a0cn=a0cn)∧True)∧(True∧(True∧a1x=a1x)∧(True∧a1y=a1y)∧(True∧a1k=a1k)∧True)∧(True∧acR a0r a0w a0h a0cn a0c a1x a1y a1k=acR a0r a0w a0h a0cn a0c a1x a1y a1k∧(True∧
 acW a0r a0w a0h a0cn a0c a1x a1y a1k=acW a0r a0w a0h a0cn a0c a1x a1y a1k)∧(True∧acH a0r a0w a0h a0cn a0c a1x a1y a1k=acH a0r a0w a0h a0cn a0c a1x a1y a1k)∧((4:Nat)=(4:Nat)∧
 acN a0r a0w a0h a0cn a0c a1x a1y a1k=acN a0r a0w a0h a0cn a0c a1x a1y a1k)∧True)∧(True∧IntKind.i64=IntKind.i64∧acB a0r a0w a0h a0cn a0c a1x a1y a1k=acB a0r a0w a0h a0cn a0c a1x a1y a1k)∧True)∧True)∧True)∧True)∧True)∧
 True)∧(((At True∧(At (List.length a0c=a0cn * (3:Nat)∧a0cn≤(2000000:Nat))∧(True∧(((1:Nat)=(1:Nat)∧(0:Nat)=(0:Nat))∧((2:Nat)=(2:Nat)∧(0:Nat)=(0:Nat))∧((3:Nat)=(3:Nat)∧(0:Nat)=(0:Nat))∧
 acG a0r a0w a0h a0cn a0c a1x a1y a1k=acG a0r a0w a0h a0cn a0c a1x a1y a1k∧True)∧((True∧IntKind.i64=IntKind.i64∧a0c=a0c)∧(True∧a0r=a0r∧(True∧a0w=a0w)∧(True∧a0h=a0h)∧((0:Nat)=(0:Nat)∧a0cn=a0cn)∧True)∧(True∧(True∧a1x=a1x)∧
 (True∧a1y=a1y)∧(True∧a1k=a1k)∧True)∧(True∧acR a0r a0w a0h a0cn a0c a1x a1y a1k=acR a0r a0w a0h a0cn a0c a1x a1y a1k∧(True∧acW a0r a0w a0h a0cn a0c a1x a1y a1k=acW a0r a0w a0h a0cn a0c a1x a1y a1k)∧(True∧
 acH a0r a0w a0h a0cn a0c a1x a1y a1k=acH a0r a0w a0h a0cn a0c a1x a1y a1k)∧((4:Nat)=(4:Nat)∧acN a0r a0w a0h a0cn a0c a1x a1y a1k=acN a0r a0w a0h a0cn a0c a1x a1y a1k)∧True)∧(True∧IntKind.i64=IntKind.i64∧
 acB a0r a0w a0h a0cn a0c a1x a1y a1k=acB a0r a0w a0h a0cn a0c a1x a1y a1k)∧True)∧True)∧True)∧True)∧True)∧True)∧True)∧((At (List.length a0c=a0cn * (3:Nat)∧a0cn≤(2000000:Nat))∧(At True∧(At (List.length a0c=a0cn * (3:Nat)∧
 a0cn≤(2000000:Nat))∧((True∧(((1:Nat)=(1:Nat)∧(0:Nat)=(0:Nat))∧((2:Nat)=(2:Nat)∧(0:Nat)=(0:Nat))∧((3:Nat)=(3:Nat)∧(0:Nat)=(0:Nat))∧acG a0r a0w a0h a0cn a0c a1x a1y a1k=acG a0r a0w a0h a0cn a0c a1x a1y a1k∧True)∧((True∧
 IntKind.i64=IntKind.i64∧a0c=a0c)∧(True∧a0r=a0r∧(True∧a0w=a0w)∧(True∧a0h=a0h)∧((0:Nat)=(0:Nat)∧a0cn=a0cn)∧True)∧(True∧(True∧a1x=a1x)∧(True∧a1y=a1y)∧(True∧a1k=a1k)∧True)∧(True∧
 acR a0r a0w a0h a0cn a0c a1x a1y a1k=acR a0r a0w a0h a0cn a0c a1x a1y a1k∧(True∧acW a0r a0w a0h a0cn a0c a1x a1y a1k=acW a0r a0w a0h a0cn a0c a1x a1y a1k)∧(True∧
 acH a0r a0w a0h a0cn a0c a1x a1y a1k=acH a0r a0w a0h a0cn a0c a1x a1y a1k)∧((4:Nat)=(4:Nat)∧acN a0r a0w a0h a0cn a0c a1x a1y a1k=acN a0r a0w a0h a0cn a0c a1x a1y a1k)∧True)∧(True∧IntKind.i64=IntKind.i64∧
 acB a0r a0w a0h a0cn a0c a1x a1y a1k=acB a0r a0w a0h a0cn a0c a1x a1y a1k)∧True)∧True)∧True)∧True)∧((At (List.length a0c=a0cn * (3:Nat)∧a0cn≤(2000000:Nat))∧(True∧(((1:Nat)=(1:Nat)∧(0:Nat)=(0:Nat))∧((2:Nat)=(2:Nat)∧
 (0:Nat)=(0:Nat))∧((3:Nat)=(3:Nat)∧(0:Nat)=(0:Nat))∧acG a0r a0w a0h a0cn a0c a1x a1y a1k=acG a0r a0w a0h a0cn a0c a1x a1y a1k∧True)∧((True∧IntKind.i64=IntKind.i64∧a0c=a0c)∧(True∧a0r=a0r∧(True∧a0w=a0w)∧(True∧a0h=a0h)∧
 ((0:Nat)=(0:Nat)∧a0cn=a0cn)∧True)∧(True∧(True∧a1x=a1x)∧(True∧a1y=a1y)∧(True∧a1k=a1k)∧True)∧(True∧acR a0r a0w a0h a0cn a0c a1x a1y a1k=acR a0r a0w a0h a0cn a0c a1x a1y a1k∧(True∧
 acW a0r a0w a0h a0cn a0c a1x a1y a1k=acW a0r a0w a0h a0cn a0c a1x a1y a1k)∧(True∧acH a0r a0w a0h a0cn a0c a1x a1y a1k=acH a0r a0w a0h a0cn a0c a1x a1y a1k)∧((4:Nat)=(4:Nat)∧
 acN a0r a0w a0h a0cn a0c a1x a1y a1k=acN a0r a0w a0h a0cn a0c a1x a1y a1k)∧True)∧(True∧IntKind.i64=IntKind.i64∧acB a0r a0w a0h a0cn a0c a1x a1y a1k=acB a0r a0w a0h a0cn a0c a1x a1y a1k)∧True)∧True)∧True)∧True)∧True)∧
 ((At True∧(At (List.length a0c=a0cn * (3:Nat)∧a0cn≤(2000000:Nat))∧(True∧(((1:Nat)=(1:Nat)∧(0:Nat)=(0:Nat))∧((2:Nat)=(2:Nat)∧(0:Nat)=(0:Nat))∧((3:Nat)=(3:Nat)∧(0:Nat)=(0:Nat))∧
 acG a0r a0w a0h a0cn a0c a1x a1y a1k=acG a0r a0w a0h a0cn a0c a1x a1y a1k∧True)∧((True∧IntKind.i64=IntKind.i64∧a0c=a0c)∧(True∧a0r=a0r∧(True∧a0w=a0w)∧(True∧a0h=a0h)∧((0:Nat)=(0:Nat)∧a0cn=a0cn)∧True)∧(True∧(True∧a1x=a1x)∧
 (True∧a1y=a1y)∧(True∧a1k=a1k)∧True)∧(True∧acR a0r a0w a0h a0cn a0c a1x a1y a1k=acR a0r a0w a0h a0cn a0c a1x a1y a1k∧(True∧acW a0r a0w a0h a0cn a0c a1x a1y a1k=acW a0r a0w a0h a0cn a0c a1x a1y a1k)∧(True∧
 acH a0r a0w a0h a0cn a0c a1x a1y a1k=acH a0r a0w a0h a0cn a0c a1x a1y a1k)∧((4:Nat)=(4:Nat)∧acN a0r a0w a0h a0cn a0c a1x a1y a1k=acN a0r a0w a0h a0cn a0c a1x a1y a1k)∧True)∧(True∧IntKind.i64=IntKind.i64∧
 acB a0r a0w a0h a0cn a0c a1x a1y a1k=acB a0r a0w a0h a0cn a0c a1x a1y a1k)∧True)∧True)∧True)∧True)∧True)∧True)∧((At (List.length a0c=a0cn * (3:Nat)∧a0cn≤(2000000:Nat))∧(At True∧(At (List.length a0c=a0cn * (3:Nat)∧
 a0cn≤(2000000:Nat))∧(True∧(((1:Nat)=(1:Nat)∧(0:Nat)=(0:Nat))∧((2:Nat)=(2:Nat)∧(0:Nat)=(0:Nat))∧((3:Nat)=(3:Nat)∧(0:Nat)=(0:Nat))∧acG a0r a0w a0h a0cn a0c a1x a1y a1k=acG a0r a0w a0h a0cn a0c a1x a1y a1k∧True)∧((True∧
 IntKind.i64=IntKind.i64∧a0c=a0c)∧(True∧a0r=a0r∧(True∧a0w=a0w)∧(True∧a0h=a0h)∧((0:Nat)=(0:Nat)∧a0cn=a0cn)∧True)∧(True∧(True∧a1x=a1x)∧(True∧a1y=a1y)∧(True∧a1k=a1k)∧True)∧(True∧
 acR a0r a0w a0h a0cn a0c a1x a1y a1k=acR a0r a0w a0h a0cn a0c a1x a1y a1k∧(True∧acW a0r a0w a0h a0cn a0c a1x a1y a1k=acW a0r a0w a0h a0cn a0c a1x a1y a1k)∧(True∧
 acH a0r a0w a0h a0cn a0c a1x a1y a1k=acH a0r a0w a0h a0cn a0c a1x a1y a1k)∧((4:Nat)=(4:Nat)∧acN a0r a0w a0h a0cn a0c a1x a1y a1k=acN a0r a0w a0h a0cn a0c a1x a1y a1k)∧True)∧(True∧IntKind.i64=IntKind.i64∧
 acB a0r a0w a0h a0cn a0c a1x a1y a1k=acB a0r a0w a0h a0cn a0c a1x a1y a1k)∧True)∧True)∧True)∧True)∧True)∧True)∧True)∧((At (List.length a0c=a0cn * (3:Nat)∧a0cn≤(2000000:Nat))∧((At True∧(At (List.length a0c=a0cn * (3:Nat)∧
 a0cn≤(2000000:Nat))∧(True∧(((1:Nat)=(1:Nat)∧(0:Nat)=(0:Nat))∧((2:Nat)=(2:Nat)∧(0:Nat)=(0:Nat))∧((3:Nat)=(3:Nat)∧(0:Nat)=(0:Nat))∧acG a0r a0w a0h a0cn a0c a1x a1y a1k=acG a0r a0w a0h a0cn a0c a1x a1y a1k∧True)∧((True∧
 IntKind.i64=IntKind.i64∧a0c=a0c)∧(True∧a0r=a0r∧(True∧a0w=a0w)∧(True∧a0h=a0h)∧((0:Nat)=(0:Nat)∧a0cn=a0cn)∧True)∧(True∧(True∧a1x=a1x)∧(True∧a1y=a1y)∧(True∧a1k=a1k)∧True)∧(True∧
 acR a0r a0w a0h a0cn a0c a1x a1y a1k=acR a0r a0w a0h a0cn a0c a1x a1y a1k∧(True∧acW a0r a0w a0h a0cn a0c a1x a1y a1k=acW a0r a0w a0h a0cn a0c a1x a1y a1k)∧(True∧
 acH a0r a0w a0h a0cn a0c a1x a1y a1k=acH a0r a0w a0h a0cn a0c a1x a1y a1k)∧((4:Nat)=(4:Nat)∧acN a0r a0w a0h a0cn a0c a1x a1y a1k=acN a0r a0w a0h a0cn a0c a1x a1y a1k)∧True)∧(True∧IntKind.i64=IntKind.i64∧
 acB a0r a0w a0h a0cn a0c a1x a1y a1k=acB a0r a0w a0h a0cn a0c a1x a1y a1k)∧True)∧True)∧True)∧True)∧True)∧True)∧((At (List.length a0c=a0cn * (3:Nat)∧a0cn≤(2000000:Nat))∧(At True∧(At (List.length a0c=a0cn * (3:Nat)∧
 a0cn≤(2000000:Nat))∧(True∧(((1:Nat)=(1:Nat)∧(0:Nat)=(0:Nat))∧((2:Nat)=(2:Nat)∧(0:Nat)=(0:Nat))∧((3:Nat)=(3:Nat)∧(0:Nat)=(0:Nat))∧acG a0r a0w a0h a0cn a0c a1x a1y a1k=acG a0r a0w a0h a0cn a0c a1x a1y a1k∧True)∧((True∧
 IntKind.i64=IntKind.i64∧a0c=a0c)∧(True∧a0r=a0r∧(True∧a0w=a0w)∧(True∧a0h=a0h)∧((0:Nat)=(0:Nat)∧a0cn=a0cn)∧True)∧(True∧(True∧a1x=a1x)∧(True∧a1y=a1y)∧(True∧a1k=a1k)∧True)∧(True∧
 acR a0r a0w a0h a0cn a0c a1x a1y a1k=acR a0r a0w a0h a0cn a0c a1x a1y a1k∧(True∧acW a0r a0w a0h a0cn a0c a1x a1y a1k=acW a0r a0w a0h a0cn a0c a1x a1y a1k)∧(True∧
 acH a0r a0w a0h a0cn a0c a1x a1y a1k=acH a0r a0w a0h a0cn a0c a1x a1y a1k)∧((4:Nat)=(4:Nat)∧acN a0r a0w a0h a0cn a0c a1x a1y a1k=acN a0r a0w a0h a0cn a0c a1x a1y a1k)∧True)∧(True∧IntKind.i64=IntKind.i64∧
 acB a0r a0w a0h a0cn a0c a1x a1y a1k=acB a0r a0w a0h a0cn a0c a1x a1y a1k)∧True)∧True)∧True)∧True)∧True)∧True)∧True)∧True)∧(((At (List.length a0c=a0cn * (3:Nat)∧a0cn≤(2000000:Nat))∧(At True∧
 (At (List.length a0c=a0cn * (3:Nat)∧a0cn≤(2000000:Nat))∧((True∧(((1:Nat)=(1:Nat)∧(0:Nat)=(0:Nat))∧((2:Nat)=(2:Nat)∧(0:Nat)=(0:Nat))∧((3:Nat)=(3:Nat)∧(0:Nat)=(0:Nat))∧
 acG a0r a0w a0h a0cn a0c a1x a1y a1k=acG a0r a0w a0h a0cn a0c a1x a1y a1k∧True)∧((True∧IntKind.i64=IntKind.i64∧a0c=a0c)∧(True∧a0r=a0r∧(True∧a0w=a0w)∧(True∧a0h=a0h)∧((0:Nat)=(0:Nat)∧a0cn=a0cn)∧True)∧(True∧(True∧a1x=a1x)∧
 (True∧a1y=a1y)∧(True∧a1k=a1k)∧True)∧(True∧acR a0r a0w a0h a0cn a0c a1x a1y a1k=acR a0r a0w a0h a0cn a0c a1x a1y a1k∧(True∧acW a0r a0w a0h a0cn a0c a1x a1y a1k=acW a0r a0w a0h a0cn a0c a1x a1y a1k)∧(True∧
 acH a0r a0w a0h a0cn a0c a1x a1y a1k=acH a0r a0w a0h a0cn a0c a1x a1y a1k)∧((4:Nat)=(4:Nat)∧acN a0r a0w a0h a0cn a0c a1x a1y a1k=acN a0r a0w a0h a0cn a0c a1x a1y a1k)∧True)∧(True∧IntKind.i64=IntKind.i64∧
 acB a0r a0w a0h a0cn a0c a1x a1y a1k=acB a0r a0w a0h a0cn a0c a1x a1y a1k)∧True)∧True)∧True)∧True)∧((At (List.length a0c=a0cn * (3:Nat)∧a0cn≤(2000000:Nat))∧(True∧(((1:Nat)=(1:Nat)∧(0:Nat)=(0:Nat))∧((2:Nat)=(2:Nat)∧
 (0:Nat)=(0:Nat))∧((3:Nat)=(3:Nat)∧(0:Nat)=(0:Nat))∧acG a0r a0w a0h a0cn a0c a1x a1y a1k=acG a0r a0w a0h a0cn a0c a1x a1y a1k∧True)∧((True∧IntKind.i64=IntKind.i64∧a0c=a0c)∧(True∧a0r=a0r∧(True∧a0w=a0w)∧(True∧a0h=a0h)∧
 ((0:Nat)=(0:Nat)∧a0cn=a0cn)∧True)∧(True∧(True∧a1x=a1x)∧(True∧a1y=a1y)∧(True∧a1k=a1k)∧True)∧(True∧acR a0r a0w a0h a0cn a0c a1x a1y a1k=acR a0r a0w a0h a0cn a0c a1x a1y a1k∧(True∧
 acW a0r a0w a0h a0cn a0c a1x a1y a1k=acW a0r a0w a0h a0cn a0c a1x a1y a1k)∧(True∧acH a0r a0w a0h a0cn a0c a1x a1y a1k=acH a0r a0w a0h a0cn a0c a1x a1y a1k)∧((4:Nat)=(4:Nat)∧
 acN a0r a0w a0h a0cn a0c a1x a1y a1k=acN a0r a0w a0h a0cn a0c a1x a1y a1k)∧True)∧(True∧IntKind.i64=IntKind.i64∧acB a0r a0w a0h a0cn a0c a1x a1y a1k=acB a0r a0w a0h a0cn a0c a1x a1y a1k)∧True)∧True)∧True)∧True)∧True)∧
 ((At True∧(At (List.length a0c=a0cn * (3:Nat)∧a0cn≤(2000000:Nat))∧(True∧(((1:Nat)=(1:Nat)∧(0:Nat)=(0:Nat))∧((2:Nat)=(2:Nat)∧(0:Nat)=(0:Nat))∧((3:Nat)=(3:Nat)∧(0:Nat)=(0:Nat))∧
 acG a0r a0w a0h a0cn a0c a1x a1y a1k=acG a0r a0w a0h a0cn a0c a1x a1y a1k∧True)∧((True∧IntKind.i64=IntKind.i64∧a0c=a0c)∧(True∧a0r=a0r∧(True∧a0w=a0w)∧(True∧a0h=a0h)∧((0:Nat)=(0:Nat)∧a0cn=a0cn)∧True)∧(True∧(True∧a1x=a1x)∧
 (True∧a1y=a1y)∧(True∧a1k=a1k)∧True)∧(True∧acR a0r a0w a0h a0cn a0c a1x a1y a1k=acR a0r a0w a0h a0cn a0c a1x a1y a1k∧(True∧acW a0r a0w a0h a0cn a0c a1x a1y a1k=acW a0r a0w a0h a0cn a0c a1x a1y a1k)∧(True∧
 acH a0r a0w a0h a0cn a0c a1x a1y a1k=acH a0r a0w a0h a0cn a0c a1x a1y a1k)∧((4:Nat)=(4:Nat)∧acN a0r a0w a0h a0cn a0c a1x a1y a1k=acN a0r a0w a0h a0cn a0c a1x a1y a1k)∧True)∧(True∧IntKind.i64=IntKind.i64∧
 acB a0r a0w a0h a0cn a0c a1x a1y a1k=acB a0r a0w a0h a0cn a0c a1x a1y a1k)∧True)∧True)∧True)∧True)∧True)∧True)∧((At (List.length a0c=a0cn * (3:Nat)∧a0cn≤(2000000:Nat))∧(At True∧(At (List.length a0c=a0cn * (3:Nat)∧
 a0cn≤(2000000:Nat))∧(True∧(((1:Nat)=(1:Nat)∧(0:Nat)=(0:Nat))∧((2:Nat)=(2:Nat)∧(0:Nat)=(0:Nat))∧((3:Nat)=(3:Nat)∧(0:Nat)=(0:Nat))∧acG a0r a0w a0h a0cn a0c a1x a1y a1k=acG a0r a0w a0h a0cn a0c a1x a1y a1k∧True)∧((True∧
 IntKind.i64=IntKind.i64∧a0c=a0c)∧(True∧a0r=a0r∧(True∧a0w=a0w)∧(True∧a0h=a0h)∧((0:Nat)=(0:Nat)∧a0cn=a0cn)∧True)∧(True∧(True∧a1x=a1x)∧(True∧a1y=a1y)∧(True∧a1k=a1k)∧True)∧(True∧
 acR a0r a0w a0h a0cn a0c a1x a1y a1k=acR a0r a0w a0h a0cn a0c a1x a1y a1k∧(True∧acW a0r a0w a0h a0cn a0c a1x a1y a1k=acW a0r a0w a0h a0cn a0c a1x a1y a1k)∧(True∧
 acH a0r a0w a0h a0cn a0c a1x a1y a1k=acH a0r a0w a0h a0cn a0c a1x a1y a1k)∧((4:Nat)=(4:Nat)∧acN a0r a0w a0h a0cn a0c a1x a1y a1k=acN a0r a0w a0h a0cn a0c a1x a1y a1k)∧True)∧(True∧IntKind.i64=IntKind.i64∧
 acB a0r a0w a0h a0cn a0c a1x a1y a1k=acB a0r a0w a0h a0cn a0c a1x a1y a1k)∧True)∧True)∧True)∧True)∧True)∧True)∧True)∧(((At (List.length a0c=a0cn * (3:Nat)∧a0cn≤(2000000:Nat))∧(At True∧(At (List.length a0c=a0cn * (3:Nat)∧
 a0cn≤(2000000:Nat))∧(True∧(((1:Nat)=(1:Nat)∧(0:Nat)=(0:Nat))∧((2:Nat)=(2:Nat)∧(0:Nat)=(0:Nat))∧((3:Nat)=(3:Nat)∧(0:Nat)=(0:Nat))∧acG a0r a0w a0h a0cn a0c a1x a1y a1k=acG a0r a0w a0h a0cn a0c a1x a1y a1k∧True)∧((True∧
 IntKind.i64=IntKind.i64∧a0c=a0c)∧(True∧a0r=a0r∧(True∧a0w=a0w)∧(True∧a0h=a0h)∧((0:Nat)=(0:Nat)∧a0cn=a0cn)∧True)∧(True∧(True∧a1x=a1x)∧(True∧a1y=a1y)∧(True∧a1k=a1k)∧True)∧(True∧
 acR a0r a0w a0h a0cn a0c a1x a1y a1k=acR a0r a0w a0h a0cn a0c a1x a1y a1k∧(True∧acW a0r a0w a0h a0cn a0c a1x a1y a1k=acW a0r a0w a0h a0cn a0c a1x a1y a1k)∧(True∧
 acH a0r a0w a0h a0cn a0c a1x a1y a1k=acH a0r a0w a0h a0cn a0c a1x a1y a1k)∧((4:Nat)=(4:Nat)∧acN a0r a0w a0h a0cn a0c a1x a1y a1k=acN a0r a0w a0h a0cn a0c a1x a1y a1k)∧True)∧(True∧IntKind.i64=IntKind.i64∧
 acB a0r a0w a0h a0cn a0c a1x a1y a1k=acB a0r a0w a0h a0cn a0c a1x a1y a1k)∧True)∧True)∧True)∧True)∧True)∧True)∧True)∧True)∧(((At (List.length a0c=a0cn * (3:Nat)∧a0cn≤(2000000:Nat))∧((At True∧
 (At (List.length a0c=a0cn * (3:Nat)∧a0cn≤(2000000:Nat))∧(True∧(((1:Nat)=(1:Nat)∧(0:Nat)=(0:Nat))∧((2:Nat)=(2:Nat)∧(0:Nat)=(0:Nat))∧((3:Nat)=(3:Nat)∧(0:Nat)=(0:Nat))∧
 acG a0r a0w a0h a0cn a0c a1x a1y a1k=acG a0r a0w a0h a0cn a0c a1x a1y a1k∧True)∧((True∧IntKind.i64=IntKind.i64∧a0c=a0c)∧(True∧a0r=a0r∧(True∧a0w=a0w)∧(True∧a0h=a0h)∧((0:Nat)=(0:Nat)∧a0cn=a0cn)∧True)∧(True∧(True∧a1x=a1x)∧
 (True∧a1y=a1y)∧(True∧a1k=a1k)∧True)∧(True∧acR a0r a0w a0h a0cn a0c a1x a1y a1k=acR a0r a0w a0h a0cn a0c a1x a1y a1k∧(True∧acW a0r a0w a0h a0cn a0c a1x a1y a1k=acW a0r a0w a0h a0cn a0c a1x a1y a1k)∧(True∧
 acH a0r a0w a0h a0cn a0c a1x a1y a1k=acH a0r a0w a0h a0cn a0c a1x a1y a1k)∧((4:Nat)=(4:Nat)∧acN a0r a0w a0h a0cn a0c a1x a1y a1k=acN a0r a0w a0h a0cn a0c a1x a1y a1k)∧True)∧(True∧IntKind.i64=IntKind.i64∧
 acB a0r a0w a0h a0cn a0c a1x a1y a1k=acB a0r a0w a0h a0cn a0c a1x a1y a1k)∧True)∧True)∧True)∧True)∧True)∧True)∧((At (List.length a0c=a0cn * (3:Nat)∧a0cn≤(2000000:Nat))∧(At True∧(At (List.length a0c=a0cn * (3:Nat)∧
 a0cn≤(2000000:Nat))∧(True∧(((1:Nat)=(1:Nat)∧(0:Nat)=(0:Nat))∧((2:Nat)=(2:Nat)∧(0:Nat)=(0:Nat))∧((3:Nat)=(3:Nat)∧(0:Nat)=(0:Nat))∧acG a0r a0w a0h a0cn a0c a1x a1y a1k=acG a0r a0w a0h a0cn a0c a1x a1y a1k∧True)∧((True∧
 IntKind.i64=IntKind.i64∧a0c=a0c)∧(True∧a0r=a0r∧(True∧a0w=a0w)∧(True∧a0h=a0h)∧((0:Nat)=(0:Nat)∧a0cn=a0cn)∧True)∧(True∧(True∧a1x=a1x)∧(True∧a1y=a1y)∧(True∧a1k=a1k)∧True)∧(True∧
 acR a0r a0w a0h a0cn a0c a1x a1y a1k=acR a0r a0w a0h a0cn a0c a1x a1y a1k∧(True∧acW a0r a0w a0h a0cn a0c a1x a1y a1k=acW a0r a0w a0h a0cn a0c a1x a1y a1k)∧(True∧
 acH a0r a0w a0h a0cn a0c a1x a1y a1k=acH a0r a0w a0h a0cn a0c a1x a1y a1k)∧((4:Nat)=(4:Nat)∧acN a0r a0w a0h a0cn a0c a1x a1y a1k=acN a0r a0w a0h a0cn a0c a1x a1y a1k)∧True)∧(True∧IntKind.i64=IntKind.i64∧
 acB a0r a0w a0h a0cn a0c a1x a1y a1k=acB a0r a0w a0h a0cn a0c a1x a1y a1k)∧True)∧True)∧True)∧True)∧True)∧True)∧True)∧(((At (List.length a0c=a0cn * (3:Nat)∧a0cn≤(2000000:Nat))∧(At True∧(At (List.length a0c=a0cn * (3:Nat)∧
 a0cn≤(2000000:Nat))∧(True∧(((1:Nat)=(1:Nat)∧(0:Nat)=(0:Nat))∧((2:Nat)=(2:Nat)∧(0:Nat)=(0:Nat))∧((3:Nat)=(3:Nat)∧(0:Nat)=(0:Nat))∧acG a0r a0w a0h a0cn a0c a1x a1y a1k=acG a0r a0w a0h a0cn a0c a1x a1y a1k∧True)∧((True∧
 IntKind.i64=IntKind.i64∧a0c=a0c)∧(True∧a0r=a0r∧(True∧a0w=a0w)∧(True∧a0h=a0h)∧((0:Nat)=(0:Nat)∧a0cn=a0cn)∧True)∧(True∧(True∧a1x=a1x)∧(True∧a1y=a1y)∧(True∧a1k=a1k)∧True)∧(True∧
 acR a0r a0w a0h a0cn a0c a1x a1y a1k=acR a0r a0w a0h a0cn a0c a1x a1y a1k∧(True∧acW a0r a0w a0h a0cn a0c a1x a1y a1k=acW a0r a0w a0h a0cn a0c a1x a1y a1k)∧(True∧
 acH a0r a0w a0h a0cn a0c a1x a1y a1k=acH a0r a0w a0h a0cn a0c a1x a1y a1k)∧((4:Nat)=(4:Nat)∧acN a0r a0w a0h a0cn a0c a1x a1y a1k=acN a0r a0w a0h a0cn a0c a1x a1y a1k)∧True)∧(True∧IntKind.i64=IntKind.i64∧
 acB a0r a0w a0h a0cn a0c a1x a1y a1k=acB a0r a0w a0h a0cn a0c a1x a1y a1k)∧True)∧True)∧True)∧True)∧True)∧True)∧True)∧True)∧True)∧True∧(((1:Nat)=(1:Nat)∧(0:Nat)=(0:Nat))∧((2:Nat)=(2:Nat)∧(0:Nat)=(0:Nat))∧((3:Nat)=(3:Nat)∧
 (0:Nat)=(0:Nat))∧acG a0r a0w a0h a0cn a0c a1x a1y a1k=acG a0r a0w a0h a0cn a0c a1x a1y a1k∧True)∧((True∧IntKind.i64=IntKind.i64∧a0c=a0c)∧(True∧a0r=a0r∧(True∧a0w=a0w)∧(True∧a0h=a0h)∧((0:Nat)=(0:Nat)∧a0cn=a0cn)∧True)∧
 (True∧(True∧a1x=a1x)∧(True∧a1y=a1y)∧(True∧a1k=a1k)∧True)∧(True∧acR a0r a0w a0h a0cn a0c a1x a1y a1k=acR a0r a0w a0h a0cn a0c a1x a1y a1k∧(True∧acW a0r a0w a0h a0cn a0c a1x a1y a1k=acW a0r a0w a0h a0cn a0c a1x a1y a1k)∧
 (True∧acH a0r a0w a0h a0cn a0c a1x a1y a1k=acH a0r a0w a0h a0cn a0c a1x a1y a1k)∧((4:Nat)=(4:Nat)∧acN a0r a0w a0h a0cn a0c a1x a1y a1k=acN a0r a0w a0h a0cn a0c a1x a1y a1k)∧True)∧(True∧IntKind.i64=IntKind.i64∧
 acB a0r a0w a0h a0cn a0c a1x a1y a1k=acB a0r a0w a0h a0cn a0c a1x a1y a1k)∧True)∧True)∧At (List.length a0c=a0cn * (3:Nat)∧a0cn≤(2000000:Nat))∧(((((At True∧(At (List.length a0c=a0cn * (3:Nat)∧a0cn≤(2000000:Nat))∧
 ((VC_LawAddClue_q1 a0r a0w a0h a0cn a0c a1x a1y a1k)∧True)∧True)∧((At (List.length a0c=a0cn * (3:Nat)∧a0cn≤(2000000:Nat))∧(VC_LawAddClue_q1 a0r a0w a0h a0cn a0c a1x a1y a1k)∧True)∧True)∧True)∧((At True∧
 (At (List.length a0c=a0cn * (3:Nat)∧a0cn≤(2000000:Nat))∧(VC_LawAddClue_q1 a0r a0w a0h a0cn a0c a1x a1y a1k)∧True)∧True)∧True)∧True)∧(((At True∧(At (List.length a0c=a0cn * (3:Nat)∧a0cn≤(2000000:Nat))∧
 (VC_LawAddClue_q1 a0r a0w a0h a0cn a0c a1x a1y a1k)∧True)∧True)∧True)∧True)∧True)∧(((At True∧(At (List.length a0c=a0cn * (3:Nat)∧a0cn≤(2000000:Nat))∧((VC_LawAddClue_q1 a0r a0w a0h a0cn a0c a1x a1y a1k)∧True)∧True)∧
 ((At (List.length a0c=a0cn * (3:Nat)∧a0cn≤(2000000:Nat))∧(VC_LawAddClue_q1 a0r a0w a0h a0cn a0c a1x a1y a1k)∧True)∧True)∧True)∧((At True∧(At (List.length a0c=a0cn * (3:Nat)∧a0cn≤(2000000:Nat))∧
 (VC_LawAddClue_q1 a0r a0w a0h a0cn a0c a1x a1y a1k)∧True)∧True)∧True)∧True)∧(At True∧((At (List.length a0c=a0cn * (3:Nat)∧a0cn≤(2000000:Nat))∧((VC_LawAddClue_q1 a0r a0w a0h a0cn a0c a1x a1y a1k)∧True)∧True)∧
 ((At (List.length a0c=a0cn * (3:Nat)∧a0cn≤(2000000:Nat))∧(VC_LawAddClue_q1 a0r a0w a0h a0cn a0c a1x a1y a1k)∧True)∧True)∧True)∧(((At (List.length a0c=a0cn * (3:Nat)∧a0cn≤(2000000:Nat))∧
 (VC_LawAddClue_q1 a0r a0w a0h a0cn a0c a1x a1y a1k)∧True)∧True)∧True)∧True)∧(((At True∧(At (List.length a0c=a0cn * (3:Nat)∧a0cn≤(2000000:Nat))∧(VC_LawAddClue_q1 a0r a0w a0h a0cn a0c a1x a1y a1k)∧True)∧True)∧True)∧
 (At True∧((At (List.length a0c=a0cn * (3:Nat)∧a0cn≤(2000000:Nat))∧(VC_LawAddClue_q1 a0r a0w a0h a0cn a0c a1x a1y a1k)∧True)∧True)∧True)∧True)∧True)∧((((At True∧(At (List.length a0c=a0cn * (3:Nat)∧a0cn≤(2000000:Nat))∧
 (VC_LawAddClue_q1 a0r a0w a0h a0cn a0c a1x a1y a1k)∧True)∧True)∧True)∧True)∧(((At True∧(At (List.length a0c=a0cn * (3:Nat)∧a0cn≤(2000000:Nat))∧(VC_LawAddClue_q1 a0r a0w a0h a0cn a0c a1x a1y a1k)∧True)∧True)∧True)∧
 (At True∧((At (List.length a0c=a0cn * (3:Nat)∧a0cn≤(2000000:Nat))∧(VC_LawAddClue_q1 a0r a0w a0h a0cn a0c a1x a1y a1k)∧True)∧True)∧True)∧True)∧True)∧True)∧True∧(((1:Nat)=(1:Nat)∧(0:Nat)=(0:Nat))∧((2:Nat)=(2:Nat)∧
 (0:Nat)=(0:Nat))∧((3:Nat)=(3:Nat)∧(0:Nat)=(0:Nat))∧acG a0r a0w a0h a0cn a0c a1x a1y a1k=acG a0r a0w a0h a0cn a0c a1x a1y a1k∧((6:Nat)=(6:Nat)∧(0:Nat)=(0:Nat))∧((7:Nat)=(7:Nat)∧(0:Nat)=(0:Nat))∧
 acG a0r a0w a0h a0cn a0c a1x a1y a1k=acG a0r a0w a0h a0cn a0c a1x a1y a1k∧True)∧((True∧IntKind.i64=IntKind.i64∧a0c=a0c)∧(True∧a0r=a0r∧(True∧a0w=a0w)∧(True∧a0h=a0h)∧((0:Nat)=(0:Nat)∧a0cn=a0cn)∧True)∧(True∧(True∧a1x=a1x)∧
 (True∧a1y=a1y)∧(True∧a1k=a1k)∧True)∧(True∧acR a0r a0w a0h a0cn a0c a1x a1y a1k=acR a0r a0w a0h a0cn a0c a1x a1y a1k∧(True∧acW a0r a0w a0h a0cn a0c a1x a1y a1k=acW a0r a0w a0h a0cn a0c a1x a1y a1k)∧(True∧
 acH a0r a0w a0h a0cn a0c a1x a1y a1k=acH a0r a0w a0h a0cn a0c a1x a1y a1k)∧((4:Nat)=(4:Nat)∧acN a0r a0w a0h a0cn a0c a1x a1y a1k=acN a0r a0w a0h a0cn a0c a1x a1y a1k)∧True)∧(True∧IntKind.i64=IntKind.i64∧
 acB a0r a0w a0h a0cn a0c a1x a1y a1k=acB a0r a0w a0h a0cn a0c a1x a1y a1k)∧(True∧IntKind.i64=IntKind.i64∧a0c=a0c)∧(True∧a0r=a0r∧(True∧a0w=a0w)∧(True∧a0h=a0h)∧((5:Nat)=(5:Nat)∧a0cn=a0cn)∧True)∧(True∧
 acR a0r a0w a0h a0cn a0c a1x a1y a1k=acR a0r a0w a0h a0cn a0c a1x a1y a1k∧(True∧acW a0r a0w a0h a0cn a0c a1x a1y a1k=acW a0r a0w a0h a0cn a0c a1x a1y a1k)∧(True∧
 acH a0r a0w a0h a0cn a0c a1x a1y a1k=acH a0r a0w a0h a0cn a0c a1x a1y a1k)∧((8:Nat)=(8:Nat)∧acN a0r a0w a0h a0cn a0c a1x a1y a1k=acN a0r a0w a0h a0cn a0c a1x a1y a1k)∧True)∧(True∧IntKind.i64=IntKind.i64∧
 acB a0r a0w a0h a0cn a0c a1x a1y a1k=acB a0r a0w a0h a0cn a0c a1x a1y a1k)∧True)∧True)∧At (List.length (acB a0r a0w a0h a0cn a0c a1x a1y a1k)=(3:Nat) * acN a0r a0w a0h a0cn a0c a1x a1y a1k∧
 List.length (acB a0r a0w a0h a0cn a0c a1x a1y a1k)=(3:Nat) * acN a0r a0w a0h a0cn a0c a1x a1y a1k∧acN a0r a0w a0h a0cn a0c a1x a1y a1k≤(2000000:Nat)∧acN a0r a0w a0h a0cn a0c a1x a1y a1k≤(2000000:Nat))∧
 ((!(acR a0r a0w a0h a0cn a0c a1x a1y a1k==acR a0r a0w a0h a0cn a0c a1x a1y a1k && acB a0r a0w a0h a0cn a0c a1x a1y a1k==acB a0r a0w a0h a0cn a0c a1x a1y a1k && acW a0r a0w a0h a0cn a0c a1x a1y a1k==acW a0r a0w a0h a0cn a0c a1x a1y a1k && acH a0r a0w a0h a0cn a0c a1x a1y a1k==acH a0r a0w a0h a0cn a0c a1x a1y a1k))=true→
 K (V.lit false))∧
 ((!(acR a0r a0w a0h a0cn a0c a1x a1y a1k==acR a0r a0w a0h a0cn a0c a1x a1y a1k && acB a0r a0w a0h a0cn a0c a1x a1y a1k==acB a0r a0w a0h a0cn a0c a1x a1y a1k && acW a0r a0w a0h a0cn a0c a1x a1y a1k==acW a0r a0w a0h a0cn a0c a1x a1y a1k && acH a0r a0w a0h a0cn a0c a1x a1y a1k==acH a0r a0w a0h a0cn a0c a1x a1y a1k))=false→
 ((!acG a0r a0w a0h a0cn a0c a1x a1y a1k==acG a0r a0w a0h a0cn a0c a1x a1y a1k)=true→K (V.lit false))∧((!acG a0r a0w a0h a0cn a0c a1x a1y a1k==acG a0r a0w a0h a0cn a0c a1x a1y a1k)=false→
 (((At (List.length a0c=a0cn * (3:Nat)∧a0cn≤(2000000:Nat))∧(At (List.length a0c=(3:Nat) * a0cn∧List.length a0c=(3:Nat) * a0cn∧a0cn≤(2000000:Nat)∧a0cn≤(2000000:Nat))∧((!(a0r==a0r && a0c==a0c && a0w==a0w && a0h==a0h))=true→
 K (V.lit false))∧((!(a0r==a0r && a0c==a0c && a0w==a0w && a0h==a0h))=false→At (List.length a0c=(3:Nat) * a0cn∧a0cn≤(2000000:Nat)∧(0:Int)≤(1:Int)∧(1:Int)≤(1000:Int))∧
 (decide ((1:Int) + (↑((3:Nat) * a0cn):Int) < (0:Int))=true→K (V.lit false))∧(decide ((1:Int) + (↑((3:Nat) * a0cn):Int) < (0:Int))=false→
 At (List.length (acB a0r a0w a0h a0cn a0c a1x a1y a1k)=(3:Nat) * acN a0r a0w a0h a0cn a0c a1x a1y a1k∧List.length (acB a0r a0w a0h a0cn a0c a1x a1y a1k)=(3:Nat) * acN a0r a0w a0h a0cn a0c a1x a1y a1k∧
 acN a0r a0w a0h a0cn a0c a1x a1y a1k≤(2000000:Nat)∧acN a0r a0w a0h a0cn a0c a1x a1y a1k≤(2000000:Nat))∧
 ((!(acR a0r a0w a0h a0cn a0c a1x a1y a1k==acR a0r a0w a0h a0cn a0c a1x a1y a1k && acB a0r a0w a0h a0cn a0c a1x a1y a1k==acB a0r a0w a0h a0cn a0c a1x a1y a1k && acW a0r a0w a0h a0cn a0c a1x a1y a1k==acW a0r a0w a0h a0cn a0c a1x a1y a1k && acH a0r a0w a0h a0cn a0c a1x a1y a1k==acH a0r a0w a0h a0cn a0c a1x a1y a1k))=true→
 K (V.lit false))∧
 ((!(acR a0r a0w a0h a0cn a0c a1x a1y a1k==acR a0r a0w a0h a0cn a0c a1x a1y a1k && acB a0r a0w a0h a0cn a0c a1x a1y a1k==acB a0r a0w a0h a0cn a0c a1x a1y a1k && acW a0r a0w a0h a0cn a0c a1x a1y a1k==acW a0r a0w a0h a0cn a0c a1x a1y a1k && acH a0r a0w a0h a0cn a0c a1x a1y a1k==acH a0r a0w a0h a0cn a0c a1x a1y a1k))=false→
 ((!acG a0r a0w a0h a0cn a0c a1x a1y a1k==acG a0r a0w a0h a0cn a0c a1x a1y a1k)=true→K (V.lit false))∧((!acG a0r a0w a0h a0cn a0c a1x a1y a1k==acG a0r a0w a0h a0cn a0c a1x a1y a1k)=false→
 At (List.length (acB a0r a0w a0h a0cn a0c a1x a1y a1k)=(3:Nat) * acN a0r a0w a0h a0cn a0c a1x a1y a1k∧acN a0r a0w a0h a0cn a0c a1x a1y a1k≤(2000000:Nat)∧(0:Int)≤(1:Int)∧(1:Int)≤(1000:Int))∧
 At (List.length (ramp (1:Int) ((3:Nat) * acN a0r a0w a0h a0cn a0c a1x a1y a1k))=(3:Nat) * acN a0r a0w a0h a0cn a0c a1x a1y a1k∧acN a0r a0w a0h a0cn a0c a1x a1y a1k≤(2000000:Nat)∧(0:Int)≤(1:Int)∧(1:Int)≤(1000:Int))∧
 (decide ((bif ramp (1:Int) ((3:Nat) * acN a0r a0w a0h a0cn a0c a1x a1y a1k)==ramp (1:Int) ((3:Nat) * acN a0r a0w a0h a0cn a0c a1x a1y a1k) then (1:Int) + (↑((3:Nat) * acN a0r a0w a0h a0cn a0c a1x a1y a1k):Int) else (-1:Int)) < (0:Int))=true→
 K (V.lit false))∧
 (decide ((bif ramp (1:Int) ((3:Nat) * acN a0r a0w a0h a0cn a0c a1x a1y a1k)==ramp (1:Int) ((3:Nat) * acN a0r a0w a0h a0cn a0c a1x a1y a1k) then (1:Int) + (↑((3:Nat) * acN a0r a0w a0h a0cn a0c a1x a1y a1k):Int) else (-1:Int)) < (0:Int))=false→
 (((bif ramp (1:Int) ((3:Nat) * acN a0r a0w a0h a0cn a0c a1x a1y a1k)==ramp (1:Int) ((3:Nat) * acN a0r a0w a0h a0cn a0c a1x a1y a1k) then (1:Int) + (↑((3:Nat) * acN a0r a0w a0h a0cn a0c a1x a1y a1k):Int) else (-1:Int)) != (1:Int) + (↑((3:Nat) * acN a0r a0w a0h a0cn a0c a1x a1y a1k):Int))=true→
 K (V.lit false))∧
 (((bif ramp (1:Int) ((3:Nat) * acN a0r a0w a0h a0cn a0c a1x a1y a1k)==ramp (1:Int) ((3:Nat) * acN a0r a0w a0h a0cn a0c a1x a1y a1k) then (1:Int) + (↑((3:Nat) * acN a0r a0w a0h a0cn a0c a1x a1y a1k):Int) else (-1:Int)) != (1:Int) + (↑((3:Nat) * acN a0r a0w a0h a0cn a0c a1x a1y a1k):Int))=false→
 ((At (List.length a0c=a0cn * (3:Nat)∧a0cn≤(2000000:Nat))∧((At True∧(At (List.length a0c=a0cn * (3:Nat)∧a0cn≤(2000000:Nat))∧
 ((At (List.length (acB a0r a0w a0h a0cn a0c a1x a1y a1k)=(3:Nat) * acN a0r a0w a0h a0cn a0c a1x a1y a1k∧List.length (acB a0r a0w a0h a0cn a0c a1x a1y a1k)=(3:Nat) * acN a0r a0w a0h a0cn a0c a1x a1y a1k∧
 acN a0r a0w a0h a0cn a0c a1x a1y a1k≤(2000000:Nat)∧acN a0r a0w a0h a0cn a0c a1x a1y a1k≤(2000000:Nat))∧
 ((!(acR a0r a0w a0h a0cn a0c a1x a1y a1k==acR a0r a0w a0h a0cn a0c a1x a1y a1k && acB a0r a0w a0h a0cn a0c a1x a1y a1k==acB a0r a0w a0h a0cn a0c a1x a1y a1k && acW a0r a0w a0h a0cn a0c a1x a1y a1k==acW a0r a0w a0h a0cn a0c a1x a1y a1k && acH a0r a0w a0h a0cn a0c a1x a1y a1k==acH a0r a0w a0h a0cn a0c a1x a1y a1k))=true→
 K (V.lit false))∧
 ((!(acR a0r a0w a0h a0cn a0c a1x a1y a1k==acR a0r a0w a0h a0cn a0c a1x a1y a1k && acB a0r a0w a0h a0cn a0c a1x a1y a1k==acB a0r a0w a0h a0cn a0c a1x a1y a1k && acW a0r a0w a0h a0cn a0c a1x a1y a1k==acW a0r a0w a0h a0cn a0c a1x a1y a1k && acH a0r a0w a0h a0cn a0c a1x a1y a1k==acH a0r a0w a0h a0cn a0c a1x a1y a1k))=false→
 ((!acG a0r a0w a0h a0cn a0c a1x a1y a1k==acG a0r a0w a0h a0cn a0c a1x a1y a1k)=true→K (V.lit false))∧((!acG a0r a0w a0h a0cn a0c a1x a1y a1k==acG a0r a0w a0h a0cn a0c a1x a1y a1k)=false→
 At (List.length (ramp (1:Int) ((3:Nat) * acN a0r a0w a0h a0cn a0c a1x a1y a1k))=(3:Nat) * acN a0r a0w a0h a0cn a0c a1x a1y a1k∧acN a0r a0w a0h a0cn a0c a1x a1y a1k≤(2000000:Nat)∧(0:Int)≤(1:Int)∧(1:Int)≤(1000:Int))∧
 (decide ((bif ramp (1:Int) ((3:Nat) * acN a0r a0w a0h a0cn a0c a1x a1y a1k)==ramp (1:Int) ((3:Nat) * acN a0r a0w a0h a0cn a0c a1x a1y a1k) then (1:Int) + (↑((3:Nat) * acN a0r a0w a0h a0cn a0c a1x a1y a1k):Int) else (-1:Int)) < (0:Int))=true→
 K (V.lit false))∧
 (decide ((bif ramp (1:Int) ((3:Nat) * acN a0r a0w a0h a0cn a0c a1x a1y a1k)==ramp (1:Int) ((3:Nat) * acN a0r a0w a0h a0cn a0c a1x a1y a1k) then (1:Int) + (↑((3:Nat) * acN a0r a0w a0h a0cn a0c a1x a1y a1k):Int) else (-1:Int)) < (0:Int))=false→
 (((bif ramp (1:Int) ((3:Nat) * acN a0r a0w a0h a0cn a0c a1x a1y a1k)==ramp (1:Int) ((3:Nat) * acN a0r a0w a0h a0cn a0c a1x a1y a1k) then (1:Int) + (↑((3:Nat) * acN a0r a0w a0h a0cn a0c a1x a1y a1k):Int) else (-1:Int)) != (1:Int) + (↑((3:Nat) * acN a0r a0w a0h a0cn a0c a1x a1y a1k):Int))=true→
 K (V.lit false))∧
 (((bif ramp (1:Int) ((3:Nat) * acN a0r a0w a0h a0cn a0c a1x a1y a1k)==ramp (1:Int) ((3:Nat) * acN a0r a0w a0h a0cn a0c a1x a1y a1k) then (1:Int) + (↑((3:Nat) * acN a0r a0w a0h a0cn a0c a1x a1y a1k):Int) else (-1:Int)) != (1:Int) + (↑((3:Nat) * acN a0r a0w a0h a0cn a0c a1x a1y a1k):Int))=false→
 K (V.lit true))))))∧True)∧True)∧((At (List.length a0c=a0cn * (3:Nat)∧a0cn≤(2000000:Nat))∧(At (List.length (acB a0r a0w a0h a0cn a0c a1x a1y a1k)=(3:Nat) * acN a0r a0w a0h a0cn a0c a1x a1y a1k∧
 List.length (acB a0r a0w a0h a0cn a0c a1x a1y a1k)=(3:Nat) * acN a0r a0w a0h a0cn a0c a1x a1y a1k∧acN a0r a0w a0h a0cn a0c a1x a1y a1k≤(2000000:Nat)∧acN a0r a0w a0h a0cn a0c a1x a1y a1k≤(2000000:Nat))∧
 ((!(acR a0r a0w a0h a0cn a0c a1x a1y a1k==acR a0r a0w a0h a0cn a0c a1x a1y a1k && acB a0r a0w a0h a0cn a0c a1x a1y a1k==acB a0r a0w a0h a0cn a0c a1x a1y a1k && acW a0r a0w a0h a0cn a0c a1x a1y a1k==acW a0r a0w a0h a0cn a0c a1x a1y a1k && acH a0r a0w a0h a0cn a0c a1x a1y a1k==acH a0r a0w a0h a0cn a0c a1x a1y a1k))=true→
 K (V.lit false))∧
 ((!(acR a0r a0w a0h a0cn a0c a1x a1y a1k==acR a0r a0w a0h a0cn a0c a1x a1y a1k && acB a0r a0w a0h a0cn a0c a1x a1y a1k==acB a0r a0w a0h a0cn a0c a1x a1y a1k && acW a0r a0w a0h a0cn a0c a1x a1y a1k==acW a0r a0w a0h a0cn a0c a1x a1y a1k && acH a0r a0w a0h a0cn a0c a1x a1y a1k==acH a0r a0w a0h a0cn a0c a1x a1y a1k))=false→
 ((!acG a0r a0w a0h a0cn a0c a1x a1y a1k==acG a0r a0w a0h a0cn a0c a1x a1y a1k)=true→K (V.lit false))∧((!acG a0r a0w a0h a0cn a0c a1x a1y a1k==acG a0r a0w a0h a0cn a0c a1x a1y a1k)=false→
 At (List.length (ramp (1:Int) ((3:Nat) * acN a0r a0w a0h a0cn a0c a1x a1y a1k))=(3:Nat) * acN a0r a0w a0h a0cn a0c a1x a1y a1k∧acN a0r a0w a0h a0cn a0c a1x a1y a1k≤(2000000:Nat)∧(0:Int)≤(1:Int)∧(1:Int)≤(1000:Int))∧
 (decide ((bif ramp (1:Int) ((3:Nat) * acN a0r a0w a0h a0cn a0c a1x a1y a1k)==ramp (1:Int) ((3:Nat) * acN a0r a0w a0h a0cn a0c a1x a1y a1k) then (1:Int) + (↑((3:Nat) * acN a0r a0w a0h a0cn a0c a1x a1y a1k):Int) else (-1:Int)) < (0:Int))=true→
 K (V.lit false))∧
 (decide ((bif ramp (1:Int) ((3:Nat) * acN a0r a0w a0h a0cn a0c a1x a1y a1k)==ramp (1:Int) ((3:Nat) * acN a0r a0w a0h a0cn a0c a1x a1y a1k) then (1:Int) + (↑((3:Nat) * acN a0r a0w a0h a0cn a0c a1x a1y a1k):Int) else (-1:Int)) < (0:Int))=false→
 (((bif ramp (1:Int) ((3:Nat) * acN a0r a0w a0h a0cn a0c a1x a1y a1k)==ramp (1:Int) ((3:Nat) * acN a0r a0w a0h a0cn a0c a1x a1y a1k) then (1:Int) + (↑((3:Nat) * acN a0r a0w a0h a0cn a0c a1x a1y a1k):Int) else (-1:Int)) != (1:Int) + (↑((3:Nat) * acN a0r a0w a0h a0cn a0c a1x a1y a1k):Int))=true→
 K (V.lit false))∧
 (((bif ramp (1:Int) ((3:Nat) * acN a0r a0w a0h a0cn a0c a1x a1y a1k)==ramp (1:Int) ((3:Nat) * acN a0r a0w a0h a0cn a0c a1x a1y a1k) then (1:Int) + (↑((3:Nat) * acN a0r a0w a0h a0cn a0c a1x a1y a1k):Int) else (-1:Int)) != (1:Int) + (↑((3:Nat) * acN a0r a0w a0h a0cn a0c a1x a1y a1k):Int))=false→
 K (V.lit true))))))∧True)∧True)∧True)∧((At True∧(At (List.length a0c=a0cn * (3:Nat)∧a0cn≤(2000000:Nat))∧(At (List.length (acB a0r a0w a0h a0cn a0c a1x a1y a1k)=(3:Nat) * acN a0r a0w a0h a0cn a0c a1x a1y a1k∧
 List.length (acB a0r a0w a0h a0cn a0c a1x a1y a1k)=(3:Nat) * acN a0r a0w a0h a0cn a0c a1x a1y a1k∧acN a0r a0w a0h a0cn a0c a1x a1y a1k≤(2000000:Nat)∧acN a0r a0w a0h a0cn a0c a1x a1y a1k≤(2000000:Nat))∧
 ((!(acR a0r a0w a0h a0cn a0c a1x a1y a1k==acR a0r a0w a0h a0cn a0c a1x a1y a1k && acB a0r a0w a0h a0cn a0c a1x a1y a1k==acB a0r a0w a0h a0cn a0c a1x a1y a1k && acW a0r a0w a0h a0cn a0c a1x a1y a1k==acW a0r a0w a0h a0cn a0c a1x a1y a1k && acH a0r a0w a0h a0cn a0c a1x a1y a1k==acH a0r a0w a0h a0cn a0c a1x a1y a1k))=true→
 K (V.lit false))∧
 ((!(acR a0r a0w a0h a0cn a0c a1x a1y a1k==acR a0r a0w a0h a0cn a0c a1x a1y a1k && acB a0r a0w a0h a0cn a0c a1x a1y a1k==acB a0r a0w a0h a0cn a0c a1x a1y a1k && acW a0r a0w a0h a0cn a0c a1x a1y a1k==acW a0r a0w a0h a0cn a0c a1x a1y a1k && acH a0r a0w a0h a0cn a0c a1x a1y a1k==acH a0r a0w a0h a0cn a0c a1x a1y a1k))=false→
 ((!acG a0r a0w a0h a0cn a0c a1x a1y a1k==acG a0r a0w a0h a0cn a0c a1x a1y a1k)=true→K (V.lit false))∧((!acG a0r a0w a0h a0cn a0c a1x a1y a1k==acG a0r a0w a0h a0cn a0c a1x a1y a1k)=false→
 At (List.length (ramp (1:Int) ((3:Nat) * acN a0r a0w a0h a0cn a0c a1x a1y a1k))=(3:Nat) * acN a0r a0w a0h a0cn a0c a1x a1y a1k∧acN a0r a0w a0h a0cn a0c a1x a1y a1k≤(2000000:Nat)∧(0:Int)≤(1:Int)∧(1:Int)≤(1000:Int))∧
 (decide ((bif ramp (1:Int) ((3:Nat) * acN a0r a0w a0h a0cn a0c a1x a1y a1k)==ramp (1:Int) ((3:Nat) * acN a0r a0w a0h a0cn a0c a1x a1y a1k) then (1:Int) + (↑((3:Nat) * acN a0r a0w a0h a0cn a0c a1x a1y a1k):Int) else (-1:Int)) < (0:Int))=true→
 K (V.lit false))∧
 (decide ((bif ramp (1:Int) ((3:Nat) * acN a0r a0w a0h a0cn a0c a1x a1y a1k)==ramp (1:Int) ((3:Nat) * acN a0r a0w a0h a0cn a0c a1x a1y a1k) then (1:Int) + (↑((3:Nat) * acN a0r a0w a0h a0cn a0c a1x a1y a1k):Int) else (-1:Int)) < (0:Int))=false→
 (((bif ramp (1:Int) ((3:Nat) * acN a0r a0w a0h a0cn a0c a1x a1y a1k)==ramp (1:Int) ((3:Nat) * acN a0r a0w a0h a0cn a0c a1x a1y a1k) then (1:Int) + (↑((3:Nat) * acN a0r a0w a0h a0cn a0c a1x a1y a1k):Int) else (-1:Int)) != (1:Int) + (↑((3:Nat) * acN a0r a0w a0h a0cn a0c a1x a1y a1k):Int))=true→
 K (V.lit false))∧
 (((bif ramp (1:Int) ((3:Nat) * acN a0r a0w a0h a0cn a0c a1x a1y a1k)==ramp (1:Int) ((3:Nat) * acN a0r a0w a0h a0cn a0c a1x a1y a1k) then (1:Int) + (↑((3:Nat) * acN a0r a0w a0h a0cn a0c a1x a1y a1k):Int) else (-1:Int)) != (1:Int) + (↑((3:Nat) * acN a0r a0w a0h a0cn a0c a1x a1y a1k):Int))=false→
 K (V.lit true))))))∧True)∧True)∧True)∧True)∧(((At True∧(At (List.length a0c=a0cn * (3:Nat)∧a0cn≤(2000000:Nat))∧(At (List.length (acB a0r a0w a0h a0cn a0c a1x a1y a1k)=(3:Nat) * acN a0r a0w a0h a0cn a0c a1x a1y a1k∧
 List.length (acB a0r a0w a0h a0cn a0c a1x a1y a1k)=(3:Nat) * acN a0r a0w a0h a0cn a0c a1x a1y a1k∧acN a0r a0w a0h a0cn a0c a1x a1y a1k≤(2000000:Nat)∧acN a0r a0w a0h a0cn a0c a1x a1y a1k≤(2000000:Nat))∧
 ((!(acR a0r a0w a0h a0cn a0c a1x a1y a1k==acR a0r a0w a0h a0cn a0c a1x a1y a1k && acB a0r a0w a0h a0cn a0c a1x a1y a1k==acB a0r a0w a0h a0cn a0c a1x a1y a1k && acW a0r a0w a0h a0cn a0c a1x a1y a1k==acW a0r a0w a0h a0cn a0c a1x a1y a1k && acH a0r a0w a0h a0cn a0c a1x a1y a1k==acH a0r a0w a0h a0cn a0c a1x a1y a1k))=true→
 K (V.lit false))∧
 ((!(acR a0r a0w a0h a0cn a0c a1x a1y a1k==acR a0r a0w a0h a0cn a0c a1x a1y a1k && acB a0r a0w a0h a0cn a0c a1x a1y a1k==acB a0r a0w a0h a0cn a0c a1x a1y a1k && acW a0r a0w a0h a0cn a0c a1x a1y a1k==acW a0r a0w a0h a0cn a0c a1x a1y a1k && acH a0r a0w a0h a0cn a0c a1x a1y a1k==acH a0r a0w a0h a0cn a0c a1x a1y a1k))=false→
 ((!acG a0r a0w a0h a0cn a0c a1x a1y a1k==acG a0r a0w a0h a0cn a0c a1x a1y a1k)=true→K (V.lit false))∧((!acG a0r a0w a0h a0cn a0c a1x a1y a1k==acG a0r a0w a0h a0cn a0c a1x a1y a1k)=false→
 At (List.length (ramp (1:Int) ((3:Nat) * acN a0r a0w a0h a0cn a0c a1x a1y a1k))=(3:Nat) * acN a0r a0w a0h a0cn a0c a1x a1y a1k∧acN a0r a0w a0h a0cn a0c a1x a1y a1k≤(2000000:Nat)∧(0:Int)≤(1:Int)∧(1:Int)≤(1000:Int))∧
 (decide ((bif ramp (1:Int) ((3:Nat) * acN a0r a0w a0h a0cn a0c a1x a1y a1k)==ramp (1:Int) ((3:Nat) * acN a0r a0w a0h a0cn a0c a1x a1y a1k) then (1:Int) + (↑((3:Nat) * acN a0r a0w a0h a0cn a0c a1x a1y a1k):Int) else (-1:Int)) < (0:Int))=true→
 K (V.lit false))∧
 (decide ((bif ramp (1:Int) ((3:Nat) * acN a0r a0w a0h a0cn a0c a1x a1y a1k)==ramp (1:Int) ((3:Nat) * acN a0r a0w a0h a0cn a0c a1x a1y a1k) then (1:Int) + (↑((3:Nat) * acN a0r a0w a0h a0cn a0c a1x a1y a1k):Int) else (-1:Int)) < (0:Int))=false→
 (((bif ramp (1:Int) ((3:Nat) * acN a0r a0w a0h a0cn a0c a1x a1y a1k)==ramp (1:Int) ((3:Nat) * acN a0r a0w a0h a0cn a0c a1x a1y a1k) then (1:Int) + (↑((3:Nat) * acN a0r a0w a0h a0cn a0c a1x a1y a1k):Int) else (-1:Int)) != (1:Int) + (↑((3:Nat) * acN a0r a0w a0h a0cn a0c a1x a1y a1k):Int))=true→
 K (V.lit false))∧
 (((bif ramp (1:Int) ((3:Nat) * acN a0r a0w a0h a0cn a0c a1x a1y a1k)==ramp (1:Int) ((3:Nat) * acN a0r a0w a0h a0cn a0c a1x a1y a1k) then (1:Int) + (↑((3:Nat) * acN a0r a0w a0h a0cn a0c a1x a1y a1k):Int) else (-1:Int)) != (1:Int) + (↑((3:Nat) * acN a0r a0w a0h a0cn a0c a1x a1y a1k):Int))=false→
 K (V.lit true))))))∧True)∧True)∧True)∧True)∧True)∧((At (List.length a0c=a0cn * (3:Nat)∧a0cn≤(2000000:Nat))∧(At True∧(At (List.length a0c=a0cn * (3:Nat)∧a0cn≤(2000000:Nat))∧
 ((At (List.length (acB a0r a0w a0h a0cn a0c a1x a1y a1k)=(3:Nat) * acN a0r a0w a0h a0cn a0c a1x a1y a1k∧List.length (acB a0r a0w a0h a0cn a0c a1x a1y a1k)=(3:Nat) * acN a0r a0w a0h a0cn a0c a1x a1y a1k∧
 acN a0r a0w a0h a0cn a0c a1x a1y a1k≤(2000000:Nat)∧acN a0r a0w a0h a0cn a0c a1x a1y a1k≤(2000000:Nat))∧
 ((!(acR a0r a0w a0h a0cn a0c a1x a1y a1k==acR a0r a0w a0h a0cn a0c a1x a1y a1k && acB a0r a0w a0h a0cn a0c a1x a1y a1k==acB a0r a0w a0h a0cn a0c a1x a1y a1k && acW a0r a0w a0h a0cn a0c a1x a1y a1k==acW a0r a0w a0h a0cn a0c a1x a1y a1k && acH a0r a0w a0h a0cn a0c a1x a1y a1k==acH a0r a0w a0h a0cn a0c a1x a1y a1k))=true→
 K (V.lit false))∧
 ((!(acR a0r a0w a0h a0cn a0c a1x a1y a1k==acR a0r a0w a0h a0cn a0c a1x a1y a1k && acB a0r a0w a0h a0cn a0c a1x a1y a1k==acB a0r a0w a0h a0cn a0c a1x a1y a1k && acW a0r a0w a0h a0cn a0c a1x a1y a1k==acW a0r a0w a0h a0cn a0c a1x a1y a1k && acH a0r a0w a0h a0cn a0c a1x a1y a1k==acH a0r a0w a0h a0cn a0c a1x a1y a1k))=false→
 ((!acG a0r a0w a0h a0cn a0c a1x a1y a1k==acG a0r a0w a0h a0cn a0c a1x a1y a1k)=true→K (V.lit false))∧((!acG a0r a0w a0h a0cn a0c a1x a1y a1k==acG a0r a0w a0h a0cn a0c a1x a1y a1k)=false→
 At (List.length (ramp (1:Int) ((3:Nat) * acN a0r a0w a0h a0cn a0c a1x a1y a1k))=(3:Nat) * acN a0r a0w a0h a0cn a0c a1x a1y a1k∧acN a0r a0w a0h a0cn a0c a1x a1y a1k≤(2000000:Nat)∧(0:Int)≤(1:Int)∧(1:Int)≤(1000:Int))∧
 (decide ((bif ramp (1:Int) ((3:Nat) * acN a0r a0w a0h a0cn a0c a1x a1y a1k)==ramp (1:Int) ((3:Nat) * acN a0r a0w a0h a0cn a0c a1x a1y a1k) then (1:Int) + (↑((3:Nat) * acN a0r a0w a0h a0cn a0c a1x a1y a1k):Int) else (-1:Int)) < (0:Int))=true→
 K (V.lit false))∧
 (decide ((bif ramp (1:Int) ((3:Nat) * acN a0r a0w a0h a0cn a0c a1x a1y a1k)==ramp (1:Int) ((3:Nat) * acN a0r a0w a0h a0cn a0c a1x a1y a1k) then (1:Int) + (↑((3:Nat) * acN a0r a0w a0h a0cn a0c a1x a1y a1k):Int) else (-1:Int)) < (0:Int))=false→
 (((bif ramp (1:Int) ((3:Nat) * acN a0r a0w a0h a0cn a0c a1x a1y a1k)==ramp (1:Int) ((3:Nat) * acN a0r a0w a0h a0cn a0c a1x a1y a1k) then (1:Int) + (↑((3:Nat) * acN a0r a0w a0h a0cn a0c a1x a1y a1k):Int) else (-1:Int)) != (1:Int) + (↑((3:Nat) * acN a0r a0w a0h a0cn a0c a1x a1y a1k):Int))=true→
 K (V.lit false))∧
 (((bif ramp (1:Int) ((3:Nat) * acN a0r a0w a0h a0cn a0c a1x a1y a1k)==ramp (1:Int) ((3:Nat) * acN a0r a0w a0h a0cn a0c a1x a1y a1k) then (1:Int) + (↑((3:Nat) * acN a0r a0w a0h a0cn a0c a1x a1y a1k):Int) else (-1:Int)) != (1:Int) + (↑((3:Nat) * acN a0r a0w a0h a0cn a0c a1x a1y a1k):Int))=false→
 K (V.lit true))))))∧True)∧True)∧((At (List.length a0c=a0cn * (3:Nat)∧a0cn≤(2000000:Nat))∧(At (List.length (acB a0r a0w a0h a0cn a0c a1x a1y a1k)=(3:Nat) * acN a0r a0w a0h a0cn a0c a1x a1y a1k∧
 List.length (acB a0r a0w a0h a0cn a0c a1x a1y a1k)=(3:Nat) * acN a0r a0w a0h a0cn a0c a1x a1y a1k∧acN a0r a0w a0h a0cn a0c a1x a1y a1k≤(2000000:Nat)∧acN a0r a0w a0h a0cn a0c a1x a1y a1k≤(2000000:Nat))∧
 ((!(acR a0r a0w a0h a0cn a0c a1x a1y a1k==acR a0r a0w a0h a0cn a0c a1x a1y a1k && acB a0r a0w a0h a0cn a0c a1x a1y a1k==acB a0r a0w a0h a0cn a0c a1x a1y a1k && acW a0r a0w a0h a0cn a0c a1x a1y a1k==acW a0r a0w a0h a0cn a0c a1x a1y a1k && acH a0r a0w a0h a0cn a0c a1x a1y a1k==acH a0r a0w a0h a0cn a0c a1x a1y a1k))=true→
 K (V.lit false))∧
 ((!(acR a0r a0w a0h a0cn a0c a1x a1y a1k==acR a0r a0w a0h a0cn a0c a1x a1y a1k && acB a0r a0w a0h a0cn a0c a1x a1y a1k==acB a0r a0w a0h a0cn a0c a1x a1y a1k && acW a0r a0w a0h a0cn a0c a1x a1y a1k==acW a0r a0w a0h a0cn a0c a1x a1y a1k && acH a0r a0w a0h a0cn a0c a1x a1y a1k==acH a0r a0w a0h a0cn a0c a1x a1y a1k))=false→
 ((!acG a0r a0w a0h a0cn a0c a1x a1y a1k==acG a0r a0w a0h a0cn a0c a1x a1y a1k)=true→K (V.lit false))∧((!acG a0r a0w a0h a0cn a0c a1x a1y a1k==acG a0r a0w a0h a0cn a0c a1x a1y a1k)=false→
 At (List.length (ramp (1:Int) ((3:Nat) * acN a0r a0w a0h a0cn a0c a1x a1y a1k))=(3:Nat) * acN a0r a0w a0h a0cn a0c a1x a1y a1k∧acN a0r a0w a0h a0cn a0c a1x a1y a1k≤(2000000:Nat)∧(0:Int)≤(1:Int)∧(1:Int)≤(1000:Int))∧
 (decide ((bif ramp (1:Int) ((3:Nat) * acN a0r a0w a0h a0cn a0c a1x a1y a1k)==ramp (1:Int) ((3:Nat) * acN a0r a0w a0h a0cn a0c a1x a1y a1k) then (1:Int) + (↑((3:Nat) * acN a0r a0w a0h a0cn a0c a1x a1y a1k):Int) else (-1:Int)) < (0:Int))=true→
 K (V.lit false))∧
 (decide ((bif ramp (1:Int) ((3:Nat) * acN a0r a0w a0h a0cn a0c a1x a1y a1k)==ramp (1:Int) ((3:Nat) * acN a0r a0w a0h a0cn a0c a1x a1y a1k) then (1:Int) + (↑((3:Nat) * acN a0r a0w a0h a0cn a0c a1x a1y a1k):Int) else (-1:Int)) < (0:Int))=false→
 (((bif ramp (1:Int) ((3:Nat) * acN a0r a0w a0h a0cn a0c a1x a1y a1k)==ramp (1:Int) ((3:Nat) * acN a0r a0w a0h a0cn a0c a1x a1y a1k) then (1:Int) + (↑((3:Nat) * acN a0r a0w a0h a0cn a0c a1x a1y a1k):Int) else (-1:Int)) != (1:Int) + (↑((3:Nat) * acN a0r a0w a0h a0cn a0c a1x a1y a1k):Int))=true→
 K (V.lit false))∧
 (((bif ramp (1:Int) ((3:Nat) * acN a0r a0w a0h a0cn a0c a1x a1y a1k)==ramp (1:Int) ((3:Nat) * acN a0r a0w a0h a0cn a0c a1x a1y a1k) then (1:Int) + (↑((3:Nat) * acN a0r a0w a0h a0cn a0c a1x a1y a1k):Int) else (-1:Int)) != (1:Int) + (↑((3:Nat) * acN a0r a0w a0h a0cn a0c a1x a1y a1k):Int))=false→
 K (V.lit true))))))∧True)∧True)∧True)∧((At True∧(At (List.length a0c=a0cn * (3:Nat)∧a0cn≤(2000000:Nat))∧(At (List.length (acB a0r a0w a0h a0cn a0c a1x a1y a1k)=(3:Nat) * acN a0r a0w a0h a0cn a0c a1x a1y a1k∧
 List.length (acB a0r a0w a0h a0cn a0c a1x a1y a1k)=(3:Nat) * acN a0r a0w a0h a0cn a0c a1x a1y a1k∧acN a0r a0w a0h a0cn a0c a1x a1y a1k≤(2000000:Nat)∧acN a0r a0w a0h a0cn a0c a1x a1y a1k≤(2000000:Nat))∧
 ((!(acR a0r a0w a0h a0cn a0c a1x a1y a1k==acR a0r a0w a0h a0cn a0c a1x a1y a1k && acB a0r a0w a0h a0cn a0c a1x a1y a1k==acB a0r a0w a0h a0cn a0c a1x a1y a1k && acW a0r a0w a0h a0cn a0c a1x a1y a1k==acW a0r a0w a0h a0cn a0c a1x a1y a1k && acH a0r a0w a0h a0cn a0c a1x a1y a1k==acH a0r a0w a0h a0cn a0c a1x a1y a1k))=true→
 K (V.lit false))∧
 ((!(acR a0r a0w a0h a0cn a0c a1x a1y a1k==acR a0r a0w a0h a0cn a0c a1x a1y a1k && acB a0r a0w a0h a0cn a0c a1x a1y a1k==acB a0r a0w a0h a0cn a0c a1x a1y a1k && acW a0r a0w a0h a0cn a0c a1x a1y a1k==acW a0r a0w a0h a0cn a0c a1x a1y a1k && acH a0r a0w a0h a0cn a0c a1x a1y a1k==acH a0r a0w a0h a0cn a0c a1x a1y a1k))=false→
 ((!acG a0r a0w a0h a0cn a0c a1x a1y a1k==acG a0r a0w a0h a0cn a0c a1x a1y a1k)=true→K (V.lit false))∧((!acG a0r a0w a0h a0cn a0c a1x a1y a1k==acG a0r a0w a0h a0cn a0c a1x a1y a1k)=false→
 At (List.length (ramp (1:Int) ((3:Nat) * acN a0r a0w a0h a0cn a0c a1x a1y a1k))=(3:Nat) * acN a0r a0w a0h a0cn a0c a1x a1y a1k∧acN a0r a0w a0h a0cn a0c a1x a1y a1k≤(2000000:Nat)∧(0:Int)≤(1:Int)∧(1:Int)≤(1000:Int))∧
 (decide ((bif ramp (1:Int) ((3:Nat) * acN a0r a0w a0h a0cn a0c a1x a1y a1k)==ramp (1:Int) ((3:Nat) * acN a0r a0w a0h a0cn a0c a1x a1y a1k) then (1:Int) + (↑((3:Nat) * acN a0r a0w a0h a0cn a0c a1x a1y a1k):Int) else (-1:Int)) < (0:Int))=true→
 K (V.lit false))∧
 (decide ((bif ramp (1:Int) ((3:Nat) * acN a0r a0w a0h a0cn a0c a1x a1y a1k)==ramp (1:Int) ((3:Nat) * acN a0r a0w a0h a0cn a0c a1x a1y a1k) then (1:Int) + (↑((3:Nat) * acN a0r a0w a0h a0cn a0c a1x a1y a1k):Int) else (-1:Int)) < (0:Int))=false→
 (((bif ramp (1:Int) ((3:Nat) * acN a0r a0w a0h a0cn a0c a1x a1y a1k)==ramp (1:Int) ((3:Nat) * acN a0r a0w a0h a0cn a0c a1x a1y a1k) then (1:Int) + (↑((3:Nat) * acN a0r a0w a0h a0cn a0c a1x a1y a1k):Int) else (-1:Int)) != (1:Int) + (↑((3:Nat) * acN a0r a0w a0h a0cn a0c a1x a1y a1k):Int))=true→
 K (V.lit false))∧
 (((bif ramp (1:Int) ((3:Nat) * acN a0r a0w a0h a0cn a0c a1x a1y a1k)==ramp (1:Int) ((3:Nat) * acN a0r a0w a0h a0cn a0c a1x a1y a1k) then (1:Int) + (↑((3:Nat) * acN a0r a0w a0h a0cn a0c a1x a1y a1k):Int) else (-1:Int)) != (1:Int) + (↑((3:Nat) * acN a0r a0w a0h a0cn a0c a1x a1y a1k):Int))=false→
 K (V.lit true))))))∧True)∧True)∧True)∧True)∧((At (List.length a0c=a0cn * (3:Nat)∧a0cn≤(2000000:Nat))∧(At True∧(At (List.length a0c=a0cn * (3:Nat)∧a0cn≤(2000000:Nat))∧
 (At (List.length (acB a0r a0w a0h a0cn a0c a1x a1y a1k)=(3:Nat) * acN a0r a0w a0h a0cn a0c a1x a1y a1k∧List.length (acB a0r a0w a0h a0cn a0c a1x a1y a1k)=(3:Nat) * acN a0r a0w a0h a0cn a0c a1x a1y a1k∧
 acN a0r a0w a0h a0cn a0c a1x a1y a1k≤(2000000:Nat)∧acN a0r a0w a0h a0cn a0c a1x a1y a1k≤(2000000:Nat))∧
 ((!(acR a0r a0w a0h a0cn a0c a1x a1y a1k==acR a0r a0w a0h a0cn a0c a1x a1y a1k && acB a0r a0w a0h a0cn a0c a1x a1y a1k==acB a0r a0w a0h a0cn a0c a1x a1y a1k && acW a0r a0w a0h a0cn a0c a1x a1y a1k==acW a0r a0w a0h a0cn a0c a1x a1y a1k && acH a0r a0w a0h a0cn a0c a1x a1y a1k==acH a0r a0w a0h a0cn a0c a1x a1y a1k))=true→
 K (V.lit false))∧
 ((!(acR a0r a0w a0h a0cn a0c a1x a1y a1k==acR a0r a0w a0h a0cn a0c a1x a1y a1k && acB a0r a0w a0h a0cn a0c a1x a1y a1k==acB a0r a0w a0h a0cn a0c a1x a1y a1k && acW a0r a0w a0h a0cn a0c a1x a1y a1k==acW a0r a0w a0h a0cn a0c a1x a1y a1k && acH a0r a0w a0h a0cn a0c a1x a1y a1k==acH a0r a0w a0h a0cn a0c a1x a1y a1k))=false→
 ((!acG a0r a0w a0h a0cn a0c a1x a1y a1k==acG a0r a0w a0h a0cn a0c a1x a1y a1k)=true→K (V.lit false))∧((!acG a0r a0w a0h a0cn a0c a1x a1y a1k==acG a0r a0w a0h a0cn a0c a1x a1y a1k)=false→
 At (List.length (ramp (1:Int) ((3:Nat) * acN a0r a0w a0h a0cn a0c a1x a1y a1k))=(3:Nat) * acN a0r a0w a0h a0cn a0c a1x a1y a1k∧acN a0r a0w a0h a0cn a0c a1x a1y a1k≤(2000000:Nat)∧(0:Int)≤(1:Int)∧(1:Int)≤(1000:Int))∧
 (decide ((bif ramp (1:Int) ((3:Nat) * acN a0r a0w a0h a0cn a0c a1x a1y a1k)==ramp (1:Int) ((3:Nat) * acN a0r a0w a0h a0cn a0c a1x a1y a1k) then (1:Int) + (↑((3:Nat) * acN a0r a0w a0h a0cn a0c a1x a1y a1k):Int) else (-1:Int)) < (0:Int))=true→
 K (V.lit false))∧
 (decide ((bif ramp (1:Int) ((3:Nat) * acN a0r a0w a0h a0cn a0c a1x a1y a1k)==ramp (1:Int) ((3:Nat) * acN a0r a0w a0h a0cn a0c a1x a1y a1k) then (1:Int) + (↑((3:Nat) * acN a0r a0w a0h a0cn a0c a1x a1y a1k):Int) else (-1:Int)) < (0:Int))=false→
 (((bif ramp (1:Int) ((3:Nat) * acN a0r a0w a0h a0cn a0c a1x a1y a1k)==ramp (1:Int) ((3:Nat) * acN a0r a0w a0h a0cn a0c a1x a1y a1k) then (1:Int) + (↑((3:Nat) * acN a0r a0w a0h a0cn a0c a1x a1y a1k):Int) else (-1:Int)) != (1:Int) + (↑((3:Nat) * acN a0r a0w a0h a0cn a0c a1x a1y a1k):Int))=true→
 K (V.lit false))∧
 (((bif ramp (1:Int) ((3:Nat) * acN a0r a0w a0h a0cn a0c a1x a1y a1k)==ramp (1:Int) ((3:Nat) * acN a0r a0w a0h a0cn a0c a1x a1y a1k) then (1:Int) + (↑((3:Nat) * acN a0r a0w a0h a0cn a0c a1x a1y a1k):Int) else (-1:Int)) != (1:Int) + (↑((3:Nat) * acN a0r a0w a0h a0cn a0c a1x a1y a1k):Int))=false→
 K (V.lit true))))))∧True)∧True)∧True)∧True)∧True)∧((At (List.length a0c=a0cn * (3:Nat)∧a0cn≤(2000000:Nat))∧((At True∧(At (List.length a0c=a0cn * (3:Nat)∧a0cn≤(2000000:Nat))∧
 (At (List.length (acB a0r a0w a0h a0cn a0c a1x a1y a1k)=(3:Nat) * acN a0r a0w a0h a0cn a0c a1x a1y a1k∧List.length (acB a0r a0w a0h a0cn a0c a1x a1y a1k)=(3:Nat) * acN a0r a0w a0h a0cn a0c a1x a1y a1k∧
 acN a0r a0w a0h a0cn a0c a1x a1y a1k≤(2000000:Nat)∧acN a0r a0w a0h a0cn a0c a1x a1y a1k≤(2000000:Nat))∧
 ((!(acR a0r a0w a0h a0cn a0c a1x a1y a1k==acR a0r a0w a0h a0cn a0c a1x a1y a1k && acB a0r a0w a0h a0cn a0c a1x a1y a1k==acB a0r a0w a0h a0cn a0c a1x a1y a1k && acW a0r a0w a0h a0cn a0c a1x a1y a1k==acW a0r a0w a0h a0cn a0c a1x a1y a1k && acH a0r a0w a0h a0cn a0c a1x a1y a1k==acH a0r a0w a0h a0cn a0c a1x a1y a1k))=true→
 K (V.lit false))∧
 ((!(acR a0r a0w a0h a0cn a0c a1x a1y a1k==acR a0r a0w a0h a0cn a0c a1x a1y a1k && acB a0r a0w a0h a0cn a0c a1x a1y a1k==acB a0r a0w a0h a0cn a0c a1x a1y a1k && acW a0r a0w a0h a0cn a0c a1x a1y a1k==acW a0r a0w a0h a0cn a0c a1x a1y a1k && acH a0r a0w a0h a0cn a0c a1x a1y a1k==acH a0r a0w a0h a0cn a0c a1x a1y a1k))=false→
 ((!acG a0r a0w a0h a0cn a0c a1x a1y a1k==acG a0r a0w a0h a0cn a0c a1x a1y a1k)=true→K (V.lit false))∧((!acG a0r a0w a0h a0cn a0c a1x a1y a1k==acG a0r a0w a0h a0cn a0c a1x a1y a1k)=false→
 At (List.length (ramp (1:Int) ((3:Nat) * acN a0r a0w a0h a0cn a0c a1x a1y a1k))=(3:Nat) * acN a0r a0w a0h a0cn a0c a1x a1y a1k∧acN a0r a0w a0h a0cn a0c a1x a1y a1k≤(2000000:Nat)∧(0:Int)≤(1:Int)∧(1:Int)≤(1000:Int))∧
 (decide ((bif ramp (1:Int) ((3:Nat) * acN a0r a0w a0h a0cn a0c a1x a1y a1k)==ramp (1:Int) ((3:Nat) * acN a0r a0w a0h a0cn a0c a1x a1y a1k) then (1:Int) + (↑((3:Nat) * acN a0r a0w a0h a0cn a0c a1x a1y a1k):Int) else (-1:Int)) < (0:Int))=true→
 K (V.lit false))∧
 (decide ((bif ramp (1:Int) ((3:Nat) * acN a0r a0w a0h a0cn a0c a1x a1y a1k)==ramp (1:Int) ((3:Nat) * acN a0r a0w a0h a0cn a0c a1x a1y a1k) then (1:Int) + (↑((3:Nat) * acN a0r a0w a0h a0cn a0c a1x a1y a1k):Int) else (-1:Int)) < (0:Int))=false→
 (((bif ramp (1:Int) ((3:Nat) * acN a0r a0w a0h a0cn a0c a1x a1y a1k)==ramp (1:Int) ((3:Nat) * acN a0r a0w a0h a0cn a0c a1x a1y a1k) then (1:Int) + (↑((3:Nat) * acN a0r a0w a0h a0cn a0c a1x a1y a1k):Int) else (-1:Int)) != (1:Int) + (↑((3:Nat) * acN a0r a0w a0h a0cn a0c a1x a1y a1k):Int))=true→
 K (V.lit false))∧
 (((bif ramp (1:Int) ((3:Nat) * acN a0r a0w a0h a0cn a0c a1x a1y a1k)==ramp (1:Int) ((3:Nat) * acN a0r a0w a0h a0cn a0c a1x a1y a1k) then (1:Int) + (↑((3:Nat) * acN a0r a0w a0h a0cn a0c a1x a1y a1k):Int) else (-1:Int)) != (1:Int) + (↑((3:Nat) * acN a0r a0w a0h a0cn a0c a1x a1y a1k):Int))=false→
 K (V.lit true))))))∧True)∧True)∧True)∧True)∧((At (List.length a0c=a0cn * (3:Nat)∧a0cn≤(2000000:Nat))∧(At True∧(At (List.length a0c=a0cn * (3:Nat)∧a0cn≤(2000000:Nat))∧
 (At (List.length (acB a0r a0w a0h a0cn a0c a1x a1y a1k)=(3:Nat) * acN a0r a0w a0h a0cn a0c a1x a1y a1k∧List.length (acB a0r a0w a0h a0cn a0c a1x a1y a1k)=(3:Nat) * acN a0r a0w a0h a0cn a0c a1x a1y a1k∧
 acN a0r a0w a0h a0cn a0c a1x a1y a1k≤(2000000:Nat)∧acN a0r a0w a0h a0cn a0c a1x a1y a1k≤(2000000:Nat))∧
 ((!(acR a0r a0w a0h a0cn a0c a1x a1y a1k==acR a0r a0w a0h a0cn a0c a1x a1y a1k && acB a0r a0w a0h a0cn a0c a1x a1y a1k==acB a0r a0w a0h a0cn a0c a1x a1y a1k && acW a0r a0w a0h a0cn a0c a1x a1y a1k==acW a0r a0w a0h a0cn a0c a1x a1y a1k && acH a0r a0w a0h a0cn a0c a1x a1y a1k==acH a0r a0w a0h a0cn a0c a1x a1y a1k))=true→
 K (V.lit false))∧
 ((!(acR a0r a0w a0h a0cn a0c a1x a1y a1k==acR a0r a0w a0h a0cn a0c a1x a1y a1k && acB a0r a0w a0h a0cn a0c a1x a1y a1k==acB a0r a0w a0h a0cn a0c a1x a1y a1k && acW a0r a0w a0h a0cn a0c a1x a1y a1k==acW a0r a0w a0h a0cn a0c a1x a1y a1k && acH a0r a0w a0h a0cn a0c a1x a1y a1k==acH a0r a0w a0h a0cn a0c a1x a1y a1k))=false→
 ((!acG a0r a0w a0h a0cn a0c a1x a1y a1k==acG a0r a0w a0h a0cn a0c a1x a1y a1k)=true→K (V.lit false))∧((!acG a0r a0w a0h a0cn a0c a1x a1y a1k==acG a0r a0w a0h a0cn a0c a1x a1y a1k)=false→
 At (List.length (ramp (1:Int) ((3:Nat) * acN a0r a0w a0h a0cn a0c a1x a1y a1k))=(3:Nat) * acN a0r a0w a0h a0cn a0c a1x a1y a1k∧acN a0r a0w a0h a0cn a0c a1x a1y a1k≤(2000000:Nat)∧(0:Int)≤(1:Int)∧(1:Int)≤(1000:Int))∧
 (decide ((bif ramp (1:Int) ((3:Nat) * acN a0r a0w a0h a0cn a0c a1x a1y a1k)==ramp (1:Int) ((3:Nat) * acN a0r a0w a0h a0cn a0c a1x a1y a1k) then (1:Int) + (↑((3:Nat) * acN a0r a0w a0h a0cn a0c a1x a1y a1k):Int) else (-1:Int)) < (0:Int))=true→
 K (V.lit false))∧
 (decide ((bif ramp (1:Int) ((3:Nat) * acN a0r a0w a0h a0cn a0c a1x a1y a1k)==ramp (1:Int) ((3:Nat) * acN a0r a0w a0h a0cn a0c a1x a1y a1k) then (1:Int) + (↑((3:Nat) * acN a0r a0w a0h a0cn a0c a1x a1y a1k):Int) else (-1:Int)) < (0:Int))=false→
 (((bif ramp (1:Int) ((3:Nat) * acN a0r a0w a0h a0cn a0c a1x a1y a1k)==ramp (1:Int) ((3:Nat) * acN a0r a0w a0h a0cn a0c a1x a1y a1k) then (1:Int) + (↑((3:Nat) * acN a0r a0w a0h a0cn a0c a1x a1y a1k):Int) else (-1:Int)) != (1:Int) + (↑((3:Nat) * acN a0r a0w a0h a0cn a0c a1x a1y a1k):Int))=true→
 K (V.lit false))∧
 (((bif ramp (1:Int) ((3:Nat) * acN a0r a0w a0h a0cn a0c a1x a1y a1k)==ramp (1:Int) ((3:Nat) * acN a0r a0w a0h a0cn a0c a1x a1y a1k) then (1:Int) + (↑((3:Nat) * acN a0r a0w a0h a0cn a0c a1x a1y a1k):Int) else (-1:Int)) != (1:Int) + (↑((3:Nat) * acN a0r a0w a0h a0cn a0c a1x a1y a1k):Int))=false→
 K (V.lit true))))))∧True)∧True)∧True)∧True)∧True)∧True)∧(((At (List.length a0c=a0cn * (3:Nat)∧a0cn≤(2000000:Nat))∧(At True∧(At (List.length a0c=a0cn * (3:Nat)∧a0cn≤(2000000:Nat))∧
 ((At (List.length (acB a0r a0w a0h a0cn a0c a1x a1y a1k)=(3:Nat) * acN a0r a0w a0h a0cn a0c a1x a1y a1k∧List.length (acB a0r a0w a0h a0cn a0c a1x a1y a1k)=(3:Nat) * acN a0r a0w a0h a0cn a0c a1x a1y a1k∧
 acN a0r a0w a0h a0cn a0c a1x a1y a1k≤(2000000:Nat)∧acN a0r a0w a0h a0cn a0c a1x a1y a1k≤(2000000:Nat))∧
 ((!(acR a0r a0w a0h a0cn a0c a1x a1y a1k==acR a0r a0w a0h a0cn a0c a1x a1y a1k && acB a0r a0w a0h a0cn a0c a1x a1y a1k==acB a0r a0w a0h a0cn a0c a1x a1y a1k && acW a0r a0w a0h a0cn a0c a1x a1y a1k==acW a0r a0w a0h a0cn a0c a1x a1y a1k && acH a0r a0w a0h a0cn a0c a1x a1y a1k==acH a0r a0w a0h a0cn a0c a1x a1y a1k))=true→
 K (V.lit false))∧
 ((!(acR a0r a0w a0h a0cn a0c a1x a1y a1k==acR a0r a0w a0h a0cn a0c a1x a1y a1k && acB a0r a0w a0h a0cn a0c a1x a1y a1k==acB a0r a0w a0h a0cn a0c a1x a1y a1k && acW a0r a0w a0h a0cn a0c a1x a1y a1k==acW a0r a0w a0h a0cn a0c a1x a1y a1k && acH a0r a0w a0h a0cn a0c a1x a1y a1k==acH a0r a0w a0h a0cn a0c a1x a1y a1k))=false→
 ((!acG a0r a0w a0h a0cn a0c a1x a1y a1k==acG a0r a0w a0h a0cn a0c a1x a1y a1k)=true→K (V.lit false))∧((!acG a0r a0w a0h a0cn a0c a1x a1y a1k==acG a0r a0w a0h a0cn a0c a1x a1y a1k)=false→
 At (List.length (ramp (1:Int) ((3:Nat) * acN a0r a0w a0h a0cn a0c a1x a1y a1k))=(3:Nat) * acN a0r a0w a0h a0cn a0c a1x a1y a1k∧acN a0r a0w a0h a0cn a0c a1x a1y a1k≤(2000000:Nat)∧(0:Int)≤(1:Int)∧(1:Int)≤(1000:Int))∧
 (decide ((bif ramp (1:Int) ((3:Nat) * acN a0r a0w a0h a0cn a0c a1x a1y a1k)==ramp (1:Int) ((3:Nat) * acN a0r a0w a0h a0cn a0c a1x a1y a1k) then (1:Int) + (↑((3:Nat) * acN a0r a0w a0h a0cn a0c a1x a1y a1k):Int) else (-1:Int)) < (0:Int))=true→
 K (V.lit false))∧
 (decide ((bif ramp (1:Int) ((3:Nat) * acN a0r a0w a0h a0cn a0c a1x a1y a1k)==ramp (1:Int) ((3:Nat) * acN a0r a0w a0h a0cn a0c a1x a1y a1k) then (1:Int) + (↑((3:Nat) * acN a0r a0w a0h a0cn a0c a1x a1y a1k):Int) else (-1:Int)) < (0:Int))=false→
 (((bif ramp (1:Int) ((3:Nat) * acN a0r a0w a0h a0cn a0c a1x a1y a1k)==ramp (1:Int) ((3:Nat) * acN a0r a0w a0h a0cn a0c a1x a1y a1k) then (1:Int) + (↑((3:Nat) * acN a0r a0w a0h a0cn a0c a1x a1y a1k):Int) else (-1:Int)) != (1:Int) + (↑((3:Nat) * acN a0r a0w a0h a0cn a0c a1x a1y a1k):Int))=true→
 K (V.lit false))∧
 (((bif ramp (1:Int) ((3:Nat) * acN a0r a0w a0h a0cn a0c a1x a1y a1k)==ramp (1:Int) ((3:Nat) * acN a0r a0w a0h a0cn a0c a1x a1y a1k) then (1:Int) + (↑((3:Nat) * acN a0r a0w a0h a0cn a0c a1x a1y a1k):Int) else (-1:Int)) != (1:Int) + (↑((3:Nat) * acN a0r a0w a0h a0cn a0c a1x a1y a1k):Int))=false→
 K (V.lit true))))))∧True)∧True)∧((At (List.length a0c=a0cn * (3:Nat)∧a0cn≤(2000000:Nat))∧(At (List.length (acB a0r a0w a0h a0cn a0c a1x a1y a1k)=(3:Nat) * acN a0r a0w a0h a0cn a0c a1x a1y a1k∧
 List.length (acB a0r a0w a0h a0cn a0c a1x a1y a1k)=(3:Nat) * acN a0r a0w a0h a0cn a0c a1x a1y a1k∧acN a0r a0w a0h a0cn a0c a1x a1y a1k≤(2000000:Nat)∧acN a0r a0w a0h a0cn a0c a1x a1y a1k≤(2000000:Nat))∧
 ((!(acR a0r a0w a0h a0cn a0c a1x a1y a1k==acR a0r a0w a0h a0cn a0c a1x a1y a1k && acB a0r a0w a0h a0cn a0c a1x a1y a1k==acB a0r a0w a0h a0cn a0c a1x a1y a1k && acW a0r a0w a0h a0cn a0c a1x a1y a1k==acW a0r a0w a0h a0cn a0c a1x a1y a1k && acH a0r a0w a0h a0cn a0c a1x a1y a1k==acH a0r a0w a0h a0cn a0c a1x a1y a1k))=true→
 K (V.lit false))∧
 ((!(acR a0r a0w a0h a0cn a0c a1x a1y a1k==acR a0r a0w a0h a0cn a0c a1x a1y a1k && acB a0r a0w a0h a0cn a0c a1x a1y a1k==acB a0r a0w a0h a0cn a0c a1x a1y a1k && acW a0r a0w a0h a0cn a0c a1x a1y a1k==acW a0r a0w a0h a0cn a0c a1x a1y a1k && acH a0r a0w a0h a0cn a0c a1x a1y a1k==acH a0r a0w a0h a0cn a0c a1x a1y a1k))=false→
 ((!acG a0r a0w a0h a0cn a0c a1x a1y a1k==acG a0r a0w a0h a0cn a0c a1x a1y a1k)=true→K (V.lit false))∧((!acG a0r a0w a0h a0cn a0c a1x a1y a1k==acG a0r a0w a0h a0cn a0c a1x a1y a1k)=false→
 At (List.length (ramp (1:Int) ((3:Nat) * acN a0r a0w a0h a0cn a0c a1x a1y a1k))=(3:Nat) * acN a0r a0w a0h a0cn a0c a1x a1y a1k∧acN a0r a0w a0h a0cn a0c a1x a1y a1k≤(2000000:Nat)∧(0:Int)≤(1:Int)∧(1:Int)≤(1000:Int))∧
 (decide ((bif ramp (1:Int) ((3:Nat) * acN a0r a0w a0h a0cn a0c a1x a1y a1k)==ramp (1:Int) ((3:Nat) * acN a0r a0w a0h a0cn a0c a1x a1y a1k) then (1:Int) + (↑((3:Nat) * acN a0r a0w a0h a0cn a0c a1x a1y a1k):Int) else (-1:Int)) < (0:Int))=true→
 K (V.lit false))∧
 (decide ((bif ramp (1:Int) ((3:Nat) * acN a0r a0w a0h a0cn a0c a1x a1y a1k)==ramp (1:Int) ((3:Nat) * acN a0r a0w a0h a0cn a0c a1x a1y a1k) then (1:Int) + (↑((3:Nat) * acN a0r a0w a0h a0cn a0c a1x a1y a1k):Int) else (-1:Int)) < (0:Int))=false→
 (((bif ramp (1:Int) ((3:Nat) * acN a0r a0w a0h a0cn a0c a1x a1y a1k)==ramp (1:Int) ((3:Nat) * acN a0r a0w a0h a0cn a0c a1x a1y a1k) then (1:Int) + (↑((3:Nat) * acN a0r a0w a0h a0cn a0c a1x a1y a1k):Int) else (-1:Int)) != (1:Int) + (↑((3:Nat) * acN a0r a0w a0h a0cn a0c a1x a1y a1k):Int))=true→
 K (V.lit false))∧
 (((bif ramp (1:Int) ((3:Nat) * acN a0r a0w a0h a0cn a0c a1x a1y a1k)==ramp (1:Int) ((3:Nat) * acN a0r a0w a0h a0cn a0c a1x a1y a1k) then (1:Int) + (↑((3:Nat) * acN a0r a0w a0h a0cn a0c a1x a1y a1k):Int) else (-1:Int)) != (1:Int) + (↑((3:Nat) * acN a0r a0w a0h a0cn a0c a1x a1y a1k):Int))=false→
 K (V.lit true))))))∧True)∧True)∧True)∧((At True∧(At (List.length a0c=a0cn * (3:Nat)∧a0cn≤(2000000:Nat))∧(At (List.length (acB a0r a0w a0h a0cn a0c a1x a1y a1k)=(3:Nat) * acN a0r a0w a0h a0cn a0c a1x a1y a1k∧
 List.length (acB a0r a0w a0h a0cn a0c a1x a1y a1k)=(3:Nat) * acN a0r a0w a0h a0cn a0c a1x a1y a1k∧acN a0r a0w a0h a0cn a0c a1x a1y a1k≤(2000000:Nat)∧acN a0r a0w a0h a0cn a0c a1x a1y a1k≤(2000000:Nat))∧
 ((!(acR a0r a0w a0h a0cn a0c a1x a1y a1k==acR a0r a0w a0h a0cn a0c a1x a1y a1k && acB a0r a0w a0h a0cn a0c a1x a1y a1k==acB a0r a0w a0h a0cn a0c a1x a1y a1k && acW a0r a0w a0h a0cn a0c a1x a1y a1k==acW a0r a0w a0h a0cn a0c a1x a1y a1k && acH a0r a0w a0h a0cn a0c a1x a1y a1k==acH a0r a0w a0h a0cn a0c a1x a1y a1k))=true→
 K (V.lit false))∧
 ((!(acR a0r a0w a0h a0cn a0c a1x a1y a1k==acR a0r a0w a0h a0cn a0c a1x a1y a1k && acB a0r a0w a0h a0cn a0c a1x a1y a1k==acB a0r a0w a0h a0cn a0c a1x a1y a1k && acW a0r a0w a0h a0cn a0c a1x a1y a1k==acW a0r a0w a0h a0cn a0c a1x a1y a1k && acH a0r a0w a0h a0cn a0c a1x a1y a1k==acH a0r a0w a0h a0cn a0c a1x a1y a1k))=false→
 ((!acG a0r a0w a0h a0cn a0c a1x a1y a1k==acG a0r a0w a0h a0cn a0c a1x a1y a1k)=true→K (V.lit false))∧((!acG a0r a0w a0h a0cn a0c a1x a1y a1k==acG a0r a0w a0h a0cn a0c a1x a1y a1k)=false→
 At (List.length (ramp (1:Int) ((3:Nat) * acN a0r a0w a0h a0cn a0c a1x a1y a1k))=(3:Nat) * acN a0r a0w a0h a0cn a0c a1x a1y a1k∧acN a0r a0w a0h a0cn a0c a1x a1y a1k≤(2000000:Nat)∧(0:Int)≤(1:Int)∧(1:Int)≤(1000:Int))∧
 (decide ((bif ramp (1:Int) ((3:Nat) * acN a0r a0w a0h a0cn a0c a1x a1y a1k)==ramp (1:Int) ((3:Nat) * acN a0r a0w a0h a0cn a0c a1x a1y a1k) then (1:Int) + (↑((3:Nat) * acN a0r a0w a0h a0cn a0c a1x a1y a1k):Int) else (-1:Int)) < (0:Int))=true→
 K (V.lit false))∧
 (decide ((bif ramp (1:Int) ((3:Nat) * acN a0r a0w a0h a0cn a0c a1x a1y a1k)==ramp (1:Int) ((3:Nat) * acN a0r a0w a0h a0cn a0c a1x a1y a1k) then (1:Int) + (↑((3:Nat) * acN a0r a0w a0h a0cn a0c a1x a1y a1k):Int) else (-1:Int)) < (0:Int))=false→
 (((bif ramp (1:Int) ((3:Nat) * acN a0r a0w a0h a0cn a0c a1x a1y a1k)==ramp (1:Int) ((3:Nat) * acN a0r a0w a0h a0cn a0c a1x a1y a1k) then (1:Int) + (↑((3:Nat) * acN a0r a0w a0h a0cn a0c a1x a1y a1k):Int) else (-1:Int)) != (1:Int) + (↑((3:Nat) * acN a0r a0w a0h a0cn a0c a1x a1y a1k):Int))=true→
 K (V.lit false))∧
 (((bif ramp (1:Int) ((3:Nat) * acN a0r a0w a0h a0cn a0c a1x a1y a1k)==ramp (1:Int) ((3:Nat) * acN a0r a0w a0h a0cn a0c a1x a1y a1k) then (1:Int) + (↑((3:Nat) * acN a0r a0w a0h a0cn a0c a1x a1y a1k):Int) else (-1:Int)) != (1:Int) + (↑((3:Nat) * acN a0r a0w a0h a0cn a0c a1x a1y a1k):Int))=false→
 K (V.lit true))))))∧True)∧True)∧True)∧True)∧((At (List.length a0c=a0cn * (3:Nat)∧a0cn≤(2000000:Nat))∧(At True∧(At (List.length a0c=a0cn * (3:Nat)∧a0cn≤(2000000:Nat))∧
 (At (List.length (acB a0r a0w a0h a0cn a0c a1x a1y a1k)=(3:Nat) * acN a0r a0w a0h a0cn a0c a1x a1y a1k∧List.length (acB a0r a0w a0h a0cn a0c a1x a1y a1k)=(3:Nat) * acN a0r a0w a0h a0cn a0c a1x a1y a1k∧
 acN a0r a0w a0h a0cn a0c a1x a1y a1k≤(2000000:Nat)∧acN a0r a0w a0h a0cn a0c a1x a1y a1k≤(2000000:Nat))∧
 ((!(acR a0r a0w a0h a0cn a0c a1x a1y a1k==acR a0r a0w a0h a0cn a0c a1x a1y a1k && acB a0r a0w a0h a0cn a0c a1x a1y a1k==acB a0r a0w a0h a0cn a0c a1x a1y a1k && acW a0r a0w a0h a0cn a0c a1x a1y a1k==acW a0r a0w a0h a0cn a0c a1x a1y a1k && acH a0r a0w a0h a0cn a0c a1x a1y a1k==acH a0r a0w a0h a0cn a0c a1x a1y a1k))=true→
 K (V.lit false))∧
 ((!(acR a0r a0w a0h a0cn a0c a1x a1y a1k==acR a0r a0w a0h a0cn a0c a1x a1y a1k && acB a0r a0w a0h a0cn a0c a1x a1y a1k==acB a0r a0w a0h a0cn a0c a1x a1y a1k && acW a0r a0w a0h a0cn a0c a1x a1y a1k==acW a0r a0w a0h a0cn a0c a1x a1y a1k && acH a0r a0w a0h a0cn a0c a1x a1y a1k==acH a0r a0w a0h a0cn a0c a1x a1y a1k))=false→
 ((!acG a0r a0w a0h a0cn a0c a1x a1y a1k==acG a0r a0w a0h a0cn a0c a1x a1y a1k)=true→K (V.lit false))∧((!acG a0r a0w a0h a0cn a0c a1x a1y a1k==acG a0r a0w a0h a0cn a0c a1x a1y a1k)=false→
 At (List.length (ramp (1:Int) ((3:Nat) * acN a0r a0w a0h a0cn a0c a1x a1y a1k))=(3:Nat) * acN a0r a0w a0h a0cn a0c a1x a1y a1k∧acN a0r a0w a0h a0cn a0c a1x a1y a1k≤(2000000:Nat)∧(0:Int)≤(1:Int)∧(1:Int)≤(1000:Int))∧
 (decide ((bif ramp (1:Int) ((3:Nat) * acN a0r a0w a0h a0cn a0c a1x a1y a1k)==ramp (1:Int) ((3:Nat) * acN a0r a0w a0h a0cn a0c a1x a1y a1k) then (1:Int) + (↑((3:Nat) * acN a0r a0w a0h a0cn a0c a1x a1y a1k):Int) else (-1:Int)) < (0:Int))=true→
 K (V.lit false))∧
 (decide ((bif ramp (1:Int) ((3:Nat) * acN a0r a0w a0h a0cn a0c a1x a1y a1k)==ramp (1:Int) ((3:Nat) * acN a0r a0w a0h a0cn a0c a1x a1y a1k) then (1:Int) + (↑((3:Nat) * acN a0r a0w a0h a0cn a0c a1x a1y a1k):Int) else (-1:Int)) < (0:Int))=false→
 (((bif ramp (1:Int) ((3:Nat) * acN a0r a0w a0h a0cn a0c a1x a1y a1k)==ramp (1:Int) ((3:Nat) * acN a0r a0w a0h a0cn a0c a1x a1y a1k) then (1:Int) + (↑((3:Nat) * acN a0r a0w a0h a0cn a0c a1x a1y a1k):Int) else (-1:Int)) != (1:Int) + (↑((3:Nat) * acN a0r a0w a0h a0cn a0c a1x a1y a1k):Int))=true→
 K (V.lit false))∧
 (((bif ramp (1:Int) ((3:Nat) * acN a0r a0w a0h a0cn a0c a1x a1y a1k)==ramp (1:Int) ((3:Nat) * acN a0r a0w a0h a0cn a0c a1x a1y a1k) then (1:Int) + (↑((3:Nat) * acN a0r a0w a0h a0cn a0c a1x a1y a1k):Int) else (-1:Int)) != (1:Int) + (↑((3:Nat) * acN a0r a0w a0h a0cn a0c a1x a1y a1k):Int))=false→
 K (V.lit true))))))∧True)∧True)∧True)∧True)∧True)∧(((At (List.length a0c=a0cn * (3:Nat)∧a0cn≤(2000000:Nat))∧(At True∧(At (List.length a0c=a0cn * (3:Nat)∧a0cn≤(2000000:Nat))∧
 (At (List.length (acB a0r a0w a0h a0cn a0c a1x a1y a1k)=(3:Nat) * acN a0r a0w a0h a0cn a0c a1x a1y a1k∧List.length (acB a0r a0w a0h a0cn a0c a1x a1y a1k)=(3:Nat) * acN a0r a0w a0h a0cn a0c a1x a1y a1k∧
 acN a0r a0w a0h a0cn a0c a1x a1y a1k≤(2000000:Nat)∧acN a0r a0w a0h a0cn a0c a1x a1y a1k≤(2000000:Nat))∧
 ((!(acR a0r a0w a0h a0cn a0c a1x a1y a1k==acR a0r a0w a0h a0cn a0c a1x a1y a1k && acB a0r a0w a0h a0cn a0c a1x a1y a1k==acB a0r a0w a0h a0cn a0c a1x a1y a1k && acW a0r a0w a0h a0cn a0c a1x a1y a1k==acW a0r a0w a0h a0cn a0c a1x a1y a1k && acH a0r a0w a0h a0cn a0c a1x a1y a1k==acH a0r a0w a0h a0cn a0c a1x a1y a1k))=true→
 K (V.lit false))∧
 ((!(acR a0r a0w a0h a0cn a0c a1x a1y a1k==acR a0r a0w a0h a0cn a0c a1x a1y a1k && acB a0r a0w a0h a0cn a0c a1x a1y a1k==acB a0r a0w a0h a0cn a0c a1x a1y a1k && acW a0r a0w a0h a0cn a0c a1x a1y a1k==acW a0r a0w a0h a0cn a0c a1x a1y a1k && acH a0r a0w a0h a0cn a0c a1x a1y a1k==acH a0r a0w a0h a0cn a0c a1x a1y a1k))=false→
 ((!acG a0r a0w a0h a0cn a0c a1x a1y a1k==acG a0r a0w a0h a0cn a0c a1x a1y a1k)=true→K (V.lit false))∧((!acG a0r a0w a0h a0cn a0c a1x a1y a1k==acG a0r a0w a0h a0cn a0c a1x a1y a1k)=false→
 At (List.length (ramp (1:Int) ((3:Nat) * acN a0r a0w a0h a0cn a0c a1x a1y a1k))=(3:Nat) * acN a0r a0w a0h a0cn a0c a1x a1y a1k∧acN a0r a0w a0h a0cn a0c a1x a1y a1k≤(2000000:Nat)∧(0:Int)≤(1:Int)∧(1:Int)≤(1000:Int))∧
 (decide ((bif ramp (1:Int) ((3:Nat) * acN a0r a0w a0h a0cn a0c a1x a1y a1k)==ramp (1:Int) ((3:Nat) * acN a0r a0w a0h a0cn a0c a1x a1y a1k) then (1:Int) + (↑((3:Nat) * acN a0r a0w a0h a0cn a0c a1x a1y a1k):Int) else (-1:Int)) < (0:Int))=true→
 K (V.lit false))∧
 (decide ((bif ramp (1:Int) ((3:Nat) * acN a0r a0w a0h a0cn a0c a1x a1y a1k)==ramp (1:Int) ((3:Nat) * acN a0r a0w a0h a0cn a0c a1x a1y a1k) then (1:Int) + (↑((3:Nat) * acN a0r a0w a0h a0cn a0c a1x a1y a1k):Int) else (-1:Int)) < (0:Int))=false→
 (((bif ramp (1:Int) ((3:Nat) * acN a0r a0w a0h a0cn a0c a1x a1y a1k)==ramp (1:Int) ((3:Nat) * acN a0r a0w a0h a0cn a0c a1x a1y a1k) then (1:Int) + (↑((3:Nat) * acN a0r a0w a0h a0cn a0c a1x a1y a1k):Int) else (-1:Int)) != (1:Int) + (↑((3:Nat) * acN a0r a0w a0h a0cn a0c a1x a1y a1k):Int))=true→
 K (V.lit false))∧
 (((bif ramp (1:Int) ((3:Nat) * acN a0r a0w a0h a0cn a0c a1x a1y a1k)==ramp (1:Int) ((3:Nat) * acN a0r a0w a0h a0cn a0c a1x a1y a1k) then (1:Int) + (↑((3:Nat) * acN a0r a0w a0h a0cn a0c a1x a1y a1k):Int) else (-1:Int)) != (1:Int) + (↑((3:Nat) * acN a0r a0w a0h a0cn a0c a1x a1y a1k):Int))=false→
 K (V.lit true))))))∧True)∧True)∧True)∧True)∧True)∧True)∧(((At (List.length a0c=a0cn * (3:Nat)∧a0cn≤(2000000:Nat))∧((At True∧(At (List.length a0c=a0cn * (3:Nat)∧a0cn≤(2000000:Nat))∧
 (At (List.length (acB a0r a0w a0h a0cn a0c a1x a1y a1k)=(3:Nat) * acN a0r a0w a0h a0cn a0c a1x a1y a1k∧List.length (acB a0r a0w a0h a0cn a0c a1x a1y a1k)=(3:Nat) * acN a0r a0w a0h a0cn a0c a1x a1y a1k∧
 acN a0r a0w a0h a0cn a0c a1x a1y a1k≤(2000000:Nat)∧acN a0r a0w a0h a0cn a0c a1x a1y a1k≤(2000000:Nat))∧
 ((!(acR a0r a0w a0h a0cn a0c a1x a1y a1k==acR a0r a0w a0h a0cn a0c a1x a1y a1k && acB a0r a0w a0h a0cn a0c a1x a1y a1k==acB a0r a0w a0h a0cn a0c a1x a1y a1k && acW a0r a0w a0h a0cn a0c a1x a1y a1k==acW a0r a0w a0h a0cn a0c a1x a1y a1k && acH a0r a0w a0h a0cn a0c a1x a1y a1k==acH a0r a0w a0h a0cn a0c a1x a1y a1k))=true→
 K (V.lit false))∧
 ((!(acR a0r a0w a0h a0cn a0c a1x a1y a1k==acR a0r a0w a0h a0cn a0c a1x a1y a1k && acB a0r a0w a0h a0cn a0c a1x a1y a1k==acB a0r a0w a0h a0cn a0c a1x a1y a1k && acW a0r a0w a0h a0cn a0c a1x a1y a1k==acW a0r a0w a0h a0cn a0c a1x a1y a1k && acH a0r a0w a0h a0cn a0c a1x a1y a1k==acH a0r a0w a0h a0cn a0c a1x a1y a1k))=false→
 ((!acG a0r a0w a0h a0cn a0c a1x a1y a1k==acG a0r a0w a0h a0cn a0c a1x a1y a1k)=true→K (V.lit false))∧((!acG a0r a0w a0h a0cn a0c a1x a1y a1k==acG a0r a0w a0h a0cn a0c a1x a1y a1k)=false→
 At (List.length (ramp (1:Int) ((3:Nat) * acN a0r a0w a0h a0cn a0c a1x a1y a1k))=(3:Nat) * acN a0r a0w a0h a0cn a0c a1x a1y a1k∧acN a0r a0w a0h a0cn a0c a1x a1y a1k≤(2000000:Nat)∧(0:Int)≤(1:Int)∧(1:Int)≤(1000:Int))∧
 (decide ((bif ramp (1:Int) ((3:Nat) * acN a0r a0w a0h a0cn a0c a1x a1y a1k)==ramp (1:Int) ((3:Nat) * acN a0r a0w a0h a0cn a0c a1x a1y a1k) then (1:Int) + (↑((3:Nat) * acN a0r a0w a0h a0cn a0c a1x a1y a1k):Int) else (-1:Int)) < (0:Int))=true→
 K (V.lit false))∧
 (decide ((bif ramp (1:Int) ((3:Nat) * acN a0r a0w a0h a0cn a0c a1x a1y a1k)==ramp (1:Int) ((3:Nat) * acN a0r a0w a0h a0cn a0c a1x a1y a1k) then (1:Int) + (↑((3:Nat) * acN a0r a0w a0h a0cn a0c a1x a1y a1k):Int) else (-1:Int)) < (0:Int))=false→
 (((bif ramp (1:Int) ((3:Nat) * acN a0r a0w a0h a0cn a0c a1x a1y a1k)==ramp (1:Int) ((3:Nat) * acN a0r a0w a0h a0cn a0c a1x a1y a1k) then (1:Int) + (↑((3:Nat) * acN a0r a0w a0h a0cn a0c a1x a1y a1k):Int) else (-1:Int)) != (1:Int) + (↑((3:Nat) * acN a0r a0w a0h a0cn a0c a1x a1y a1k):Int))=true→
 K (V.lit false))∧
 (((bif ramp (1:Int) ((3:Nat) * acN a0r a0w a0h a0cn a0c a1x a1y a1k)==ramp (1:Int) ((3:Nat) * acN a0r a0w a0h a0cn a0c a1x a1y a1k) then (1:Int) + (↑((3:Nat) * acN a0r a0w a0h a0cn a0c a1x a1y a1k):Int) else (-1:Int)) != (1:Int) + (↑((3:Nat) * acN a0r a0w a0h a0cn a0c a1x a1y a1k):Int))=false→
 K (V.lit true))))))∧True)∧True)∧True)∧True)∧((At (List.length a0c=a0cn * (3:Nat)∧a0cn≤(2000000:Nat))∧(At True∧(At (List.length a0c=a0cn * (3:Nat)∧a0cn≤(2000000:Nat))∧
 (At (List.length (acB a0r a0w a0h a0cn a0c a1x a1y a1k)=(3:Nat) * acN a0r a0w a0h a0cn a0c a1x a1y a1k∧List.length (acB a0r a0w a0h a0cn a0c a1x a1y a1k)=(3:Nat) * acN a0r a0w a0h a0cn a0c a1x a1y a1k∧
 acN a0r a0w a0h a0cn a0c a1x a1y a1k≤(2000000:Nat)∧acN a0r a0w a0h a0cn a0c a1x a1y a1k≤(2000000:Nat))∧
 ((!(acR a0r a0w a0h a0cn a0c a1x a1y a1k==acR a0r a0w a0h a0cn a0c a1x a1y a1k && acB a0r a0w a0h a0cn a0c a1x a1y a1k==acB a0r a0w a0h a0cn a0c a1x a1y a1k && acW a0r a0w a0h a0cn a0c a1x a1y a1k==acW a0r a0w a0h a0cn a0c a1x a1y a1k && acH a0r a0w a0h a0cn a0c a1x a1y a1k==acH a0r a0w a0h a0cn a0c a1x a1y a1k))=true→
 K (V.lit false))∧
 ((!(acR a0r a0w a0h a0cn a0c a1x a1y a1k==acR a0r a0w a0h a0cn a0c a1x a1y a1k && acB a0r a0w a0h a0cn a0c a1x a1y a1k==acB a0r a0w a0h a0cn a0c a1x a1y a1k && acW a0r a0w a0h a0cn a0c a1x a1y a1k==acW a0r a0w a0h a0cn a0c a1x a1y a1k && acH a0r a0w a0h a0cn a0c a1x a1y a1k==acH a0r a0w a0h a0cn a0c a1x a1y a1k))=false→
 ((!acG a0r a0w a0h a0cn a0c a1x a1y a1k==acG a0r a0w a0h a0cn a0c a1x a1y a1k)=true→K (V.lit false))∧((!acG a0r a0w a0h a0cn a0c a1x a1y a1k==acG a0r a0w a0h a0cn a0c a1x a1y a1k)=false→
 At (List.length (ramp (1:Int) ((3:Nat) * acN a0r a0w a0h a0cn a0c a1x a1y a1k))=(3:Nat) * acN a0r a0w a0h a0cn a0c a1x a1y a1k∧acN a0r a0w a0h a0cn a0c a1x a1y a1k≤(2000000:Nat)∧(0:Int)≤(1:Int)∧(1:Int)≤(1000:Int))∧
 (decide ((bif ramp (1:Int) ((3:Nat) * acN a0r a0w a0h a0cn a0c a1x a1y a1k)==ramp (1:Int) ((3:Nat) * acN a0r a0w a0h a0cn a0c a1x a1y a1k) then (1:Int) + (↑((3:Nat) * acN a0r a0w a0h a0cn a0c a1x a1y a1k):Int) else (-1:Int)) < (0:Int))=true→
 K (V.lit false))∧
 (decide ((bif ramp (1:Int) ((3:Nat) * acN a0r a0w a0h a0cn a0c a1x a1y a1k)==ramp (1:Int) ((3:Nat) * acN a0r a0w a0h a0cn a0c a1x a1y a1k) then (1:Int) + (↑((3:Nat) * acN a0r a0w a0h a0cn a0c a1x a1y a1k):Int) else (-1:Int)) < (0:Int))=false→
 (((bif ramp (1:Int) ((3:Nat) * acN a0r a0w a0h a0cn a0c a1x a1y a1k)==ramp (1:Int) ((3:Nat) * acN a0r a0w a0h a0cn a0c a1x a1y a1k) then (1:Int) + (↑((3:Nat) * acN a0r a0w a0h a0cn a0c a1x a1y a1k):Int) else (-1:Int)) != (1:Int) + (↑((3:Nat) * acN a0r a0w a0h a0cn a0c a1x a1y a1k):Int))=true→
 K (V.lit false))∧
 (((bif ramp (1:Int) ((3:Nat) * acN a0r a0w a0h a0cn a0c a1x a1y a1k)==ramp (1:Int) ((3:Nat) * acN a0r a0w a0h a0cn a0c a1x a1y a1k) then (1:Int) + (↑((3:Nat) * acN a0r a0w a0h a0cn a0c a1x a1y a1k):Int) else (-1:Int)) != (1:Int) + (↑((3:Nat) * acN a0r a0w a0h a0cn a0c a1x a1y a1k):Int))=false→
 K (V.lit true))))))∧True)∧True)∧True)∧True)∧True)∧(((At (List.length a0c=a0cn * (3:Nat)∧a0cn≤(2000000:Nat))∧(At True∧(At (List.length a0c=a0cn * (3:Nat)∧a0cn≤(2000000:Nat))∧
 (At (List.length (acB a0r a0w a0h a0cn a0c a1x a1y a1k)=(3:Nat) * acN a0r a0w a0h a0cn a0c a1x a1y a1k∧List.length (acB a0r a0w a0h a0cn a0c a1x a1y a1k)=(3:Nat) * acN a0r a0w a0h a0cn a0c a1x a1y a1k∧
 acN a0r a0w a0h a0cn a0c a1x a1y a1k≤(2000000:Nat)∧acN a0r a0w a0h a0cn a0c a1x a1y a1k≤(2000000:Nat))∧
 ((!(acR a0r a0w a0h a0cn a0c a1x a1y a1k==acR a0r a0w a0h a0cn a0c a1x a1y a1k && acB a0r a0w a0h a0cn a0c a1x a1y a1k==acB a0r a0w a0h a0cn a0c a1x a1y a1k && acW a0r a0w a0h a0cn a0c a1x a1y a1k==acW a0r a0w a0h a0cn a0c a1x a1y a1k && acH a0r a0w a0h a0cn a0c a1x a1y a1k==acH a0r a0w a0h a0cn a0c a1x a1y a1k))=true→
 K (V.lit false))∧
 ((!(acR a0r a0w a0h a0cn a0c a1x a1y a1k==acR a0r a0w a0h a0cn a0c a1x a1y a1k && acB a0r a0w a0h a0cn a0c a1x a1y a1k==acB a0r a0w a0h a0cn a0c a1x a1y a1k && acW a0r a0w a0h a0cn a0c a1x a1y a1k==acW a0r a0w a0h a0cn a0c a1x a1y a1k && acH a0r a0w a0h a0cn a0c a1x a1y a1k==acH a0r a0w a0h a0cn a0c a1x a1y a1k))=false→
 ((!acG a0r a0w a0h a0cn a0c a1x a1y a1k==acG a0r a0w a0h a0cn a0c a1x a1y a1k)=true→K (V.lit false))∧((!acG a0r a0w a0h a0cn a0c a1x a1y a1k==acG a0r a0w a0h a0cn a0c a1x a1y a1k)=false→
 At (List.length (ramp (1:Int) ((3:Nat) * acN a0r a0w a0h a0cn a0c a1x a1y a1k))=(3:Nat) * acN a0r a0w a0h a0cn a0c a1x a1y a1k∧acN a0r a0w a0h a0cn a0c a1x a1y a1k≤(2000000:Nat)∧(0:Int)≤(1:Int)∧(1:Int)≤(1000:Int))∧
 (decide ((bif ramp (1:Int) ((3:Nat) * acN a0r a0w a0h a0cn a0c a1x a1y a1k)==ramp (1:Int) ((3:Nat) * acN a0r a0w a0h a0cn a0c a1x a1y a1k) then (1:Int) + (↑((3:Nat) * acN a0r a0w a0h a0cn a0c a1x a1y a1k):Int) else (-1:Int)) < (0:Int))=true→
 K (V.lit false))∧
 (decide ((bif ramp (1:Int) ((3:Nat) * acN a0r a0w a0h a0cn a0c a1x a1y a1k)==ramp (1:Int) ((3:Nat) * acN a0r a0w a0h a0cn a0c a1x a1y a1k) then (1:Int) + (↑((3:Nat) * acN a0r a0w a0h a0cn a0c a1x a1y a1k):Int) else (-1:Int)) < (0:Int))=false→
 (((bif ramp (1:Int) ((3:Nat) * acN a0r a0w a0h a0cn a0c a1x a1y a1k)==ramp (1:Int) ((3:Nat) * acN a0r a0w a0h a0cn a0c a1x a1y a1k) then (1:Int) + (↑((3:Nat) * acN a0r a0w a0h a0cn a0c a1x a1y a1k):Int) else (-1:Int)) != (1:Int) + (↑((3:Nat) * acN a0r a0w a0h a0cn a0c a1x a1y a1k):Int))=true→
 K (V.lit false))∧
 (((bif ramp (1:Int) ((3:Nat) * acN a0r a0w a0h a0cn a0c a1x a1y a1k)==ramp (1:Int) ((3:Nat) * acN a0r a0w a0h a0cn a0c a1x a1y a1k) then (1:Int) + (↑((3:Nat) * acN a0r a0w a0h a0cn a0c a1x a1y a1k):Int) else (-1:Int)) != (1:Int) + (↑((3:Nat) * acN a0r a0w a0h a0cn a0c a1x a1y a1k):Int))=false→
 K (V.lit true))))))∧True)∧True)∧True)∧True)∧True)∧True)∧True)))))))∧True)∧True)∧True)∧(((At (List.length a0c=a0cn * (3:Nat)∧a0cn≤(2000000:Nat))∧(At (List.length a0c=(3:Nat) * a0cn∧List.length a0c=(3:Nat) * a0cn∧
 a0cn≤(2000000:Nat)∧a0cn≤(2000000:Nat))∧((!(a0r==a0r && a0c==a0c && a0w==a0w && a0h==a0h))=true→K (V.lit false))∧((!(a0r==a0r && a0c==a0c && a0w==a0w && a0h==a0h))=false→At (List.length a0c=(3:Nat) * a0cn∧
 a0cn≤(2000000:Nat)∧(0:Int)≤(1:Int)∧(1:Int)≤(1000:Int))∧(decide ((1:Int) + (↑((3:Nat) * a0cn):Int) < (0:Int))=true→K (V.lit false))∧(decide ((1:Int) + (↑((3:Nat) * a0cn):Int) < (0:Int))=false→
 At (List.length (acB a0r a0w a0h a0cn a0c a1x a1y a1k)=(3:Nat) * acN a0r a0w a0h a0cn a0c a1x a1y a1k∧List.length (acB a0r a0w a0h a0cn a0c a1x a1y a1k)=(3:Nat) * acN a0r a0w a0h a0cn a0c a1x a1y a1k∧
 acN a0r a0w a0h a0cn a0c a1x a1y a1k≤(2000000:Nat)∧acN a0r a0w a0h a0cn a0c a1x a1y a1k≤(2000000:Nat))∧
 ((!(acR a0r a0w a0h a0cn a0c a1x a1y a1k==acR a0r a0w a0h a0cn a0c a1x a1y a1k && acB a0r a0w a0h a0cn a0c a1x a1y a1k==acB a0r a0w a0h a0cn a0c a1x a1y a1k && acW a0r a0w a0h a0cn a0c a1x a1y a1k==acW a0r a0w a0h a0cn a0c a1x a1y a1k && acH a0r a0w a0h a0cn a0c a1x a1y a1k==acH a0r a0w a0h a0cn a0c a1x a1y a1k))=true→
 K (V.lit false))∧
 ((!(acR a0r a0w a0h a0cn a0c a1x a1y a1k==acR a0r a0w a0h a0cn a0c a1x a1y a1k && acB a0r a0w a0h a0cn a0c a1x a1y a1k==acB a0r a0w a0h a0cn a0c a1x a1y a1k && acW a0r a0w a0h a0cn a0c a1x a1y a1k==acW a0r a0w a0h a0cn a0c a1x a1y a1k && acH a0r a0w a0h a0cn a0c a1x a1y a1k==acH a0r a0w a0h a0cn a0c a1x a1y a1k))=false→
 ((!acG a0r a0w a0h a0cn a0c a1x a1y a1k==acG a0r a0w a0h a0cn a0c a1x a1y a1k)=true→K (V.lit false))∧((!acG a0r a0w a0h a0cn a0c a1x a1y a1k==acG a0r a0w a0h a0cn a0c a1x a1y a1k)=false→
 At (List.length (acB a0r a0w a0h a0cn a0c a1x a1y a1k)=(3:Nat) * acN a0r a0w a0h a0cn a0c a1x a1y a1k∧acN a0r a0w a0h a0cn a0c a1x a1y a1k≤(2000000:Nat)∧(0:Int)≤(1:Int)∧(1:Int)≤(1000:Int))∧
 At (List.length (ramp (1:Int) ((3:Nat) * acN a0r a0w a0h a0cn a0c a1x a1y a1k))=(3:Nat) * acN a0r a0w a0h a0cn a0c a1x a1y a1k∧acN a0r a0w a0h a0cn a0c a1x a1y a1k≤(2000000:Nat)∧(0:Int)≤(1:Int)∧(1:Int)≤(1000:Int))∧
 (decide ((bif ramp (1:Int) ((3:Nat) * acN a0r a0w a0h a0cn a0c a1x a1y a1k)==ramp (1:Int) ((3:Nat) * acN a0r a0w a0h a0cn a0c a1x a1y a1k) then (1:Int) + (↑((3:Nat) * acN a0r a0w a0h a0cn a0c a1x a1y a1k):Int) else (-1:Int)) < (0:Int))=true→
 K (V.lit false))∧
 (decide ((bif ramp (1:Int) ((3:Nat) * acN a0r a0w a0h a0cn a0c a1x a1y a1k)==ramp (1:Int) ((3:Nat) * acN a0r a0w a0h a0cn a0c a1x a1y a1k) then (1:Int) + (↑((3:Nat) * acN a0r a0w a0h a0cn a0c a1x a1y a1k):Int) else (-1:Int)) < (0:Int))=false→
 (((bif ramp (1:Int) ((3:Nat) * acN a0r a0w a0h a0cn a0c a1x a1y a1k)==ramp (1:Int) ((3:Nat) * acN a0r a0w a0h a0cn a0c a1x a1y a1k) then (1:Int) + (↑((3:Nat) * acN a0r a0w a0h a0cn a0c a1x a1y a1k):Int) else (-1:Int)) != (1:Int) + (↑((3:Nat) * acN a0r a0w a0h a0cn a0c a1x a1y a1k):Int))=true→
 K (V.lit false))∧
 (((bif ramp (1:Int) ((3:Nat) * acN a0r a0w a0h a0cn a0c a1x a1y a1k)==ramp (1:Int) ((3:Nat) * acN a0r a0w a0h a0cn a0c a1x a1y a1k) then (1:Int) + (↑((3:Nat) * acN a0r a0w a0h a0cn a0c a1x a1y a1k):Int) else (-1:Int)) != (1:Int) + (↑((3:Nat) * acN a0r a0w a0h a0cn a0c a1x a1y a1k):Int))=false→
 ((At (List.length a0c=a0cn * (3:Nat)∧a0cn≤(2000000:Nat))∧((At True∧(At (List.length a0c=a0cn * (3:Nat)∧a0cn≤(2000000:Nat))∧
 ((At (List.length (acB a0r a0w a0h a0cn a0c a1x a1y a1k)=(3:Nat) * acN a0r a0w a0h a0cn a0c a1x a1y a1k∧List.length (acB a0r a0w a0h a0cn a0c a1x a1y a1k)=(3:Nat) * acN a0r a0w a0h a0cn a0c a1x a1y a1k∧
 acN a0r a0w a0h a0cn a0c a1x a1y a1k≤(2000000:Nat)∧acN a0r a0w a0h a0cn a0c a1x a1y a1k≤(2000000:Nat))∧
 ((!(acR a0r a0w a0h a0cn a0c a1x a1y a1k==acR a0r a0w a0h a0cn a0c a1x a1y a1k && acB a0r a0w a0h a0cn a0c a1x a1y a1k==acB a0r a0w a0h a0cn a0c a1x a1y a1k && acW a0r a0w a0h a0cn a0c a1x a1y a1k==acW a0r a0w a0h a0cn a0c a1x a1y a1k && acH a0r a0w a0h a0cn a0c a1x a1y a1k==acH a0r a0w a0h a0cn a0c a1x a1y a1k))=true→
 K (V.lit false))∧
 ((!(acR a0r a0w a0h a0cn a0c a1x a1y a1k==acR a0r a0w a0h a0cn a0c a1x a1y a1k && acB a0r a0w a0h a0cn a0c a1x a1y a1k==acB a0r a0w a0h a0cn a0c a1x a1y a1k && acW a0r a0w a0h a0cn a0c a1x a1y a1k==acW a0r a0w a0h a0cn a0c a1x a1y a1k && acH a0r a0w a0h a0cn a0c a1x a1y a1k==acH a0r a0w a0h a0cn a0c a1x a1y a1k))=false→
 ((!acG a0r a0w a0h a0cn a0c a1x a1y a1k==acG a0r a0w a0h a0cn a0c a1x a1y a1k)=true→K (V.lit false))∧((!acG a0r a0w a0h a0cn a0c a1x a1y a1k==acG a0r a0w a0h a0cn a0c a1x a1y a1k)=false→
 At (List.length (ramp (1:Int) ((3:Nat) * acN a0r a0w a0h a0cn a0c a1x a1y a1k))=(3:Nat) * acN a0r a0w a0h a0cn a0c a1x a1y a1k∧acN a0r a0w a0h a0cn a0c a1x a1y a1k≤(2000000:Nat)∧(0:Int)≤(1:Int)∧(1:Int)≤(1000:Int))∧
 (decide ((bif ramp (1:Int) ((3:Nat) * acN a0r a0w a0h a0cn a0c a1x a1y a1k)==ramp (1:Int) ((3:Nat) * acN a0r a0w a0h a0cn a0c a1x a1y a1k) then (1:Int) + (↑((3:Nat) * acN a0r a0w a0h a0cn a0c a1x a1y a1k):Int) else (-1:Int)) < (0:Int))=true→
 K (V.lit false))∧
 (decide ((bif ramp (1:Int) ((3:Nat) * acN a0r a0w a0h a0cn a0c a1x a1y a1k)==ramp (1:Int) ((3:Nat) * acN a0r a0w a0h a0cn a0c a1x a1y a1k) then (1:Int) + (↑((3:Nat) * acN a0r a0w a0h a0cn a0c a1x a1y a1k):Int) else (-1:Int)) < (0:Int))=false→
 (((bif ramp (1:Int) ((3:Nat) * acN a0r a0w a0h a0cn a0c a1x a1y a1k)==ramp (1:Int) ((3:Nat) * acN a0r a0w a0h a0cn a0c a1x a1y a1k) then (1:Int) + (↑((3:Nat) * acN a0r a0w a0h a0cn a0c a1x a1y a1k):Int) else (-1:Int)) != (1:Int) + (↑((3:Nat) * acN a0r a0w a0h a0cn a0c a1x a1y a1k):Int))=true→
 K (V.lit false))∧
 (((bif ramp (1:Int) ((3:Nat) * acN a0r a0w a0h a0cn a0c a1x a1y a1k)==ramp (1:Int) ((3:Nat) * acN a0r a0w a0h a0cn a0c a1x a1y a1k) then (1:Int) + (↑((3:Nat) * acN a0r a0w a0h a0cn a0c a1x a1y a1k):Int) else (-1:Int)) != (1:Int) + (↑((3:Nat) * acN a0r a0w a0h a0cn a0c a1x a1y a1k):Int))=false→
 K (V.lit true))))))∧True)∧True)∧((At (List.length a0c=a0cn * (3:Nat)∧a0cn≤(2000000:Nat))∧(At (List.length (acB a0r a0w a0h a0cn a0c a1x a1y a1k)=(3:Nat) * acN a0r a0w a0h a0cn a0c a1x a1y a1k∧
 List.length (acB a0r a0w a0h a0cn a0c a1x a1y a1k)=(3:Nat) * acN a0r a0w a0h a0cn a0c a1x a1y a1k∧acN a0r a0w a0h a0cn a0c a1x a1y a1k≤(2000000:Nat)∧acN a0r a0w a0h a0cn a0c a1x a1y a1k≤(2000000:Nat))∧
 ((!(acR a0r a0w a0h a0cn a0c a1x a1y a1k==acR a0r a0w a0h a0cn a0c a1x a1y a1k && acB a0r a0w a0h a0cn a0c a1x a1y a1k==acB a0r a0w a0h a0cn a0c a1x a1y a1k && acW a0r a0w a0h a0cn a0c a1x a1y a1k==acW a0r a0w a0h a0cn a0c a1x a1y a1k && acH a0r a0w a0h a0cn a0c a1x a1y a1k==acH a0r a0w a0h a0cn a0c a1x a1y a1k))=true→
 K (V.lit false))∧
 ((!(acR a0r a0w a0h a0cn a0c a1x a1y a1k==acR a0r a0w a0h a0cn a0c a1x a1y a1k && acB a0r a0w a0h a0cn a0c a1x a1y a1k==acB a0r a0w a0h a0cn a0c a1x a1y a1k && acW a0r a0w a0h a0cn a0c a1x a1y a1k==acW a0r a0w a0h a0cn a0c a1x a1y a1k && acH a0r a0w a0h a0cn a0c a1x a1y a1k==acH a0r a0w a0h a0cn a0c a1x a1y a1k))=false→
 ((!acG a0r a0w a0h a0cn a0c a1x a1y a1k==acG a0r a0w a0h a0cn a0c a1x a1y a1k)=true→K (V.lit false))∧((!acG a0r a0w a0h a0cn a0c a1x a1y a1k==acG a0r a0w a0h a0cn a0c a1x a1y a1k)=false→
 At (List.length (ramp (1:Int) ((3:Nat) * acN a0r a0w a0h a0cn a0c a1x a1y a1k))=(3:Nat) * acN a0r a0w a0h a0cn a0c a1x a1y a1k∧acN a0r a0w a0h a0cn a0c a1x a1y a1k≤(2000000:Nat)∧(0:Int)≤(1:Int)∧(1:Int)≤(1000:Int))∧
 (decide ((bif ramp (1:Int) ((3:Nat) * acN a0r a0w a0h a0cn a0c a1x a1y a1k)==ramp (1:Int) ((3:Nat) * acN a0r a0w a0h a0cn a0c a1x a1y a1k) then (1:Int) + (↑((3:Nat) * acN a0r a0w a0h a0cn a0c a1x a1y a1k):Int) else (-1:Int)) < (0:Int))=true→
 K (V.lit false))∧
 (decide ((bif ramp (1:Int) ((3:Nat) * acN a0r a0w a0h a0cn a0c a1x a1y a1k)==ramp (1:Int) ((3:Nat) * acN a0r a0w a0h a0cn a0c a1x a1y a1k) then (1:Int) + (↑((3:Nat) * acN a0r a0w a0h a0cn a0c a1x a1y a1k):Int) else (-1:Int)) < (0:Int))=false→
 (((bif ramp (1:Int) ((3:Nat) * acN a0r a0w a0h a0cn a0c a1x a1y a1k)==ramp (1:Int) ((3:Nat) * acN a0r a0w a0h a0cn a0c a1x a1y a1k) then (1:Int) + (↑((3:Nat) * acN a0r a0w a0h a0cn a0c a1x a1y a1k):Int) else (-1:Int)) != (1:Int) + (↑((3:Nat) * acN a0r a0w a0h a0cn a0c a1x a1y a1k):Int))=true→
 K (V.lit false))∧
 (((bif ramp (1:Int) ((3:Nat) * acN a0r a0w a0h a0cn a0c a1x a1y a1k)==ramp (1:Int) ((3:Nat) * acN a0r a0w a0h a0cn a0c a1x a1y a1k) then (1:Int) + (↑((3:Nat) * acN a0r a0w a0h a0cn a0c a1x a1y a1k):Int) else (-1:Int)) != (1:Int) + (↑((3:Nat) * acN a0r a0w a0h a0cn a0c a1x a1y a1k):Int))=false→
 K (V.lit true))))))∧True)∧True)∧True)∧((At True∧(At (List.length a0c=a0cn * (3:Nat)∧a0cn≤(2000000:Nat))∧(At (List.length (acB a0r a0w a0h a0cn a0c a1x a1y a1k)=(3:Nat) * acN a0r a0w a0h a0cn a0c a1x a1y a1k∧
 List.length (acB a0r a0w a0h a0cn a0c a1x a1y a1k)=(3:Nat) * acN a0r a0w a0h a0cn a0c a1x a1y a1k∧acN a0r a0w a0h a0cn a0c a1x a1y a1k≤(2000000:Nat)∧acN a0r a0w a0h a0cn a0c a1x a1y a1k≤(2000000:Nat))∧
 ((!(acR a0r a0w a0h a0cn a0c a1x a1y a1k==acR a0r a0w a0h a0cn a0c a1x a1y a1k && acB a0r a0w a0h a0cn a0c a1x a1y a1k==acB a0r a0w a0h a0cn a0c a1x a1y a1k && acW a0r a0w a0h a0cn a0c a1x a1y a1k==acW a0r a0w a0h a0cn a0c a1x a1y a1k && acH a0r a0w a0h a0cn a0c a1x a1y a1k==acH a0r a0w a0h a0cn a0c a1x a1y a1k))=true→
 K (V.lit false))∧
 ((!(acR a0r a0w a0h a0cn a0c a1x a1y a1k==acR a0r a0w a0h a0cn a0c a1x a1y a1k && acB a0r a0w a0h a0cn a0c a1x a1y a1k==acB a0r a0w a0h a0cn a0c a1x a1y a1k && acW a0r a0w a0h a0cn a0c a1x a1y a1k==acW a0r a0w a0h a0cn a0c a1x a1y a1k && acH a0r a0w a0h a0cn a0c a1x a1y a1k==acH a0r a0w a0h a0cn a0c a1x a1y a1k))=false→
 ((!acG a0r a0w a0h a0cn a0c a1x a1y a1k==acG a0r a0w a0h a0cn a0c a1x a1y a1k)=true→K (V.lit false))∧((!acG a0r a0w a0h a0cn a0c a1x a1y a1k==acG a0r a0w a0h a0cn a0c a1x a1y a1k)=false→
 At (List.length (ramp (1:Int) ((3:Nat) * acN a0r a0w a0h a0cn a0c a1x a1y a1k))=(3:Nat) * acN a0r a0w a0h a0cn a0c a1x a1y a1k∧acN a0r a0w a0h a0cn a0c a1x a1y a1k≤(2000000:Nat)∧(0:Int)≤(1:Int)∧(1:Int)≤(1000:Int))∧
 (decide ((bif ramp (1:Int) ((3:Nat) * acN a0r a0w a0h a0cn a0c a1x a1y a1k)==ramp (1:Int) ((3:Nat) * acN a0r a0w a0h a0cn a0c a1x a1y a1k) then (1:Int) + (↑((3:Nat) * acN a0r a0w a0h a0cn a0c a1x a1y a1k):Int) else (-1:Int)) < (0:Int))=true→
 K (V.lit false))∧
 (decide ((bif ramp (1:Int) ((3:Nat) * acN a0r a0w a0h a0cn a0c a1x a1y a1k)==ramp (1:Int) ((3:Nat) * acN a0r a0w a0h a0cn a0c a1x a1y a1k) then (1:Int) + (↑((3:Nat) * acN a0r a0w a0h a0cn a0c a1x a1y a1k):Int) else (-1:Int)) < (0:Int))=false→
 (((bif ramp (1:Int) ((3:Nat) * acN a0r a0w a0h a0cn a0c a1x a1y a1k)==ramp (1:Int) ((3:Nat) * acN a0r a0w a0h a0cn a0c a1x a1y a1k) then (1:Int) + (↑((3:Nat) * acN a0r a0w a0h a0cn a0c a1x a1y a1k):Int) else (-1:Int)) != (1:Int) + (↑((3:Nat) * acN a0r a0w a0h a0cn a0c a1x a1y a1k):Int))=true→
 K (V.lit false))∧
 (((bif ramp (1:Int) ((3:Nat) * acN a0r a0w a0h a0cn a0c a1x a1y a1k)==ramp (1:Int) ((3:Nat) * acN a0r a0w a0h a0cn a0c a1x a1y a1k) then (1:Int) + (↑((3:Nat) * acN a0r a0w a0h a0cn a0c a1x a1y a1k):Int) else (-1:Int)) != (1:Int) + (↑((3:Nat) * acN a0r a0w a0h a0cn a0c a1x a1y a1k):Int))=false→
 K (V.lit true))))))∧True)∧True)∧True)∧True)∧(((At True∧(At (List.length a0c=a0cn * (3:Nat)∧a0cn≤(2000000:Nat))∧(At (List.length (acB a0r a0w a0h a0cn a0c a1x a1y a1k)=(3:Nat) * acN a0r a0w a0h a0cn a0c a1x a1y a1k∧
 List.length (acB a0r a0w a0h a0cn a0c a1x a1y a1k)=(3:Nat) * acN a0r a0w a0h a0cn a0c a1x a1y a1k∧acN a0r a0w a0h a0cn a0c a1x a1y a1k≤(2000000:Nat)∧acN a0r a0w a0h a0cn a0c a1x a1y a1k≤(2000000:Nat))∧
 ((!(acR a0r a0w a0h a0cn a0c a1x a1y a1k==acR a0r a0w a0h a0cn a0c a1x a1y a1k && acB a0r a0w a0h a0cn a0c a1x a1y a1k==acB a0r a0w a0h a0cn a0c a1x a1y a1k && acW a0r a0w a0h a0cn a0c a1x a1y a1k==acW a0r a0w a0h a0cn a0c a1x a1y a1k && acH a0r a0w a0h a0cn a0c a1x a1y a1k==acH a0r a0w a0h a0cn a0c a1x a1y a1k))=true→
 K (V.lit false))∧
 ((!(acR a0r a0w a0h a0cn a0c a1x a1y a1k==acR a0r a0w a0h a0cn a0c a1x a1y a1k && acB a0r a0w a0h a0cn a0c a1x a1y a1k==acB a0r a0w a0h a0cn a0c a1x a1y a1k && acW a0r a0w a0h a0cn a0c a1x a1y a1k==acW a0r a0w a0h a0cn a0c a1x a1y a1k && acH a0r a0w a0h a0cn a0c a1x a1y a1k==acH a0r a0w a0h a0cn a0c a1x a1y a1k))=false→
 ((!acG a0r a0w a0h a0cn a0c a1x a1y a1k==acG a0r a0w a0h a0cn a0c a1x a1y a1k)=true→K (V.lit false))∧((!acG a0r a0w a0h a0cn a0c a1x a1y a1k==acG a0r a0w a0h a0cn a0c a1x a1y a1k)=false→
 At (List.length (ramp (1:Int) ((3:Nat) * acN a0r a0w a0h a0cn a0c a1x a1y a1k))=(3:Nat) * acN a0r a0w a0h a0cn a0c a1x a1y a1k∧acN a0r a0w a0h a0cn a0c a1x a1y a1k≤(2000000:Nat)∧(0:Int)≤(1:Int)∧(1:Int)≤(1000:Int))∧
 (decide ((bif ramp (1:Int) ((3:Nat) * acN a0r a0w a0h a0cn a0c a1x a1y a1k)==ramp (1:Int) ((3:Nat) * acN a0r a0w a0h a0cn a0c a1x a1y a1k) then (1:Int) + (↑((3:Nat) * acN a0r a0w a0h a0cn a0c a1x a1y a1k):Int) else (-1:Int)) < (0:Int))=true→
 K (V.lit false))∧
 (decide ((bif ramp (1:Int) ((3:Nat) * acN a0r a0w a0h a0cn a0c a1x a1y a1k)==ramp (1:Int) ((3:Nat) * acN a0r a0w a0h a0cn a0c a1x a1y a1k) then (1:Int) + (↑((3:Nat) * acN a0r a0w a0h a0cn a0c a1x a1y a1k):Int) else (-1:Int)) < (0:Int))=false→
 (((bif ramp (1:Int) ((3:Nat) * acN a0r a0w a0h a0cn a0c a1x a1y a1k)==ramp (1:Int) ((3:Nat) * acN a0r a0w a0h a0cn a0c a1x a1y a1k) then (1:Int) + (↑((3:Nat) * acN a0r a0w a0h a0cn a0c a1x a1y a1k):Int) else (-1:Int)) != (1:Int) + (↑((3:Nat) * acN a0r a0w a0h a0cn a0c a1x a1y a1k):Int))=true→
 K (V.lit false))∧
 (((bif ramp (1:Int) ((3:Nat) * acN a0r a0w a0h a0cn a0c a1x a1y a1k)==ramp (1:Int) ((3:Nat) * acN a0r a0w a0h a0cn a0c a1x a1y a1k) then (1:Int) + (↑((3:Nat) * acN a0r a0w a0h a0cn a0c a1x a1y a1k):Int) else (-1:Int)) != (1:Int) + (↑((3:Nat) * acN a0r a0w a0h a0cn a0c a1x a1y a1k):Int))=false→
 K (V.lit true))))))∧True)∧True)∧True)∧True)∧True)∧((At (List.length a0c=a0cn * (3:Nat)∧a0cn≤(2000000:Nat))∧(At True∧(At (List.length a0c=a0cn * (3:Nat)∧a0cn≤(2000000:Nat))∧
 ((At (List.length (acB a0r a0w a0h a0cn a0c a1x a1y a1k)=(3:Nat) * acN a0r a0w a0h a0cn a0c a1x a1y a1k∧List.length (acB a0r a0w a0h a0cn a0c a1x a1y a1k)=(3:Nat) * acN a0r a0w a0h a0cn a0c a1x a1y a1k∧
 acN a0r a0w a0h a0cn a0c a1x a1y a1k≤(2000000:Nat)∧acN a0r a0w a0h a0cn a0c a1x a1y a1k≤(2000000:Nat))∧
 ((!(acR a0r a0w a0h a0cn a0c a1x a1y a1k==acR a0r a0w a0h a0cn a0c a1x a1y a1k && acB a0r a0w a0h a0cn a0c a1x a1y a1k==acB a0r a0w a0h a0cn a0c a1x a1y a1k && acW a0r a0w a0h a0cn a0c a1x a1y a1k==acW a0r a0w a0h a0cn a0c a1x a1y a1k && acH a0r a0w a0h a0cn a0c a1x a1y a1k==acH a0r a0w a0h a0cn a0c a1x a1y a1k))=true→
 K (V.lit false))∧
 ((!(acR a0r a0w a0h a0cn a0c a1x a1y a1k==acR a0r a0w a0h a0cn a0c a1x a1y a1k && acB a0r a0w a0h a0cn a0c a1x a1y a1k==acB a0r a0w a0h a0cn a0c a1x a1y a1k && acW a0r a0w a0h a0cn a0c a1x a1y a1k==acW a0r a0w a0h a0cn a0c a1x a1y a1k && acH a0r a0w a0h a0cn a0c a1x a1y a1k==acH a0r a0w a0h a0cn a0c a1x a1y a1k))=false→
 ((!acG a0r a0w a0h a0cn a0c a1x a1y a1k==acG a0r a0w a0h a0cn a0c a1x a1y a1k)=true→K (V.lit false))∧((!acG a0r a0w a0h a0cn a0c a1x a1y a1k==acG a0r a0w a0h a0cn a0c a1x a1y a1k)=false→
 At (List.length (ramp (1:Int) ((3:Nat) * acN a0r a0w a0h a0cn a0c a1x a1y a1k))=(3:Nat) * acN a0r a0w a0h a0cn a0c a1x a1y a1k∧acN a0r a0w a0h a0cn a0c a1x a1y a1k≤(2000000:Nat)∧(0:Int)≤(1:Int)∧(1:Int)≤(1000:Int))∧
 (decide ((bif ramp (1:Int) ((3:Nat) * acN a0r a0w a0h a0cn a0c a1x a1y a1k)==ramp (1:Int) ((3:Nat) * acN a0r a0w a0h a0cn a0c a1x a1y a1k) then (1:Int) + (↑((3:Nat) * acN a0r a0w a0h a0cn a0c a1x a1y a1k):Int) else (-1:Int)) < (0:Int))=true→
 K (V.lit false))∧
 (decide ((bif ramp (1:Int) ((3:Nat) * acN a0r a0w a0h a0cn a0c a1x a1y a1k)==ramp (1:Int) ((3:Nat) * acN a0r a0w a0h a0cn a0c a1x a1y a1k) then (1:Int) + (↑((3:Nat) * acN a0r a0w a0h a0cn a0c a1x a1y a1k):Int) else (-1:Int)) < (0:Int))=false→
 (((bif ramp (1:Int) ((3:Nat) * acN a0r a0w a0h a0cn a0c a1x a1y a1k)==ramp (1:Int) ((3:Nat) * acN a0r a0w a0h a0cn a0c a1x a1y a1k) then (1:Int) + (↑((3:Nat) * acN a0r a0w a0h a0cn a0c a1x a1y a1k):Int) else (-1:Int)) != (1:Int) + (↑((3:Nat) * acN a0r a0w a0h a0cn a0c a1x a1y a1k):Int))=true→
 K (V.lit false))∧
 (((bif ramp (1:Int) ((3:Nat) * acN a0r a0w a0h a0cn a0c a1x a1y a1k)==ramp (1:Int) ((3:Nat) * acN a0r a0w a0h a0cn a0c a1x a1y a1k) then (1:Int) + (↑((3:Nat) * acN a0r a0w a0h a0cn a0c a1x a1y a1k):Int) else (-1:Int)) != (1:Int) + (↑((3:Nat) * acN a0r a0w a0h a0cn a0c a1x a1y a1k):Int))=false→
 K (V.lit true))))))∧True)∧True)∧((At (List.length a0c=a0cn * (3:Nat)∧a0cn≤(2000000:Nat))∧(At (List.length (acB a0r a0w a0h a0cn a0c a1x a1y a1k)=(3:Nat) * acN a0r a0w a0h a0cn a0c a1x a1y a1k∧
 List.length (acB a0r a0w a0h a0cn a0c a1x a1y a1k)=(3:Nat) * acN a0r a0w a0h a0cn a0c a1x a1y a1k∧acN a0r a0w a0h a0cn a0c a1x a1y a1k≤(2000000:Nat)∧acN a0r a0w a0h a0cn a0c a1x a1y a1k≤(2000000:Nat))∧
 ((!(acR a0r a0w a0h a0cn a0c a1x a1y a1k==acR a0r a0w a0h a0cn a0c a1x a1y a1k && acB a0r a0w a0h a0cn a0c a1x a1y a1k==acB a0r a0w a0h a0cn a0c a1x a1y a1k && acW a0r a0w a0h a0cn a0c a1x a1y a1k==acW a0r a0w a0h a0cn a0c a1x a1y a1k && acH a0r a0w a0h a0cn a0c a1x a1y a1k==acH a0r a0w a0h a0cn a0c a1x a1y a1k))=true→
 K (V.lit false))∧
 ((!(acR a0r a0w a0h a0cn a0c a1x a1y a1k==acR a0r a0w a0h a0cn a0c a1x a1y a1k && acB a0r a0w a0h a0cn a0c a1x a1y a1k==acB a0r a0w a0h a0cn a0c a1x a1y a1k && acW a0r a0w a0h a0cn a0c a1x a1y a1k==acW a0r a0w a0h a0cn a0c a1x a1y a1k && acH a0r a0w a0h a0cn a0c a1x a1y a1k==acH a0r a0w a0h a0cn a0c a1x a1y a1k))=false→
 ((!acG a0r a0w a0h a0cn a0c a1x a1y a1k==acG a0r a0w a0h a0cn a0c a1x a1y a1k)=true→K (V.lit false))∧((!acG a0r a0w a0h a0cn a0c a1x a1y a1k==acG a0r a0w a0h a0cn a0c a1x a1y a1k)=false→
 At (List.length (ramp (1:Int) ((3:Nat) * acN a0r a0w a0h a0cn a0c a1x a1y a1k))=(3:Nat) * acN a0r a0w a0h a0cn a0c a1x a1y a1k∧acN a0r a0w a0h a0cn a0c a1x a1y a1k≤(2000000:Nat)∧(0:Int)≤(1:Int)∧(1:Int)≤(1000:Int))∧
 (decide ((bif ramp (1:Int) ((3:Nat) * acN a0r a0w a0h a0cn a0c a1x a1y a1k)==ramp (1:Int) ((3:Nat) * acN a0r a0w a0h a0cn a0c a1x a1y a1k) then (1:Int) + (↑((3:Nat) * acN a0r a0w a0h a0cn a0c a1x a1y a1k):Int) else (-1:Int)) < (0:Int))=true→
 K (V.lit false))∧
 (decide ((bif ramp (1:Int) ((3:Nat) * acN a0r a0w a0h a0cn a0c a1x a1y a1k)==ramp (1:Int) ((3:Nat) * acN a0r a0w a0h a0cn a0c a1x a1y a1k) then (1:Int) + (↑((3:Nat) * acN a0r a0w a0h a0cn a0c a1x a1y a1k):Int) else (-1:Int)) < (0:Int))=false→
 (((bif ramp (1:Int) ((3:Nat) * acN a0r a0w a0h a0cn a0c a1x a1y a1k)==ramp (1:Int) ((3:Nat) * acN a0r a0w a0h a0cn a0c a1x a1y a1k) then (1:Int) + (↑((3:Nat) * acN a0r a0w a0h a0cn a0c a1x a1y a1k):Int) else (-1:Int)) != (1:Int) + (↑((3:Nat) * acN a0r a0w a0h a0cn a0c a1x a1y a1k):Int))=true→
 K (V.lit false))∧
 (((bif ramp (1:Int) ((3:Nat) * acN a0r a0w a0h a0cn a0c a1x a1y a1k)==ramp (1:Int) ((3:Nat) * acN a0r a0w a0h a0cn a0c a1x a1y a1k) then (1:Int) + (↑((3:Nat) * acN a0r a0w a0h a0cn a0c a1x a1y a1k):Int) else (-1:Int)) != (1:Int) + (↑((3:Nat) * acN a0r a0w a0h a0cn a0c a1x a1y a1k):Int))=false→
 K (V.lit true))))))∧True)∧True)∧True)∧((At True∧(At (List.length a0c=a0cn * (3:Nat)∧a0cn≤(2000000:Nat))∧(At (List.length (acB a0r a0w a0h a0cn a0c a1x a1y a1k)=(3:Nat) * acN a0r a0w a0h a0cn a0c a1x a1y a1k∧
 List.length (acB a0r a0w a0h a0cn a0c a1x a1y a1k)=(3:Nat) * acN a0r a0w a0h a0cn a0c a1x a1y a1k∧acN a0r a0w a0h a0cn a0c a1x a1y a1k≤(2000000:Nat)∧acN a0r a0w a0h a0cn a0c a1x a1y a1k≤(2000000:Nat))∧
 ((!(acR a0r a0w a0h a0cn a0c a1x a1y a1k==acR a0r a0w a0h a0cn a0c a1x a1y a1k && acB a0r a0w a0h a0cn a0c a1x a1y a1k==acB a0r a0w a0h a0cn a0c a1x a1y a1k && acW a0r a0w a0h a0cn a0c a1x a1y a1k==acW a0r a0w a0h a0cn a0c a1x a1y a1k && acH a0r a0w a0h a0cn a0c a1x a1y a1k==acH a0r a0w a0h a0cn a0c a1x a1y a1k))=true→
 K (V.lit false))∧
 ((!(acR a0r a0w a0h a0cn a0c a1x a1y a1k==acR a0r a0w a0h a0cn a0c a1x a1y a1k && acB a0r a0w a0h a0cn a0c a1x a1y a1k==acB a0r a0w a0h a0cn a0c a1x a1y a1k && acW a0r a0w a0h a0cn a0c a1x a1y a1k==acW a0r a0w a0h a0cn a0c a1x a1y a1k && acH a0r a0w a0h a0cn a0c a1x a1y a1k==acH a0r a0w a0h a0cn a0c a1x a1y a1k))=false→
 ((!acG a0r a0w a0h a0cn a0c a1x a1y a1k==acG a0r a0w a0h a0cn a0c a1x a1y a1k)=true→K (V.lit false))∧((!acG a0r a0w a0h a0cn a0c a1x a1y a1k==acG a0r a0w a0h a0cn a0c a1x a1y a1k)=false→
 At (List.length (ramp (1:Int) ((3:Nat) * acN a0r a0w a0h a0cn a0c a1x a1y a1k))=(3:Nat) * acN a0r a0w a0h a0cn a0c a1x a1y a1k∧acN a0r a0w a0h a0cn a0c a1x a1y a1k≤(2000000:Nat)∧(0:Int)≤(1:Int)∧(1:Int)≤(1000:Int))∧
 (decide ((bif ramp (1:Int) ((3:Nat) * acN a0r a0w a0h a0cn a0c a1x a1y a1k)==ramp (1:Int) ((3:Nat) * acN a0r a0w a0h a0cn a0c a1x a1y a1k) then (1:Int) + (↑((3:Nat) * acN a0r a0w a0h a0cn a0c a1x a1y a1k):Int) else (-1:Int)) < (0:Int))=true→
 K (V.lit false))∧
 (decide ((bif ramp (1:Int) ((3:Nat) * acN a0r a0w a0h a0cn a0c a1x a1y a1k)==ramp (1:Int) ((3:Nat) * acN a0r a0w a0h a0cn a0c a1x a1y a1k) then (1:Int) + (↑((3:Nat) * acN a0r a0w a0h a0cn a0c a1x a1y a1k):Int) else (-1:Int)) < (0:Int))=false→
 (((bif ramp (1:Int) ((3:Nat) * acN a0r a0w a0h a0cn a0c a1x a1y a1k)==ramp (1:Int) ((3:Nat) * acN a0r a0w a0h a0cn a0c a1x a1y a1k) then (1:Int) + (↑((3:Nat) * acN a0r a0w a0h a0cn a0c a1x a1y a1k):Int) else (-1:Int)) != (1:Int) + (↑((3:Nat) * acN a0r a0w a0h a0cn a0c a1x a1y a1k):Int))=true→
 K (V.lit false))∧
 (((bif ramp (1:Int) ((3:Nat) * acN a0r a0w a0h a0cn a0c a1x a1y a1k)==ramp (1:Int) ((3:Nat) * acN a0r a0w a0h a0cn a0c a1x a1y a1k) then (1:Int) + (↑((3:Nat) * acN a0r a0w a0h a0cn a0c a1x a1y a1k):Int) else (-1:Int)) != (1:Int) + (↑((3:Nat) * acN a0r a0w a0h a0cn a0c a1x a1y a1k):Int))=false→
 K (V.lit true))))))∧True)∧True)∧True)∧True)∧((At (List.length a0c=a0cn * (3:Nat)∧a0cn≤(2000000:Nat))∧(At True∧(At (List.length a0c=a0cn * (3:Nat)∧a0cn≤(2000000:Nat))∧
 (At (List.length (acB a0r a0w a0h a0cn a0c a1x a1y a1k)=(3:Nat) * acN a0r a0w a0h a0cn a0c a1x a1y a1k∧List.length (acB a0r a0w a0h a0cn a0c a1x a1y a1k)=(3:Nat) * acN a0r a0w a0h a0cn a0c a1x a1y a1k∧
 acN a0r a0w a0h a0cn a0c a1x a1y a1k≤(2000000:Nat)∧acN a0r a0w a0h a0cn a0c a1x a1y a1k≤(2000000:Nat))∧
 ((!(acR a0r a0w a0h a0cn a0c a1x a1y a1k==acR a0r a0w a0h a0cn a0c a1x a1y a1k && acB a0r a0w a0h a0cn a0c a1x a1y a1k==acB a0r a0w a0h a0cn a0c a1x a1y a1k && acW a0r a0w a0h a0cn a0c a1x a1y a1k==acW a0r a0w a0h a0cn a0c a1x a1y a1k && acH a0r a0w a0h a0cn a0c a1x a1y a1k==acH a0r a0w a0h a0cn a0c a1x a1y a1k))=true→
 K (V.lit false))∧
 ((!(acR a0r a0w a0h a0cn a0c a1x a1y a1k==acR a0r a0w a0h a0cn a0c a1x a1y a1k && acB a0r a0w a0h a0cn a0c a1x a1y a1k==acB a0r a0w a0h a0cn a0c a1x a1y a1k && acW a0r a0w a0h a0cn a0c a1x a1y a1k==acW a0r a0w a0h a0cn a0c a1x a1y a1k && acH a0r a0w a0h a0cn a0c a1x a1y a1k==acH a0r a0w a0h a0cn a0c a1x a1y a1k))=false→
 ((!acG a0r a0w a0h a0cn a0c a1x a1y a1k==acG a0r a0w a0h a0cn a0c a1x a1y a1k)=true→K (V.lit false))∧((!acG a0r a0w a0h a0cn a0c a1x a1y a1k==acG a0r a0w a0h a0cn a0c a1x a1y a1k)=false→
 At (List.length (ramp (1:Int) ((3:Nat) * acN a0r a0w a0h a0cn a0c a1x a1y a1k))=(3:Nat) * acN a0r a0w a0h a0cn a0c a1x a1y a1k∧acN a0r a0w a0h a0cn a0c a1x a1y a1k≤(2000000:Nat)∧(0:Int)≤(1:Int)∧(1:Int)≤(1000:Int))∧
 (decide ((bif ramp (1:Int) ((3:Nat) * acN a0r a0w a0h a0cn a0c a1x a1y a1k)==ramp (1:Int) ((3:Nat) * acN a0r a0w a0h a0cn a0c a1x a1y a1k) then (1:Int) + (↑((3:Nat) * acN a0r a0w a0h a0cn a0c a1x a1y a1k):Int) else (-1:Int)) < (0:Int))=true→
 K (V.lit false))∧
 (decide ((bif ramp (1:Int) ((3:Nat) * acN a0r a0w a0h a0cn a0c a1x a1y a1k)==ramp (1:Int) ((3:Nat) * acN a0r a0w a0h a0cn a0c a1x a1y a1k) then (1:Int) + (↑((3:Nat) * acN a0r a0w a0h a0cn a0c a1x a1y a1k):Int) else (-1:Int)) < (0:Int))=false→
 (((bif ramp (1:Int) ((3:Nat) * acN a0r a0w a0h a0cn a0c a1x a1y a1k)==ramp (1:Int) ((3:Nat) * acN a0r a0w a0h a0cn a0c a1x a1y a1k) then (1:Int) + (↑((3:Nat) * acN a0r a0w a0h a0cn a0c a1x a1y a1k):Int) else (-1:Int)) != (1:Int) + (↑((3:Nat) * acN a0r a0w a0h a0cn a0c a1x a1y a1k):Int))=true→
 K (V.lit false))∧
 (((bif ramp (1:Int) ((3:Nat) * acN a0r a0w a0h a0cn a0c a1x a1y a1k)==ramp (1:Int) ((3:Nat) * acN a0r a0w a0h a0cn a0c a1x a1y a1k) then (1:Int) + (↑((3:Nat) * acN a0r a0w a0h a0cn a0c a1x a1y a1k):Int) else (-1:Int)) != (1:Int) + (↑((3:Nat) * acN a0r a0w a0h a0cn a0c a1x a1y a1k):Int))=false→
 K (V.lit true))))))∧True)∧True)∧True)∧True)∧True)∧((At (List.length a0c=a0cn * (3:Nat)∧a0cn≤(2000000:Nat))∧((At True∧(At (List.length a0c=a0cn * (3:Nat)∧a0cn≤(2000000:Nat))∧
 (At (List.length (acB a0r a0w a0h a0cn a0c a1x a1y a1k)=(3:Nat) * acN a0r a0w a0h a0cn a0c a1x a1y a1k∧List.length (acB a0r a0w a0h a0cn a0c a1x a1y a1k)=(3:Nat) * acN a0r a0w a0h a0cn a0c a1x a1y a1k∧
 acN a0r a0w a0h a0cn a0c a1x a1y a1k≤(2000000:Nat)∧acN a0r a0w a0h a0cn a0c a1x a1y a1k≤(2000000:Nat))∧
 ((!(acR a0r a0w a0h a0cn a0c a1x a1y a1k==acR a0r a0w a0h a0cn a0c a1x a1y a1k && acB a0r a0w a0h a0cn a0c a1x a1y a1k==acB a0r a0w a0h a0cn a0c a1x a1y a1k && acW a0r a0w a0h a0cn a0c a1x a1y a1k==acW a0r a0w a0h a0cn a0c a1x a1y a1k && acH a0r a0w a0h a0cn a0c a1x a1y a1k==acH a0r a0w a0h a0cn a0c a1x a1y a1k))=true→
 K (V.lit false))∧
 ((!(acR a0r a0w a0h a0cn a0c a1x a1y a1k==acR a0r a0w a0h a0cn a0c a1x a1y a1k && acB a0r a0w a0h a0cn a0c a1x a1y a1k==acB a0r a0w a0h a0cn a0c a1x a1y a1k && acW a0r a0w a0h a0cn a0c a1x a1y a1k==acW a0r a0w a0h a0cn a0c a1x a1y a1k && acH a0r a0w a0h a0cn a0c a1x a1y a1k==acH a0r a0w a0h a0cn a0c a1x a1y a1k))=false→
 ((!acG a0r a0w a0h a0cn a0c a1x a1y a1k==acG a0r a0w a0h a0cn a0c a1x a1y a1k)=true→K (V.lit false))∧((!acG a0r a0w a0h a0cn a0c a1x a1y a1k==acG a0r a0w a0h a0cn a0c a1x a1y a1k)=false→
 At (List.length (ramp (1:Int) ((3:Nat) * acN a0r a0w a0h a0cn a0c a1x a1y a1k))=(3:Nat) * acN a0r a0w a0h a0cn a0c a1x a1y a1k∧acN a0r a0w a0h a0cn a0c a1x a1y a1k≤(2000000:Nat)∧(0:Int)≤(1:Int)∧(1:Int)≤(1000:Int))∧
 (decide ((bif ramp (1:Int) ((3:Nat) * acN a0r a0w a0h a0cn a0c a1x a1y a1k)==ramp (1:Int) ((3:Nat) * acN a0r a0w a0h a0cn a0c a1x a1y a1k) then (1:Int) + (↑((3:Nat) * acN a0r a0w a0h a0cn a0c a1x a1y a1k):Int) else (-1:Int)) < (0:Int))=true→
 K (V.lit false))∧
 (decide ((bif ramp (1:Int) ((3:Nat) * acN a0r a0w a0h a0cn a0c a1x a1y a1k)==ramp (1:Int) ((3:Nat) * acN a0r a0w a0h a0cn a0c a1x a1y a1k) then (1:Int) + (↑((3:Nat) * acN a0r a0w a0h a0cn a0c a1x a1y a1k):Int) else (-1:Int)) < (0:Int))=false→
 (((bif ramp (1:Int) ((3:Nat) * acN a0r a0w a0h a0cn a0c a1x a1y a1k)==ramp (1:Int) ((3:Nat) * acN a0r a0w a0h a0cn a0c a1x a1y a1k) then (1:Int) + (↑((3:Nat) * acN a0r a0w a0h a0cn a0c a1x a1y a1k):Int) else (-1:Int)) != (1:Int) + (↑((3:Nat) * acN a0r a0w a0h a0cn a0c a1x a1y a1k):Int))=true→
 K (V.lit false))∧
 (((bif ramp (1:Int) ((3:Nat) * acN a0r a0w a0h a0cn a0c a1x a1y a1k)==ramp (1:Int) ((3:Nat) * acN a0r a0w a0h a0cn a0c a1x a1y a1k) then (1:Int) + (↑((3:Nat) * acN a0r a0w a0h a0cn a0c a1x a1y a1k):Int) else (-1:Int)) != (1:Int) + (↑((3:Nat) * acN a0r a0w a0h a0cn a0c a1x a1y a1k):Int))=false→
 K (V.lit true))))))∧True)∧True)∧True)∧True)∧((At (List.length a0c=a0cn * (3:Nat)∧a0cn≤(2000000:Nat))∧(At True∧(At (List.length a0c=a0cn * (3:Nat)∧a0cn≤(2000000:Nat))∧
 (At (List.length (acB a0r a0w a0h a0cn a0c a1x a1y a1k)=(3:Nat) * acN a0r a0w a0h a0cn a0c a1x a1y a1k∧List.length (acB a0r a0w a0h a0cn a0c a1x a1y a1k)=(3:Nat) * acN a0r a0w a0h a0cn a0c a1x a1y a1k∧
 acN a0r a0w a0h a0cn a0c a1x a1y a1k≤(2000000:Nat)∧acN a0r a0w a0h a0cn a0c a1x a1y a1k≤(2000000:Nat))∧
 ((!(acR a0r a0w a0h a0cn a0c a1x a1y a1k==acR a0r a0w a0h a0cn a0c a1x a1y a1k && acB a0r a0w a0h a0cn a0c a1x a1y a1k==acB a0r a0w a0h a0cn a0c a1x a1y a1k && acW a0r a0w a0h a0cn a0c a1x a1y a1k==acW a0r a0w a0h a0cn a0c a1x a1y a1k && acH a0r a0w a0h a0cn a0c a1x a1y a1k==acH a0r a0w a0h a0cn a0c a1x a1y a1k))=true→
 K (V.lit false))∧
 ((!(acR a0r a0w a0h a0cn a0c a1x a1y a1k==acR a0r a0w a0h a0cn a0c a1x a1y a1k && acB a0r a0w a0h a0cn a0c a1x a1y a1k==acB a0r a0w a0h a0cn a0c a1x a1y a1k && acW a0r a0w a0h a0cn a0c a1x a1y a1k==acW a0r a0w a0h a0cn a0c a1x a1y a1k && acH a0r a0w a0h a0cn a0c a1x a1y a1k==acH a0r a0w a0h a0cn a0c a1x a1y a1k))=false→
 ((!acG a0r a0w a0h a0cn a0c a1x a1y a1k==acG a0r a0w a0h a0cn a0c a1x a1y a1k)=true→K (V.lit false))∧((!acG a0r a0w a0h a0cn a0c a1x a1y a1k==acG a0r a0w a0h a0cn a0c a1x a1y a1k)=false→
 At (List.length (ramp (1:Int) ((3:Nat) * acN a0r a0w a0h a0cn a0c a1x a1y a1k))=(3:Nat) * acN a0r a0w a0h a0cn a0c a1x a1y a1k∧acN a0r a0w a0h a0cn a0c a1x a1y a1k≤(2000000:Nat)∧(0:Int)≤(1:Int)∧(1:Int)≤(1000:Int))∧
 (decide ((bif ramp (1:Int) ((3:Nat) * acN a0r a0w a0h a0cn a0c a1x a1y a1k)==ramp (1:Int) ((3:Nat) * acN a0r a0w a0h a0cn a0c a1x a1y a1k) then (1:Int) + (↑((3:Nat) * acN a0r a0w a0h a0cn a0c a1x a1y a1k):Int) else (-1:Int)) < (0:Int))=true→
 K (V.lit false))∧
 (decide ((bif ramp (1:Int) ((3:Nat) * acN a0r a0w a0h a0cn a0c a1x a1y a1k)==ramp (1:Int) ((3:Nat) * acN a0r a0w a0h a0cn a0c a1x a1y a1k) then (1:Int) + (↑((3:Nat) * acN a0r a0w a0h a0cn a0c a1x a1y a1k):Int) else (-1:Int)) < (0:Int))=false→
 (((bif ramp (1:Int) ((3:Nat) * acN a0r a0w a0h a0cn a0c a1x a1y a1k)==ramp (1:Int) ((3:Nat) * acN a0r a0w a0h a0cn a0c a1x a1y a1k) then (1:Int) + (↑((3:Nat) * acN a0r a0w a0h a0cn a0c a1x a1y a1k):Int) else (-1:Int)) != (1:Int) + (↑((3:Nat) * acN a0r a0w a0h a0cn a0c a1x a1y a1k):Int))=true→
 K (V.lit false))∧
 (((bif ramp (1:Int) ((3:Nat) * acN a0r a0w a0h a0cn a0c a1x a1y a1k)==ramp (1:Int) ((3:Nat) * acN a0r a0w a0h a0cn a0c a1x a1y a1k) then (1:Int) + (↑((3:Nat) * acN a0r a0w a0h a0cn a0c a1x a1y a1k):Int) else (-1:Int)) != (1:Int) + (↑((3:Nat) * acN a0r a0w a0h a0cn a0c a1x a1y a1k):Int))=false→
 K (V.lit true))))))∧True)∧True)∧True)∧True)∧True)∧True)∧(((At (List.length a0c=a0cn * (3:Nat)∧a0cn≤(2000000:Nat))∧(At True∧(At (List.length a0c=a0cn * (3:Nat)∧a0cn≤(2000000:Nat))∧
 ((At (List.length (acB a0r a0w a0h a0cn a0c a1x a1y a1k)=(3:Nat) * acN a0r a0w a0h a0cn a0c a1x a1y a1k∧List.length (acB a0r a0w a0h a0cn a0c a1x a1y a1k)=(3:Nat) * acN a0r a0w a0h a0cn a0c a1x a1y a1k∧
 acN a0r a0w a0h a0cn a0c a1x a1y a1k≤(2000000:Nat)∧acN a0r a0w a0h a0cn a0c a1x a1y a1k≤(2000000:Nat))∧
 ((!(acR a0r a0w a0h a0cn a0c a1x a1y a1k==acR a0r a0w a0h a0cn a0c a1x a1y a1k && acB a0r a0w a0h a0cn a0c a1x a1y a1k==acB a0r a0w a0h a0cn a0c a1x a1y a1k && acW a0r a0w a0h a0cn a0c a1x a1y a1k==acW a0r a0w a0h a0cn a0c a1x a1y a1k && acH a0r a0w a0h a0cn a0c a1x a1y a1k==acH a0r a0w a0h a0cn a0c a1x a1y a1k))=true→
 K (V.lit false))∧
 ((!(acR a0r a0w a0h a0cn a0c a1x a1y a1k==acR a0r a0w a0h a0cn a0c a1x a1y a1k && acB a0r a0w a0h a0cn a0c a1x a1y a1k==acB a0r a0w a0h a0cn a0c a1x a1y a1k && acW a0r a0w a0h a0cn a0c a1x a1y a1k==acW a0r a0w a0h a0cn a0c a1x a1y a1k && acH a0r a0w a0h a0cn a0c a1x a1y a1k==acH a0r a0w a0h a0cn a0c a1x a1y a1k))=false→
 ((!acG a0r a0w a0h a0cn a0c a1x a1y a1k==acG a0r a0w a0h a0cn a0c a1x a1y a1k)=true→K (V.lit false))∧((!acG a0r a0w a0h a0cn a0c a1x a1y a1k==acG a0r a0w a0h a0cn a0c a1x a1y a1k)=false→
 At (List.length (ramp (1:Int) ((3:Nat) * acN a0r a0w a0h a0cn a0c a1x a1y a1k))=(3:Nat) * acN a0r a0w a0h a0cn a0c a1x a1y a1k∧acN a0r a0w a0h a0cn a0c a1x a1y a1k≤(2000000:Nat)∧(0:Int)≤(1:Int)∧(1:Int)≤(1000:Int))∧
 (decide ((bif ramp (1:Int) ((3:Nat) * acN a0r a0w a0h a0cn a0c a1x a1y a1k)==ramp (1:Int) ((3:Nat) * acN a0r a0w a0h a0cn a0c a1x a1y a1k) then (1:Int) + (↑((3:Nat) * acN a0r a0w a0h a0cn a0c a1x a1y a1k):Int) else (-1:Int)) < (0:Int))=true→
 K (V.lit false))∧
 (decide ((bif ramp (1:Int) ((3:Nat) * acN a0r a0w a0h a0cn a0c a1x a1y a1k)==ramp (1:Int) ((3:Nat) * acN a0r a0w a0h a0cn a0c a1x a1y a1k) then (1:Int) + (↑((3:Nat) * acN a0r a0w a0h a0cn a0c a1x a1y a1k):Int) else (-1:Int)) < (0:Int))=false→
 (((bif ramp (1:Int) ((3:Nat) * acN a0r a0w a0h a0cn a0c a1x a1y a1k)==ramp (1:Int) ((3:Nat) * acN a0r a0w a0h a0cn a0c a1x a1y a1k) then (1:Int) + (↑((3:Nat) * acN a0r a0w a0h a0cn a0c a1x a1y a1k):Int) else (-1:Int)) != (1:Int) + (↑((3:Nat) * acN a0r a0w a0h a0cn a0c a1x a1y a1k):Int))=true→
 K (V.lit false))∧
 (((bif ramp (1:Int) ((3:Nat) * acN a0r a0w a0h a0cn a0c a1x a1y a1k)==ramp (1:Int) ((3:Nat) * acN a0r a0w a0h a0cn a0c a1x a1y a1k) then (1:Int) + (↑((3:Nat) * acN a0r a0w a0h a0cn a0c a1x a1y a1k):Int) else (-1:Int)) != (1:Int) + (↑((3:Nat) * acN a0r a0w a0h a0cn a0c a1x a1y a1k):Int))=false→
 K (V.lit true))))))∧True)∧True)∧((At (List.length a0c=a0cn * (3:Nat)∧a0cn≤(2000000:Nat))∧(At (List.length (acB a0r a0w a0h a0cn a0c a1x a1y a1k)=(3:Nat) * acN a0r a0w a0h a0cn a0c a1x a1y a1k∧
 List.length (acB a0r a0w a0h a0cn a0c a1x a1y a1k)=(3:Nat) * acN a0r a0w a0h a0cn a0c a1x a1y a1k∧acN a0r a0w a0h a0cn a0c a1x a1y a1k≤(2000000:Nat)∧acN a0r a0w a0h a0cn a0c a1x a1y a1k≤(2000000:Nat))∧
 ((!(acR a0r a0w a0h a0cn a0c a1x a1y a1k==acR a0r a0w a0h a0cn a0c a1x a1y a1k && acB a0r a0w a0h a0cn a0c a1x a1y a1k==acB a0r a0w a0h a0cn a0c a1x a1y a1k && acW a0r a0w a0h a0cn a0c a1x a1y a1k==acW a0r a0w a0h a0cn a0c a1x a1y a1k && acH a0r a0w a0h a0cn a0c a1x a1y a1k==acH a0r a0w a0h a0cn a0c a1x a1y a1k))=true→
 K (V.lit false))∧
 ((!(acR a0r a0w a0h a0cn a0c a1x a1y a1k==acR a0r a0w a0h a0cn a0c a1x a1y a1k && acB a0r a0w a0h a0cn a0c a1x a1y a1k==acB a0r a0w a0h a0cn a0c a1x a1y a1k && acW a0r a0w a0h a0cn a0c a1x a1y a1k==acW a0r a0w a0h a0cn a0c a1x a1y a1k && acH a0r a0w a0h a0cn a0c a1x a1y a1k==acH a0r a0w a0h a0cn a0c a1x a1y a1k))=false→
 ((!acG a0r a0w a0h a0cn a0c a1x a1y a1k==acG a0r a0w a0h a0cn a0c a1x a1y a1k)=true→K (V.lit false))∧((!acG a0r a0w a0h a0cn a0c a1x a1y a1k==acG a0r a0w a0h a0cn a0c a1x a1y a1k)=false→
 At (List.length (ramp (1:Int) ((3:Nat) * acN a0r a0w a0h a0cn a0c a1x a1y a1k))=(3:Nat) * acN a0r a0w a0h a0cn a0c a1x a1y a1k∧acN a0r a0w a0h a0cn a0c a1x a1y a1k≤(2000000:Nat)∧(0:Int)≤(1:Int)∧(1:Int)≤(1000:Int))∧
 (decide ((bif ramp (1:Int) ((3:Nat) * acN a0r a0w a0h a0cn a0c a1x a1y a1k)==ramp (1:Int) ((3:Nat) * acN a0r a0w a0h a0cn a0c a1x a1y a1k) then (1:Int) + (↑((3:Nat) * acN a0r a0w a0h a0cn a0c a1x a1y a1k):Int) else (-1:Int)) < (0:Int))=true→
 K (V.lit false))∧
 (decide ((bif ramp (1:Int) ((3:Nat) * acN a0r a0w a0h a0cn a0c a1x a1y a1k)==ramp (1:Int) ((3:Nat) * acN a0r a0w a0h a0cn a0c a1x a1y a1k) then (1:Int) + (↑((3:Nat) * acN a0r a0w a0h a0cn a0c a1x a1y a1k):Int) else (-1:Int)) < (0:Int))=false→
 (((bif ramp (1:Int) ((3:Nat) * acN a0r a0w a0h a0cn a0c a1x a1y a1k)==ramp (1:Int) ((3:Nat) * acN a0r a0w a0h a0cn a0c a1x a1y a1k) then (1:Int) + (↑((3:Nat) * acN a0r a0w a0h a0cn a0c a1x a1y a1k):Int) else (-1:Int)) != (1:Int) + (↑((3:Nat) * acN a0r a0w a0h a0cn a0c a1x a1y a1k):Int))=true→
 K (V.lit false))∧
 (((bif ramp (1:Int) ((3:Nat) * acN a0r a0w a0h a0cn a0c a1x a1y a1k)==ramp (1:Int) ((3:Nat) * acN a0r a0w a0h a0cn a0c a1x a1y a1k) then (1:Int) + (↑((3:Nat) * acN a0r a0w a0h a0cn a0c a1x a1y a1k):Int) else (-1:Int)) != (1:Int) + (↑((3:Nat) * acN a0r a0w a0h a0cn a0c a1x a1y a1k):Int))=false→
 K (V.lit true))))))∧True)∧True)∧True)∧((At True∧(At (List.length a0c=a0cn * (3:Nat)∧a0cn≤(2000000:Nat))∧(At (List.length (acB a0r a0w a0h a0cn a0c a1x a1y a1k)=(3:Nat) * acN a0r a0w a0h a0cn a0c a1x a1y a1k∧
 List.length (acB a0r a0w a0h a0cn a0c a1x a1y a1k)=(3:Nat) * acN a0r a0w a0h a0cn a0c a1x a1y a1k∧acN a0r a0w a0h a0cn a0c a1x a1y a1k≤(2000000:Nat)∧acN a0r a0w a0h a0cn a0c a1x a1y a1k≤(2000000:Nat))∧
 ((!(acR a0r a0w a0h a0cn a0c a1x a1y a1k==acR a0r a0w a0h a0cn a0c a1x a1y a1k && acB a0r a0w a0h a0cn a0c a1x a1y a1k==acB a0r a0w a0h a0cn a0c a1x a1y a1k && acW a0r a0w a0h a0cn a0c a1x a1y a1k==acW a0r a0w a0h a0cn a0c a1x a1y a1k && acH a0r a0w a0h a0cn a0c a1x a1y a1k==acH a0r a0w a0h a0cn a0c a1x a1y a1k))=true→
 K (V.lit false))∧
 ((!(acR a0r a0w a0h a0cn a0c a1x a1y a1k==acR a0r a0w a0h a0cn a0c a1x a1y a1k && acB a0r a0w a0h a0cn a0c a1x a1y a1k==acB a0r a0w a0h a0cn a0c a1x a1y a1k && acW a0r a0w a0h a0cn a0c a1x a1y a1k==acW a0r a0w a0h a0cn a0c a1x a1y a1k && acH a0r a0w a0h a0cn a0c a1x a1y a1k==acH a0r a0w a0h a0cn a0c a1x a1y a1k))=false→
 ((!acG a0r a0w a0h a0cn a0c a1x a1y a1k==acG a0r a0w a0h a0cn a0c a1x a1y a1k)=true→K (V.lit false))∧((!acG a0r a0w a0h a0cn a0c a1x a1y a1k==acG a0r a0w a0h a0cn a0c a1x a1y a1k)=false→
 At (List.length (ramp (1:Int) ((3:Nat) * acN a0r a0w a0h a0cn a0c a1x a1y a1k))=(3:Nat) * acN a0r a0w a0h a0cn a0c a1x a1y a1k∧acN a0r a0w a0h a0cn a0c a1x a1y a1k≤(2000000:Nat)∧(0:Int)≤(1:Int)∧(1:Int)≤(1000:Int))∧
 (decide ((bif ramp (1:Int) ((3:Nat) * acN a0r a0w a0h a0cn a0c a1x a1y a1k)==ramp (1:Int) ((3:Nat) * acN a0r a0w a0h a0cn a0c a1x a1y a1k) then (1:Int) + (↑((3:Nat) * acN a0r a0w a0h a0cn a0c a1x a1y a1k):Int) else (-1:Int)) < (0:Int))=true→
 K (V.lit false))∧
 (decide ((bif ramp (1:Int) ((3:Nat) * acN a0r a0w a0h a0cn a0c a1x a1y a1k)==ramp (1:Int) ((3:Nat) * acN a0r a0w a0h a0cn a0c a1x a1y a1k) then (1:Int) + (↑((3:Nat) * acN a0r a0w a0h a0cn a0c a1x a1y a1k):Int) else (-1:Int)) < (0:Int))=false→
 (((bif ramp (1:Int) ((3:Nat) * acN a0r a0w a0h a0cn a0c a1x a1y a1k)==ramp (1:Int) ((3:Nat) * acN a0r a0w a0h a0cn a0c a1x a1y a1k) then (1:Int) + (↑((3:Nat) * acN a0r a0w a0h a0cn a0c a1x a1y a1k):Int) else (-1:Int)) != (1:Int) + (↑((3:Nat) * acN a0r a0w a0h a0cn a0c a1x a1y a1k):Int))=true→
 K (V.lit false))∧
 (((bif ramp (1:Int) ((3:Nat) * acN a0r a0w a0h a0cn a0c a1x a1y a1k)==ramp (1:Int) ((3:Nat) * acN a0r a0w a0h a0cn a0c a1x a1y a1k) then (1:Int) + (↑((3:Nat) * acN a0r a0w a0h a0cn a0c a1x a1y a1k):Int) else (-1:Int)) != (1:Int) + (↑((3:Nat) * acN a0r a0w a0h a0cn a0c a1x a1y a1k):Int))=false→
 K (V.lit true))))))∧True)∧True)∧True)∧True)∧((At (List.length a0c=a0cn * (3:Nat)∧a0cn≤(2000000:Nat))∧(At True∧(At (List.length a0c=a0cn * (3:Nat)∧a0cn≤(2000000:Nat))∧
 (At (List.length (acB a0r a0w a0h a0cn a0c a1x a1y a1k)=(3:Nat) * acN a0r a0w a0h a0cn a0c a1x a1y a1k∧List.length (acB a0r a0w a0h a0cn a0c a1x a1y a1k)=(3:Nat) * acN a0r a0w a0h a0cn a0c a1x a1y a1k∧
 acN a0r a0w a0h a0cn a0c a1x a1y a1k≤(2000000:Nat)∧acN a0r a0w a0h a0cn a0c a1x a1y a1k≤(2000000:Nat))∧
 ((!(acR a0r a0w a0h a0cn a0c a1x a1y a1k==acR a0r a0w a0h a0cn a0c a1x a1y a1k && acB a0r a0w a0h a0cn a0c a1x a1y a1k==acB a0r a0w a0h a0cn a0c a1x a1y a1k && acW a0r a0w a0h a0cn a0c a1x a1y a1k==acW a0r a0w a0h a0cn a0c a1x a1y a1k && acH a0r a0w a0h a0cn a0c a1x a1y a1k==acH a0r a0w a0h a0cn a0c a1x a1y a1k))=true→
 K (V.lit false))∧
 ((!(acR a0r a0w a0h a0cn a0c a1x a1y a1k==acR a0r a0w a0h a0cn a0c a1x a1y a1k && acB a0r a0w a0h a0cn a0c a1x a1y a1k==acB a0r a0w a0h a0cn a0c a1x a1y a1k && acW a0r a0w a0h a0cn a0c a1x a1y a1k==acW a0r a0w a0h a0cn a0c a1x a1y a1k && acH a0r a0w a0h a0cn a0c a1x a1y a1k==acH a0r a0w a0h a0cn a0c a1x a1y a1k))=false→
 ((!acG a0r a0w a0h a0cn a0c a1x a1y a1k==acG a0r a0w a0h a0cn a0c a1x a1y a1k)=true→K (V.lit false))∧((!acG a0r a0w a0h a0cn a0c a1x a1y a1k==acG a0r a0w a0h a0cn a0c a1x a1y a1k)=false→
 At (List.length (ramp (1:Int) ((3:Nat) * acN a0r a0w a0h a0cn a0c a1x a1y a1k))=(3:Nat) * acN a0r a0w a0h a0cn a0c a1x a1y a1k∧acN a0r a0w a0h a0cn a0c a1x a1y a1k≤(2000000:Nat)∧(0:Int)≤(1:Int)∧(1:Int)≤(1000:Int))∧
 (decide ((bif ramp (1:Int) ((3:Nat) * acN a0r a0w a0h a0cn a0c a1x a1y a1k)==ramp (1:Int) ((3:Nat) * acN a0r a0w a0h a0cn a0c a1x a1y a1k) then (1:Int) + (↑((3:Nat) * acN a0r a0w a0h a0cn a0c a1x a1y a1k):Int) else (-1:Int)) < (0:Int))=true→
 K (V.lit false))∧
 (decide ((bif ramp (1:Int) ((3:Nat) * acN a0r a0w a0h a0cn a0c a1x a1y a1k)==ramp (1:Int) ((3:Nat) * acN a0r a0w a0h a0cn a0c a1x a1y a1k) then (1:Int) + (↑((3:Nat) * acN a0r a0w a0h a0cn a0c a1x a1y a1k):Int) else (-1:Int)) < (0:Int))=false→
 (((bif ramp (1:Int) ((3:Nat) * acN a0r a0w a0h a0cn a0c a1x a1y a1k)==ramp (1:Int) ((3:Nat) * acN a0r a0w a0h a0cn a0c a1x a1y a1k) then (1:Int) + (↑((3:Nat) * acN a0r a0w a0h a0cn a0c a1x a1y a1k):Int) else (-1:Int)) != (1:Int) + (↑((3:Nat) * acN a0r a0w a0h a0cn a0c a1x a1y a1k):Int))=true→
 K (V.lit false))∧
 (((bif ramp (1:Int) ((3:Nat) * acN a0r a0w a0h a0cn a0c a1x a1y a1k)==ramp (1:Int) ((3:Nat) * acN a0r a0w a0h a0cn a0c a1x a1y a1k) then (1:Int) + (↑((3:Nat) * acN a0r a0w a0h a0cn a0c a1x a1y a1k):Int) else (-1:Int)) != (1:Int) + (↑((3:Nat) * acN a0r a0w a0h a0cn a0c a1x a1y a1k):Int))=false→
 K (V.lit true))))))∧True)∧True)∧True)∧True)∧True)∧(((At (List.length a0c=a0cn * (3:Nat)∧a0cn≤(2000000:Nat))∧(At True∧(At (List.length a0c=a0cn * (3:Nat)∧a0cn≤(2000000:Nat))∧
 (At (List.length (acB a0r a0w a0h a0cn a0c a1x a1y a1k)=(3:Nat) * acN a0r a0w a0h a0cn a0c a1x a1y a1k∧List.length (acB a0r a0w a0h a0cn a0c a1x a1y a1k)=(3:Nat) * acN a0r a0w a0h a0cn a0c a1x a1y a1k∧
 acN a0r a0w a0h a0cn a0c a1x a1y a1k≤(2000000:Nat)∧acN a0r a0w a0h a0cn a0c a1x a1y a1k≤(2000000:Nat))∧
 ((!(acR a0r a0w a0h a0cn a0c a1x a1y a1k==acR a0r a0w a0h a0cn a0c a1x a1y a1k && acB a0r a0w a0h a0cn a0c a1x a1y a1k==acB a0r a0w a0h a0cn a0c a1x a1y a1k && acW a0r a0w a0h a0cn a0c a1x a1y a1k==acW a0r a0w a0h a0cn a0c a1x a1y a1k && acH a0r a0w a0h a0cn a0c a1x a1y a1k==acH a0r a0w a0h a0cn a0c a1x a1y a1k))=true→
 K (V.lit false))∧
 ((!(acR a0r a0w a0h a0cn a0c a1x a1y a1k==acR a0r a0w a0h a0cn a0c a1x a1y a1k && acB a0r a0w a0h a0cn a0c a1x a1y a1k==acB a0r a0w a0h a0cn a0c a1x a1y a1k && acW a0r a0w a0h a0cn a0c a1x a1y a1k==acW a0r a0w a0h a0cn a0c a1x a1y a1k && acH a0r a0w a0h a0cn a0c a1x a1y a1k==acH a0r a0w a0h a0cn a0c a1x a1y a1k))=false→
 ((!acG a0r a0w a0h a0cn a0c a1x a1y a1k==acG a0r a0w a0h a0cn a0c a1x a1y a1k)=true→K (V.lit false))∧((!acG a0r a0w a0h a0cn a0c a1x a1y a1k==acG a0r a0w a0h a0cn a0c a1x a1y a1k)=false→
 At (List.length (ramp (1:Int) ((3:Nat) * acN a0r a0w a0h a0cn a0c a1x a1y a1k))=(3:Nat) * acN a0r a0w a0h a0cn a0c a1x a1y a1k∧acN a0r a0w a0h a0cn a0c a1x a1y a1k≤(2000000:Nat)∧(0:Int)≤(1:Int)∧(1:Int)≤(1000:Int))∧
 (decide ((bif ramp (1:Int) ((3:Nat) * acN a0r a0w a0h a0cn a0c a1x a1y a1k)==ramp (1:Int) ((3:Nat) * acN a0r a0w a0h a0cn a0c a1x a1y a1k) then (1:Int) + (↑((3:Nat) * acN a0r a0w a0h a0cn a0c a1x a1y a1k):Int) else (-1:Int)) < (0:Int))=true→
 K (V.lit false))∧
 (decide ((bif ramp (1:Int) ((3:Nat) * acN a0r a0w a0h a0cn a0c a1x a1y a1k)==ramp (1:Int) ((3:Nat) * acN a0r a0w a0h a0cn a0c a1x a1y a1k) then (1:Int) + (↑((3:Nat) * acN a0r a0w a0h a0cn a0c a1x a1y a1k):Int) else (-1:Int)) < (0:Int))=false→
 (((bif ramp (1:Int) ((3:Nat) * acN a0r a0w a0h a0cn a0c a1x a1y a1k)==ramp (1:Int) ((3:Nat) * acN a0r a0w a0h a0cn a0c a1x a1y a1k) then (1:Int) + (↑((3:Nat) * acN a0r a0w a0h a0cn a0c a1x a1y a1k):Int) else (-1:Int)) != (1:Int) + (↑((3:Nat) * acN a0r a0w a0h a0cn a0c a1x a1y a1k):Int))=true→
 K (V.lit false))∧
 (((bif ramp (1:Int) ((3:Nat) * acN a0r a0w a0h a0cn a0c a1x a1y a1k)==ramp (1:Int) ((3:Nat) * acN a0r a0w a0h a0cn a0c a1x a1y a1k) then (1:Int) + (↑((3:Nat) * acN a0r a0w a0h a0cn a0c a1x a1y a1k):Int) else (-1:Int)) != (1:Int) + (↑((3:Nat) * acN a0r a0w a0h a0cn a0c a1x a1y a1k):Int))=false→
 K (V.lit true))))))∧True)∧True)∧True)∧True)∧True)∧True)∧(((At (List.length a0c=a0cn * (3:Nat)∧a0cn≤(2000000:Nat))∧((At True∧(At (List.length a0c=a0cn * (3:Nat)∧a0cn≤(2000000:Nat))∧
 (At (List.length (acB a0r a0w a0h a0cn a0c a1x a1y a1k)=(3:Nat) * acN a0r a0w a0h a0cn a0c a1x a1y a1k∧List.length (acB a0r a0w a0h a0cn a0c a1x a1y a1k)=(3:Nat) * acN a0r a0w a0h a0cn a0c a1x a1y a1k∧
 acN a0r a0w a0h a0cn a0c a1x a1y a1k≤(2000000:Nat)∧acN a0r a0w a0h a0cn a0c a1x a1y a1k≤(2000000:Nat))∧
 ((!(acR a0r a0w a0h a0cn a0c a1x a1y a1k==acR a0r a0w a0h a0cn a0c a1x a1y a1k && acB a0r a0w a0h a0cn a0c a1x a1y a1k==acB a0r a0w a0h a0cn a0c a1x a1y a1k && acW a0r a0w a0h a0cn a0c a1x a1y a1k==acW a0r a0w a0h a0cn a0c a1x a1y a1k && acH a0r a0w a0h a0cn a0c a1x a1y a1k==acH a0r a0w a0h a0cn a0c a1x a1y a1k))=true→
 K (V.lit false))∧
 ((!(acR a0r a0w a0h a0cn a0c a1x a1y a1k==acR a0r a0w a0h a0cn a0c a1x a1y a1k && acB a0r a0w a0h a0cn a0c a1x a1y a1k==acB a0r a0w a0h a0cn a0c a1x a1y a1k && acW a0r a0w a0h a0cn a0c a1x a1y a1k==acW a0r a0w a0h a0cn a0c a1x a1y a1k && acH a0r a0w a0h a0cn a0c a1x a1y a1k==acH a0r a0w a0h a0cn a0c a1x a1y a1k))=false→
 ((!acG a0r a0w a0h a0cn a0c a1x a1y a1k==acG a0r a0w a0h a0cn a0c a1x a1y a1k)=true→K (V.lit false))∧((!acG a0r a0w a0h a0cn a0c a1x a1y a1k==acG a0r a0w a0h a0cn a0c a1x a1y a1k)=false→
 At (List.length (ramp (1:Int) ((3:Nat) * acN a0r a0w a0h a0cn a0c a1x a1y a1k))=(3:Nat) * acN a0r a0w a0h a0cn a0c a1x a1y a1k∧acN a0r a0w a0h a0cn a0c a1x a1y a1k≤(2000000:Nat)∧(0:Int)≤(1:Int)∧(1:Int)≤(1000:Int))∧
 (decide ((bif ramp (1:Int) ((3:Nat) * acN a0r a0w a0h a0cn a0c a1x a1y a1k)==ramp (1:Int) ((3:Nat) * acN a0r a0w a0h a0cn a0c a1x a1y a1k) then (1:Int) + (↑((3:Nat) * acN a0r a0w a0h a0cn a0c a1x a1y a1k):Int) else (-1:Int)) < (0:Int))=true→
 K (V.lit false))∧
 (decide ((bif ramp (1:Int) ((3:Nat) * acN a0r a0w a0h a0cn a0c a1x a1y a1k)==ramp (1:Int) ((3:Nat) * acN a0r a0w a0h a0cn a0c a1x a1y a1k) then (1:Int) + (↑((3:Nat) * acN a0r a0w a0h a0cn a0c a1x a1y a1k):Int) else (-1:Int)) < (0:Int))=false→
 (((bif ramp (1:Int) ((3:Nat) * acN a0r a0w a0h a0cn a0c a1x a1y a1k)==ramp (1:Int) ((3:Nat) * acN a0r a0w a0h a0cn a0c a1x a1y a1k) then (1:Int) + (↑((3:Nat) * acN a0r a0w a0h a0cn a0c a1x a1y a1k):Int) else (-1:Int)) != (1:Int) + (↑((3:Nat) * acN a0r a0w a0h a0cn a0c a1x a1y a1k):Int))=true→
 K (V.lit false))∧
 (((bif ramp (1:Int) ((3:Nat) * acN a0r a0w a0h a0cn a0c a1x a1y a1k)==ramp (1:Int) ((3:Nat) * acN a0r a0w a0h a0cn a0c a1x a1y a1k) then (1:Int) + (↑((3:Nat) * acN a0r a0w a0h a0cn a0c a1x a1y a1k):Int) else (-1:Int)) != (1:Int) + (↑((3:Nat) * acN a0r a0w a0h a0cn a0c a1x a1y a1k):Int))=false→
 K (V.lit true))))))∧True)∧True)∧True)∧True)∧((At (List.length a0c=a0cn * (3:Nat)∧a0cn≤(2000000:Nat))∧(At True∧(At (List.length a0c=a0cn * (3:Nat)∧a0cn≤(2000000:Nat))∧
 (At (List.length (acB a0r a0w a0h a0cn a0c a1x a1y a1k)=(3:Nat) * acN a0r a0w a0h a0cn a0c a1x a1y a1k∧List.length (acB a0r a0w a0h a0cn a0c a1x a1y a1k)=(3:Nat) * acN a0r a0w a0h a0cn a0c a1x a1y a1k∧
 acN a0r a0w a0h a0cn a0c a1x a1y a1k≤(2000000:Nat)∧acN a0r a0w a0h a0cn a0c a1x a1y a1k≤(2000000:Nat))∧
 ((!(acR a0r a0w a0h a0cn a0c a1x a1y a1k==acR a0r a0w a0h a0cn a0c a1x a1y a1k && acB a0r a0w a0h a0cn a0c a1x a1y a1k==acB a0r a0w a0h a0cn a0c a1x a1y a1k && acW a0r a0w a0h a0cn a0c a1x a1y a1k==acW a0r a0w a0h a0cn a0c a1x a1y a1k && acH a0r a0w a0h a0cn a0c a1x a1y a1k==acH a0r a0w a0h a0cn a0c a1x a1y a1k))=true→
 K (V.lit false))∧
 ((!(acR a0r a0w a0h a0cn a0c a1x a1y a1k==acR a0r a0w a0h a0cn a0c a1x a1y a1k && acB a0r a0w a0h a0cn a0c a1x a1y a1k==acB a0r a0w a0h a0cn a0c a1x a1y a1k && acW a0r a0w a0h a0cn a0c a1x a1y a1k==acW a0r a0w a0h a0cn a0c a1x a1y a1k && acH a0r a0w a0h a0cn a0c a1x a1y a1k==acH a0r a0w a0h a0cn a0c a1x a1y a1k))=false→
 ((!acG a0r a0w a0h a0cn a0c a1x a1y a1k==acG a0r a0w a0h a0cn a0c a1x a1y a1k)=true→K (V.lit false))∧((!acG a0r a0w a0h a0cn a0c a1x a1y a1k==acG a0r a0w a0h a0cn a0c a1x a1y a1k)=false→
 At (List.length (ramp (1:Int) ((3:Nat) * acN a0r a0w a0h a0cn a0c a1x a1y a1k))=(3:Nat) * acN a0r a0w a0h a0cn a0c a1x a1y a1k∧acN a0r a0w a0h a0cn a0c a1x a1y a1k≤(2000000:Nat)∧(0:Int)≤(1:Int)∧(1:Int)≤(1000:Int))∧
 (decide ((bif ramp (1:Int) ((3:Nat) * acN a0r a0w a0h a0cn a0c a1x a1y a1k)==ramp (1:Int) ((3:Nat) * acN a0r a0w a0h a0cn a0c a1x a1y a1k) then (1:Int) + (↑((3:Nat) * acN a0r a0w a0h a0cn a0c a1x a1y a1k):Int) else (-1:Int)) < (0:Int))=true→
 K (V.lit false))∧
 (decide ((bif ramp (1:Int) ((3:Nat) * acN a0r a0w a0h a0cn a0c a1x a1y a1k)==ramp (1:Int) ((3:Nat) * acN a0r a0w a0h a0cn a0c a1x a1y a1k) then (1:Int) + (↑((3:Nat) * acN a0r a0w a0h a0cn a0c a1x a1y a1k):Int) else (-1:Int)) < (0:Int))=false→
 (((bif ramp (1:Int) ((3:Nat) * acN a0r a0w a0h a0cn a0c a1x a1y a1k)==ramp (1:Int) ((3:Nat) * acN a0r a0w a0h a0cn a0c a1x a1y a1k) then (1:Int) + (↑((3:Nat) * acN a0r a0w a0h a0cn a0c a1x a1y a1k):Int) else (-1:Int)) != (1:Int) + (↑((3:Nat) * acN a0r a0w a0h a0cn a0c a1x a1y a1k):Int))=true→
 K (V.lit false))∧
 (((bif ramp (1:Int) ((3:Nat) * acN a0r a0w a0h a0cn a0c a1x a1y a1k)==ramp (1:Int) ((3:Nat) * acN a0r a0w a0h a0cn a0c a1x a1y a1k) then (1:Int) + (↑((3:Nat) * acN a0r a0w a0h a0cn a0c a1x a1y a1k):Int) else (-1:Int)) != (1:Int) + (↑((3:Nat) * acN a0r a0w a0h a0cn a0c a1x a1y a1k):Int))=false→
 K (V.lit true))))))∧True)∧True)∧True)∧True)∧True)∧(((At (List.length a0c=a0cn * (3:Nat)∧a0cn≤(2000000:Nat))∧(At True∧(At (List.length a0c=a0cn * (3:Nat)∧a0cn≤(2000000:Nat))∧
 (At (List.length (acB a0r a0w a0h a0cn a0c a1x a1y a1k)=(3:Nat) * acN a0r a0w a0h a0cn a0c a1x a1y a1k∧List.length (acB a0r a0w a0h a0cn a0c a1x a1y a1k)=(3:Nat) * acN a0r a0w a0h a0cn a0c a1x a1y a1k∧
 acN a0r a0w a0h a0cn a0c a1x a1y a1k≤(2000000:Nat)∧acN a0r a0w a0h a0cn a0c a1x a1y a1k≤(2000000:Nat))∧
 ((!(acR a0r a0w a0h a0cn a0c a1x a1y a1k==acR a0r a0w a0h a0cn a0c a1x a1y a1k && acB a0r a0w a0h a0cn a0c a1x a1y a1k==acB a0r a0w a0h a0cn a0c a1x a1y a1k && acW a0r a0w a0h a0cn a0c a1x a1y a1k==acW a0r a0w a0h a0cn a0c a1x a1y a1k && acH a0r a0w a0h a0cn a0c a1x a1y a1k==acH a0r a0w a0h a0cn a0c a1x a1y a1k))=true→
 K (V.lit false))∧
 ((!(acR a0r a0w a0h a0cn a0c a1x a1y a1k==acR a0r a0w a0h a0cn a0c a1x a1y a1k && acB a0r a0w a0h a0cn a0c a1x a1y a1k==acB a0r a0w a0h a0cn a0c a1x a1y a1k && acW a0r a0w a0h a0cn a0c a1x a1y a1k==acW a0r a0w a0h a0cn a0c a1x a1y a1k && acH a0r a0w a0h a0cn a0c a1x a1y a1k==acH a0r a0w a0h a0cn a0c a1x a1y a1k))=false→
 ((!acG a0r a0w a0h a0cn a0c a1x a1y a1k==acG a0r a0w a0h a0cn a0c a1x a1y a1k)=true→K (V.lit false))∧((!acG a0r a0w a0h a0cn a0c a1x a1y a1k==acG a0r a0w a0h a0cn a0c a1x a1y a1k)=false→
 At (List.length (ramp (1:Int) ((3:Nat) * acN a0r a0w a0h a0cn a0c a1x a1y a1k))=(3:Nat) * acN a0r a0w a0h a0cn a0c a1x a1y a1k∧acN a0r a0w a0h a0cn a0c a1x a1y a1k≤(2000000:Nat)∧(0:Int)≤(1:Int)∧(1:Int)≤(1000:Int))∧
 (decide ((bif ramp (1:Int) ((3:Nat) * acN a0r a0w a0h a0cn a0c a1x a1y a1k)==ramp (1:Int) ((3:Nat) * acN a0r a0w a0h a0cn a0c a1x a1y a1k) then (1:Int) + (↑((3:Nat) * acN a0r a0w a0h a0cn a0c a1x a1y a1k):Int) else (-1:Int)) < (0:Int))=true→
 K (V.lit false))∧
 (decide ((bif ramp (1:Int) ((3:Nat) * acN a0r a0w a0h a0cn a0c a1x a1y a1k)==ramp (1:Int) ((3:Nat) * acN a0r a0w a0h a0cn a0c a1x a1y a1k) then (1:Int) + (↑((3:Nat) * acN a0r a0w a0h a0cn a0c a1x a1y a1k):Int) else (-1:Int)) < (0:Int))=false→
 (((bif ramp (1:Int) ((3:Nat) * acN a0r a0w a0h a0cn a0c a1x a1y a1k)==ramp (1:Int) ((3:Nat) * acN a0r a0w a0h a0cn a0c a1x a1y a1k) then (1:Int) + (↑((3:Nat) * acN a0r a0w a0h a0cn a0c a1x a1y a1k):Int) else (-1:Int)) != (1:Int) + (↑((3:Nat) * acN a0r a0w a0h a0cn a0c a1x a1y a1k):Int))=true→
 K (V.lit false))∧
 (((bif ramp (1:Int) ((3:Nat) * acN a0r a0w a0h a0cn a0c a1x a1y a1k)==ramp (1:Int) ((3:Nat) * acN a0r a0w a0h a0cn a0c a1x a1y a1k) then (1:Int) + (↑((3:Nat) * acN a0r a0w a0h a0cn a0c a1x a1y a1k):Int) else (-1:Int)) != (1:Int) + (↑((3:Nat) * acN a0r a0w a0h a0cn a0c a1x a1y a1k):Int))=false→
 K (V.lit true))))))∧True)∧True)∧True)∧True)∧True)∧True)∧True)))))))∧True)∧True)∧(At (List.length a0c=a0cn * (3:Nat)∧a0cn≤(2000000:Nat))∧((At (List.length a0c=(3:Nat) * a0cn∧List.length a0c=(3:Nat) * a0cn∧
 a0cn≤(2000000:Nat)∧a0cn≤(2000000:Nat))∧((!(a0r==a0r && a0c==a0c && a0w==a0w && a0h==a0h))=true→K (V.lit false))∧((!(a0r==a0r && a0c==a0c && a0w==a0w && a0h==a0h))=false→At (List.length a0c=(3:Nat) * a0cn∧
 a0cn≤(2000000:Nat)∧(0:Int)≤(1:Int)∧(1:Int)≤(1000:Int))∧(decide ((1:Int) + (↑((3:Nat) * a0cn):Int) < (0:Int))=true→K (V.lit false))∧(decide ((1:Int) + (↑((3:Nat) * a0cn):Int) < (0:Int))=false→
 At (List.length (acB a0r a0w a0h a0cn a0c a1x a1y a1k)=(3:Nat) * acN a0r a0w a0h a0cn a0c a1x a1y a1k∧List.length (acB a0r a0w a0h a0cn a0c a1x a1y a1k)=(3:Nat) * acN a0r a0w a0h a0cn a0c a1x a1y a1k∧
 acN a0r a0w a0h a0cn a0c a1x a1y a1k≤(2000000:Nat)∧acN a0r a0w a0h a0cn a0c a1x a1y a1k≤(2000000:Nat))∧
 ((!(acR a0r a0w a0h a0cn a0c a1x a1y a1k==acR a0r a0w a0h a0cn a0c a1x a1y a1k && acB a0r a0w a0h a0cn a0c a1x a1y a1k==acB a0r a0w a0h a0cn a0c a1x a1y a1k && acW a0r a0w a0h a0cn a0c a1x a1y a1k==acW a0r a0w a0h a0cn a0c a1x a1y a1k && acH a0r a0w a0h a0cn a0c a1x a1y a1k==acH a0r a0w a0h a0cn a0c a1x a1y a1k))=true→
 K (V.lit false))∧
 ((!(acR a0r a0w a0h a0cn a0c a1x a1y a1k==acR a0r a0w a0h a0cn a0c a1x a1y a1k && acB a0r a0w a0h a0cn a0c a1x a1y a1k==acB a0r a0w a0h a0cn a0c a1x a1y a1k && acW a0r a0w a0h a0cn a0c a1x a1y a1k==acW a0r a0w a0h a0cn a0c a1x a1y a1k && acH a0r a0w a0h a0cn a0c a1x a1y a1k==acH a0r a0w a0h a0cn a0c a1x a1y a1k))=false→
 ((!acG a0r a0w a0h a0cn a0c a1x a1y a1k==acG a0r a0w a0h a0cn a0c a1x a1y a1k)=true→K (V.lit false))∧((!acG a0r a0w a0h a0cn a0c a1x a1y a1k==acG a0r a0w a0h a0cn a0c a1x a1y a1k)=false→
 At (List.length (acB a0r a0w a0h a0cn a0c a1x a1y a1k)=(3:Nat) * acN a0r a0w a0h a0cn a0c a1x a1y a1k∧acN a0r a0w a0h a0cn a0c a1x a1y a1k≤(2000000:Nat)∧(0:Int)≤(1:Int)∧(1:Int)≤(1000:Int))∧
 At (List.length (ramp (1:Int) ((3:Nat) * acN a0r a0w a0h a0cn a0c a1x a1y a1k))=(3:Nat) * acN a0r a0w a0h a0cn a0c a1x a1y a1k∧acN a0r a0w a0h a0cn a0c a1x a1y a1k≤(2000000:Nat)∧(0:Int)≤(1:Int)∧(1:Int)≤(1000:Int))∧
 (decide ((bif ramp (1:Int) ((3:Nat) * acN a0r a0w a0h a0cn a0c a1x a1y a1k)==ramp (1:Int) ((3:Nat) * acN a0r a0w a0h a0cn a0c a1x a1y a1k) then (1:Int) + (↑((3:Nat) * acN a0r a0w a0h a0cn a0c a1x a1y a1k):Int) else (-1:Int)) < (0:Int))=true→
 K (V.lit false))∧
 (decide ((bif ramp (1:Int) ((3:Nat) * acN a0r a0w a0h a0cn a0c a1x a1y a1k)==ramp (1:Int) ((3:Nat) * acN a0r a0w a0h a0cn a0c a1x a1y a1k) then (1:Int) + (↑((3:Nat) * acN a0r a0w a0h a0cn a0c a1x a1y a1k):Int) else (-1:Int)) < (0:Int))=false→
 (((bif ramp (1:Int) ((3:Nat) * acN a0r a0w a0h a0cn a0c a1x a1y a1k)==ramp (1:Int) ((3:Nat) * acN a0r a0w a0h a0cn a0c a1x a1y a1k) then (1:Int) + (↑((3:Nat) * acN a0r a0w a0h a0cn a0c a1x a1y a1k):Int) else (-1:Int)) != (1:Int) + (↑((3:Nat) * acN a0r a0w a0h a0cn a0c a1x a1y a1k):Int))=true→
 K (V.lit false))∧
 (((bif ramp (1:Int) ((3:Nat) * acN a0r a0w a0h a0cn a0c a1x a1y a1k)==ramp (1:Int) ((3:Nat) * acN a0r a0w a0h a0cn a0c a1x a1y a1k) then (1:Int) + (↑((3:Nat) * acN a0r a0w a0h a0cn a0c a1x a1y a1k):Int) else (-1:Int)) != (1:Int) + (↑((3:Nat) * acN a0r a0w a0h a0cn a0c a1x a1y a1k):Int))=false→
 ((At (List.length a0c=a0cn * (3:Nat)∧a0cn≤(2000000:Nat))∧((At True∧(At (List.length a0c=a0cn * (3:Nat)∧a0cn≤(2000000:Nat))∧
 ((At (List.length (acB a0r a0w a0h a0cn a0c a1x a1y a1k)=(3:Nat) * acN a0r a0w a0h a0cn a0c a1x a1y a1k∧List.length (acB a0r a0w a0h a0cn a0c a1x a1y a1k)=(3:Nat) * acN a0r a0w a0h a0cn a0c a1x a1y a1k∧
 acN a0r a0w a0h a0cn a0c a1x a1y a1k≤(2000000:Nat)∧acN a0r a0w a0h a0cn a0c a1x a1y a1k≤(2000000:Nat))∧
 ((!(acR a0r a0w a0h a0cn a0c a1x a1y a1k==acR a0r a0w a0h a0cn a0c a1x a1y a1k && acB a0r a0w a0h a0cn a0c a1x a1y a1k==acB a0r a0w a0h a0cn a0c a1x a1y a1k && acW a0r a0w a0h a0cn a0c a1x a1y a1k==acW a0r a0w a0h a0cn a0c a1x a1y a1k && acH a0r a0w a0h a0cn a0c a1x a1y a1k==acH a0r a0w a0h a0cn a0c a1x a1y a1k))=true→
 K (V.lit false))∧
 ((!(acR a0r a0w a0h a0cn a0c a1x a1y a1k==acR a0r a0w a0h a0cn a0c a1x a1y a1k && acB a0r a0w a0h a0cn a0c a1x a1y a1k==acB a0r a0w a0h a0cn a0c a1x a1y a1k && acW a0r a0w a0h a0cn a0c a1x a1y a1k==acW a0r a0w a0h a0cn a0c a1x a1y a1k && acH a0r a0w a0h a0cn a0c a1x a1y a1k==acH a0r a0w a0h a0cn a0c a1x a1y a1k))=false→
 ((!acG a0r a0w a0h a0cn a0c a1x a1y a1k==acG a0r a0w a0h a0cn a0c a1x a1y a1k)=true→K (V.lit false))∧((!acG a0r a0w a0h a0cn a0c a1x a1y a1k==acG a0r a0w a0h a0cn a0c a1x a1y a1k)=false→
 At (List.length (ramp (1:Int) ((3:Nat) * acN a0r a0w a0h a0cn a0c a1x a1y a1k))=(3:Nat) * acN a0r a0w a0h a0cn a0c a1x a1y a1k∧acN a0r a0w a0h a0cn a0c a1x a1y a1k≤(2000000:Nat)∧(0:Int)≤(1:Int)∧(1:Int)≤(1000:Int))∧
 (decide ((bif ramp (1:Int) ((3:Nat) * acN a0r a0w a0h a0cn a0c a1x a1y a1k)==ramp (1:Int) ((3:Nat) * acN a0r a0w a0h a0cn a0c a1x a1y a1k) then (1:Int) + (↑((3:Nat) * acN a0r a0w a0h a0cn a0c a1x a1y a1k):Int) else (-1:Int)) < (0:Int))=true→
 K (V.lit false))∧
 (decide ((bif ramp (1:Int) ((3:Nat) * acN a0r a0w a0h a0cn a0c a1x a1y a1k)==ramp (1:Int) ((3:Nat) * acN a0r a0w a0h a0cn a0c a1x a1y a1k) then (1:Int) + (↑((3:Nat) * acN a0r a0w a0h a0cn a0c a1x a1y a1k):Int) else (-1:Int)) < (0:Int))=false→
 (((bif ramp (1:Int) ((3:Nat) * acN a0r a0w a0h a0cn a0c a1x a1y a1k)==ramp (1:Int) ((3:Nat) * acN a0r a0w a0h a0cn a0c a1x a1y a1k) then (1:Int) + (↑((3:Nat) * acN a0r a0w a0h a0cn a0c a1x a1y a1k):Int) else (-1:Int)) != (1:Int) + (↑((3:Nat) * acN a0r a0w a0h a0cn a0c a1x a1y a1k):Int))=true→
 K (V.lit false))∧
 (((bif ramp (1:Int) ((3:Nat) * acN a0r a0w a0h a0cn a0c a1x a1y a1k)==ramp (1:Int) ((3:Nat) * acN a0r a0w a0h a0cn a0c a1x a1y a1k) then (1:Int) + (↑((3:Nat) * acN a0r a0w a0h a0cn a0c a1x a1y a1k):Int) else (-1:Int)) != (1:Int) + (↑((3:Nat) * acN a0r a0w a0h a0cn a0c a1x a1y a1k):Int))=false→
 K (V.lit true))))))∧True)∧True)∧((At (List.length a0c=a0cn * (3:Nat)∧a0cn≤(2000000:Nat))∧(At (List.length (acB a0r a0w a0h a0cn a0c a1x a1y a1k)=(3:Nat) * acN a0r a0w a0h a0cn a0c a1x a1y a1k∧
 List.length (acB a0r a0w a0h a0cn a0c a1x a1y a1k)=(3:Nat) * acN a0r a0w a0h a0cn a0c a1x a1y a1k∧acN a0r a0w a0h a0cn a0c a1x a1y a1k≤(2000000:Nat)∧acN a0r a0w a0h a0cn a0c a1x a1y a1k≤(2000000:Nat))∧
 ((!(acR a0r a0w a0h a0cn a0c a1x a1y a1k==acR a0r a0w a0h a0cn a0c a1x a1y a1k && acB a0r a0w a0h a0cn a0c a1x a1y a1k==acB a0r a0w a0h a0cn a0c a1x a1y a1k && acW a0r a0w a0h a0cn a0c a1x a1y a1k==acW a0r a0w a0h a0cn a0c a1x a1y a1k && acH a0r a0w a0h a0cn a0c a1x a1y a1k==acH a0r a0w a0h a0cn a0c a1x a1y a1k))=true→
 K (V.lit false))∧
 ((!(acR a0r a0w a0h a0cn a0c a1x a1y a1k==acR a0r a0w a0h a0cn a0c a1x a1y a1k && acB a0r a0w a0h a0cn a0c a1x a1y a1k==acB a0r a0w a0h a0cn a0c a1x a1y a1k && acW a0r a0w a0h a0cn a0c a1x a1y a1k==acW a0r a0w a0h a0cn a0c a1x a1y a1k && acH a0r a0w a0h a0cn a0c a1x a1y a1k==acH a0r a0w a0h a0cn a0c a1x a1y a1k))=false→
 ((!acG a0r a0w a0h a0cn a0c a1x a1y a1k==acG a0r a0w a0h a0cn a0c a1x a1y a1k)=true→K (V.lit false))∧((!acG a0r a0w a0h a0cn a0c a1x a1y a1k==acG a0r a0w a0h a0cn a0c a1x a1y a1k)=false→
 At (List.length (ramp (1:Int) ((3:Nat) * acN a0r a0w a0h a0cn a0c a1x a1y a1k))=(3:Nat) * acN a0r a0w a0h a0cn a0c a1x a1y a1k∧acN a0r a0w a0h a0cn a0c a1x a1y a1k≤(2000000:Nat)∧(0:Int)≤(1:Int)∧(1:Int)≤(1000:Int))∧
 (decide ((bif ramp (1:Int) ((3:Nat) * acN a0r a0w a0h a0cn a0c a1x a1y a1k)==ramp (1:Int) ((3:Nat) * acN a0r a0w a0h a0cn a0c a1x a1y a1k) then (1:Int) + (↑((3:Nat) * acN a0r a0w a0h a0cn a0c a1x a1y a1k):Int) else (-1:Int)) < (0:Int))=true→
 K (V.lit false))∧
 (decide ((bif ramp (1:Int) ((3:Nat) * acN a0r a0w a0h a0cn a0c a1x a1y a1k)==ramp (1:Int) ((3:Nat) * acN a0r a0w a0h a0cn a0c a1x a1y a1k) then (1:Int) + (↑((3:Nat) * acN a0r a0w a0h a0cn a0c a1x a1y a1k):Int) else (-1:Int)) < (0:Int))=false→
 (((bif ramp (1:Int) ((3:Nat) * acN a0r a0w a0h a0cn a0c a1x a1y a1k)==ramp (1:Int) ((3:Nat) * acN a0r a0w a0h a0cn a0c a1x a1y a1k) then (1:Int) + (↑((3:Nat) * acN a0r a0w a0h a0cn a0c a1x a1y a1k):Int) else (-1:Int)) != (1:Int) + (↑((3:Nat) * acN a0r a0w a0h a0cn a0c a1x a1y a1k):Int))=true→
 K (V.lit false))∧
 (((bif ramp (1:Int) ((3:Nat) * acN a0r a0w a0h a0cn a0c a1x a1y a1k)==ramp (1:Int) ((3:Nat) * acN a0r a0w a0h a0cn a0c a1x a1y a1k) then (1:Int) + (↑((3:Nat) * acN a0r a0w a0h a0cn a0c a1x a1y a1k):Int) else (-1:Int)) != (1:Int) + (↑((3:Nat) * acN a0r a0w a0h a0cn a0c a1x a1y a1k):Int))=false→
 K (V.lit true))))))∧True)∧True)∧True)∧((At True∧(At (List.length a0c=a0cn * (3:Nat)∧a0cn≤(2000000:Nat))∧(At (List.length (acB a0r a0w a0h a0cn a0c a1x a1y a1k)=(3:Nat) * acN a0r a0w a0h a0cn a0c a1x a1y a1k∧
 List.length (acB a0r a0w a0h a0cn a0c a1x a1y a1k)=(3:Nat) * acN a0r a0w a0h a0cn a0c a1x a1y a1k∧acN a0r a0w a0h a0cn a0c a1x a1y a1k≤(2000000:Nat)∧acN a0r a0w a0h a0cn a0c a1x a1y a1k≤(2000000:Nat))∧
 ((!(acR a0r a0w a0h a0cn a0c a1x a1y a1k==acR a0r a0w a0h a0cn a0c a1x a1y a1k && acB a0r a0w a0h a0cn a0c a1x a1y a1k==acB a0r a0w a0h a0cn a0c a1x a1y a1k && acW a0r a0w a0h a0cn a0c a1x a1y a1k==acW a0r a0w a0h a0cn a0c a1x a1y a1k && acH a0r a0w a0h a0cn a0c a1x a1y a1k==acH a0r a0w a0h a0cn a0c a1x a1y a1k))=true→
 K (V.lit false))∧
 ((!(acR a0r a0w a0h a0cn a0c a1x a1y a1k==acR a0r a0w a0h a0cn a0c a1x a1y a1k && acB a0r a0w a0h a0cn a0c a1x a1y a1k==acB a0r a0w a0h a0cn a0c a1x a1y a1k && acW a0r a0w a0h a0cn a0c a1x a1y a1k==acW a0r a0w a0h a0cn a0c a1x a1y a1k && acH a0r a0w a0h a0cn a0c a1x a1y a1k==acH a0r a0w a0h a0cn a0c a1x a1y a1k))=false→
 ((!acG a0r a0w a0h a0cn a0c a1x a1y a1k==acG a0r a0w a0h a0cn a0c a1x a1y a1k)=true→K (V.lit false))∧((!acG a0r a0w a0h a0cn a0c a1x a1y a1k==acG a0r a0w a0h a0cn a0c a1x a1y a1k)=false→
 At (List.length (ramp (1:Int) ((3:Nat) * acN a0r a0w a0h a0cn a0c a1x a1y a1k))=(3:Nat) * acN a0r a0w a0h a0cn a0c a1x a1y a1k∧acN a0r a0w a0h a0cn a0c a1x a1y a1k≤(2000000:Nat)∧(0:Int)≤(1:Int)∧(1:Int)≤(1000:Int))∧
 (decide ((bif ramp (1:Int) ((3:Nat) * acN a0r a0w a0h a0cn a0c a1x a1y a1k)==ramp (1:Int) ((3:Nat) * acN a0r a0w a0h a0cn a0c a1x a1y a1k) then (1:Int) + (↑((3:Nat) * acN a0r a0w a0h a0cn a0c a1x a1y a1k):Int) else (-1:Int)) < (0:Int))=true→
 K (V.lit false))∧
 (decide ((bif ramp (1:Int) ((3:Nat) * acN a0r a0w a0h a0cn a0c a1x a1y a1k)==ramp (1:Int) ((3:Nat) * acN a0r a0w a0h a0cn a0c a1x a1y a1k) then (1:Int) + (↑((3:Nat) * acN a0r a0w a0h a0cn a0c a1x a1y a1k):Int) else (-1:Int)) < (0:Int))=false→
 (((bif ramp (1:Int) ((3:Nat) * acN a0r a0w a0h a0cn a0c a1x a1y a1k)==ramp (1:Int) ((3:Nat) * acN a0r a0w a0h a0cn a0c a1x a1y a1k) then (1:Int) + (↑((3:Nat) * acN a0r a0w a0h a0cn a0c a1x a1y a1k):Int) else (-1:Int)) != (1:Int) + (↑((3:Nat) * acN a0r a0w a0h a0cn a0c a1x a1y a1k):Int))=true→
 K (V.lit false))∧
 (((bif ramp (1:Int) ((3:Nat) * acN a0r a0w a0h a0cn a0c a1x a1y a1k)==ramp (1:Int) ((3:Nat) * acN a0r a0w a0h a0cn a0c a1x a1y a1k) then (1:Int) + (↑((3:Nat) * acN a0r a0w a0h a0cn a0c a1x a1y a1k):Int) else (-1:Int)) != (1:Int) + (↑((3:Nat) * acN a0r a0w a0h a0cn a0c a1x a1y a1k):Int))=false→
 K (V.lit true))))))∧True)∧True)∧True)∧True)∧(((At True∧(At (List.length a0c=a0cn * (3:Nat)∧a0cn≤(2000000:Nat))∧(At (List.length (acB a0r a0w a0h a0cn a0c a1x a1y a1k)=(3:Nat) * acN a0r a0w a0h a0cn a0c a1x a1y a1k∧
 List.length (acB a0r a0w a0h a0cn a0c a1x a1y a1k)=(3:Nat) * acN a0r a0w a0h a0cn a0c a1x a1y a1k∧acN a0r a0w a0h a0cn a0c a1x a1y a1k≤(2000000:Nat)∧acN a0r a0w a0h a0cn a0c a1x a1y a1k≤(2000000:Nat))∧
 ((!(acR a0r a0w a0h a0cn a0c a1x a1y a1k==acR a0r a0w a0h a0cn a0c a1x a1y a1k && acB a0r a0w a0h a0cn a0c a1x a1y a1k==acB a0r a0w a0h a0cn a0c a1x a1y a1k && acW a0r a0w a0h a0cn a0c a1x a1y a1k==acW a0r a0w a0h a0cn a0c a1x a1y a1k && acH a0r a0w a0h a0cn a0c a1x a1y a1k==acH a0r a0w a0h a0cn a0c a1x a1y a1k))=true→
 K (V.lit false))∧
 ((!(acR a0r a0w a0h a0cn a0c a1x a1y a1k==acR a0r a0w a0h a0cn a0c a1x a1y a1k && acB a0r a0w a0h a0cn a0c a1x a1y a1k==acB a0r a0w a0h a0cn a0c a1x a1y a1k && acW a0r a0w a0h a0cn a0c a1x a1y a1k==acW a0r a0w a0h a0cn a0c a1x a1y a1k && acH a0r a0w a0h a0cn a0c a1x a1y a1k==acH a0r a0w a0h a0cn a0c a1x a1y a1k))=false→
 ((!acG a0r a0w a0h a0cn a0c a1x a1y a1k==acG a0r a0w a0h a0cn a0c a1x a1y a1k)=true→K (V.lit false))∧((!acG a0r a0w a0h a0cn a0c a1x a1y a1k==acG a0r a0w a0h a0cn a0c a1x a1y a1k)=false→
 At (List.length (ramp (1:Int) ((3:Nat) * acN a0r a0w a0h a0cn a0c a1x a1y a1k))=(3:Nat) * acN a0r a0w a0h a0cn a0c a1x a1y a1k∧acN a0r a0w a0h a0cn a0c a1x a1y a1k≤(2000000:Nat)∧(0:Int)≤(1:Int)∧(1:Int)≤(1000:Int))∧
 (decide ((bif ramp (1:Int) ((3:Nat) * acN a0r a0w a0h a0cn a0c a1x a1y a1k)==ramp (1:Int) ((3:Nat) * acN a0r a0w a0h a0cn a0c a1x a1y a1k) then (1:Int) + (↑((3:Nat) * acN a0r a0w a0h a0cn a0c a1x a1y a1k):Int) else (-1:Int)) < (0:Int))=true→
 K (V.lit false))∧
 (decide ((bif ramp (1:Int) ((3:Nat) * acN a0r a0w a0h a0cn a0c a1x a1y a1k)==ramp (1:Int) ((3:Nat) * acN a0r a0w a0h a0cn a0c a1x a1y a1k) then (1:Int) + (↑((3:Nat) * acN a0r a0w a0h a0cn a0c a1x a1y a1k):Int) else (-1:Int)) < (0:Int))=false→
 (((bif ramp (1:Int) ((3:Nat) * acN a0r a0w a0h a0cn a0c a1x a1y a1k)==ramp (1:Int) ((3:Nat) * acN a0r a0w a0h a0cn a0c a1x a1y a1k) then (1:Int) + (↑((3:Nat) * acN a0r a0w a0h a0cn a0c a1x a1y a1k):Int) else (-1:Int)) != (1:Int) + (↑((3:Nat) * acN a0r a0w a0h a0cn a0c a1x a1y a1k):Int))=true→
 K (V.lit false))∧
 (((bif ramp (1:Int) ((3:Nat) * acN a0r a0w a0h a0cn a0c a1x a1y a1k)==ramp (1:Int) ((3:Nat) * acN a0r a0w a0h a0cn a0c a1x a1y a1k) then (1:Int) + (↑((3:Nat) * acN a0r a0w a0h a0cn a0c a1x a1y a1k):Int) else (-1:Int)) != (1:Int) + (↑((3:Nat) * acN a0r a0w a0h a0cn a0c a1x a1y a1k):Int))=false→
 K (V.lit true))))))∧True)∧True)∧True)∧True)∧True)∧((At (List.length a0c=a0cn * (3:Nat)∧a0cn≤(2000000:Nat))∧(At True∧(At (List.length a0c=a0cn * (3:Nat)∧a0cn≤(2000000:Nat))∧
 ((At (List.length (acB a0r a0w a0h a0cn a0c a1x a1y a1k)=(3:Nat) * acN a0r a0w a0h a0cn a0c a1x a1y a1k∧List.length (acB a0r a0w a0h a0cn a0c a1x a1y a1k)=(3:Nat) * acN a0r a0w a0h a0cn a0c a1x a1y a1k∧
 acN a0r a0w a0h a0cn a0c a1x a1y a1k≤(2000000:Nat)∧acN a0r a0w a0h a0cn a0c a1x a1y a1k≤(2000000:Nat))∧
 ((!(acR a0r a0w a0h a0cn a0c a1x a1y a1k==acR a0r a0w a0h a0cn a0c a1x a1y a1k && acB a0r a0w a0h a0cn a0c a1x a1y a1k==acB a0r a0w a0h a0cn a0c a1x a1y a1k && acW a0r a0w a0h a0cn a0c a1x a1y a1k==acW a0r a0w a0h a0cn a0c a1x a1y a1k && acH a0r a0w a0h a0cn a0c a1x a1y a1k==acH a0r a0w a0h a0cn a0c a1x a1y a1k))=true→
 K (V.lit false))∧
 ((!(acR a0r a0w a0h a0cn a0c a1x a1y a1k==acR a0r a0w a0h a0cn a0c a1x a1y a1k && acB a0r a0w a0h a0cn a0c a1x a1y a1k==acB a0r a0w a0h a0cn a0c a1x a1y a1k && acW a0r a0w a0h a0cn a0c a1x a1y a1k==acW a0r a0w a0h a0cn a0c a1x a1y a1k && acH a0r a0w a0h a0cn a0c a1x a1y a1k==acH a0r a0w a0h a0cn a0c a1x a1y a1k))=false→
 ((!acG a0r a0w a0h a0cn a0c a1x a1y a1k==acG a0r a0w a0h a0cn a0c a1x a1y a1k)=true→K (V.lit false))∧((!acG a0r a0w a0h a0cn a0c a1x a1y a1k==acG a0r a0w a0h a0cn a0c a1x a1y a1k)=false→
 At (List.length (ramp (1:Int) ((3:Nat) * acN a0r a0w a0h a0cn a0c a1x a1y a1k))=(3:Nat) * acN a0r a0w a0h a0cn a0c a1x a1y a1k∧acN a0r a0w a0h a0cn a0c a1x a1y a1k≤(2000000:Nat)∧(0:Int)≤(1:Int)∧(1:Int)≤(1000:Int))∧
 (decide ((bif ramp (1:Int) ((3:Nat) * acN a0r a0w a0h a0cn a0c a1x a1y a1k)==ramp (1:Int) ((3:Nat) * acN a0r a0w a0h a0cn a0c a1x a1y a1k) then (1:Int) + (↑((3:Nat) * acN a0r a0w a0h a0cn a0c a1x a1y a1k):Int) else (-1:Int)) < (0:Int))=true→
 K (V.lit false))∧
 (decide ((bif ramp (1:Int) ((3:Nat) * acN a0r a0w a0h a0cn a0c a1x a1y a1k)==ramp (1:Int) ((3:Nat) * acN a0r a0w a0h a0cn a0c a1x a1y a1k) then (1:Int) + (↑((3:Nat) * acN a0r a0w a0h a0cn a0c a1x a1y a1k):Int) else (-1:Int)) < (0:Int))=false→
 (((bif ramp (1:Int) ((3:Nat) * acN a0r a0w a0h a0cn a0c a1x a1y a1k)==ramp (1:Int) ((3:Nat) * acN a0r a0w a0h a0cn a0c a1x a1y a1k) then (1:Int) + (↑((3:Nat) * acN a0r a0w a0h a0cn a0c a1x a1y a1k):Int) else (-1:Int)) != (1:Int) + (↑((3:Nat) * acN a0r a0w a0h a0cn a0c a1x a1y a1k):Int))=true→
 K (V.lit false))∧
 (((bif ramp (1:Int) ((3:Nat) * acN a0r a0w a0h a0cn a0c a1x a1y a1k)==ramp (1:Int) ((3:Nat) * acN a0r a0w a0h a0cn a0c a1x a1y a1k) then (1:Int) + (↑((3:Nat) * acN a0r a0w a0h a0cn a0c a1x a1y a1k):Int) else (-1:Int)) != (1:Int) + (↑((3:Nat) * acN a0r a0w a0h a0cn a0c a1x a1y a1k):Int))=false→
 K (V.lit true))))))∧True)∧True)∧((At (List.length a0c=a0cn * (3:Nat)∧a0cn≤(2000000:Nat))∧(At (List.length (acB a0r a0w a0h a0cn a0c a1x a1y a1k)=(3:Nat) * acN a0r a0w a0h a0cn a0c a1x a1y a1k∧
 List.length (acB a0r a0w a0h a0cn a0c a1x a1y a1k)=(3:Nat) * acN a0r a0w a0h a0cn a0c a1x a1y a1k∧acN a0r a0w a0h a0cn a0c a1x a1y a1k≤(2000000:Nat)∧acN a0r a0w a0h a0cn a0c a1x a1y a1k≤(2000000:Nat))∧
 ((!(acR a0r a0w a0h a0cn a0c a1x a1y a1k==acR a0r a0w a0h a0cn a0c a1x a1y a1k && acB a0r a0w a0h a0cn a0c a1x a1y a1k==acB a0r a0w a0h a0cn a0c a1x a1y a1k && acW a0r a0w a0h a0cn a0c a1x a1y a1k==acW a0r a0w a0h a0cn a0c a1x a1y a1k && acH a0r a0w a0h a0cn a0c a1x a1y a1k==acH a0r a0w a0h a0cn a0c a1x a1y a1k))=true→
 K (V.lit false))∧
 ((!(acR a0r a0w a0h a0cn a0c a1x a1y a1k==acR a0r a0w a0h a0cn a0c a1x a1y a1k && acB a0r a0w a0h a0cn a0c a1x a1y a1k==acB a0r a0w a0h a0cn a0c a1x a1y a1k && acW a0r a0w a0h a0cn a0c a1x a1y a1k==acW a0r a0w a0h a0cn a0c a1x a1y a1k && acH a0r a0w a0h a0cn a0c a1x a1y a1k==acH a0r a0w a0h a0cn a0c a1x a1y a1k))=false→
 ((!acG a0r a0w a0h a0cn a0c a1x a1y a1k==acG a0r a0w a0h a0cn a0c a1x a1y a1k)=true→K (V.lit false))∧((!acG a0r a0w a0h a0cn a0c a1x a1y a1k==acG a0r a0w a0h a0cn a0c a1x a1y a1k)=false→
 At (List.length (ramp (1:Int) ((3:Nat) * acN a0r a0w a0h a0cn a0c a1x a1y a1k))=(3:Nat) * acN a0r a0w a0h a0cn a0c a1x a1y a1k∧acN a0r a0w a0h a0cn a0c a1x a1y a1k≤(2000000:Nat)∧(0:Int)≤(1:Int)∧(1:Int)≤(1000:Int))∧
 (decide ((bif ramp (1:Int) ((3:Nat) * acN a0r a0w a0h a0cn a0c a1x a1y a1k)==ramp (1:Int) ((3:Nat) * acN a0r a0w a0h a0cn a0c a1x a1y a1k) then (1:Int) + (↑((3:Nat) * acN a0r a0w a0h a0cn a0c a1x a1y a1k):Int) else (-1:Int)) < (0:Int))=true→
 K (V.lit false))∧
 (decide ((bif ramp (1:Int) ((3:Nat) * acN a0r a0w a0h a0cn a0c a1x a1y a1k)==ramp (1:Int) ((3:Nat) * acN a0r a0w a0h a0cn a0c a1x a1y a1k) then (1:Int) + (↑((3:Nat) * acN a0r a0w a0h a0cn a0c a1x a1y a1k):Int) else (-1:Int)) < (0:Int))=false→
 (((bif ramp (1:Int) ((3:Nat) * acN a0r a0w a0h a0cn a0c a1x a1y a1k)==ramp (1:Int) ((3:Nat) * acN a0r a0w a0h a0cn a0c a1x a1y a1k) then (1:Int) + (↑((3:Nat) * acN a0r a0w a0h a0cn a0c a1x a1y a1k):Int) else (-1:Int)) != (1:Int) + (↑((3:Nat) * acN a0r a0w a0h a0cn a0c a1x a1y a1k):Int))=true→
 K (V.lit false))∧
 (((bif ramp (1:Int) ((3:Nat) * acN a0r a0w a0h a0cn a0c a1x a1y a1k)==ramp (1:Int) ((3:Nat) * acN a0r a0w a0h a0cn a0c a1x a1y a1k) then (1:Int) + (↑((3:Nat) * acN a0r a0w a0h a0cn a0c a1x a1y a1k):Int) else (-1:Int)) != (1:Int) + (↑((3:Nat) * acN a0r a0w a0h a0cn a0c a1x a1y a1k):Int))=false→
 K (V.lit true))))))∧True)∧True)∧True)∧((At True∧(At (List.length a0c=a0cn * (3:Nat)∧a0cn≤(2000000:Nat))∧(At (List.length (acB a0r a0w a0h a0cn a0c a1x a1y a1k)=(3:Nat) * acN a0r a0w a0h a0cn a0c a1x a1y a1k∧
 List.length (acB a0r a0w a0h a0cn a0c a1x a1y a1k)=(3:Nat) * acN a0r a0w a0h a0cn a0c a1x a1y a1k∧acN a0r a0w a0h a0cn a0c a1x a1y a1k≤(2000000:Nat)∧acN a0r a0w a0h a0cn a0c a1x a1y a1k≤(2000000:Nat))∧
 ((!(acR a0r a0w a0h a0cn a0c a1x a1y a1k==acR a0r a0w a0h a0cn a0c a1x a1y a1k && acB a0r a0w a0h a0cn a0c a1x a1y a1k==acB a0r a0w a0h a0cn a0c a1x a1y a1k && acW a0r a0w a0h a0cn a0c a1x a1y a1k==acW a0r a0w a0h a0cn a0c a1x a1y a1k && acH a0r a0w a0h a0cn a0c a1x a1y a1k==acH a0r a0w a0h a0cn a0c a1x a1y a1k))=true→
 K (V.lit false))∧
 ((!(acR a0r a0w a0h a0cn a0c a1x a1y a1k==acR a0r a0w a0h a0cn a0c a1x a1y a1k && acB a0r a0w a0h a0cn a0c a1x a1y a1k==acB a0r a0w a0h a0cn a0c a1x a1y a1k && acW a0r a0w a0h a0cn a0c a1x a1y a1k==acW a0r a0w a0h a0cn a0c a1x a1y a1k && acH a0r a0w a0h a0cn a0c a1x a1y a1k==acH a0r a0w a0h a0cn a0c a1x a1y a1k))=false→
 ((!acG a0r a0w a0h a0cn a0c a1x a1y a1k==acG a0r a0w a0h a0cn a0c a1x a1y a1k)=true→K (V.lit false))∧((!acG a0r a0w a0h a0cn a0c a1x a1y a1k==acG a0r a0w a0h a0cn a0c a1x a1y a1k)=false→
 At (List.length (ramp (1:Int) ((3:Nat) * acN a0r a0w a0h a0cn a0c a1x a1y a1k))=(3:Nat) * acN a0r a0w a0h a0cn a0c a1x a1y a1k∧acN a0r a0w a0h a0cn a0c a1x a1y a1k≤(2000000:Nat)∧(0:Int)≤(1:Int)∧(1:Int)≤(1000:Int))∧
 (decide ((bif ramp (1:Int) ((3:Nat) * acN a0r a0w a0h a0cn a0c a1x a1y a1k)==ramp (1:Int) ((3:Nat) * acN a0r a0w a0h a0cn a0c a1x a1y a1k) then (1:Int) + (↑((3:Nat) * acN a0r a0w a0h a0cn a0c a1x a1y a1k):Int) else (-1:Int)) < (0:Int))=true→
 K (V.lit false))∧
 (decide ((bif ramp (1:Int) ((3:Nat) * acN a0r a0w a0h a0cn a0c a1x a1y a1k)==ramp (1:Int) ((3:Nat) * acN a0r a0w a0h a0cn a0c a1x a1y a1k) then (1:Int) + (↑((3:Nat) * acN a0r a0w a0h a0cn a0c a1x a1y a1k):Int) else (-1:Int)) < (0:Int))=false→
 (((bif ramp (1:Int) ((3:Nat) * acN a0r a0w a0h a0cn a0c a1x a1y a1k)==ramp (1:Int) ((3:Nat) * acN a0r a0w a0h a0cn a0c a1x a1y a1k) then (1:Int) + (↑((3:Nat) * acN a0r a0w a0h a0cn a0c a1x a1y a1k):Int) else (-1:Int)) != (1:Int) + (↑((3:Nat) * acN a0r a0w a0h a0cn a0c a1x a1y a1k):Int))=true→
 K (V.lit false))∧
 (((bif ramp (1:Int) ((3:Nat) * acN a0r a0w a0h a0cn a0c a1x a1y a1k)==ramp (1:Int) ((3:Nat) * acN a0r a0w a0h a0cn a0c a1x a1y a1k) then (1:Int) + (↑((3:Nat) * acN a0r a0w a0h a0cn a0c a1x a1y a1k):Int) else (-1:Int)) != (1:Int) + (↑((3:Nat) * acN a0r a0w a0h a0cn a0c a1x a1y a1k):Int))=false→
 K (V.lit true))))))∧True)∧True)∧True)∧True)∧((At (List.length a0c=a0cn * (3:Nat)∧a0cn≤(2000000:Nat))∧(At True∧(At (List.length a0c=a0cn * (3:Nat)∧a0cn≤(2000000:Nat))∧
 (At (List.length (acB a0r a0w a0h a0cn a0c a1x a1y a1k)=(3:Nat) * acN a0r a0w a0h a0cn a0c a1x a1y a1k∧List.length (acB a0r a0w a0h a0cn a0c a1x a1y a1k)=(3:Nat) * acN a0r a0w a0h a0cn a0c a1x a1y a1k∧
 acN a0r a0w a0h a0cn a0c a1x a1y a1k≤(2000000:Nat)∧acN a0r a0w a0h a0cn a0c a1x a1y a1k≤(2000000:Nat))∧
 ((!(acR a0r a0w a0h a0cn a0c a1x a1y a1k==acR a0r a0w a0h a0cn a0c a1x a1y a1k && acB a0r a0w a0h a0cn a0c a1x a1y a1k==acB a0r a0w a0h a0cn a0c a1x a1y a1k && acW a0r a0w a0h a0cn a0c a1x a1y a1k==acW a0r a0w a0h a0cn a0c a1x a1y a1k && acH a0r a0w a0h a0cn a0c a1x a1y a1k==acH a0r a0w a0h a0cn a0c a1x a1y a1k))=true→
 K (V.lit false))∧
 ((!(acR a0r a0w a0h a0cn a0c a1x a1y a1k==acR a0r a0w a0h a0cn a0c a1x a1y a1k && acB a0r a0w a0h a0cn a0c a1x a1y a1k==acB a0r a0w a0h a0cn a0c a1x a1y a1k && acW a0r a0w a0h a0cn a0c a1x a1y a1k==acW a0r a0w a0h a0cn a0c a1x a1y a1k && acH a0r a0w a0h a0cn a0c a1x a1y a1k==acH a0r a0w a0h a0cn a0c a1x a1y a1k))=false→
 ((!acG a0r a0w a0h a0cn a0c a1x a1y a1k==acG a0r a0w a0h a0cn a0c a1x a1y a1k)=true→K (V.lit false))∧((!acG a0r a0w a0h a0cn a0c a1x a1y a1k==acG a0r a0w a0h a0cn a0c a1x a1y a1k)=false→
 At (List.length (ramp (1:Int) ((3:Nat) * acN a0r a0w a0h a0cn a0c a1x a1y a1k))=(3:Nat) * acN a0r a0w a0h a0cn a0c a1x a1y a1k∧acN a0r a0w a0h a0cn a0c a1x a1y a1k≤(2000000:Nat)∧(0:Int)≤(1:Int)∧(1:Int)≤(1000:Int))∧
 (decide ((bif ramp (1:Int) ((3:Nat) * acN a0r a0w a0h a0cn a0c a1x a1y a1k)==ramp (1:Int) ((3:Nat) * acN a0r a0w a0h a0cn a0c a1x a1y a1k) then (1:Int) + (↑((3:Nat) * acN a0r a0w a0h a0cn a0c a1x a1y a1k):Int) else (-1:Int)) < (0:Int))=true→
 K (V.lit false))∧
 (decide ((bif ramp (1:Int) ((3:Nat) * acN a0r a0w a0h a0cn a0c a1x a1y a1k)==ramp (1:Int) ((3:Nat) * acN a0r a0w a0h a0cn a0c a1x a1y a1k) then (1:Int) + (↑((3:Nat) * acN a0r a0w a0h a0cn a0c a1x a1y a1k):Int) else (-1:Int)) < (0:Int))=false→
 (((bif ramp (1:Int) ((3:Nat) * acN a0r a0w a0h a0cn a0c a1x a1y a1k)==ramp (1:Int) ((3:Nat) * acN a0r a0w a0h a0cn a0c a1x a1y a1k) then (1:Int) + (↑((3:Nat) * acN a0r a0w a0h a0cn a0c a1x a1y a1k):Int) else (-1:Int)) != (1:Int) + (↑((3:Nat) * acN a0r a0w a0h a0cn a0c a1x a1y a1k):Int))=true→
 K (V.lit false))∧
 (((bif ramp (1:Int) ((3:Nat) * acN a0r a0w a0h a0cn a0c a1x a1y a1k)==ramp (1:Int) ((3:Nat) * acN a0r a0w a0h a0cn a0c a1x a1y a1k) then (1:Int) + (↑((3:Nat) * acN a0r a0w a0h a0cn a0c a1x a1y a1k):Int) else (-1:Int)) != (1:Int) + (↑((3:Nat) * acN a0r a0w a0h a0cn a0c a1x a1y a1k):Int))=false→
 K (V.lit true))))))∧True)∧True)∧True)∧True)∧True)∧((At (List.length a0c=a0cn * (3:Nat)∧a0cn≤(2000000:Nat))∧((At True∧(At (List.length a0c=a0cn * (3:Nat)∧a0cn≤(2000000:Nat))∧
 (At (List.length (acB a0r a0w a0h a0cn a0c a1x a1y a1k)=(3:Nat) * acN a0r a0w a0h a0cn a0c a1x a1y a1k∧List.length (acB a0r a0w a0h a0cn a0c a1x a1y a1k)=(3:Nat) * acN a0r a0w a0h a0cn a0c a1x a1y a1k∧
 acN a0r a0w a0h a0cn a0c a1x a1y a1k≤(2000000:Nat)∧acN a0r a0w a0h a0cn a0c a1x a1y a1k≤(2000000:Nat))∧
 ((!(acR a0r a0w a0h a0cn a0c a1x a1y a1k==acR a0r a0w a0h a0cn a0c a1x a1y a1k && acB a0r a0w a0h a0cn a0c a1x a1y a1k==acB a0r a0w a0h a0cn a0c a1x a1y a1k && acW a0r a0w a0h a0cn a0c a1x a1y a1k==acW a0r a0w a0h a0cn a0c a1x a1y a1k && acH a0r a0w a0h a0cn a0c a1x a1y a1k==acH a0r a0w a0h a0cn a0c a1x a1y a1k))=true→
 K (V.lit false))∧
 ((!(acR a0r a0w a0h a0cn a0c a1x a1y a1k==acR a0r a0w a0h a0cn a0c a1x a1y a1k && acB a0r a0w a0h a0cn a0c a1x a1y a1k==acB a0r a0w a0h a0cn a0c a1x a1y a1k && acW a0r a0w a0h a0cn a0c a1x a1y a1k==acW a0r a0w a0h a0cn a0c a1x a1y a1k && acH a0r a0w a0h a0cn a0c a1x a1y a1k==acH a0r a0w a0h a0cn a0c a1x a1y a1k))=false→
 ((!acG a0r a0w a0h a0cn a0c a1x a1y a1k==acG a0r a0w a0h a0cn a0c a1x a1y a1k)=true→K (V.lit false))∧((!acG a0r a0w a0h a0cn a0c a1x a1y a1k==acG a0r a0w a0h a0cn a0c a1x a1y a1k)=false→
 At (List.length (ramp (1:Int) ((3:Nat) * acN a0r a0w a0h a0cn a0c a1x a1y a1k))=(3:Nat) * acN a0r a0w a0h a0cn a0c a1x a1y a1k∧acN a0r a0w a0h a0cn a0c a1x a1y a1k≤(2000000:Nat)∧(0:Int)≤(1:Int)∧(1:Int)≤(1000:Int))∧
 (decide ((bif ramp (1:Int) ((3:Nat) * acN a0r a0w a0h a0cn a0c a1x a1y a1k)==ramp (1:Int) ((3:Nat) * acN a0r a0w a0h a0cn a0c a1x a1y a1k) then (1:Int) + (↑((3:Nat) * acN a0r a0w a0h a0cn a0c a1x a1y a1k):Int) else (-1:Int)) < (0:Int))=true→
 K (V.lit false))∧
 (decide ((bif ramp (1:Int) ((3:Nat) * acN a0r a0w a0h a0cn a0c a1x a1y a1k)==ramp (1:Int) ((3:Nat) * acN a0r a0w a0h a0cn a0c a1x a1y a1k) then (1:Int) + (↑((3:Nat) * acN a0r a0w a0h a0cn a0c a1x a1y a1k):Int) else (-1:Int)) < (0:Int))=false→
 (((bif ramp (1:Int) ((3:Nat) * acN a0r a0w a0h a0cn a0c a1x a1y a1k)==ramp (1:Int) ((3:Nat) * acN a0r a0w a0h a0cn a0c a1x a1y a1k) then (1:Int) + (↑((3:Nat) * acN a0r a0w a0h a0cn a0c a1x a1y a1k):Int) else (-1:Int)) != (1:Int) + (↑((3:Nat) * acN a0r a0w a0h a0cn a0c a1x a1y a1k):Int))=true→
 K (V.lit false))∧
 (((bif ramp (1:Int) ((3:Nat) * acN a0r a0w a0h a0cn a0c a1x a1y a1k)==ramp (1:Int) ((3:Nat) * acN a0r a0w a0h a0cn a0c a1x a1y a1k) then (1:Int) + (↑((3:Nat) * acN a0r a0w a0h a0cn a0c a1x a1y a1k):Int) else (-1:Int)) != (1:Int) + (↑((3:Nat) * acN a0r a0w a0h a0cn a0c a1x a1y a1k):Int))=false→
 K (V.lit true))))))∧True)∧True)∧True)∧True)∧((At (List.length a0c=a0cn * (3:Nat)∧a0cn≤(2000000:Nat))∧(At True∧(At (List.length a0c=a0cn * (3:Nat)∧a0cn≤(2000000:Nat))∧
 (At (List.length (acB a0r a0w a0h a0cn a0c a1x a1y a1k)=(3:Nat) * acN a0r a0w a0h a0cn a0c a1x a1y a1k∧List.length (acB a0r a0w a0h a0cn a0c a1x a1y a1k)=(3:Nat) * acN a0r a0w a0h a0cn a0c a1x a1y a1k∧
 acN a0r a0w a0h a0cn a0c a1x a1y a1k≤(2000000:Nat)∧acN a0r a0w a0h a0cn a0c a1x a1y a1k≤(2000000:Nat))∧
 ((!(acR a0r a0w a0h a0cn a0c a1x a1y a1k==acR a0r a0w a0h a0cn a0c a1x a1y a1k && acB a0r a0w a0h a0cn a0c a1x a1y a1k==acB a0r a0w a0h a0cn a0c a1x a1y a1k && acW a0r a0w a0h a0cn a0c a1x a1y a1k==acW a0r a0w a0h a0cn a0c a1x a1y a1k && acH a0r a0w a0h a0cn a0c a1x a1y a1k==acH a0r a0w a0h a0cn a0c a1x a1y a1k))=true→
 K (V.lit false))∧
 ((!(acR a0r a0w a0h a0cn a0c a1x a1y a1k==acR a0r a0w a0h a0cn a0c a1x a1y a1k && acB a0r a0w a0h a0cn a0c a1x a1y a1k==acB a0r a0w a0h a0cn a0c a1x a1y a1k && acW a0r a0w a0h a0cn a0c a1x a1y a1k==acW a0r a0w a0h a0cn a0c a1x a1y a1k && acH a0r a0w a0h a0cn a0c a1x a1y a1k==acH a0r a0w a0h a0cn a0c a1x a1y a1k))=false→
 ((!acG a0r a0w a0h a0cn a0c a1x a1y a1k==acG a0r a0w a0h a0cn a0c a1x a1y a1k)=true→K (V.lit false))∧((!acG a0r a0w a0h a0cn a0c a1x a1y a1k==acG a0r a0w a0h a0cn a0c a1x a1y a1k)=false→
 At (List.length (ramp (1:Int) ((3:Nat) * acN a0r a0w a0h a0cn a0c a1x a1y a1k))=(3:Nat) * acN a0r a0w a0h a0cn a0c a1x a1y a1k∧acN a0r a0w a0h a0cn a0c a1x a1y a1k≤(2000000:Nat)∧(0:Int)≤(1:Int)∧(1:Int)≤(1000:Int))∧
 (decide ((bif ramp (1:Int) ((3:Nat) * acN a0r a0w a0h a0cn a0c a1x a1y a1k)==ramp (1:Int) ((3:Nat) * acN a0r a0w a0h a0cn a0c a1x a1y a1k) then (1:Int) + (↑((3:Nat) * acN a0r a0w a0h a0cn a0c a1x a1y a1k):Int) else (-1:Int)) < (0:Int))=true→
 K (V.lit false))∧
 (decide ((bif ramp (1:Int) ((3:Nat) * acN a0r a0w a0h a0cn a0c a1x a1y a1k)==ramp (1:Int) ((3:Nat) * acN a0r a0w a0h a0cn a0c a1x a1y a1k) then (1:Int) + (↑((3:Nat) * acN a0r a0w a0h a0cn a0c a1x a1y a1k):Int) else (-1:Int)) < (0:Int))=false→
 (((bif ramp (1:Int) ((3:Nat) * acN a0r a0w a0h a0cn a0c a1x a1y a1k)==ramp (1:Int) ((3:Nat) * acN a0r a0w a0h a0cn a0c a1x a1y a1k) then (1:Int) + (↑((3:Nat) * acN a0r a0w a0h a0cn a0c a1x a1y a1k):Int) else (-1:Int)) != (1:Int) + (↑((3:Nat) * acN a0r a0w a0h a0cn a0c a1x a1y a1k):Int))=true→
 K (V.lit false))∧
 (((bif ramp (1:Int) ((3:Nat) * acN a0r a0w a0h a0cn a0c a1x a1y a1k)==ramp (1:Int) ((3:Nat) * acN a0r a0w a0h a0cn a0c a1x a1y a1k) then (1:Int) + (↑((3:Nat) * acN a0r a0w a0h a0cn a0c a1x a1y a1k):Int) else (-1:Int)) != (1:Int) + (↑((3:Nat) * acN a0r a0w a0h a0cn a0c a1x a1y a1k):Int))=false→
 K (V.lit true))))))∧True)∧True)∧True)∧True)∧True)∧True)∧(((At (List.length a0c=a0cn * (3:Nat)∧a0cn≤(2000000:Nat))∧(At True∧(At (List.length a0c=a0cn * (3:Nat)∧a0cn≤(2000000:Nat))∧
 ((At (List.length (acB a0r a0w a0h a0cn a0c a1x a1y a1k)=(3:Nat) * acN a0r a0w a0h a0cn a0c a1x a1y a1k∧List.length (acB a0r a0w a0h a0cn a0c a1x a1y a1k)=(3:Nat) * acN a0r a0w a0h a0cn a0c a1x a1y a1k∧
 acN a0r a0w a0h a0cn a0c a1x a1y a1k≤(2000000:Nat)∧acN a0r a0w a0h a0cn a0c a1x a1y a1k≤(2000000:Nat))∧
 ((!(acR a0r a0w a0h a0cn a0c a1x a1y a1k==acR a0r a0w a0h a0cn a0c a1x a1y a1k && acB a0r a0w a0h a0cn a0c a1x a1y a1k==acB a0r a0w a0h a0cn a0c a1x a1y a1k && acW a0r a0w a0h a0cn a0c a1x a1y a1k==acW a0r a0w a0h a0cn a0c a1x a1y a1k && acH a0r a0w a0h a0cn a0c a1x a1y a1k==acH a0r a0w a0h a0cn a0c a1x a1y a1k))=true→
 K (V.lit false))∧
 ((!(acR a0r a0w a0h a0cn a0c a1x a1y a1k==acR a0r a0w a0h a0cn a0c a1x a1y a1k && acB a0r a0w a0h a0cn a0c a1x a1y a1k==acB a0r a0w a0h a0cn a0c a1x a1y a1k && acW a0r a0w a0h a0cn a0c a1x a1y a1k==acW a0r a0w a0h a0cn a0c a1x a1y a1k && acH a0r a0w a0h a0cn a0c a1x a1y a1k==acH a0r a0w a0h a0cn a0c a1x a1y a1k))=false→
 ((!acG a0r a0w a0h a0cn a0c a1x a1y a1k==acG a0r a0w a0h a0cn a0c a1x a1y a1k)=true→K (V.lit false))∧((!acG a0r a0w a0h a0cn a0c a1x a1y a1k==acG a0r a0w a0h a0cn a0c a1x a1y a1k)=false→
 At (List.length (ramp (1:Int) ((3:Nat) * acN a0r a0w a0h a0cn a0c a1x a1y a1k))=(3:Nat) * acN a0r a0w a0h a0cn a0c a1x a1y a1k∧acN a0r a0w a0h a0cn a0c a1x a1y a1k≤(2000000:Nat)∧(0:Int)≤(1:Int)∧(1:Int)≤(1000:Int))∧
 (decide ((bif ramp (1:Int) ((3:Nat) * acN a0r a0w a0h a0cn a0c a1x a1y a1k)==ramp (1:Int) ((3:Nat) * acN a0r a0w a0h a0cn a0c a1x a1y a1k) then (1:Int) + (↑((3:Nat) * acN a0r a0w a0h a0cn a0c a1x a1y a1k):Int) else (-1:Int)) < (0:Int))=true→
 K (V.lit false))∧
 (decide ((bif ramp (1:Int) ((3:Nat) * acN a0r a0w a0h a0cn a0c a1x a1y a1k)==ramp (1:Int) ((3:Nat) * acN a0r a0w a0h a0cn a0c a1x a1y a1k) then (1:Int) + (↑((3:Nat) * acN a0r a0w a0h a0cn a0c a1x a1y a1k):Int) else (-1:Int)) < (0:Int))=false→
 (((bif ramp (1:Int) ((3:Nat) * acN a0r a0w a0h a0cn a0c a1x a1y a1k)==ramp (1:Int) ((3:Nat) * acN a0r a0w a0h a0cn a0c a1x a1y a1k) then (1:Int) + (↑((3:Nat) * acN a0r a0w a0h a0cn a0c a1x a1y a1k):Int) else (-1:Int)) != (1:Int) + (↑((3:Nat) * acN a0r a0w a0h a0cn a0c a1x a1y a1k):Int))=true→
 K (V.lit false))∧
 (((bif ramp (1:Int) ((3:Nat) * acN a0r a0w a0h a0cn a0c a1x a1y a1k)==ramp (1:Int) ((3:Nat) * acN a0r a0w a0h a0cn a0c a1x a1y a1k) then (1:Int) + (↑((3:Nat) * acN a0r a0w a0h a0cn a0c a1x a1y a1k):Int) else (-1:Int)) != (1:Int) + (↑((3:Nat) * acN a0r a0w a0h a0cn a0c a1x a1y a1k):Int))=false→
 K (V.lit true))))))∧True)∧True)∧((At (List.length a0c=a0cn * (3:Nat)∧a0cn≤(2000000:Nat))∧(At (List.length (acB a0r a0w a0h a0cn a0c a1x a1y a1k)=(3:Nat) * acN a0r a0w a0h a0cn a0c a1x a1y a1k∧
 List.length (acB a0r a0w a0h a0cn a0c a1x a1y a1k)=(3:Nat) * acN a0r a0w a0h a0cn a0c a1x a1y a1k∧acN a0r a0w a0h a0cn a0c a1x a1y a1k≤(2000000:Nat)∧acN a0r a0w a0h a0cn a0c a1x a1y a1k≤(2000000:Nat))∧
 ((!(acR a0r a0w a0h a0cn a0c a1x a1y a1k==acR a0r a0w a0h a0cn a0c a1x a1y a1k && acB a0r a0w a0h a0cn a0c a1x a1y a1k==acB a0r a0w a0h a0cn a0c a1x a1y a1k && acW a0r a0w a0h a0cn a0c a1x a1y a1k==acW a0r a0w a0h a0cn a0c a1x a1y a1k && acH a0r a0w a0h a0cn a0c a1x a1y a1k==acH a0r a0w a0h a0cn a0c a1x a1y a1k))=true→
 K (V.lit false))∧
 ((!(acR a0r a0w a0h a0cn a0c a1x a1y a1k==acR a0r a0w a0h a0cn a0c a1x a1y a1k && acB a0r a0w a0h a0cn a0c a1x a1y a1k==acB a0r a0w a0h a0cn a0c a1x a1y a1k && acW a0r a0w a0h a0cn a0c a1x a1y a1k==acW a0r a0w a0h a0cn a0c a1x a1y a1k && acH a0r a0w a0h a0cn a0c a1x a1y a1k==acH a0r a0w a0h a0cn a0c a1x a1y a1k))=false→
 ((!acG a0r a0w a0h a0cn a0c a1x a1y a1k==acG a0r a0w a0h a0cn a0c a1x a1y a1k)=true→K (V.lit false))∧((!acG a0r a0w a0h a0cn a0c a1x a1y a1k==acG a0r a0w a0h a0cn a0c a1x a1y a1k)=false→
 At (List.length (ramp (1:Int) ((3:Nat) * acN a0r a0w a0h a0cn a0c a1x a1y a1k))=(3:Nat) * acN a0r a0w a0h a0cn a0c a1x a1y a1k∧acN a0r a0w a0h a0cn a0c a1x a1y a1k≤(2000000:Nat)∧(0:Int)≤(1:Int)∧(1:Int)≤(1000:Int))∧
 (decide ((bif ramp (1:Int) ((3:Nat) * acN a0r a0w a0h a0cn a0c a1x a1y a1k)==ramp (1:Int) ((3:Nat) * acN a0r a0w a0h a0cn a0c a1x a1y a1k) then (1:Int) + (↑((3:Nat) * acN a0r a0w a0h a0cn a0c a1x a1y a1k):Int) else (-1:Int)) < (0:Int))=true→
 K (V.lit false))∧
 (decide ((bif ramp (1:Int) ((3:Nat) * acN a0r a0w a0h a0cn a0c a1x a1y a1k)==ramp (1:Int) ((3:Nat) * acN a0r a0w a0h a0cn a0c a1x a1y a1k) then (1:Int) + (↑((3:Nat) * acN a0r a0w a0h a0cn a0c a1x a1y a1k):Int) else (-1:Int)) < (0:Int))=false→
 (((bif ramp (1:Int) ((3:Nat) * acN a0r a0w a0h a0cn a0c a1x a1y a1k)==ramp (1:Int) ((3:Nat) * acN a0r a0w a0h a0cn a0c a1x a1y a1k) then (1:Int) + (↑((3:Nat) * acN a0r a0w a0h a0cn a0c a1x a1y a1k):Int) else (-1:Int)) != (1:Int) + (↑((3:Nat) * acN a0r a0w a0h a0cn a0c a1x a1y a1k):Int))=true→
 K (V.lit false))∧
 (((bif ramp (1:Int) ((3:Nat) * acN a0r a0w a0h a0cn a0c a1x a1y a1k)==ramp (1:Int) ((3:Nat) * acN a0r a0w a0h a0cn a0c a1x a1y a1k) then (1:Int) + (↑((3:Nat) * acN a0r a0w a0h a0cn a0c a1x a1y a1k):Int) else (-1:Int)) != (1:Int) + (↑((3:Nat) * acN a0r a0w a0h a0cn a0c a1x a1y a1k):Int))=false→
 K (V.lit true))))))∧True)∧True)∧True)∧((At True∧(At (List.length a0c=a0cn * (3:Nat)∧a0cn≤(2000000:Nat))∧(At (List.length (acB a0r a0w a0h a0cn a0c a1x a1y a1k)=(3:Nat) * acN a0r a0w a0h a0cn a0c a1x a1y a1k∧
 List.length (acB a0r a0w a0h a0cn a0c a1x a1y a1k)=(3:Nat) * acN a0r a0w a0h a0cn a0c a1x a1y a1k∧acN a0r a0w a0h a0cn a0c a1x a1y a1k≤(2000000:Nat)∧acN a0r a0w a0h a0cn a0c a1x a1y a1k≤(2000000:Nat))∧
 ((!(acR a0r a0w a0h a0cn a0c a1x a1y a1k==acR a0r a0w a0h a0cn a0c a1x a1y a1k && acB a0r a0w a0h a0cn a0c a1x a1y a1k==acB a0r a0w a0h a0cn a0c a1x a1y a1k && acW a0r a0w a0h a0cn a0c a1x a1y a1k==acW a0r a0w a0h a0cn a0c a1x a1y a1k && acH a0r a0w a0h a0cn a0c a1x a1y a1k==acH a0r a0w a0h a0cn a0c a1x a1y a1k))=true→
 K (V.lit false))∧
 ((!(acR a0r a0w a0h a0cn a0c a1x a1y a1k==acR a0r a0w a0h a0cn a0c a1x a1y a1k && acB a0r a0w a0h a0cn a0c a1x a1y a1k==acB a0r a0w a0h a0cn a0c a1x a1y a1k && acW a0r a0w a0h a0cn a0c a1x a1y a1k==acW a0r a0w a0h a0cn a0c a1x a1y a1k && acH a0r a0w a0h a0cn a0c a1x a1y a1k==acH a0r a0w a0h a0cn a0c a1x a1y a1k))=false→
 ((!acG a0r a0w a0h a0cn a0c a1x a1y a1k==acG a0r a0w a0h a0cn a0c a1x a1y a1k)=true→K (V.lit false))∧((!acG a0r a0w a0h a0cn a0c a1x a1y a1k==acG a0r a0w a0h a0cn a0c a1x a1y a1k)=false→
 At (List.length (ramp (1:Int) ((3:Nat) * acN a0r a0w a0h a0cn a0c a1x a1y a1k))=(3:Nat) * acN a0r a0w a0h a0cn a0c a1x a1y a1k∧acN a0r a0w a0h a0cn a0c a1x a1y a1k≤(2000000:Nat)∧(0:Int)≤(1:Int)∧(1:Int)≤(1000:Int))∧
 (decide ((bif ramp (1:Int) ((3:Nat) * acN a0r a0w a0h a0cn a0c a1x a1y a1k)==ramp (1:Int) ((3:Nat) * acN a0r a0w a0h a0cn a0c a1x a1y a1k) then (1:Int) + (↑((3:Nat) * acN a0r a0w a0h a0cn a0c a1x a1y a1k):Int) else (-1:Int)) < (0:Int))=true→
 K (V.lit false))∧
 (decide ((bif ramp (1:Int) ((3:Nat) * acN a0r a0w a0h a0cn a0c a1x a1y a1k)==ramp (1:Int) ((3:Nat) * acN a0r a0w a0h a0cn a0c a1x a1y a1k) then (1:Int) + (↑((3:Nat) * acN a0r a0w a0h a0cn a0c a1x a1y a1k):Int) else (-1:Int)) < (0:Int))=false→
 (((bif ramp (1:Int) ((3:Nat) * acN a0r a0w a0h a0cn a0c a1x a1y a1k)==ramp (1:Int) ((3:Nat) * acN a0r a0w a0h a0cn a0c a1x a1y a1k) then (1:Int) + (↑((3:Nat) * acN a0r a0w a0h a0cn a0c a1x a1y a1k):Int) else (-1:Int)) != (1:Int) + (↑((3:Nat) * acN a0r a0w a0h a0cn a0c a1x a1y a1k):Int))=true→
 K (V.lit false))∧
 (((bif ramp (1:Int) ((3:Nat) * acN a0r a0w a0h a0cn a0c a1x a1y a1k)==ramp (1:Int) ((3:Nat) * acN a0r a0w a0h a0cn a0c a1x a1y a1k) then (1:Int) + (↑((3:Nat) * acN a0r a0w a0h a0cn a0c a1x a1y a1k):Int) else (-1:Int)) != (1:Int) + (↑((3:Nat) * acN a0r a0w a0h a0cn a0c a1x a1y a1k):Int))=false→
 K (V.lit true))))))∧True)∧True)∧True)∧True)∧((At (List.length a0c=a0cn * (3:Nat)∧a0cn≤(2000000:Nat))∧(At True∧(At (List.length a0c=a0cn * (3:Nat)∧a0cn≤(2000000:Nat))∧
 (At (List.length (acB a0r a0w a0h a0cn a0c a1x a1y a1k)=(3:Nat) * acN a0r a0w a0h a0cn a0c a1x a1y a1k∧List.length (acB a0r a0w a0h a0cn a0c a1x a1y a1k)=(3:Nat) * acN a0r a0w a0h a0cn a0c a1x a1y a1k∧
 acN a0r a0w a0h a0cn a0c a1x a1y a1k≤(2000000:Nat)∧acN a0r a0w a0h a0cn a0c a1x a1y a1k≤(2000000:Nat))∧
 ((!(acR a0r a0w a0h a0cn a0c a1x a1y a1k==acR a0r a0w a0h a0cn a0c a1x a1y a1k && acB a0r a0w a0h a0cn a0c a1x a1y a1k==acB a0r a0w a0h a0cn a0c a1x a1y a1k && acW a0r a0w a0h a0cn a0c a1x a1y a1k==acW a0r a0w a0h a0cn a0c a1x a1y a1k && acH a0r a0w a0h a0cn a0c a1x a1y a1k==acH a0r a0w a0h a0cn a0c a1x a1y a1k))=true→
 K (V.lit false))∧
 ((!(acR a0r a0w a0h a0cn a0c a1x a1y a1k==acR a0r a0w a0h a0cn a0c a1x a1y a1k && acB a0r a0w a0h a0cn a0c a1x a1y a1k==acB a0r a0w a0h a0cn a0c a1x a1y a1k && acW a0r a0w a0h a0cn a0c a1x a1y a1k==acW a0r a0w a0h a0cn a0c a1x a1y a1k && acH a0r a0w a0h a0cn a0c a1x a1y a1k==acH a0r a0w a0h a0cn a0c a1x a1y a1k))=false→
 ((!acG a0r a0w a0h a0cn a0c a1x a1y a1k==acG a0r a0w a0h a0cn a0c a1x a1y a1k)=true→K (V.lit false))∧((!acG a0r a0w a0h a0cn a0c a1x a1y a1k==acG a0r a0w a0h a0cn a0c a1x a1y a1k)=false→
 At (List.length (ramp (1:Int) ((3:Nat) * acN a0r a0w a0h a0cn a0c a1x a1y a1k))=(3:Nat) * acN a0r a0w a0h a0cn a0c a1x a1y a1k∧acN a0r a0w a0h a0cn a0c a1x a1y a1k≤(2000000:Nat)∧(0:Int)≤(1:Int)∧(1:Int)≤(1000:Int))∧
 (decide ((bif ramp (1:Int) ((3:Nat) * acN a0r a0w a0h a0cn a0c a1x a1y a1k)==ramp (1:Int) ((3:Nat) * acN a0r a0w a0h a0cn a0c a1x a1y a1k) then (1:Int) + (↑((3:Nat) * acN a0r a0w a0h a0cn a0c a1x a1y a1k):Int) else (-1:Int)) < (0:Int))=true→
 K (V.lit false))∧
 (decide ((bif ramp (1:Int) ((3:Nat) * acN a0r a0w a0h a0cn a0c a1x a1y a1k)==ramp (1:Int) ((3:Nat) * acN a0r a0w a0h a0cn a0c a1x a1y a1k) then (1:Int) + (↑((3:Nat) * acN a0r a0w a0h a0cn a0c a1x a1y a1k):Int) else (-1:Int)) < (0:Int))=false→
 (((bif ramp (1:Int) ((3:Nat) * acN a0r a0w a0h a0cn a0c a1x a1y a1k)==ramp (1:Int) ((3:Nat) * acN a0r a0w a0h a0cn a0c a1x a1y a1k) then (1:Int) + (↑((3:Nat) * acN a0r a0w a0h a0cn a0c a1x a1y a1k):Int) else (-1:Int)) != (1:Int) + (↑((3:Nat) * acN a0r a0w a0h a0cn a0c a1x a1y a1k):Int))=true→
 K (V.lit false))∧
 (((bif ramp (1:Int) ((3:Nat) * acN a0r a0w a0h a0cn a0c a1x a1y a1k)==ramp (1:Int) ((3:Nat) * acN a0r a0w a0h a0cn a0c a1x a1y a1k) then (1:Int) + (↑((3:Nat) * acN a0r a0w a0h a0cn a0c a1x a1y a1k):Int) else (-1:Int)) != (1:Int) + (↑((3:Nat) * acN a0r a0w a0h a0cn a0c a1x a1y a1k):Int))=false→
 K (V.lit true))))))∧True)∧True)∧True)∧True)∧True)∧(((At (List.length a0c=a0cn * (3:Nat)∧a0cn≤(2000000:Nat))∧(At True∧(At (List.length a0c=a0cn * (3:Nat)∧a0cn≤(2000000:Nat))∧
 (At (List.length (acB a0r a0w a0h a0cn a0c a1x a1y a1k)=(3:Nat) * acN a0r a0w a0h a0cn a0c a1x a1y a1k∧List.length (acB a0r a0w a0h a0cn a0c a1x a1y a1k)=(3:Nat) * acN a0r a0w a0h a0cn a0c a1x a1y a1k∧
 acN a0r a0w a0h a0cn a0c a1x a1y a1k≤(2000000:Nat)∧acN a0r a0w a0h a0cn a0c a1x a1y a1k≤(2000000:Nat))∧
 ((!(acR a0r a0w a0h a0cn a0c a1x a1y a1k==acR a0r a0w a0h a0cn a0c a1x a1y a1k && acB a0r a0w a0h a0cn a0c a1x a1y a1k==acB a0r a0w a0h a0cn a0c a1x a1y a1k && acW a0r a0w a0h a0cn a0c a1x a1y a1k==acW a0r a0w a0h a0cn a0c a1x a1y a1k && acH a0r a0w a0h a0cn a0c a1x a1y a1k==acH a0r a0w a0h a0cn a0c a1x a1y a1k))=true→
 K (V.lit false))∧
 ((!(acR a0r a0w a0h a0cn a0c a1x a1y a1k==acR a0r a0w a0h a0cn a0c a1x a1y a1k && acB a0r a0w a0h a0cn a0c a1x a1y a1k==acB a0r a0w a0h a0cn a0c a1x a1y a1k && acW a0r a0w a0h a0cn a0c a1x a1y a1k==acW a0r a0w a0h a0cn a0c a1x a1y a1k && acH a0r a0w a0h a0cn a0c a1x a1y a1k==acH a0r a0w a0h a0cn a0c a1x a1y a1k))=false→
 ((!acG a0r a0w a0h a0cn a0c a1x a1y a1k==acG a0r a0w a0h a0cn a0c a1x a1y a1k)=true→K (V.lit false))∧((!acG a0r a0w a0h a0cn a0c a1x a1y a1k==acG a0r a0w a0h a0cn a0c a1x a1y a1k)=false→
 At (List.length (ramp (1:Int) ((3:Nat) * acN a0r a0w a0h a0cn a0c a1x a1y a1k))=(3:Nat) * acN a0r a0w a0h a0cn a0c a1x a1y a1k∧acN a0r a0w a0h a0cn a0c a1x a1y a1k≤(2000000:Nat)∧(0:Int)≤(1:Int)∧(1:Int)≤(1000:Int))∧
 (decide ((bif ramp (1:Int) ((3:Nat) * acN a0r a0w a0h a0cn a0c a1x a1y a1k)==ramp (1:Int) ((3:Nat) * acN a0r a0w a0h a0cn a0c a1x a1y a1k) then (1:Int) + (↑((3:Nat) * acN a0r a0w a0h a0cn a0c a1x a1y a1k):Int) else (-1:Int)) < (0:Int))=true→
 K (V.lit false))∧
 (decide ((bif ramp (1:Int) ((3:Nat) * acN a0r a0w a0h a0cn a0c a1x a1y a1k)==ramp (1:Int) ((3:Nat) * acN a0r a0w a0h a0cn a0c a1x a1y a1k) then (1:Int) + (↑((3:Nat) * acN a0r a0w a0h a0cn a0c a1x a1y a1k):Int) else (-1:Int)) < (0:Int))=false→
 (((bif ramp (1:Int) ((3:Nat) * acN a0r a0w a0h a0cn a0c a1x a1y a1k)==ramp (1:Int) ((3:Nat) * acN a0r a0w a0h a0cn a0c a1x a1y a1k) then (1:Int) + (↑((3:Nat) * acN a0r a0w a0h a0cn a0c a1x a1y a1k):Int) else (-1:Int)) != (1:Int) + (↑((3:Nat) * acN a0r a0w a0h a0cn a0c a1x a1y a1k):Int))=true→
 K (V.lit false))∧
 (((bif ramp (1:Int) ((3:Nat) * acN a0r a0w a0h a0cn a0c a1x a1y a1k)==ramp (1:Int) ((3:Nat) * acN a0r a0w a0h a0cn a0c a1x a1y a1k) then (1:Int) + (↑((3:Nat) * acN a0r a0w a0h a0cn a0c a1x a1y a1k):Int) else (-1:Int)) != (1:Int) + (↑((3:Nat) * acN a0r a0w a0h a0cn a0c a1x a1y a1k):Int))=false→
 K (V.lit true))))))∧True)∧True)∧True)∧True)∧True)∧True)∧(((At (List.length a0c=a0cn * (3:Nat)∧a0cn≤(2000000:Nat))∧((At True∧(At (List.length a0c=a0cn * (3:Nat)∧a0cn≤(2000000:Nat))∧
 (At (List.length (acB a0r a0w a0h a0cn a0c a1x a1y a1k)=(3:Nat) * acN a0r a0w a0h a0cn a0c a1x a1y a1k∧List.length (acB a0r a0w a0h a0cn a0c a1x a1y a1k)=(3:Nat) * acN a0r a0w a0h a0cn a0c a1x a1y a1k∧
 acN a0r a0w a0h a0cn a0c a1x a1y a1k≤(2000000:Nat)∧acN a0r a0w a0h a0cn a0c a1x a1y a1k≤(2000000:Nat))∧
 ((!(acR a0r a0w a0h a0cn a0c a1x a1y a1k==acR a0r a0w a0h a0cn a0c a1x a1y a1k && acB a0r a0w a0h a0cn a0c a1x a1y a1k==acB a0r a0w a0h a0cn a0c a1x a1y a1k && acW a0r a0w a0h a0cn a0c a1x a1y a1k==acW a0r a0w a0h a0cn a0c a1x a1y a1k && acH a0r a0w a0h a0cn a0c a1x a1y a1k==acH a0r a0w a0h a0cn a0c a1x a1y a1k))=true→
 K (V.lit false))∧
 ((!(acR a0r a0w a0h a0cn a0c a1x a1y a1k==acR a0r a0w a0h a0cn a0c a1x a1y a1k && acB a0r a0w a0h a0cn a0c a1x a1y a1k==acB a0r a0w a0h a0cn a0c a1x a1y a1k && acW a0r a0w a0h a0cn a0c a1x a1y a1k==acW a0r a0w a0h a0cn a0c a1x a1y a1k && acH a0r a0w a0h a0cn a0c a1x a1y a1k==acH a0r a0w a0h a0cn a0c a1x a1y a1k))=false→
 ((!acG a0r a0w a0h a0cn a0c a1x a1y a1k==acG a0r a0w a0h a0cn a0c a1x a1y a1k)=true→K (V.lit false))∧((!acG a0r a0w a0h a0cn a0c a1x a1y a1k==acG a0r a0w a0h a0cn a0c a1x a1y a1k)=false→
 At (List.length (ramp (1:Int) ((3:Nat) * acN a0r a0w a0h a0cn a0c a1x a1y a1k))=(3:Nat) * acN a0r a0w a0h a0cn a0c a1x a1y a1k∧acN a0r a0w a0h a0cn a0c a1x a1y a1k≤(2000000:Nat)∧(0:Int)≤(1:Int)∧(1:Int)≤(1000:Int))∧
 (decide ((bif ramp (1:Int) ((3:Nat) * acN a0r a0w a0h a0cn a0c a1x a1y a1k)==ramp (1:Int) ((3:Nat) * acN a0r a0w a0h a0cn a0c a1x a1y a1k) then (1:Int) + (↑((3:Nat) * acN a0r a0w a0h a0cn a0c a1x a1y a1k):Int) else (-1:Int)) < (0:Int))=true→
 K (V.lit false))∧
 (decide ((bif ramp (1:Int) ((3:Nat) * acN a0r a0w a0h a0cn a0c a1x a1y a1k)==ramp (1:Int) ((3:Nat) * acN a0r a0w a0h a0cn a0c a1x a1y a1k) then (1:Int) + (↑((3:Nat) * acN a0r a0w a0h a0cn a0c a1x a1y a1k):Int) else (-1:Int)) < (0:Int))=false→
 (((bif ramp (1:Int) ((3:Nat) * acN a0r a0w a0h a0cn a0c a1x a1y a1k)==ramp (1:Int) ((3:Nat) * acN a0r a0w a0h a0cn a0c a1x a1y a1k) then (1:Int) + (↑((3:Nat) * acN a0r a0w a0h a0cn a0c a1x a1y a1k):Int) else (-1:Int)) != (1:Int) + (↑((3:Nat) * acN a0r a0w a0h a0cn a0c a1x a1y a1k):Int))=true→
 K (V.lit false))∧
 (((bif ramp (1:Int) ((3:Nat) * acN a0r a0w a0h a0cn a0c a1x a1y a1k)==ramp (1:Int) ((3:Nat) * acN a0r a0w a0h a0cn a0c a1x a1y a1k) then (1:Int) + (↑((3:Nat) * acN a0r a0w a0h a0cn a0c a1x a1y a1k):Int) else (-1:Int)) != (1:Int) + (↑((3:Nat) * acN a0r a0w a0h a0cn a0c a1x a1y a1k):Int))=false→
 K (V.lit true))))))∧True)∧True)∧True)∧True)∧((At (List.length a0c=a0cn * (3:Nat)∧a0cn≤(2000000:Nat))∧(At True∧(At (List.length a0c=a0cn * (3:Nat)∧a0cn≤(2000000:Nat))∧
 (At (List.length (acB a0r a0w a0h a0cn a0c a1x a1y a1k)=(3:Nat) * acN a0r a0w a0h a0cn a0c a1x a1y a1k∧List.length (acB a0r a0w a0h a0cn a0c a1x a1y a1k)=(3:Nat) * acN a0r a0w a0h a0cn a0c a1x a1y a1k∧
 acN a0r a0w a0h a0cn a0c a1x a1y a1k≤(2000000:Nat)∧acN a0r a0w a0h a0cn a0c a1x a1y a1k≤(2000000:Nat))∧
 ((!(acR a0r a0w a0h a0cn a0c a1x a1y a1k==acR a0r a0w a0h a0cn a0c a1x a1y a1k && acB a0r a0w a0h a0cn a0c a1x a1y a1k==acB a0r a0w a0h a0cn a0c a1x a1y a1k && acW a0r a0w a0h a0cn a0c a1x a1y a1k==acW a0r a0w a0h a0cn a0c a1x a1y a1k && acH a0r a0w a0h a0cn a0c a1x a1y a1k==acH a0r a0w a0h a0cn a0c a1x a1y a1k))=true→
 K (V.lit false))∧
 ((!(acR a0r a0w a0h a0cn a0c a1x a1y a1k==acR a0r a0w a0h a0cn a0c a1x a1y a1k && acB a0r a0w a0h a0cn a0c a1x a1y a1k==acB a0r a0w a0h a0cn a0c a1x a1y a1k && acW a0r a0w a0h a0cn a0c a1x a1y a1k==acW a0r a0w a0h a0cn a0c a1x a1y a1k && acH a0r a0w a0h a0cn a0c a1x a1y a1k==acH a0r a0w a0h a0cn a0c a1x a1y a1k))=false→
 ((!acG a0r a0w a0h a0cn a0c a1x a1y a1k==acG a0r a0w a0h a0cn a0c a1x a1y a1k)=true→K (V.lit false))∧((!acG a0r a0w a0h a0cn a0c a1x a1y a1k==acG a0r a0w a0h a0cn a0c a1x a1y a1k)=false→
 At (List.length (ramp (1:Int) ((3:Nat) * acN a0r a0w a0h a0cn a0c a1x a1y a1k))=(3:Nat) * acN a0r a0w a0h a0cn a0c a1x a1y a1k∧acN a0r a0w a0h a0cn a0c a1x a1y a1k≤(2000000:Nat)∧(0:Int)≤(1:Int)∧(1:Int)≤(1000:Int))∧
 (decide ((bif ramp (1:Int) ((3:Nat) * acN a0r a0w a0h a0cn a0c a1x a1y a1k)==ramp (1:Int) ((3:Nat) * acN a0r a0w a0h a0cn a0c a1x a1y a1k) then (1:Int) + (↑((3:Nat) * acN a0r a0w a0h a0cn a0c a1x a1y a1k):Int) else (-1:Int)) < (0:Int))=true→
 K (V.lit false))∧
 (decide ((bif ramp (1:Int) ((3:Nat) * acN a0r a0w a0h a0cn a0c a1x a1y a1k)==ramp (1:Int) ((3:Nat) * acN a0r a0w a0h a0cn a0c a1x a1y a1k) then (1:Int) + (↑((3:Nat) * acN a0r a0w a0h a0cn a0c a1x a1y a1k):Int) else (-1:Int)) < (0:Int))=false→
 (((bif ramp (1:Int) ((3:Nat) * acN a0r a0w a0h a0cn a0c a1x a1y a1k)==ramp (1:Int) ((3:Nat) * acN a0r a0w a0h a0cn a0c a1x a1y a1k) then (1:Int) + (↑((3:Nat) * acN a0r a0w a0h a0cn a0c a1x a1y a1k):Int) else (-1:Int)) != (1:Int) + (↑((3:Nat) * acN a0r a0w a0h a0cn a0c a1x a1y a1k):Int))=true→
 K (V.lit false))∧
 (((bif ramp (1:Int) ((3:Nat) * acN a0r a0w a0h a0cn a0c a1x a1y a1k)==ramp (1:Int) ((3:Nat) * acN a0r a0w a0h a0cn a0c a1x a1y a1k) then (1:Int) + (↑((3:Nat) * acN a0r a0w a0h a0cn a0c a1x a1y a1k):Int) else (-1:Int)) != (1:Int) + (↑((3:Nat) * acN a0r a0w a0h a0cn a0c a1x a1y a1k):Int))=false→
 K (V.lit true))))))∧True)∧True)∧True)∧True)∧True)∧(((At (List.length a0c=a0cn * (3:Nat)∧a0cn≤(2000000:Nat))∧(At True∧(At (List.length a0c=a0cn * (3:Nat)∧a0cn≤(2000000:Nat))∧
 (At (List.length (acB a0r a0w a0h a0cn a0c a1x a1y a1k)=(3:Nat) * acN a0r a0w a0h a0cn a0c a1x a1y a1k∧List.length (acB a0r a0w a0h a0cn a0c a1x a1y a1k)=(3:Nat) * acN a0r a0w a0h a0cn a0c a1x a1y a1k∧
 acN a0r a0w a0h a0cn a0c a1x a1y a1k≤(2000000:Nat)∧acN a0r a0w a0h a0cn a0c a1x a1y a1k≤(2000000:Nat))∧
 ((!(acR a0r a0w a0h a0cn a0c a1x a1y a1k==acR a0r a0w a0h a0cn a0c a1x a1y a1k && acB a0r a0w a0h a0cn a0c a1x a1y a1k==acB a0r a0w a0h a0cn a0c a1x a1y a1k && acW a0r a0w a0h a0cn a0c a1x a1y a1k==acW a0r a0w a0h a0cn a0c a1x a1y a1k && acH a0r a0w a0h a0cn a0c a1x a1y a1k==acH a0r a0w a0h a0cn a0c a1x a1y a1k))=true→
 K (V.lit false))∧
 ((!(acR a0r a0w a0h a0cn a0c a1x a1y a1k==acR a0r a0w a0h a0cn a0c a1x a1y a1k && acB a0r a0w a0h a0cn a0c a1x a1y a1k==acB a0r a0w a0h a0cn a0c a1x a1y a1k && acW a0r a0w a0h a0cn a0c a1x a1y a1k==acW a0r a0w a0h a0cn a0c a1x a1y a1k && acH a0r a0w a0h a0cn a0c a1x a1y a1k==acH a0r a0w a0h a0cn a0c a1x a1y a1k))=false→
 ((!acG a0r a0w a0h a0cn a0c a1x a1y a1k==acG a0r a0w a0h a0cn a0c a1x a1y a1k)=true→K (V.lit false))∧((!acG a0r a0w a0h a0cn a0c a1x a1y a1k==acG a0r a0w a0h a0cn a0c a1x a1y a1k)=false→
 At (List.length (ramp (1:Int) ((3:Nat) * acN a0r a0w a0h a0cn a0c a1x a1y a1k))=(3:Nat) * acN a0r a0w a0h a0cn a0c a1x a1y a1k∧acN a0r a0w a0h a0cn a0c a1x a1y a1k≤(2000000:Nat)∧(0:Int)≤(1:Int)∧(1:Int)≤(1000:Int))∧
 (decide ((bif ramp (1:Int) ((3:Nat) * acN a0r a0w a0h a0cn a0c a1x a1y a1k)==ramp (1:Int) ((3:Nat) * acN a0r a0w a0h a0cn a0c a1x a1y a1k) then (1:Int) + (↑((3:Nat) * acN a0r a0w a0h a0cn a0c a1x a1y a1k):Int) else (-1:Int)) < (0:Int))=true→
 K (V.lit false))∧
 (decide ((bif ramp (1:Int) ((3:Nat) * acN a0r a0w a0h a0cn a0c a1x a1y a1k)==ramp (1:Int) ((3:Nat) * acN a0r a0w a0h a0cn a0c a1x a1y a1k) then (1:Int) + (↑((3:Nat) * acN a0r a0w a0h a0cn a0c a1x a1y a1k):Int) else (-1:Int)) < (0:Int))=false→
 (((bif ramp (1:Int) ((3:Nat) * acN a0r a0w a0h a0cn a0c a1x a1y a1k)==ramp (1:Int) ((3:Nat) * acN a0r a0w a0h a0cn a0c a1x a1y a1k) then (1:Int) + (↑((3:Nat) * acN a0r a0w a0h a0cn a0c a1x a1y a1k):Int) else (-1:Int)) != (1:Int) + (↑((3:Nat) * acN a0r a0w a0h a0cn a0c a1x a1y a1k):Int))=true→
 K (V.lit false))∧
 (((bif ramp (1:Int) ((3:Nat) * acN a0r a0w a0h a0cn a0c a1x a1y a1k)==ramp (1:Int) ((3:Nat) * acN a0r a0w a0h a0cn a0c a1x a1y a1k) then (1:Int) + (↑((3:Nat) * acN a0r a0w a0h a0cn a0c a1x a1y a1k):Int) else (-1:Int)) != (1:Int) + (↑((3:Nat) * acN a0r a0w a0h a0cn a0c a1x a1y a1k):Int))=false→
 K (V.lit true))))))∧True)∧True)∧True)∧True)∧True)∧True)∧True)))))))∧True)∧True)∧True)∧True)))
theorem vc_LawAddClue (a0r : List UInt8) (a0w : Int) (a0h : Int) (a0cn : Nat) (a0c : List Int) (a1x : Int) (a1y : Int) (a1k : Int) (ha0r : (a0r.length : Int) ≤ 9223372036854775807) (ha0w : -9223372036854775808 ≤ a0w ∧ a0w ≤ 9223372036854775807) (ha0h : -9223372036854775808 ≤ a0h ∧ a0h ≤ 9223372036854775807) (ha0c : a0c.length = a0cn * 3 ∧ (a0cn : Int) ≤ 9223372036854775807) (ha1x : -9223372036854775808 ≤ a1x ∧ a1x ≤ 9223372036854775807) (ha1y : -9223372036854775808 ≤ a1y ∧ a1y ≤ 9223372036854775807) (ha1k : -9223372036854775808 ≤ a1k ∧ a1k ≤ 9223372036854775807) : VC_LawAddClue a0r a0w a0h a0cn a0c a1x a1y a1k (retP (.bool true)) := by
  unfold VC_LawAddClue VC_LawAddClue_q1
  refine ⟨⟨by omega, by omega, ha0c.2, ha0r⟩, fun _ => (retP_lit _ _).2 rfl, fun hc => ?_⟩
  have hn := szP_n (of_decide_eq_false hc)
  have h3 : a0c.length = 3 * a0cn := by omega
  have hl : (acB a0r a0w a0h a0cn a0c a1x a1y a1k).length = 3 * acN a0r a0w a0h a0cn a0c a1x a1y a1k := by
    unfold acB acN
    cases acG a0r a0w a0h a0cn a0c a1x a1y a1k
    · rfl
    · simp only [cond_true, List.length_append, List.length_cons, List.length_nil]
      omega
  have hl2 : acN a0r a0w a0h a0cn a0c a1x a1y a1k ≤ 2000000 := by
    unfold acN
    cases hg : acG a0r a0w a0h a0cn a0c a1x a1y a1k
    · simp
    · have h6 : a0cn < 6 := by
        unfold acG okA at hg
        simp only [Bool.and_eq_true, decide_eq_true_eq] at hg
        exact hg.2
      simp only [cond_true]
      omega
  generalize acB a0r a0w a0h a0cn a0c a1x a1y a1k = L at hl ⊢
  generalize acN a0r a0w a0h a0cn a0c a1x a1y a1k = N at hl hl2 ⊢
  simp [retP_lit, h3, hn, hl, hl2, ramp_len, Nat.mul_comm]
  try omega
end Go.Vi
