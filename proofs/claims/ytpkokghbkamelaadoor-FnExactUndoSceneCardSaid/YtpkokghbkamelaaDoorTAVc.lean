/- The conditions, reckoned out by program: texts alone. -/
import Derived.Test.YtpkokghbkamelaaDoorTADefs
namespace Go.Vi
set_option linter.unusedVariables false
def VC_spec_l1In (n:Int)(lo:Int)(hi:Int)(K:V → Prop):Prop:=
 (decide (n ≥ lo)=true→K (V.bool (decide (n≤hi))))∧(decide (n ≥ lo)=false→K (V.lit false))
def VC_impl_within (n:Int)(lo:Int)(hi:Int)(K:V → Prop):Prop:=
 (decide (lo≤n)=true→K (V.bool (decide (n≤hi))))∧(decide (lo≤n)=false→K (V.lit false))
def VC_spec_woRule (s:List UInt8)(K:V → Prop):Prop:=
 At True∧((!inB (↑(List.length s):Int) (1:Int) (6:Int))=true→K (V.lit false))∧((!inB (↑(List.length s):Int) (1:Int) (6:Int))=false→((s=s∧(True∧(0:Int)=(0:Int))∧True)∧True∧True)∧At (ruleInv s (0:Int))∧∀(a:Int),ruleInv s a→
 (decide (a < (↑(List.length s):Int))=true→At ((0:Int)≤a∧a < (↑(List.length s):Int))∧(((↑(UInt8.toNat (List.getD s (Int.toNat a) (0:UInt8))):Int)==(76:Int))=true→((s=s∧(True∧
 IntKind.wrap .i64 (a + (1:Int))=IntKind.wrap .i64 (a + (1:Int)))∧True)∧True∧True)∧At (ruleInv s (IntKind.wrap .i64 (a + (1:Int)))∧
 Int.toNat ((↑(List.length s):Int) - IntKind.wrap .i64 (a + (1:Int))) < Int.toNat ((↑(List.length s):Int) - a)))∧(((↑(UInt8.toNat (List.getD s (Int.toNat a) (0:UInt8))):Int)==(76:Int))=false→
 (((↑(UInt8.toNat (List.getD s (Int.toNat a) (0:UInt8))):Int)==(82:Int))=true→((s=s∧(True∧IntKind.wrap .i64 (a + (1:Int))=IntKind.wrap .i64 (a + (1:Int)))∧True)∧True∧True)∧At (ruleInv s (IntKind.wrap .i64 (a + (1:Int)))∧
 Int.toNat ((↑(List.length s):Int) - IntKind.wrap .i64 (a + (1:Int))) < Int.toNat ((↑(List.length s):Int) - a)))∧(((↑(UInt8.toNat (List.getD s (Int.toNat a) (0:UInt8))):Int)==(82:Int))=false→
 (((↑(UInt8.toNat (List.getD s (Int.toNat a) (0:UInt8))):Int)==(78:Int))=true→((s=s∧(True∧IntKind.wrap .i64 (a + (1:Int))=IntKind.wrap .i64 (a + (1:Int)))∧True)∧True∧True)∧At (ruleInv s (IntKind.wrap .i64 (a + (1:Int)))∧
 Int.toNat ((↑(List.length s):Int) - IntKind.wrap .i64 (a + (1:Int))) < Int.toNat ((↑(List.length s):Int) - a)))∧(((↑(UInt8.toNat (List.getD s (Int.toNat a) (0:UInt8))):Int)==(78:Int))=false→
 (((↑(UInt8.toNat (List.getD s (Int.toNat a) (0:UInt8))):Int)==(85:Int))=true→((s=s∧(True∧IntKind.wrap .i64 (a + (1:Int))=IntKind.wrap .i64 (a + (1:Int)))∧True)∧True∧True)∧At (ruleInv s (IntKind.wrap .i64 (a + (1:Int)))∧
 Int.toNat ((↑(List.length s):Int) - IntKind.wrap .i64 (a + (1:Int))) < Int.toNat ((↑(List.length s):Int) - a)))∧(((↑(UInt8.toNat (List.getD s (Int.toNat a) (0:UInt8))):Int)==(85:Int))=false→K (V.lit false))))))∧
 (decide (a < (↑(List.length s):Int))=false→K (V.lit true)))
def VC_spec_taSign (s:List UInt8)(K:V → Prop):Prop:=
 (((↑(List.length s):Int)==(1:Int))=true→At True∧K (V.bool (ruleB s)))∧(((↑(List.length s):Int)==(1:Int))=false→K (V.lit false))
def VC_impl_quartersOfTurn (s:List UInt8)(g0:List UInt8)(g1:List UInt8)(g2:List UInt8)(g3:List UInt8)(K:V → List Blk → Prop):Prop:=
 ((s=s∧(g0=g0∧g1=g1∧g2=g2∧g3=g3∧True)∧(True∧(0:Int)=(0:Int))∧True)∧((True∧g0=g0∧g1=g1∧g2=g2∧g3=g3∧True)∧True)∧True)∧At (qtInv s (0:Int))∧∀(a:Int),qtInv s a→(decide (a < (4:Int))=true→At ((0:Int)≤a∧a < (↑(4:Nat):Int))∧
 ((List.getD [g0,g1,g2,g3] (Int.toNat a) []==s)=true→K (V.int .i64 a) [⟨Cells.vals [V.str g0,V.str g1,V.str g2,V.str g3],9,Kind.gl (0:Nat)⟩])∧((List.getD [g0,g1,g2,g3] (Int.toNat a) []==s)=false→((s=s∧(g0=g0∧
 g1=g1∧g2=g2∧g3=g3∧True)∧(True∧IntKind.wrap .i64 (a + (1:Int))=IntKind.wrap .i64 (a + (1:Int)))∧True)∧((True∧g0=g0∧g1=g1∧g2=g2∧g3=g3∧True)∧True)∧True)∧At (qtInv s (IntKind.wrap .i64 (a + (1:Int)))∧
 Int.toNat ((4:Int) - IntKind.wrap .i64 (a + (1:Int))) < Int.toNat ((4:Int) - a))))∧(decide (a < (4:Int))=false→K (V.int .i64 (-1:Int)) [⟨Cells.vals [V.str g0,V.str g1,V.str g2,V.str g3],9,Kind.gl (0:Nat)⟩])
def VC_laws_szRow (ra:Int)(rt:List UInt8)(rb:Int)(left:Int)(K:V → Prop):Prop:=
 (decide (IntKind.wrap .i64 (left - (↑(List.length rt):Int)) < (0:Int))=true→K (V.int .i64 (-1:Int)))∧(decide (IntKind.wrap .i64 (left - (↑(List.length rt):Int)) < (0:Int))=false→
 K (V.int .i64 (IntKind.wrap .i64 (left - (↑(List.length rt):Int)))))
def VC_laws_szRowS (left:Int)(n:Nat)(c:List Sc)(K:V → List Blk → Prop):Prop:=
 (decide (IntKind.wrap .i64 (left - (↑n:Int)) < (0:Int))=true→K (V.int .i64 (-1:Int)) [⟨Cells.recs [Sh.int IntKind.i64,Sh.str,Sh.int IntKind.i64] c,139,Kind.arg (3:Nat)⟩])∧
 (decide (IntKind.wrap .i64 (left - (↑n:Int)) < (0:Int))=false→((((0:Nat)=(0:Nat)∧n=n)∧(True∧IntKind.wrap .i64 (left - (↑n:Int))=IntKind.wrap .i64 (left - (↑n:Int)))∧(True∧(0:Int)=(0:Int))∧True)∧((True∧True∧c=c)∧True)∧
 True)∧At (szInv (rows3 c) (IntKind.wrap .i64 (left - (↑n:Int))) ((0:Int),IntKind.wrap .i64 (left - (↑n:Int))))∧∀(a:Int × Int),szInv (rows3 c) (IntKind.wrap .i64 (left - (↑n:Int))) a→(decide (Prod.fst a < (↑n:Int))=true→
 At ((0:Int)≤Prod.fst a∧Prod.fst a < (↑n:Int))∧At (Int.toNat (Prod.fst a) * (3:Nat) + (3:Nat)≤List.length c∧Int.toNat (Prod.fst a) * (3:Nat) % (3:Nat)=(0:Nat))∧At (((0:Int)≤Prod.snd a∧Prod.snd a≤(1048576:Int))∧
 (↑(List.length (Sc.s (List.getD c (Int.toNat (Prod.fst a) * (3:Nat) + (1:Nat)) { i := (0:Int),s := [] }))):Int)≤(9223372036854775807:Int))∧
 (decide (szI (↑(List.length (Sc.s (List.getD c (Int.toNat (Prod.fst a) * (3:Nat) + (1:Nat)) { i := (0:Int),s := [] }))):Int) (Prod.snd a) < (0:Int))=true→
 K (V.int .i64 (-1:Int)) [⟨Cells.recs [Sh.int IntKind.i64,Sh.str,Sh.int IntKind.i64] c,139,Kind.arg (3:Nat)⟩])∧
 (decide (szI (↑(List.length (Sc.s (List.getD c (Int.toNat (Prod.fst a) * (3:Nat) + (1:Nat)) { i := (0:Int),s := [] }))):Int) (Prod.snd a) < (0:Int))=false→((((0:Nat)=(0:Nat)∧n=n)∧(True∧
 szI (↑(List.length (Sc.s (List.getD c (Int.toNat (Prod.fst a) * (3:Nat) + (1:Nat)) { i := (0:Int),s := [] }))):Int) (Prod.snd a)=szI (↑(List.length (Sc.s (List.getD c (Int.toNat (Prod.fst a) * (3:Nat) + (1:Nat)) { i := (0:Int),s := [] }))):Int) (Prod.snd a))∧
 (True∧IntKind.wrap .i64 (Prod.fst a + (1:Int))=IntKind.wrap .i64 (Prod.fst a + (1:Int)))∧True)∧((True∧True∧c=c)∧True)∧True)∧
 At (szInv (rows3 c) (IntKind.wrap .i64 (left - (↑n:Int))) (IntKind.wrap .i64 (Prod.fst a + (1:Int)),szI (↑(List.length (Sc.s (List.getD c (Int.toNat (Prod.fst a) * (3:Nat) + (1:Nat)) { i := (0:Int),s := [] }))):Int) (Prod.snd a))∧
 Int.toNat ((↑n:Int) - IntKind.wrap .i64 (Prod.fst a + (1:Int))) < Int.toNat ((↑n:Int) - Prod.fst a))))∧(decide (Prod.fst a < (↑n:Int))=false→
 K (V.int .i64 (Prod.snd a)) [⟨Cells.recs [Sh.int IntKind.i64,Sh.str,Sh.int IntKind.i64] c,139,Kind.arg (3:Nat)⟩]))
def VC_laws_szTable (left:Int)(s:Int)(i:Int)(n:Nat)(c:List Sc)(K:V → List Blk → Prop):Prop:=
 At (((0:Int)≤left∧left≤(1048576:Int))∧(↑n:Int)≤(9223372036854775807:Int)∧is3 c n∧∀(r:Row3),r ∈ rows3 c→(↑(List.length (Row3.t r)):Int)≤(9223372036854775807:Int))∧(decide (szT (rows3 c) left < (0:Int))=true→
 K (V.int .i64 (-1:Int)) [⟨Cells.recs [Sh.int IntKind.i64,Sh.str,Sh.int IntKind.i64] c,139,Kind.arg (3:Nat)⟩,⟨Cells.vals [V.int .i64 s,V.int .i64 i,V.row (0:Nat) n],24,Kind.box⟩])∧
 (decide (szT (rows3 c) left < (0:Int))=false→
 K (V.int .i64 (szT (rows3 c) left)) [⟨Cells.recs [Sh.int IntKind.i64,Sh.str,Sh.int IntKind.i64] c,139,Kind.arg (3:Nat)⟩,⟨Cells.vals [V.int .i64 s,V.int .i64 i,V.row (0:Nat) n],24,Kind.box⟩])
def VC_laws_toRow (ra:Int)(rt:List UInt8)(rb:Int)(K:V → Prop):Prop:=
 K (V.agg [V.int .i64 ra,V.str rt,V.int .i64 rb])
def VC_laws_toRowS (n:Nat)(c:List Sc)(K:V → List Blk → Prop):Prop:=
 At ((0:Int)≤(↑n:Int)∧(↑n:Int)≤(↑n:Int)∧(↑n:Int)≤(1000000000:Int))∧(True∧(((0:Nat)=(0:Nat)∧n=n)∧((1:Nat)=(1:Nat)∧n=n)∧(True∧(0:Int)=(0:Int))∧True)∧((True∧True∧c=c)∧(True∧True∧
 List.replicate (Int.toNat (↑n:Int) * (3:Nat)) { i := (0:Int),s := [] }=fillR (rows3 c) (Int.toNat (0:Int)))∧True)∧True)∧At (ixInv n (0:Int))∧∀(a:Int),ixInv n a→(decide (a < (↑n:Int))=true→At ((0:Int)≤a∧a < (↑n:Int))∧
 At (Int.toNat a * (3:Nat) + (3:Nat)≤List.length c∧Int.toNat a * (3:Nat) % (3:Nat)=(0:Nat))∧At True∧At ((0:Int)≤a∧a < (↑n:Int))∧At (Int.toNat a * (3:Nat) + (3:Nat)≤List.length (fillR (rows3 c) (Int.toNat a))∧
 Int.toNat a * (3:Nat) % (3:Nat)=(0:Nat))∧(True∧(((0:Nat)=(0:Nat)∧n=n)∧((1:Nat)=(1:Nat)∧n=n)∧(True∧IntKind.wrap .i64 (a + (1:Int))=IntKind.wrap .i64 (a + (1:Int)))∧True)∧((True∧True∧c=c)∧(True∧True∧
 setScs (fillR (rows3 c) (Int.toNat a)) (Int.toNat a * (3:Nat)) [{ i := Sc.i (List.getD c (Int.toNat a * (3:Nat)) { i := (0:Int),s := [] }),s := [] },{ i := (0:Int),s := Sc.s (List.getD c (Int.toNat a * (3:Nat) + (1:Nat)) { i := (0:Int),s := [] }) },{ i := Sc.i (List.getD c (Int.toNat a * (3:Nat) + (1:Nat) + (1:Nat)) { i := (0:Int),s := [] }),s := [] }]=fillR (rows3 c) (Int.toNat (IntKind.wrap .i64 (a + (1:Int)))))∧
 True)∧True)∧At (ixInv n (IntKind.wrap .i64 (a + (1:Int)))∧Int.toNat ((↑n:Int) - IntKind.wrap .i64 (a + (1:Int))) < Int.toNat ((↑n:Int) - a)))∧(decide (a < (↑n:Int))=false→
 K (V.row (1:Nat) n) [⟨Cells.recs [Sh.int IntKind.i64,Sh.str,Sh.int IntKind.i64] c,139,Kind.arg (3:Nat)⟩,⟨Cells.recs sh3 (fillR (rows3 c) (Int.toNat a)),96,Kind.rows (3:Nat)⟩])
def VC_laws_toTable (s:Int)(i:Int)(n:Nat)(c:List Sc)(K:V → List Blk → Prop):Prop:=
 At (is3 c n∧n≤(2000000:Nat))∧
 K (V.agg [V.int .i64 s,V.int .i64 i,V.row (4:Nat) n]) [⟨Cells.recs [Sh.int IntKind.i64,Sh.str,Sh.int IntKind.i64] c,139,Kind.arg (3:Nat)⟩,⟨Cells.vals [V.int .i64 s,V.int .i64 i,V.row (0:Nat) n],24,Kind.box⟩,⟨Cells.vals [V.int .i64 s,V.int .i64 i,V.row (4:Nat) n],31,Kind.box⟩,⟨Cells.vals [V.int .i64 s,V.int .i64 i,V.row (4:Nat) n],31,Kind.box⟩,⟨Cells.recs [Sh.int IntKind.i64,Sh.str,Sh.int IntKind.i64] c,96,Kind.rows (3:Nat)⟩]
def VC_laws_eqRow (ra:Int)(rt:List UInt8)(rb:Int)(qa:Int)(qt:List UInt8)(qb:Int)(K:V → Prop):Prop:=
 ((ra != qa)=true→K (V.lit false))∧((ra != qa)=false→((!rt==qt)=true→K (V.lit false))∧((!rt==qt)=false→((rb != qb)=true→K (V.lit false))∧((rb != qb)=false→K (V.lit true))))
def VC_laws_eqRowS (n:Nat)(m:Nat)(c:List Sc)(d:List Sc)(K:V → List Blk → Prop):Prop:=
 (((↑n:Int) != (↑m:Int))=true→
 K (V.lit false) [⟨Cells.recs [Sh.int IntKind.i64,Sh.str,Sh.int IntKind.i64] c,96,Kind.rows (3:Nat)⟩,⟨Cells.recs [Sh.int IntKind.i64,Sh.str,Sh.int IntKind.i64] d,96,Kind.rows (3:Nat)⟩])∧
 (((↑n:Int) != (↑m:Int))=false→((((0:Nat)=(0:Nat)∧n=n)∧((1:Nat)=(1:Nat)∧m=m)∧(True∧(0:Int)=(0:Int))∧True)∧((True∧True∧c=c)∧(True∧True∧d=d)∧True)∧True)∧At (eqInv (rows3 c) (rows3 d) (0:Int))∧
 ∀(a:Int),eqInv (rows3 c) (rows3 d) a→(decide (a < (↑n:Int))=true→True∧At ((0:Int)≤a∧a < (↑n:Int))∧At (Int.toNat a * (3:Nat) + (3:Nat)≤List.length c∧Int.toNat a * (3:Nat) % (3:Nat)=(0:Nat))∧At ((0:Int)≤a∧a < (↑m:Int))∧
 At (Int.toNat a * (3:Nat) + (3:Nat)≤List.length d∧Int.toNat a * (3:Nat) % (3:Nat)=(0:Nat))∧At True∧
 ((!(Sc.i (List.getD c (Int.toNat a * (3:Nat)) { i := (0:Int),s := [] })==Sc.i (List.getD d (Int.toNat a * (3:Nat)) { i := (0:Int),s := [] }) && Sc.s (List.getD c (Int.toNat a * (3:Nat) + (1:Nat)) { i := (0:Int),s := [] })==Sc.s (List.getD d (Int.toNat a * (3:Nat) + (1:Nat)) { i := (0:Int),s := [] }) && Sc.i (List.getD c (Int.toNat a * (3:Nat) + (1:Nat) + (1:Nat)) { i := (0:Int),s := [] })==Sc.i (List.getD d (Int.toNat a * (3:Nat) + (1:Nat) + (1:Nat)) { i := (0:Int),s := [] })))=true→
 K (V.lit false) [⟨Cells.recs [Sh.int IntKind.i64,Sh.str,Sh.int IntKind.i64] c,96,Kind.rows (3:Nat)⟩,⟨Cells.recs [Sh.int IntKind.i64,Sh.str,Sh.int IntKind.i64] d,96,Kind.rows (3:Nat)⟩])∧
 ((!(Sc.i (List.getD c (Int.toNat a * (3:Nat)) { i := (0:Int),s := [] })==Sc.i (List.getD d (Int.toNat a * (3:Nat)) { i := (0:Int),s := [] }) && Sc.s (List.getD c (Int.toNat a * (3:Nat) + (1:Nat)) { i := (0:Int),s := [] })==Sc.s (List.getD d (Int.toNat a * (3:Nat) + (1:Nat)) { i := (0:Int),s := [] }) && Sc.i (List.getD c (Int.toNat a * (3:Nat) + (1:Nat) + (1:Nat)) { i := (0:Int),s := [] })==Sc.i (List.getD d (Int.toNat a * (3:Nat) + (1:Nat) + (1:Nat)) { i := (0:Int),s := [] })))=false→
 ((((0:Nat)=(0:Nat)∧n=n)∧((1:Nat)=(1:Nat)∧m=m)∧(True∧IntKind.wrap .i64 (a + (1:Int))=IntKind.wrap .i64 (a + (1:Int)))∧True)∧((True∧True∧c=c)∧(True∧True∧d=d)∧True)∧True)∧
 At (eqInv (rows3 c) (rows3 d) (IntKind.wrap .i64 (a + (1:Int)))∧Int.toNat ((↑n:Int) - IntKind.wrap .i64 (a + (1:Int))) < Int.toNat ((↑n:Int) - a))))∧(decide (a < (↑n:Int))=false→
 K (V.lit true) [⟨Cells.recs [Sh.int IntKind.i64,Sh.str,Sh.int IntKind.i64] c,96,Kind.rows (3:Nat)⟩,⟨Cells.recs [Sh.int IntKind.i64,Sh.str,Sh.int IntKind.i64] d,96,Kind.rows (3:Nat)⟩]))
def VC_laws_eqTable (s:Int)(i:Int)(n:Nat)(c:List Sc)(p:Int)(q:Int)(m:Nat)(d:List Sc)(K:V → List Blk → Prop):Prop:=
 ((s != p)=true→
 K (V.lit false) [⟨Cells.recs [Sh.int IntKind.i64,Sh.str,Sh.int IntKind.i64] c,96,Kind.rows (3:Nat)⟩,⟨Cells.recs [Sh.int IntKind.i64,Sh.str,Sh.int IntKind.i64] d,96,Kind.rows (3:Nat)⟩,⟨Cells.vals [V.int .i64 s,V.int .i64 i,V.row (0:Nat) n],31,Kind.box⟩,⟨Cells.vals [V.int .i64 p,V.int .i64 q,V.row (1:Nat) m],31,Kind.box⟩])∧
 ((s != p)=false→((i != q)=true→
 K (V.lit false) [⟨Cells.recs [Sh.int IntKind.i64,Sh.str,Sh.int IntKind.i64] c,96,Kind.rows (3:Nat)⟩,⟨Cells.recs [Sh.int IntKind.i64,Sh.str,Sh.int IntKind.i64] d,96,Kind.rows (3:Nat)⟩,⟨Cells.vals [V.int .i64 s,V.int .i64 i,V.row (0:Nat) n],31,Kind.box⟩,⟨Cells.vals [V.int .i64 p,V.int .i64 q,V.row (1:Nat) m],31,Kind.box⟩])∧
 ((i != q)=false→At (is3 c n∧is3 d m∧n≤(2000000:Nat)∧m≤(2000000:Nat))∧((!rows3 c==rows3 d)=true→
 K (V.lit false) [⟨Cells.recs [Sh.int IntKind.i64,Sh.str,Sh.int IntKind.i64] c,96,Kind.rows (3:Nat)⟩,⟨Cells.recs [Sh.int IntKind.i64,Sh.str,Sh.int IntKind.i64] d,96,Kind.rows (3:Nat)⟩,⟨Cells.vals [V.int .i64 s,V.int .i64 i,V.row (0:Nat) n],31,Kind.box⟩,⟨Cells.vals [V.int .i64 p,V.int .i64 q,V.row (1:Nat) m],31,Kind.box⟩])∧
 ((!rows3 c==rows3 d)=false→
 K (V.lit true) [⟨Cells.recs [Sh.int IntKind.i64,Sh.str,Sh.int IntKind.i64] c,96,Kind.rows (3:Nat)⟩,⟨Cells.recs [Sh.int IntKind.i64,Sh.str,Sh.int IntKind.i64] d,96,Kind.rows (3:Nat)⟩,⟨Cells.vals [V.int .i64 s,V.int .i64 i,V.row (0:Nat) n],31,Kind.box⟩,⟨Cells.vals [V.int .i64 p,V.int .i64 q,V.row (1:Nat) m],31,Kind.box⟩])))
def VC_spec_taGood (s:Int)(i:Int)(n:Nat)(c:List Sc)(K:V → List Blk → Prop):Prop:=
 At True∧((!inB s (1:Int) (4:Int))=true→
 K (V.lit false) [⟨Cells.recs [Sh.int IntKind.i64,Sh.str,Sh.int IntKind.i64] c,96,Kind.rows (3:Nat)⟩,⟨Cells.vals [V.int .i64 s,V.int .i64 i,V.row (0:Nat) n],31,Kind.box⟩])∧
 ((!inB s (1:Int) (4:Int))=false→At True∧((!inB i (1:Int) (4:Int))=true→
 K (V.lit false) [⟨Cells.recs [Sh.int IntKind.i64,Sh.str,Sh.int IntKind.i64] c,96,Kind.rows (3:Nat)⟩,⟨Cells.vals [V.int .i64 s,V.int .i64 i,V.row (0:Nat) n],31,Kind.box⟩])∧
 ((!inB i (1:Int) (4:Int))=false→(((↑n:Int) != IntKind.wrap .i64 (s * i))=true→
 K (V.lit false) [⟨Cells.recs [Sh.int IntKind.i64,Sh.str,Sh.int IntKind.i64] c,96,Kind.rows (3:Nat)⟩,⟨Cells.vals [V.int .i64 s,V.int .i64 i,V.row (0:Nat) n],31,Kind.box⟩])∧
 (((↑n:Int) != IntKind.wrap .i64 (s * i))=false→((((1:Nat)=(1:Nat)∧(0:Nat)=(0:Nat))∧((0:Nat)=(0:Nat)∧n=n)∧(True∧(↑n:Int)=(↑n:Int))∧(True∧(0:Int)=(0:Int))∧True)∧((True∧True∧c=c)∧(True∧(True∧s=s)∧(True∧i=i)∧
 ((0:Nat)=(0:Nat)∧n=n)∧True)∧True)∧True)∧At (allInv s i (rows3 c) (0:Int))∧∀(a:Int),allInv s i (rows3 c) a→(decide (a < (↑n:Int))=true→At ((0:Int)≤a∧a < (↑n:Int))∧At (Int.toNat a * (3:Nat) + (3:Nat)≤List.length c∧
 Int.toNat a * (3:Nat) % (3:Nat)=(0:Nat))∧At True∧((!inB (Sc.i (List.getD c (Int.toNat a * (3:Nat)) { i := (0:Int),s := [] })) (0:Int) (IntKind.wrap .i64 (i - (1:Int))))=true→
 K (V.lit false) [⟨Cells.recs [Sh.int IntKind.i64,Sh.str,Sh.int IntKind.i64] c,96,Kind.rows (3:Nat)⟩,⟨Cells.vals [V.int .i64 s,V.int .i64 i,V.row (0:Nat) n],31,Kind.box⟩,⟨Cells.vals [V.int .i64 (Sc.i (List.getD c (Int.toNat a * (3:Nat)) { i := (0:Int),s := [] })),V.str (Sc.s (List.getD c (Int.toNat a * (3:Nat) + (1:Nat)) { i := (0:Int),s := [] })),V.int .i64 (Sc.i (List.getD c (Int.toNat a * (3:Nat) + (1:Nat) + (1:Nat)) { i := (0:Int),s := [] }))],96,Kind.box⟩])∧
 ((!inB (Sc.i (List.getD c (Int.toNat a * (3:Nat)) { i := (0:Int),s := [] })) (0:Int) (IntKind.wrap .i64 (i - (1:Int))))=false→At True∧
 ((!tsB (Sc.s (List.getD c (Int.toNat a * (3:Nat) + (1:Nat)) { i := (0:Int),s := [] })))=true→
 K (V.lit false) [⟨Cells.recs [Sh.int IntKind.i64,Sh.str,Sh.int IntKind.i64] c,96,Kind.rows (3:Nat)⟩,⟨Cells.vals [V.int .i64 s,V.int .i64 i,V.row (0:Nat) n],31,Kind.box⟩,⟨Cells.vals [V.int .i64 (Sc.i (List.getD c (Int.toNat a * (3:Nat)) { i := (0:Int),s := [] })),V.str (Sc.s (List.getD c (Int.toNat a * (3:Nat) + (1:Nat)) { i := (0:Int),s := [] })),V.int .i64 (Sc.i (List.getD c (Int.toNat a * (3:Nat) + (1:Nat) + (1:Nat)) { i := (0:Int),s := [] }))],96,Kind.box⟩])∧
 ((!tsB (Sc.s (List.getD c (Int.toNat a * (3:Nat) + (1:Nat)) { i := (0:Int),s := [] })))=false→At True∧
 ((!inB (Sc.i (List.getD c (Int.toNat a * (3:Nat) + (1:Nat) + (1:Nat)) { i := (0:Int),s := [] })) (0:Int) (IntKind.wrap .i64 (s - (1:Int))))=true→
 K (V.lit false) [⟨Cells.recs [Sh.int IntKind.i64,Sh.str,Sh.int IntKind.i64] c,96,Kind.rows (3:Nat)⟩,⟨Cells.vals [V.int .i64 s,V.int .i64 i,V.row (0:Nat) n],31,Kind.box⟩,⟨Cells.vals [V.int .i64 (Sc.i (List.getD c (Int.toNat a * (3:Nat)) { i := (0:Int),s := [] })),V.str (Sc.s (List.getD c (Int.toNat a * (3:Nat) + (1:Nat)) { i := (0:Int),s := [] })),V.int .i64 (Sc.i (List.getD c (Int.toNat a * (3:Nat) + (1:Nat) + (1:Nat)) { i := (0:Int),s := [] }))],96,Kind.box⟩])∧
 ((!inB (Sc.i (List.getD c (Int.toNat a * (3:Nat) + (1:Nat) + (1:Nat)) { i := (0:Int),s := [] })) (0:Int) (IntKind.wrap .i64 (s - (1:Int))))=false→((((1:Nat)=(1:Nat)∧(0:Nat)=(0:Nat))∧((0:Nat)=(0:Nat)∧n=n)∧(True∧
 (↑n:Int)=(↑n:Int))∧(True∧IntKind.wrap .i64 (a + (1:Int))=IntKind.wrap .i64 (a + (1:Int)))∧True)∧((True∧True∧c=c)∧(True∧(True∧s=s)∧(True∧i=i)∧((0:Nat)=(0:Nat)∧n=n)∧True)∧True)∧True)∧
 At (allInv s i (rows3 c) (IntKind.wrap .i64 (a + (1:Int)))∧Int.toNat ((↑n:Int) - IntKind.wrap .i64 (a + (1:Int))) < Int.toNat ((↑n:Int) - a))))))∧(decide (a < (↑n:Int))=false→
 K (V.lit true) [⟨Cells.recs [Sh.int IntKind.i64,Sh.str,Sh.int IntKind.i64] c,96,Kind.rows (3:Nat)⟩,⟨Cells.vals [V.int .i64 s,V.int .i64 i,V.row (0:Nat) n],31,Kind.box⟩]))))
def VC_impl_isTableSize (a:Int)(b:Int)(K:V → Prop):Prop:=
 At True∧(inB a (1:Int) (4:Int)=true→At True∧K (V.bool (inB b (1:Int) (4:Int))))∧(inB a (1:Int) (4:Int)=false→K (V.lit false))
def VC_impl_IsTable (s:Int)(i:Int)(n:Nat)(c:List Sc)(g0:List UInt8)(g1:List UInt8)(g2:List UInt8)(g3:List UInt8)(K:V → List Blk → Prop):Prop:=
 At True∧((!(inB s (1:Int) (4:Int) && inB i (1:Int) (4:Int)))=true→
 K (V.lit false) [⟨Cells.recs [Sh.int IntKind.i64,Sh.str,Sh.int IntKind.i64] c,96,Kind.rows (3:Nat)⟩,⟨Cells.vals [V.str g0,V.str g1,V.str g2,V.str g3],9,Kind.gl (0:Nat)⟩,⟨Cells.vals [V.int .i64 s,V.int .i64 i,V.row (0:Nat) n],31,Kind.box⟩])∧
 ((!(inB s (1:Int) (4:Int) && inB i (1:Int) (4:Int)))=false→(((↑n:Int) != IntKind.wrap .i64 (s * i))=true→
 K (V.lit false) [⟨Cells.recs [Sh.int IntKind.i64,Sh.str,Sh.int IntKind.i64] c,96,Kind.rows (3:Nat)⟩,⟨Cells.vals [V.str g0,V.str g1,V.str g2,V.str g3],9,Kind.gl (0:Nat)⟩,⟨Cells.vals [V.int .i64 s,V.int .i64 i,V.row (0:Nat) n],31,Kind.box⟩])∧
 (((↑n:Int) != IntKind.wrap .i64 (s * i))=false→((((2:Nat)=(2:Nat)∧(0:Nat)=(0:Nat))∧((0:Nat)=(0:Nat)∧n=n)∧(True∧(↑n:Int)=(↑n:Int))∧(True∧(0:Int)=(0:Int))∧True)∧((True∧True∧c=c)∧(True∧g0=g0∧g1=g1∧g2=g2∧g3=g3∧True)∧(True∧
 (True∧s=s)∧(True∧i=i)∧((0:Nat)=(0:Nat)∧n=n)∧True)∧True)∧True)∧At (allInv s i (rows3 c) (0:Int))∧∀(a:Int),allInv s i (rows3 c) a→(decide (a < (↑n:Int))=true→At ((0:Int)≤a∧a < (↑n:Int))∧
 At (Int.toNat a * (3:Nat) + (3:Nat)≤List.length c∧Int.toNat a * (3:Nat) % (3:Nat)=(0:Nat))∧At True∧
 ((!inB (Sc.i (List.getD c (Int.toNat a * (3:Nat)) { i := (0:Int),s := [] })) (0:Int) (IntKind.wrap .i64 (i - (1:Int))))=true→
 K (V.lit false) [⟨Cells.recs [Sh.int IntKind.i64,Sh.str,Sh.int IntKind.i64] c,96,Kind.rows (3:Nat)⟩,⟨Cells.vals [V.str g0,V.str g1,V.str g2,V.str g3],9,Kind.gl (0:Nat)⟩,⟨Cells.vals [V.int .i64 s,V.int .i64 i,V.row (0:Nat) n],31,Kind.box⟩,⟨Cells.vals [V.int .i64 (Sc.i (List.getD c (Int.toNat a * (3:Nat)) { i := (0:Int),s := [] })),V.str (Sc.s (List.getD c (Int.toNat a * (3:Nat) + (1:Nat)) { i := (0:Int),s := [] })),V.int .i64 (Sc.i (List.getD c (Int.toNat a * (3:Nat) + (1:Nat) + (1:Nat)) { i := (0:Int),s := [] }))],96,Kind.box⟩])∧
 ((!inB (Sc.i (List.getD c (Int.toNat a * (3:Nat)) { i := (0:Int),s := [] })) (0:Int) (IntKind.wrap .i64 (i - (1:Int))))=false→At (isSg g0 g1 g2 g3)∧
 (decide (qtI (Sc.s (List.getD c (Int.toNat a * (3:Nat) + (1:Nat)) { i := (0:Int),s := [] })) < (0:Int))=true→
 K (V.lit false) [⟨Cells.recs [Sh.int IntKind.i64,Sh.str,Sh.int IntKind.i64] c,96,Kind.rows (3:Nat)⟩,⟨Cells.vals [V.str g0,V.str g1,V.str g2,V.str g3],9,Kind.gl (0:Nat)⟩,⟨Cells.vals [V.int .i64 s,V.int .i64 i,V.row (0:Nat) n],31,Kind.box⟩,⟨Cells.vals [V.int .i64 (Sc.i (List.getD c (Int.toNat a * (3:Nat)) { i := (0:Int),s := [] })),V.str (Sc.s (List.getD c (Int.toNat a * (3:Nat) + (1:Nat)) { i := (0:Int),s := [] })),V.int .i64 (Sc.i (List.getD c (Int.toNat a * (3:Nat) + (1:Nat) + (1:Nat)) { i := (0:Int),s := [] }))],96,Kind.box⟩])∧
 (decide (qtI (Sc.s (List.getD c (Int.toNat a * (3:Nat) + (1:Nat)) { i := (0:Int),s := [] })) < (0:Int))=false→At True∧
 ((!inB (Sc.i (List.getD c (Int.toNat a * (3:Nat) + (1:Nat) + (1:Nat)) { i := (0:Int),s := [] })) (0:Int) (IntKind.wrap .i64 (s - (1:Int))))=true→
 K (V.lit false) [⟨Cells.recs [Sh.int IntKind.i64,Sh.str,Sh.int IntKind.i64] c,96,Kind.rows (3:Nat)⟩,⟨Cells.vals [V.str g0,V.str g1,V.str g2,V.str g3],9,Kind.gl (0:Nat)⟩,⟨Cells.vals [V.int .i64 s,V.int .i64 i,V.row (0:Nat) n],31,Kind.box⟩,⟨Cells.vals [V.int .i64 (Sc.i (List.getD c (Int.toNat a * (3:Nat)) { i := (0:Int),s := [] })),V.str (Sc.s (List.getD c (Int.toNat a * (3:Nat) + (1:Nat)) { i := (0:Int),s := [] })),V.int .i64 (Sc.i (List.getD c (Int.toNat a * (3:Nat) + (1:Nat) + (1:Nat)) { i := (0:Int),s := [] }))],96,Kind.box⟩])∧
 ((!inB (Sc.i (List.getD c (Int.toNat a * (3:Nat) + (1:Nat) + (1:Nat)) { i := (0:Int),s := [] })) (0:Int) (IntKind.wrap .i64 (s - (1:Int))))=false→((((2:Nat)=(2:Nat)∧(0:Nat)=(0:Nat))∧((0:Nat)=(0:Nat)∧n=n)∧(True∧
 (↑n:Int)=(↑n:Int))∧(True∧IntKind.wrap .i64 (a + (1:Int))=IntKind.wrap .i64 (a + (1:Int)))∧True)∧((True∧True∧c=c)∧(True∧g0=g0∧g1=g1∧g2=g2∧g3=g3∧True)∧(True∧(True∧s=s)∧(True∧i=i)∧((0:Nat)=(0:Nat)∧n=n)∧True)∧True)∧True)∧
 At (allInv s i (rows3 c) (IntKind.wrap .i64 (a + (1:Int)))∧Int.toNat ((↑n:Int) - IntKind.wrap .i64 (a + (1:Int))) < Int.toNat ((↑n:Int) - a))))))∧(decide (a < (↑n:Int))=false→
 K (V.lit true) [⟨Cells.recs [Sh.int IntKind.i64,Sh.str,Sh.int IntKind.i64] c,96,Kind.rows (3:Nat)⟩,⟨Cells.vals [V.str g0,V.str g1,V.str g2,V.str g3],9,Kind.gl (0:Nat)⟩,⟨Cells.vals [V.int .i64 s,V.int .i64 i,V.row (0:Nat) n],31,Kind.box⟩])))
end Go.Vi
