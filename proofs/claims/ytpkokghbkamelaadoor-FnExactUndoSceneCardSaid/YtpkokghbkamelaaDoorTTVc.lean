/- The conditions, reckoned out by program: texts alone. -/
import Derived.Test.YtpkokghbkamelaaDoorTTDefs
namespace Go.Vi
set_option linter.unusedVariables false
def VC_laws_markText (k:Int)(K:V → Prop):Prop:=
 (decide (k≤(0:Int))=true→K (V.str (Array.toList #[(109:UInt8),(48:UInt8)])))∧(decide (k≤(0:Int))=false→(((True∧k=k)∧nilB=nilB∧True)∧True∧True)∧At (mtInv k (k,Array.toList #[]))∧∀(a:Int × List UInt8),mtInv k a→
 (decide (Prod.fst a > (0:Int))=true→At ((10:Int) ≠ (0:Int))∧At (∀(n:Int),n ∈ [IntKind.wrap IntKind.u8 (IntKind.wrap .i64 ((48:Int) + Int.tmod (Prod.fst a) (10:Int)))]→(0:Int)≤n∧n < (256:Int))∧
 At ((1:Nat)≤List.length (List.map (fun (n:Int) ↦ UInt8.ofNat (Int.toNat n)) [IntKind.wrap IntKind.u8 (IntKind.wrap .i64 ((48:Int) + Int.tmod (Prod.fst a) (10:Int)))]))∧
 At (List.length (List.take (1:Nat) (List.map (fun (n:Int) ↦ UInt8.ofNat (Int.toNat n)) [IntKind.wrap IntKind.u8 (IntKind.wrap .i64 ((48:Int) + Int.tmod (Prod.fst a) (10:Int)))])) + List.length (Prod.snd a)≤(9223372036854775807:Nat))∧
 At ((10:Int) ≠ (0:Int))∧(((True∧IntKind.wrap .i64 (Int.tdiv (Prod.fst a) (10:Int))=IntKind.wrap .i64 (Int.tdiv (Prod.fst a) (10:Int)))∧
 List.take (1:Nat) (List.map (fun (n:Int) ↦ UInt8.ofNat (Int.toNat n)) [IntKind.wrap IntKind.u8 (IntKind.wrap .i64 ((48:Int) + Int.tmod (Prod.fst a) (10:Int)))]) ++ Prod.snd a=List.take (1:Nat) (List.map (fun (n:Int) ↦ UInt8.ofNat (Int.toNat n)) [IntKind.wrap IntKind.u8 (IntKind.wrap .i64 ((48:Int) + Int.tmod (Prod.fst a) (10:Int)))]) ++ Prod.snd a∧
 True)∧True∧True)∧
 At (mtInv k (IntKind.wrap .i64 (Int.tdiv (Prod.fst a) (10:Int)),List.take (1:Nat) (List.map (fun (n:Int) ↦ UInt8.ofNat (Int.toNat n)) [IntKind.wrap IntKind.u8 (IntKind.wrap .i64 ((48:Int) + Int.tmod (Prod.fst a) (10:Int)))]) ++ Prod.snd a)∧
 Int.toNat (IntKind.wrap .i64 (Int.tdiv (Prod.fst a) (10:Int))) < Int.toNat (Prod.fst a)))∧(decide (Prod.fst a > (0:Int))=false→
 At (List.length (Array.toList #[(109:UInt8)]) + List.length (Prod.snd a)≤(9223372036854775807:Nat))∧K (V.str (Array.toList #[(109:UInt8)] ++ Prod.snd a))))
def VC_laws_markRowS (k:Int)(n:Nat)(c:List Sc)(K:V → List Blk → Prop):Prop:=
 ((((0:Nat)=(0:Nat)∧n=n)∧(True∧k=k + (3:Int) * (0:Int))∧(True∧(0:Int)=(0:Int))∧True)∧((True∧True∧c=flat3 (mkRow (rows3 c) k (Int.toNat (0:Int))))∧True)∧True)∧At (ixInv n (0:Int))∧∀(a:Int),ixInv n a→
 (decide (a < (↑n:Int))=true→At ((0:Int)≤a∧a < (↑n:Int))∧At (Int.toNat a * (3:Nat) + (0:Nat) < List.length (flat3 (mkRow (rows3 c) k (Int.toNat a)))∧
 shAt [Sh.int IntKind.i64,Sh.str,Sh.int IntKind.i64] (Int.toNat a * (3:Nat) + (0:Nat))=Sh.int IntKind.i64)∧At ((0:Int)≤IntKind.wrap .i64 (k + (3:Int) * a + (1:Int))∧
 IntKind.wrap .i64 (k + (3:Int) * a + (1:Int))≤(100000000:Int))∧At ((0:Int)≤a∧a < (↑n:Int))∧
 At (Int.toNat a * (3:Nat) + (1:Nat) < List.length (List.set (flat3 (mkRow (rows3 c) k (Int.toNat a))) (Int.toNat a * (3:Nat) + (0:Nat)) (Sc.mk (k + (3:Int) * a) ([])))∧
 shAt [Sh.int IntKind.i64,Sh.str,Sh.int IntKind.i64] (Int.toNat a * (3:Nat) + (1:Nat))=Sh.str)∧At ((0:Int)≤a∧a < (↑n:Int))∧
 At (Int.toNat a * (3:Nat) + (2:Nat) < List.length (List.set (List.set (flat3 (mkRow (rows3 c) k (Int.toNat a))) (Int.toNat a * (3:Nat) + (0:Nat)) (Sc.mk (k + (3:Int) * a) ([]))) (Int.toNat a * (3:Nat) + (1:Nat)) (Sc.mk ((0:Int)) (mtx (IntKind.wrap .i64 (k + (3:Int) * a + (1:Int))))))∧
 shAt [Sh.int IntKind.i64,Sh.str,Sh.int IntKind.i64] (Int.toNat a * (3:Nat) + (2:Nat))=Sh.int IntKind.i64)∧((((0:Nat)=(0:Nat)∧n=n)∧(True∧
 IntKind.wrap .i64 (IntKind.wrap .i64 (IntKind.wrap .i64 (k + (3:Int) * a + (1:Int)) + (1:Int)) + (1:Int))=k + (3:Int) * IntKind.wrap .i64 (a + (1:Int)))∧(True∧
 IntKind.wrap .i64 (a + (1:Int))=IntKind.wrap .i64 (a + (1:Int)))∧True)∧((True∧True∧
 List.set (List.set (List.set (flat3 (mkRow (rows3 c) k (Int.toNat a))) (Int.toNat a * (3:Nat) + (0:Nat)) (Sc.mk (k + (3:Int) * a) ([]))) (Int.toNat a * (3:Nat) + (1:Nat)) (Sc.mk ((0:Int)) (mtx (IntKind.wrap .i64 (k + (3:Int) * a + (1:Int)))))) (Int.toNat a * (3:Nat) + (2:Nat)) (Sc.mk (IntKind.wrap .i64 (IntKind.wrap .i64 (k + (3:Int) * a + (1:Int)) + (1:Int))) ([]))=flat3 (mkRow (rows3 c) k (Int.toNat (IntKind.wrap .i64 (a + (1:Int))))))∧
 True)∧True)∧At (ixInv n (IntKind.wrap .i64 (a + (1:Int)))∧Int.toNat ((↑n:Int) - IntKind.wrap .i64 (a + (1:Int))) < Int.toNat ((↑n:Int) - a)))∧(decide (a < (↑n:Int))=false→
 K (V.int .i64 (k + (3:Int) * a)) [⟨Cells.recs [Sh.int IntKind.i64,Sh.str,Sh.int IntKind.i64] (flat3 (mkRow (rows3 c) k (Int.toNat a))),96,Kind.rows (3:Nat)⟩])
def VC_laws_markTable (k:Int)(s:Int)(i:Int)(n:Nat)(c:List Sc)(K:V → List Blk → Prop):Prop:=
 At (is3 c n∧n≤(2000000:Nat)∧(0:Int)≤k∧k≤(1000000:Int))∧
 K (V.int .i64 (k + (↑((3:Nat) * n):Int))) [⟨Cells.recs [Sh.int IntKind.i64,Sh.str,Sh.int IntKind.i64] (flat3 (mkR k n)),96,Kind.rows (3:Nat)⟩,⟨Cells.vals [V.int .i64 s,V.int .i64 i,V.row (0:Nat) n],31,Kind.box⟩]
def VC_laws_heldRowS (k:Int)(n:Nat)(c:List Sc)(K:V → List Blk → Prop):Prop:=
 ((((0:Nat)=(0:Nat)∧n=n)∧(True∧k=k + (3:Int) * (0:Int))∧(True∧(0:Int)=(0:Int))∧True)∧((True∧True∧c=c)∧True)∧True)∧At (hdInv (rows3 c) k n (0:Int))∧∀(a:Int),hdInv (rows3 c) k n a→(decide (a < (↑n:Int))=true→At ((0:Int)≤a∧
 a < (↑n:Int))∧At (Int.toNat a * (3:Nat) + (0:Nat) < List.length c∧shAt [Sh.int IntKind.i64,Sh.str,Sh.int IntKind.i64] (Int.toNat a * (3:Nat) + (0:Nat))=Sh.int IntKind.i64)∧
 ((Sc.i (List.getD c (Int.toNat a * (3:Nat) + (0:Nat)) (Sc.mk ((0:Int)) ([]))) != k + (3:Int) * a)=true→
 K (V.int .i64 (-1:Int)) [⟨Cells.recs [Sh.int IntKind.i64,Sh.str,Sh.int IntKind.i64] c,96,Kind.rows (3:Nat)⟩])∧
 ((Sc.i (List.getD c (Int.toNat a * (3:Nat) + (0:Nat)) (Sc.mk ((0:Int)) ([]))) != k + (3:Int) * a)=false→True∧At ((0:Int)≤a∧a < (↑n:Int))∧At (Int.toNat a * (3:Nat) + (1:Nat) < List.length c∧
 shAt [Sh.int IntKind.i64,Sh.str,Sh.int IntKind.i64] (Int.toNat a * (3:Nat) + (1:Nat))=Sh.str)∧At ((0:Int)≤IntKind.wrap .i64 (k + (3:Int) * a + (1:Int))∧IntKind.wrap .i64 (k + (3:Int) * a + (1:Int))≤(100000000:Int))∧
 ((!Sc.s (List.getD c (Int.toNat a * (3:Nat) + (1:Nat)) (Sc.mk ((0:Int)) ([])))==mtx (IntKind.wrap .i64 (k + (3:Int) * a + (1:Int))))=true→
 K (V.int .i64 (-1:Int)) [⟨Cells.recs [Sh.int IntKind.i64,Sh.str,Sh.int IntKind.i64] c,96,Kind.rows (3:Nat)⟩])∧
 ((!Sc.s (List.getD c (Int.toNat a * (3:Nat) + (1:Nat)) (Sc.mk ((0:Int)) ([])))==mtx (IntKind.wrap .i64 (k + (3:Int) * a + (1:Int))))=false→At ((0:Int)≤a∧a < (↑n:Int))∧At (Int.toNat a * (3:Nat) + (2:Nat) < List.length c∧
 shAt [Sh.int IntKind.i64,Sh.str,Sh.int IntKind.i64] (Int.toNat a * (3:Nat) + (2:Nat))=Sh.int IntKind.i64)∧
 ((Sc.i (List.getD c (Int.toNat a * (3:Nat) + (2:Nat)) (Sc.mk ((0:Int)) ([]))) != IntKind.wrap .i64 (IntKind.wrap .i64 (k + (3:Int) * a + (1:Int)) + (1:Int)))=true→
 K (V.int .i64 (-1:Int)) [⟨Cells.recs [Sh.int IntKind.i64,Sh.str,Sh.int IntKind.i64] c,96,Kind.rows (3:Nat)⟩])∧
 ((Sc.i (List.getD c (Int.toNat a * (3:Nat) + (2:Nat)) (Sc.mk ((0:Int)) ([]))) != IntKind.wrap .i64 (IntKind.wrap .i64 (k + (3:Int) * a + (1:Int)) + (1:Int)))=false→((((0:Nat)=(0:Nat)∧n=n)∧(True∧
 IntKind.wrap .i64 (IntKind.wrap .i64 (IntKind.wrap .i64 (k + (3:Int) * a + (1:Int)) + (1:Int)) + (1:Int))=k + (3:Int) * IntKind.wrap .i64 (a + (1:Int)))∧(True∧
 IntKind.wrap .i64 (a + (1:Int))=IntKind.wrap .i64 (a + (1:Int)))∧True)∧((True∧True∧c=c)∧True)∧True)∧At (hdInv (rows3 c) k n (IntKind.wrap .i64 (a + (1:Int)))∧
 Int.toNat ((↑n:Int) - IntKind.wrap .i64 (a + (1:Int))) < Int.toNat ((↑n:Int) - a))))))∧(decide (a < (↑n:Int))=false→
 K (V.int .i64 (k + (3:Int) * a)) [⟨Cells.recs [Sh.int IntKind.i64,Sh.str,Sh.int IntKind.i64] c,96,Kind.rows (3:Nat)⟩])
def VC_laws_heldTable (k:Int)(s:Int)(i:Int)(n:Nat)(c:List Sc)(K:V → List Blk → Prop):Prop:=
 At (is3 c n∧n≤(2000000:Nat)∧(0:Int)≤k∧k≤(1000000:Int))∧(decide ((bif decide (rows3 c=mkR k n) then k + (↑((3:Nat) * n):Int) else (-1:Int)) < (0:Int))=true→
 K (V.int .i64 (-1:Int)) [⟨Cells.recs [Sh.int IntKind.i64,Sh.str,Sh.int IntKind.i64] c,96,Kind.rows (3:Nat)⟩,⟨Cells.vals [V.int .i64 s,V.int .i64 i,V.row (0:Nat) n],31,Kind.box⟩])∧
 (decide ((bif decide (rows3 c=mkR k n) then k + (↑((3:Nat) * n):Int) else (-1:Int)) < (0:Int))=false→
 K (V.int .i64 (bif decide (rows3 c=mkR k n) then k + (↑((3:Nat) * n):Int) else (-1:Int))) [⟨Cells.recs [Sh.int IntKind.i64,Sh.str,Sh.int IntKind.i64] c,96,Kind.rows (3:Nat)⟩,⟨Cells.vals [V.int .i64 s,V.int .i64 i,V.row (0:Nat) n],31,Kind.box⟩])
def VC_impl_Row (n:Nat)(c:List Sc)(K:V → List Blk → Prop):Prop:=
 At ((0:Nat) < n)∧At ((List.length ([]:List Sc)=(0:Nat) * (3:Nat)∧n * (3:Nat)≤List.length c)∧posM (rowKind (3:Nat)) n∧(0:Nat) + n≤(1000000000:Nat))∧
 K (V.row (2:Nat) ((0:Nat) + n)) [⟨Cells.recs [Sh.int IntKind.i64,Sh.str,Sh.int IntKind.i64] c,96,Kind.rows (3:Nat)⟩,⟨Cells.dead,96,Kind.rows (3:Nat)⟩,⟨Cells.recs [Sh.int IntKind.i64,Sh.str,Sh.int IntKind.i64] (([]:List Sc) ++ List.take (n * (3:Nat)) c),96,Kind.rows (3:Nat)⟩]
def VC_impl_copied (s:Int)(i:Int)(n:Nat)(c:List Sc)(K:V → List Blk → Prop):Prop:=
 At (is3 c n∧n≤(2000000:Nat)∧(1:Nat)≤n)∧
 K (V.agg [V.int .i64 s,V.int .i64 i,V.row (3:Nat) n]) [⟨Cells.recs [Sh.int IntKind.i64,Sh.str,Sh.int IntKind.i64] c,96,Kind.rows (3:Nat)⟩,⟨Cells.vals [V.int .i64 s,V.int .i64 i,V.row (3:Nat) n],31,Kind.box⟩,⟨Cells.vals [V.int .i64 s,V.int .i64 i,V.row (3:Nat) n],31,Kind.box⟩,⟨Cells.recs [Sh.int IntKind.i64,Sh.str,Sh.int IntKind.i64] c,96,Kind.rows (3:Nat)⟩]
end Go.Vi
