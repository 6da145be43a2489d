/- The conditions, reckoned out by program: texts alone. -/
import Derived.Test.YtpkokghbkamelaaDoorTTDefs
namespace Go.Vi
set_option linter.unusedVariables false
def VC_laws_markText (k:Int)(K:V → Prop):Prop:=
 (decide (k≤(0:Int))=true→K (V.str (Array.toList #[(109:UInt8),(48:UInt8)])))∧(decide (k≤(0:Int))=false→(((True∧k=k)∧nilB=nilB∧True)∧True∧True)∧At (mtInv k (k,Array.toList #[]))∧∀(a:Int × List UInt8),mtInv k a→
 (decide (Prod.fst a > (0:Int))=true→At ((10:Int) ≠ (0:Int))∧At (∀(n:Int),n ∈ [IntKind.wrap IntKind.u8 (IntKind.wrap .i64 ((48:Int) + Int.tmod (Prod.fst a) (10:Int)))]→(0:Int)≤n∧n < (256:Int))∧
 At ((1:Nat)≤List.length (List.map (fun (n:Int) ↦ UInt8.ofNat (Int.toNat n)) [IntKind.wrap IntKind.u8 (IntKind.wrap .i64 ((48:Int) + Int.tmod (Prod.fst a) (10:Int)))]))∧
 At (List.length (List.take (1:Nat) (List.map (fun (n:Int) ↦ UInt8.ofNat (Int.toNat n)) [IntKind.wrap IntKind.u8 (IntKind.wrap .i64 ((48:Int) + Int.tmod (Prod.fst a) (10:Int)))])) + List.length (Prod.snd a)≤(9223372036854775807:Nat))∧
 At ((10:Int) ≠ (0:Int))∧(((True∧IntKind.wrap .i64 (Int.tdiv (Prod.fst a) (10:Int))=IntKind.wrap .i64 (Int.tdiv (Prod.fst a) (10:Int)))∧
 List.take (1:Nat) (List.map (fun (n:Int) ↦ UInt8.ofNat (Int.toNat n)) [IntKind.wrap IntKind.u8 (IntKind.wrap .i64 ((48:Int) + Int.tmod (Prod.fst a) (10:Int)))]) ++ Prod.snd a=List.take (1:Nat) (List.map (fun (n:Int) ↦ UInt8.ofNat (Int.toNat n)) [IntKind.wrap IntKind.u8 (IntKind.wrap .i64 ((48:Int) + Int.tmod (Prod.fst a) (10:Int)))]) ++ Prod.snd a∧
 True)∧True∧True)∧
 At (mtInv k (IntKind.wrap .i64 (Int.tdiv (Prod.fst a) (10:Int)),List.take (1:Nat) (List.map (fun (n:Int) ↦ UInt8.ofNat (Int.toNat n)) [IntKind.wrap IntKind.u8 (IntKind.wrap .i64 ((48:Int) + Int.tmod (Prod.fst a) (10:Int)))]) ++ Prod.snd a)∧
 Int.toNat (IntKind.wrap .i64 (Int.tdiv (Prod.fst a) (10:Int))) < Int.toNat (Prod.fst a)))∧(decide (Prod.fst a > (0:Int))=false→
 At (List.length (Array.toList #[(109:UInt8)]) + List.length (Prod.snd a)≤(9223372036854775807:Nat))∧K (V.str (Array.toList #[(109:UInt8)] ++ Prod.snd a))))
def VC_laws_markRowS (k:Int)(n:Nat)(c:List Sc)(K:V → List Blk → Prop):Prop:=
 ((((0:Nat)=(0:Nat)∧n=n)∧(True∧k=k + (3:Int) * (0:Int))∧(True∧(0:Int)=(0:Int))∧True)∧((True∧True∧c=flat3 (mkRow (rows3 c) k (Int.toNat (0:Int))))∧True)∧True)∧At (ixInv n (0:Int))∧∀(a:Int),ixInv n a→
 (decide (a < (↑n:Int))=true→At ((0:Int)≤a∧a < (↑n:Int))∧At (Int.toNat a * (3:Nat) + (0:Nat) < List.length (flat3 (mkRow (rows3 c) k (Int.toNat a)))∧
 shAt [Sh.int IntKind.i64,Sh.str,Sh.int IntKind.i64] (Int.toNat a * (3:Nat) + (0:Nat))=Sh.int IntKind.i64)∧At ((0:Int)≤IntKind.wrap .i64 (k + (3:Int) * a + (1:Int))∧
 IntKind.wrap .i64 (k + (3:Int) * a + (1:Int))≤(100000000:Int))∧At ((0:Int)≤a∧a < (↑n:Int))∧
 At (Int.toNat a * (3:Nat) + (1:Nat) < List.length (List.set (flat3 (mkRow (rows3 c) k (Int.toNat a))) (Int.toNat a * (3:Nat) + (0:Nat)) (Sc.mk (k + (3:Int) * a) ([])))∧
 shAt [Sh.int IntKind.i64,Sh.str,Sh.int IntKind.i64] (Int.toNat a * (3:Nat) + (1:Nat))=Sh.str)∧At ((0:Int)≤a∧a < (↑n:Int))∧
 At (Int.toNat a * (3:Nat) + (2:Nat) < List.length (List.set (List.set (flat3 (mkRow (rows3 c) k (Int.toNat a))) (Int.toNat a * (3:Nat) + (0:Nat)) (Sc.mk (k + (3:Int) * a) ([]))) (Int.toNat a * (3:Nat) + (1:Nat)) (Sc.mk ((0:Int)) (mtx (IntKind.wrap .i64 (k + (3:Int) * a + (1:Int))))))∧
 shAt [Sh.int IntKind.i64,Sh.str,Sh.int IntKind.i64] (Int.toNat a * (3:Nat) + (2:Nat))=Sh.int IntKind.i64)∧((((0:Nat)=(0:Nat)∧n=n)∧(True∧
 IntKind.wrap .i64 (IntKind.wrap .i64 (IntKind.wrap .i64 (k + (3:Int) * a + (1:Int)) + (1:Int)) + (1:Int))=k + (3:Int) * IntKind.wrap .i64 (a + (1:Int)))∧(True∧
 IntKind.wrap .i64 (a + (1:Int))=IntKind.wrap .i64 (a + (1:Int)))∧True)∧((True∧True∧
 List.set (List.set (List.set (flat3 (mkRow (rows3 c) k (Int.toNat a))) (Int.toNat a * (3:Nat) + (0:Nat)) (Sc.mk (k + (3:Int) * a) ([]))) (Int.toNat a * (3:Nat) + (1:Nat)) (Sc.mk ((0:Int)) (mtx (IntKind.wrap .i64 (k + (3:Int) * a + (1:Int)))))) (Int.toNat a * (3:Nat) + (2:Nat)) (Sc.mk (IntKind.wrap .i64 (IntKind.wrap .i64 (k + (3:Int) * a + (1:Int)) + (1:Int))) ([]))=flat3 (mkRow (rows3 c) k (Int.toNat (IntKind.wrap .i64 (a + (1:Int))))))∧
 True)∧True)∧At (ixInv n (IntKind.wrap .i64 (a + (1:Int)))∧Int.toNat ((↑n:Int) - IntKind.wrap .i64 (a + (1:Int))) < Int.toNat ((↑n:Int) - a)))∧(decide (a < (↑n:Int))=false→
 K (V.int .i64 (k + (3:Int) * a)) [⟨Cells.recs [Sh.int IntKind.i64,Sh.str,Sh.int IntKind.i64] (flat3 (mkRow (rows3 c) k (Int.toNat a))),96,Kind.rows (3:Nat)⟩])
def VC_laws_markTable (k:Int)(s:Int)(i:Int)(n:Nat)(c:List Sc)(K:V → List Blk → Prop):Prop:=
 At (is3 c n∧n≤(2000000:Nat)∧(0:Int)≤k∧k≤(1000000:Int))∧
 K (V.int .i64 (k + (↑((3:Nat) * n):Int))) [⟨Cells.recs [Sh.int IntKind.i64,Sh.str,Sh.int IntKind.i64] (flat3 (mkR k n)),96,Kind.rows (3:Nat)⟩,⟨Cells.vals [V.int .i64 s,V.int .i64 i,V.row (0:Nat) n],31,Kind.box⟩]
def VC_laws_heldRowS (k:Int)(n:Nat)(c:List Sc)(K:V → List Blk → Prop):Prop:=
 ((((0:Nat)=(0:Nat)∧n=n)∧(True∧k=k + (3:Int) * (0:Int))∧(True∧(0:Int)=(0:Int))∧True)∧((True∧True∧c=c)∧True)∧True)∧At (hdInv (rows3 c) k n (0:Int))∧∀(a:Int),hdInv (rows3 c) k n a→(decide (a < (↑n:Int))=true→At ((0:Int)≤a∧
 a < (↑n:Int))∧At (Int.toNat a * (3:Nat) + (0:Nat) < List.length c∧shAt [Sh.int IntKind.i64,Sh.str,Sh.int IntKind.i64] (Int.toNat a * (3:Nat) + (0:Nat))=Sh.int IntKind.i64)∧
 ((Sc.i (List.getD c (Int.toNat a * (3:Nat) + (0:Nat)) (Sc.mk ((0:Int)) ([]))) != k + (3:Int) * a)=true→
 K (V.int .i64 (-1:Int)) [⟨Cells.recs [Sh.int IntKind.i64,Sh.str,Sh.int IntKind.i64] c,96,Kind.rows (3:Nat)⟩])∧
 ((Sc.i (List.getD c (Int.toNat a * (3:Nat) + (0:Nat)) (Sc.mk ((0:Int)) ([]))) != k + (3:Int) * a)=false→True∧At ((0:Int)≤a∧a < (↑n:Int))∧At (Int.toNat a * (3:Nat) + (1:Nat) < List.length c∧
 shAt [Sh.int IntKind.i64,Sh.str,Sh.int IntKind.i64] (Int.toNat a * (3:Nat) + (1:Nat))=Sh.str)∧At ((0:Int)≤IntKind.wrap .i64 (k + (3:Int) * a + (1:Int))∧IntKind.wrap .i64 (k + (3:Int) * a + (1:Int))≤(100000000:Int))∧
 ((!Sc.s (List.getD c (Int.toNat a * (3:Nat) + (1:Nat)) (Sc.mk ((0:Int)) ([])))==mtx (IntKind.wrap .i64 (k + (3:Int) * a + (1:Int))))=true→
 K (V.int .i64 (-1:Int)) [⟨Cells.recs [Sh.int IntKind.i64,Sh.str,Sh.int IntKind.i64] c,96,Kind.rows (3:Nat)⟩])∧
 ((!Sc.s (List.getD c (Int.toNat a * (3:Nat) + (1:Nat)) (Sc.mk ((0:Int)) ([])))==mtx (IntKind.wrap .i64 (k + (3:Int) * a + (1:Int))))=false→At ((0:Int)≤a∧a < (↑n:Int))∧At (Int.toNat a * (3:Nat) + (2:Nat) < List.length c∧
 shAt [Sh.int IntKind.i64,Sh.str,Sh.int IntKind.i64] (Int.toNat a * (3:Nat) + (2:Nat))=Sh.int IntKind.i64)∧
 ((Sc.i (List.getD c (Int.toNat a * (3:Nat) + (2:Nat)) (Sc.mk ((0:Int)) ([]))) != IntKind.wrap .i64 (IntKind.wrap .i64 (k + (3:Int) * a + (1:Int)) + (1:Int)))=true→
 K (V.int .i64 (-1:Int)) [⟨Cells.recs [Sh.int IntKind.i64,Sh.str,Sh.int IntKind.i64] c,96,Kind.rows (3:Nat)⟩])∧
 ((Sc.i (List.getD c (Int.toNat a * (3:Nat) + (2:Nat)) (Sc.mk ((0:Int)) ([]))) != IntKind.wrap .i64 (IntKind.wrap .i64 (k + (3:Int) * a + (1:Int)) + (1:Int)))=false→((((0:Nat)=(0:Nat)∧n=n)∧(True∧
 IntKind.wrap .i64 (IntKind.wrap .i64 (IntKind.wrap .i64 (k + (3:Int) * a + (1:Int)) + (1:Int)) + (1:Int))=k + (3:Int) * IntKind.wrap .i64 (a + (1:Int)))∧(True∧
 IntKind.wrap .i64 (a + (1:Int))=IntKind.wrap .i64 (a + (1:Int)))∧True)∧((True∧True∧c=c)∧True)∧True)∧At (hdInv (rows3 c) k n (IntKind.wrap .i64 (a + (1:Int)))∧
 Int.toNat ((↑n:Int) - IntKind.wrap .i64 (a + (1:Int))) < Int.toNat ((↑n:Int) - a))))))∧(decide (a < (↑n:Int))=false→
 K (V.int .i64 (k + (3:Int) * a)) [⟨Cells.recs [Sh.int IntKind.i64,Sh.str,Sh.int IntKind.i64] c,96,Kind.rows (3:Nat)⟩])
def VC_laws_heldTable (k:Int)(s:Int)(i:Int)(n:Nat)(c:List Sc)(K:V → List Blk → Prop):Prop:=
 At (is3 c n∧n≤(2000000:Nat)∧(0:Int)≤k∧k≤(1000000:Int))∧(decide ((bif decide (rows3 c=mkR k n) then k + (↑((3:Nat) * n):Int) else (-1:Int)) < (0:Int))=true→
 K (V.int .i64 (-1:Int)) [⟨Cells.recs [Sh.int IntKind.i64,Sh.str,Sh.int IntKind.i64] c,96,Kind.rows (3:Nat)⟩,⟨Cells.vals [V.int .i64 s,V.int .i64 i,V.row (0:Nat) n],31,Kind.box⟩])∧
 (decide ((bif decide (rows3 c=mkR k n) then k + (↑((3:Nat) * n):Int) else (-1:Int)) < (0:Int))=false→
 K (V.int .i64 (bif decide (rows3 c=mkR k n) then k + (↑((3:Nat) * n):Int) else (-1:Int))) [⟨Cells.recs [Sh.int IntKind.i64,Sh.str,Sh.int IntKind.i64] c,96,Kind.rows (3:Nat)⟩,⟨Cells.vals [V.int .i64 s,V.int .i64 i,V.row (0:Nat) n],31,Kind.box⟩])
def VC_spec_woOther (s:List UInt8)(K:V → Prop):Prop:=
 ((s=s∧nilB=othR (List.take (Int.toNat (0:Int)) s)∧(True∧(0:Int)=(0:Int))∧True)∧True∧True)∧At (othInv s (0:Int))∧∀(a:Int),othInv s a→(decide (a < (↑(List.length s):Int))=true→At ((0:Int)≤a∧a < (↑(List.length s):Int))∧
 (((↑(UInt8.toNat (List.getD s (Int.toNat a) (0:UInt8))):Int)==(76:Int))=true→At (List.length (othR (List.take (Int.toNat a) s)) + List.length (Array.toList #[(82:UInt8)])≤(9223372036854775807:Nat))∧((s=s∧
 othR (List.take (Int.toNat a) s) ++ Array.toList #[(82:UInt8)]=othR (List.take (Int.toNat (IntKind.wrap .i64 (a + (1:Int)))) s)∧(True∧IntKind.wrap .i64 (a + (1:Int))=IntKind.wrap .i64 (a + (1:Int)))∧True)∧True∧True)∧
 At (othInv s (IntKind.wrap .i64 (a + (1:Int)))∧Int.toNat ((↑(List.length s):Int) - IntKind.wrap .i64 (a + (1:Int))) < Int.toNat ((↑(List.length s):Int) - a)))∧
 (((↑(UInt8.toNat (List.getD s (Int.toNat a) (0:UInt8))):Int)==(76:Int))=false→(((↑(UInt8.toNat (List.getD s (Int.toNat a) (0:UInt8))):Int)==(82:Int))=true→
 At (List.length (othR (List.take (Int.toNat a) s)) + List.length (Array.toList #[(76:UInt8)])≤(9223372036854775807:Nat))∧((s=s∧
 othR (List.take (Int.toNat a) s) ++ Array.toList #[(76:UInt8)]=othR (List.take (Int.toNat (IntKind.wrap .i64 (a + (1:Int)))) s)∧(True∧IntKind.wrap .i64 (a + (1:Int))=IntKind.wrap .i64 (a + (1:Int)))∧True)∧True∧True)∧
 At (othInv s (IntKind.wrap .i64 (a + (1:Int)))∧Int.toNat ((↑(List.length s):Int) - IntKind.wrap .i64 (a + (1:Int))) < Int.toNat ((↑(List.length s):Int) - a)))∧
 (((↑(UInt8.toNat (List.getD s (Int.toNat a) (0:UInt8))):Int)==(82:Int))=false→At ((0:Int)≤a∧a≤IntKind.wrap .i64 (a + (1:Int))∧IntKind.wrap .i64 (a + (1:Int))≤(↑(List.length s):Int))∧
 At (List.length (othR (List.take (Int.toNat a) s)) + List.length (List.drop (Int.toNat a) (List.take (Int.toNat (IntKind.wrap .i64 (a + (1:Int)))) s))≤(9223372036854775807:Nat))∧((s=s∧
 othR (List.take (Int.toNat a) s) ++ List.drop (Int.toNat a) (List.take (Int.toNat (IntKind.wrap .i64 (a + (1:Int)))) s)=othR (List.take (Int.toNat (IntKind.wrap .i64 (a + (1:Int)))) s)∧(True∧
 IntKind.wrap .i64 (a + (1:Int))=IntKind.wrap .i64 (a + (1:Int)))∧True)∧True∧True)∧At (othInv s (IntKind.wrap .i64 (a + (1:Int)))∧
 Int.toNat ((↑(List.length s):Int) - IntKind.wrap .i64 (a + (1:Int))) < Int.toNat ((↑(List.length s):Int) - a)))))∧(decide (a < (↑(List.length s):Int))=false→K (V.str (othR (List.take (Int.toNat a) s))))
def VC_impl_exchanged (s:List UInt8)(K:V → Prop):Prop:=
 At (List.length s≤(9223372036854775807:Nat))∧((((0:Nat)=(0:Nat)∧List.length s=List.length s)∧((0:Nat)=(0:Nat)∧List.length s=List.length s)∧(True∧(↑(List.length s):Int)=(↑(List.length s):Int))∧(True∧(0:Int)=(0:Int))∧
 True)∧((True∧s=othRow s (0:Int))∧True)∧True)∧At (othInv s (0:Int))∧∀(a:Int),othInv s a→(decide (a < (↑(List.length s):Int))=true→At ((0:Int)≤a∧a < (↑(List.length s):Int))∧At (Int.toNat a < List.length (othRow s a))∧
 (((↑(UInt8.toNat (List.getD (othRow s a) (Int.toNat a) (0:UInt8))):Int)==(76:Int))=true→At ((0:Int)≤a∧a < (↑(List.length s):Int))∧At (Int.toNat a < List.length (othRow s a)∧(0:Int)≤(82:Int)∧(82:Int) < (256:Int))∧
 ((((0:Nat)=(0:Nat)∧List.length s=List.length s)∧((0:Nat)=(0:Nat)∧List.length s=List.length s)∧(True∧(↑(List.length s):Int)=(↑(List.length s):Int))∧(True∧IntKind.wrap .i64 (a + (1:Int))=IntKind.wrap .i64 (a + (1:Int)))∧
 True)∧((True∧List.set (othRow s a) (Int.toNat a) (UInt8.ofNat (Int.toNat (82:Int)))=othRow s (IntKind.wrap .i64 (a + (1:Int))))∧True)∧True)∧At (othInv s (IntKind.wrap .i64 (a + (1:Int)))∧
 Int.toNat ((↑(List.length s):Int) - IntKind.wrap .i64 (a + (1:Int))) < Int.toNat ((↑(List.length s):Int) - a)))∧(((↑(UInt8.toNat (List.getD (othRow s a) (Int.toNat a) (0:UInt8))):Int)==(76:Int))=false→
 (((↑(UInt8.toNat (List.getD (othRow s a) (Int.toNat a) (0:UInt8))):Int)==(82:Int))=true→At ((0:Int)≤a∧a < (↑(List.length s):Int))∧At (Int.toNat a < List.length (othRow s a)∧(0:Int)≤(76:Int)∧(76:Int) < (256:Int))∧
 ((((0:Nat)=(0:Nat)∧List.length s=List.length s)∧((0:Nat)=(0:Nat)∧List.length s=List.length s)∧(True∧(↑(List.length s):Int)=(↑(List.length s):Int))∧(True∧IntKind.wrap .i64 (a + (1:Int))=IntKind.wrap .i64 (a + (1:Int)))∧
 True)∧((True∧List.set (othRow s a) (Int.toNat a) (UInt8.ofNat (Int.toNat (76:Int)))=othRow s (IntKind.wrap .i64 (a + (1:Int))))∧True)∧True)∧At (othInv s (IntKind.wrap .i64 (a + (1:Int)))∧
 Int.toNat ((↑(List.length s):Int) - IntKind.wrap .i64 (a + (1:Int))) < Int.toNat ((↑(List.length s):Int) - a)))∧(((↑(UInt8.toNat (List.getD (othRow s a) (Int.toNat a) (0:UInt8))):Int)==(82:Int))=false→((((0:Nat)=(0:Nat)∧
 List.length s=List.length s)∧((0:Nat)=(0:Nat)∧List.length s=List.length s)∧(True∧(↑(List.length s):Int)=(↑(List.length s):Int))∧(True∧IntKind.wrap .i64 (a + (1:Int))=IntKind.wrap .i64 (a + (1:Int)))∧True)∧((True∧
 othRow s a=othRow s (IntKind.wrap .i64 (a + (1:Int))))∧True)∧True)∧At (othInv s (IntKind.wrap .i64 (a + (1:Int)))∧
 Int.toNat ((↑(List.length s):Int) - IntKind.wrap .i64 (a + (1:Int))) < Int.toNat ((↑(List.length s):Int) - a)))))∧(decide (a < (↑(List.length s):Int))=false→At (List.length s≤List.length (othRow s a))∧
 K (V.str (List.take (List.length s) (othRow s a))))
def VC_impl_Row (n:Nat)(c:List Sc)(K:V → List Blk → Prop):Prop:=
 At ((0:Nat) < n)∧At ((List.length ([]:List Sc)=(0:Nat) * (3:Nat)∧n * (3:Nat)≤List.length c)∧(0:Nat) < n∧(0:Nat) + n≤(1000000000:Nat))∧
 K (V.row (2:Nat) ((0:Nat) + n)) [⟨Cells.recs [Sh.int IntKind.i64,Sh.str,Sh.int IntKind.i64] c,96,Kind.rows (3:Nat)⟩,⟨Cells.dead,96,Kind.rows (3:Nat)⟩,⟨Cells.recs [Sh.int IntKind.i64,Sh.str,Sh.int IntKind.i64] (([]:List Sc) ++ List.take (n * (3:Nat)) c),96,Kind.rows (3:Nat)⟩]
def VC_impl_copied (s:Int)(i:Int)(n:Nat)(c:List Sc)(K:V → List Blk → Prop):Prop:=
 At (is3 c n∧n≤(2000000:Nat)∧(1:Nat)≤n)∧
 K (V.agg [V.int .i64 s,V.int .i64 i,V.row (3:Nat) n]) [⟨Cells.recs [Sh.int IntKind.i64,Sh.str,Sh.int IntKind.i64] c,96,Kind.rows (3:Nat)⟩,⟨Cells.vals [V.int .i64 s,V.int .i64 i,V.row (3:Nat) n],31,Kind.box⟩,⟨Cells.vals [V.int .i64 s,V.int .i64 i,V.row (3:Nat) n],31,Kind.box⟩,⟨Cells.recs [Sh.int IntKind.i64,Sh.str,Sh.int IntKind.i64] c,96,Kind.rows (3:Nat)⟩]
def VC_spec_MirrorTable_q1 (s:Int)(i:Int)(n:Nat)(c:List Sc)(a:Int):Prop:=
 ((At ((List.length (flat3 (List.map mr1 (List.take (Int.toNat a) (rows3 c))))=Int.toNat a * (3:Nat)∧
 (1:Nat) * (3:Nat)≤List.length [(Sc.mk (Sc.i (List.getD c (Int.toNat a * (3:Nat)) (Sc.mk ((0:Int)) ([]))) ) ([])),(Sc.mk ((0:Int)) (othR (Sc.s (List.getD c (Int.toNat a * (3:Nat) + (1:Nat)) { i := (0:Int),s := [] })))),(Sc.mk (Sc.i (List.getD c (Int.toNat a * (3:Nat) + (1:Nat) + (1:Nat)) (Sc.mk ((0:Int)) ([]))) ) ([]))])∧
 (0:Nat) < (1:Nat)∧Int.toNat a + (1:Nat)≤(1000000000:Nat))∧(True∧(((1:Nat)=(1:Nat)∧(0:Nat)=(0:Nat))∧((2:Nat)=(2:Nat)∧(0:Nat)=(0:Nat))∧((0:Nat)=(0:Nat)∧n=n)∧(True∧(↑n:Int)=(↑n:Int))∧(True∧a=a)∧True)∧((True∧True∧c=c)∧(True∧
 (True∧(0:Int)=(0:Int))∧(True∧(0:Int)=(0:Int))∧Value.slice none (0:Nat) (0:Nat)=Value.slice none (0:Nat) (0:Nat)∧True)∧(True∧(True∧s=s)∧(True∧i=i)∧((3:Nat)=(3:Nat)∧Int.toNat a + (1:Nat)=Int.toNat a + (1:Nat))∧True)∧(True∧
 True∧
 flat3 (List.map mr1 (List.take (Int.toNat a) (rows3 c))) ++ List.take ((1:Nat) * (3:Nat)) [(Sc.mk (Sc.i (List.getD c (Int.toNat a * (3:Nat)) (Sc.mk ((0:Int)) ([]))) ) ([])),(Sc.mk ((0:Int)) (othR (Sc.s (List.getD c (Int.toNat a * (3:Nat) + (1:Nat)) { i := (0:Int),s := [] })))),(Sc.mk (Sc.i (List.getD c (Int.toNat a * (3:Nat) + (1:Nat) + (1:Nat)) (Sc.mk ((0:Int)) ([]))) ) ([]))]=flat3 (List.map mr1 (List.take (Int.toNat a) (rows3 c))) ++ [(Sc.mk (Sc.i (List.getD c (Int.toNat a * (3:Nat)) (Sc.mk ((0:Int)) ([]))) ) ([])),(Sc.mk ((0:Int)) (othR (Sc.s (List.getD c (Int.toNat a * (3:Nat) + (1:Nat)) { i := (0:Int),s := [] })))),(Sc.mk (Sc.i (List.getD c (Int.toNat a * (3:Nat) + (1:Nat) + (1:Nat)) (Sc.mk ((0:Int)) ([]))) ) ([]))])∧
 True)∧True)∧True)∧True)
def VC_spec_MirrorTable (s:Int)(i:Int)(n:Nat)(c:List Sc)(K:V → List Blk → Prop):Prop:=
 At (is3 c n∧n≤(2000000:Nat))∧((!tabB s i (rows3 c))=true→
 K (V.tup [V.agg [V.int .i64 (0:Int),V.int .i64 (0:Int),V.raw (Value.slice none (0:Nat) (0:Nat))],V.lit false]) [⟨Cells.recs [Sh.int IntKind.i64,Sh.str,Sh.int IntKind.i64] c,96,Kind.rows (3:Nat)⟩,⟨Cells.vals [V.int .i64 s,V.int .i64 i,V.row (0:Nat) n],31,Kind.box⟩,⟨Cells.vals [V.int .i64 (0:Int),V.int .i64 (0:Int),V.raw (Value.slice none (0:Nat) (0:Nat))],31,Kind.box⟩])∧
 ((!tabB s i (rows3 c))=false→(True∧(((1:Nat)=(1:Nat)∧(0:Nat)=(0:Nat))∧((2:Nat)=(2:Nat)∧(0:Nat)=(0:Nat))∧((0:Nat)=(0:Nat)∧n=n)∧(True∧(↑n:Int)=(↑n:Int))∧(True∧(0:Int)=(0:Int))∧True)∧((True∧True∧c=c)∧(True∧(True∧
 (0:Int)=(0:Int))∧(True∧(0:Int)=(0:Int))∧Value.slice none (0:Nat) (0:Nat)=Value.slice none (0:Nat) (0:Nat)∧True)∧(True∧(True∧s=s)∧(True∧i=i)∧((3:Nat)=(3:Nat)∧(0:Nat)=(0:Nat))∧True)∧(True∧True∧
 []=flat3 (List.map mr1 (List.take (Int.toNat (0:Int)) (rows3 c))))∧True)∧True)∧At (miInv (tabB s i (rows3 c)) n (0:Int))∧∀(a:Int),miInv (tabB s i (rows3 c)) n a→(decide (a < (↑n:Int))=true→At ((0:Int)≤a∧a < (↑n:Int))∧
 At (Int.toNat a * (3:Nat) + (3:Nat)≤List.length c∧Int.toNat a * (3:Nat) % (3:Nat)=(0:Nat))∧((((((At (List.length (Sc.s (List.getD c (Int.toNat a * (3:Nat) + (1:Nat)) (Sc.mk ((0:Int)) ([]))))≤(1000:Nat))∧
 ((VC_spec_MirrorTable_q1 s i n c a)∧True)∧True)∧((At (List.length (Sc.s (List.getD c (Int.toNat a * (3:Nat) + (1:Nat)) (Sc.mk ((0:Int)) ([]))))≤(1000:Nat))∧(VC_spec_MirrorTable_q1 s i n c a)∧True)∧True)∧True)∧
 (((At (List.length (Sc.s (List.getD c (Int.toNat a * (3:Nat) + (1:Nat)) (Sc.mk ((0:Int)) ([]))))≤(1000:Nat))∧(VC_spec_MirrorTable_q1 s i n c a)∧True)∧True)∧True)∧True)∧
 (((At (List.length (Sc.s (List.getD c (Int.toNat a * (3:Nat) + (1:Nat)) (Sc.mk ((0:Int)) ([]))))≤(1000:Nat))∧((VC_spec_MirrorTable_q1 s i n c a)∧True)∧True)∧
 ((At (List.length (Sc.s (List.getD c (Int.toNat a * (3:Nat) + (1:Nat)) (Sc.mk ((0:Int)) ([]))))≤(1000:Nat))∧(VC_spec_MirrorTable_q1 s i n c a)∧True)∧True)∧True)∧
 (At (List.length (Sc.s (List.getD c (Int.toNat a * (3:Nat) + (1:Nat)) (Sc.mk ((0:Int)) ([]))))≤(1000:Nat))∧(((VC_spec_MirrorTable_q1 s i n c a)∧True)∧True)∧(((VC_spec_MirrorTable_q1 s i n c a)∧True)∧True)∧True)∧
 (((At (List.length (Sc.s (List.getD c (Int.toNat a * (3:Nat) + (1:Nat)) (Sc.mk ((0:Int)) ([]))))≤(1000:Nat))∧(VC_spec_MirrorTable_q1 s i n c a)∧True)∧True)∧
 (At (List.length (Sc.s (List.getD c (Int.toNat a * (3:Nat) + (1:Nat)) (Sc.mk ((0:Int)) ([]))))≤(1000:Nat))∧((VC_spec_MirrorTable_q1 s i n c a)∧True)∧True)∧True)∧True)∧
 ((((At (List.length (Sc.s (List.getD c (Int.toNat a * (3:Nat) + (1:Nat)) (Sc.mk ((0:Int)) ([]))))≤(1000:Nat))∧(VC_spec_MirrorTable_q1 s i n c a)∧True)∧True)∧True)∧
 (((At (List.length (Sc.s (List.getD c (Int.toNat a * (3:Nat) + (1:Nat)) (Sc.mk ((0:Int)) ([]))))≤(1000:Nat))∧(VC_spec_MirrorTable_q1 s i n c a)∧True)∧True)∧
 (At (List.length (Sc.s (List.getD c (Int.toNat a * (3:Nat) + (1:Nat)) (Sc.mk ((0:Int)) ([]))))≤(1000:Nat))∧((VC_spec_MirrorTable_q1 s i n c a)∧True)∧True)∧True)∧True)∧True)∧
 ((((At (List.length (Sc.s (List.getD c (Int.toNat a * (3:Nat) + (1:Nat)) (Sc.mk ((0:Int)) ([]))))≤(1000:Nat))∧((VC_spec_MirrorTable_q1 s i n c a)∧True)∧True)∧
 ((At (List.length (Sc.s (List.getD c (Int.toNat a * (3:Nat) + (1:Nat)) (Sc.mk ((0:Int)) ([]))))≤(1000:Nat))∧(VC_spec_MirrorTable_q1 s i n c a)∧True)∧True)∧True)∧
 (((At (List.length (Sc.s (List.getD c (Int.toNat a * (3:Nat) + (1:Nat)) (Sc.mk ((0:Int)) ([]))))≤(1000:Nat))∧(VC_spec_MirrorTable_q1 s i n c a)∧True)∧True)∧True)∧True)∧
 (((At (List.length (Sc.s (List.getD c (Int.toNat a * (3:Nat) + (1:Nat)) (Sc.mk ((0:Int)) ([]))))≤(1000:Nat))∧((VC_spec_MirrorTable_q1 s i n c a)∧True)∧True)∧
 ((At (List.length (Sc.s (List.getD c (Int.toNat a * (3:Nat) + (1:Nat)) (Sc.mk ((0:Int)) ([]))))≤(1000:Nat))∧(VC_spec_MirrorTable_q1 s i n c a)∧True)∧True)∧True)∧
 (At (List.length (Sc.s (List.getD c (Int.toNat a * (3:Nat) + (1:Nat)) (Sc.mk ((0:Int)) ([]))))≤(1000:Nat))∧(((VC_spec_MirrorTable_q1 s i n c a)∧True)∧True)∧(((VC_spec_MirrorTable_q1 s i n c a)∧True)∧
 (VC_spec_MirrorTable_q1 s i n c a)∧True)∧True)∧(((At (List.length (Sc.s (List.getD c (Int.toNat a * (3:Nat) + (1:Nat)) (Sc.mk ((0:Int)) ([]))))≤(1000:Nat))∧(VC_spec_MirrorTable_q1 s i n c a)∧True)∧True)∧
 (At (List.length (Sc.s (List.getD c (Int.toNat a * (3:Nat) + (1:Nat)) (Sc.mk ((0:Int)) ([]))))≤(1000:Nat))∧((VC_spec_MirrorTable_q1 s i n c a)∧True)∧(VC_spec_MirrorTable_q1 s i n c a)∧True)∧True)∧True)∧
 ((((At (List.length (Sc.s (List.getD c (Int.toNat a * (3:Nat) + (1:Nat)) (Sc.mk ((0:Int)) ([]))))≤(1000:Nat))∧(VC_spec_MirrorTable_q1 s i n c a)∧True)∧True)∧True)∧
 (((At (List.length (Sc.s (List.getD c (Int.toNat a * (3:Nat) + (1:Nat)) (Sc.mk ((0:Int)) ([]))))≤(1000:Nat))∧(VC_spec_MirrorTable_q1 s i n c a)∧True)∧True)∧
 (At (List.length (Sc.s (List.getD c (Int.toNat a * (3:Nat) + (1:Nat)) (Sc.mk ((0:Int)) ([]))))≤(1000:Nat))∧((VC_spec_MirrorTable_q1 s i n c a)∧True)∧(VC_spec_MirrorTable_q1 s i n c a)∧True)∧True)∧True)∧True)∧
 ((((At (List.length (Sc.s (List.getD c (Int.toNat a * (3:Nat) + (1:Nat)) (Sc.mk ((0:Int)) ([]))))≤(1000:Nat))∧((VC_spec_MirrorTable_q1 s i n c a)∧True)∧True)∧
 ((At (List.length (Sc.s (List.getD c (Int.toNat a * (3:Nat) + (1:Nat)) (Sc.mk ((0:Int)) ([]))))≤(1000:Nat))∧(VC_spec_MirrorTable_q1 s i n c a)∧True)∧True)∧True)∧
 (At (List.length (Sc.s (List.getD c (Int.toNat a * (3:Nat) + (1:Nat)) (Sc.mk ((0:Int)) ([]))))≤(1000:Nat))∧(((VC_spec_MirrorTable_q1 s i n c a)∧True)∧True)∧(((VC_spec_MirrorTable_q1 s i n c a)∧True)∧True)∧True)∧
 (((At (List.length (Sc.s (List.getD c (Int.toNat a * (3:Nat) + (1:Nat)) (Sc.mk ((0:Int)) ([]))))≤(1000:Nat))∧(VC_spec_MirrorTable_q1 s i n c a)∧True)∧True)∧
 (At (List.length (Sc.s (List.getD c (Int.toNat a * (3:Nat) + (1:Nat)) (Sc.mk ((0:Int)) ([]))))≤(1000:Nat))∧((VC_spec_MirrorTable_q1 s i n c a)∧True)∧True)∧True)∧True)∧
 (((At (List.length (Sc.s (List.getD c (Int.toNat a * (3:Nat) + (1:Nat)) (Sc.mk ((0:Int)) ([]))))≤(1000:Nat))∧((VC_spec_MirrorTable_q1 s i n c a)∧True)∧True)∧
 ((At (List.length (Sc.s (List.getD c (Int.toNat a * (3:Nat) + (1:Nat)) (Sc.mk ((0:Int)) ([]))))≤(1000:Nat))∧(VC_spec_MirrorTable_q1 s i n c a)∧True)∧True)∧True)∧
 (At (List.length (Sc.s (List.getD c (Int.toNat a * (3:Nat) + (1:Nat)) (Sc.mk ((0:Int)) ([]))))≤(1000:Nat))∧(((VC_spec_MirrorTable_q1 s i n c a)∧True)∧True)∧(((VC_spec_MirrorTable_q1 s i n c a)∧True)∧
 (VC_spec_MirrorTable_q1 s i n c a)∧True)∧True)∧(((At (List.length (Sc.s (List.getD c (Int.toNat a * (3:Nat) + (1:Nat)) (Sc.mk ((0:Int)) ([]))))≤(1000:Nat))∧(VC_spec_MirrorTable_q1 s i n c a)∧True)∧True)∧
 (At (List.length (Sc.s (List.getD c (Int.toNat a * (3:Nat) + (1:Nat)) (Sc.mk ((0:Int)) ([]))))≤(1000:Nat))∧((VC_spec_MirrorTable_q1 s i n c a)∧True)∧(VC_spec_MirrorTable_q1 s i n c a)∧True)∧True)∧True)∧
 (At (List.length (Sc.s (List.getD c (Int.toNat a * (3:Nat) + (1:Nat)) (Sc.mk ((0:Int)) ([]))))≤(1000:Nat))∧((((VC_spec_MirrorTable_q1 s i n c a)∧True)∧True)∧(((VC_spec_MirrorTable_q1 s i n c a)∧True)∧True)∧True)∧
 ((((VC_spec_MirrorTable_q1 s i n c a)∧True)∧True)∧(((VC_spec_MirrorTable_q1 s i n c a)∧True)∧(VC_spec_MirrorTable_q1 s i n c a)∧True)∧True)∧((((VC_spec_MirrorTable_q1 s i n c a)∧True)∧True)∧
 (((VC_spec_MirrorTable_q1 s i n c a)∧True)∧(VC_spec_MirrorTable_q1 s i n c a)∧True)∧True)∧True)∧((((At (List.length (Sc.s (List.getD c (Int.toNat a * (3:Nat) + (1:Nat)) (Sc.mk ((0:Int)) ([]))))≤(1000:Nat))∧
 (VC_spec_MirrorTable_q1 s i n c a)∧True)∧True)∧(At (List.length (Sc.s (List.getD c (Int.toNat a * (3:Nat) + (1:Nat)) (Sc.mk ((0:Int)) ([]))))≤(1000:Nat))∧((VC_spec_MirrorTable_q1 s i n c a)∧True)∧True)∧True)∧
 (((At (List.length (Sc.s (List.getD c (Int.toNat a * (3:Nat) + (1:Nat)) (Sc.mk ((0:Int)) ([]))))≤(1000:Nat))∧(VC_spec_MirrorTable_q1 s i n c a)∧True)∧True)∧
 (At (List.length (Sc.s (List.getD c (Int.toNat a * (3:Nat) + (1:Nat)) (Sc.mk ((0:Int)) ([]))))≤(1000:Nat))∧((VC_spec_MirrorTable_q1 s i n c a)∧True)∧(VC_spec_MirrorTable_q1 s i n c a)∧True)∧True)∧
 (At (List.length (Sc.s (List.getD c (Int.toNat a * (3:Nat) + (1:Nat)) (Sc.mk ((0:Int)) ([]))))≤(1000:Nat))∧(((VC_spec_MirrorTable_q1 s i n c a)∧True)∧True)∧(((VC_spec_MirrorTable_q1 s i n c a)∧True)∧
 (VC_spec_MirrorTable_q1 s i n c a)∧True)∧True)∧True)∧True)∧(((((At (List.length (Sc.s (List.getD c (Int.toNat a * (3:Nat) + (1:Nat)) (Sc.mk ((0:Int)) ([]))))≤(1000:Nat))∧(VC_spec_MirrorTable_q1 s i n c a)∧True)∧True)∧
 True)∧(((At (List.length (Sc.s (List.getD c (Int.toNat a * (3:Nat) + (1:Nat)) (Sc.mk ((0:Int)) ([]))))≤(1000:Nat))∧(VC_spec_MirrorTable_q1 s i n c a)∧True)∧True)∧
 (At (List.length (Sc.s (List.getD c (Int.toNat a * (3:Nat) + (1:Nat)) (Sc.mk ((0:Int)) ([]))))≤(1000:Nat))∧((VC_spec_MirrorTable_q1 s i n c a)∧True)∧True)∧True)∧True)∧
 ((((At (List.length (Sc.s (List.getD c (Int.toNat a * (3:Nat) + (1:Nat)) (Sc.mk ((0:Int)) ([]))))≤(1000:Nat))∧(VC_spec_MirrorTable_q1 s i n c a)∧True)∧True)∧True)∧
 (((At (List.length (Sc.s (List.getD c (Int.toNat a * (3:Nat) + (1:Nat)) (Sc.mk ((0:Int)) ([]))))≤(1000:Nat))∧(VC_spec_MirrorTable_q1 s i n c a)∧True)∧True)∧
 (At (List.length (Sc.s (List.getD c (Int.toNat a * (3:Nat) + (1:Nat)) (Sc.mk ((0:Int)) ([]))))≤(1000:Nat))∧((VC_spec_MirrorTable_q1 s i n c a)∧True)∧(VC_spec_MirrorTable_q1 s i n c a)∧True)∧True)∧True)∧
 ((((At (List.length (Sc.s (List.getD c (Int.toNat a * (3:Nat) + (1:Nat)) (Sc.mk ((0:Int)) ([]))))≤(1000:Nat))∧(VC_spec_MirrorTable_q1 s i n c a)∧True)∧True)∧
 (At (List.length (Sc.s (List.getD c (Int.toNat a * (3:Nat) + (1:Nat)) (Sc.mk ((0:Int)) ([]))))≤(1000:Nat))∧((VC_spec_MirrorTable_q1 s i n c a)∧True)∧True)∧True)∧
 (((At (List.length (Sc.s (List.getD c (Int.toNat a * (3:Nat) + (1:Nat)) (Sc.mk ((0:Int)) ([]))))≤(1000:Nat))∧(VC_spec_MirrorTable_q1 s i n c a)∧True)∧True)∧
 (At (List.length (Sc.s (List.getD c (Int.toNat a * (3:Nat) + (1:Nat)) (Sc.mk ((0:Int)) ([]))))≤(1000:Nat))∧((VC_spec_MirrorTable_q1 s i n c a)∧True)∧(VC_spec_MirrorTable_q1 s i n c a)∧True)∧True)∧
 (At (List.length (Sc.s (List.getD c (Int.toNat a * (3:Nat) + (1:Nat)) (Sc.mk ((0:Int)) ([]))))≤(1000:Nat))∧(((VC_spec_MirrorTable_q1 s i n c a)∧True)∧True)∧(((VC_spec_MirrorTable_q1 s i n c a)∧True)∧
 (VC_spec_MirrorTable_q1 s i n c a)∧True)∧True)∧True)∧True)∧True)∧True∧(((1:Nat)=(1:Nat)∧(0:Nat)=(0:Nat))∧((2:Nat)=(2:Nat)∧(0:Nat)=(0:Nat))∧((0:Nat)=(0:Nat)∧n=n)∧(True∧(↑n:Int)=(↑n:Int))∧(True∧a=a)∧True)∧((True∧True∧c=c)∧
 (True∧(True∧(0:Int)=(0:Int))∧(True∧(0:Int)=(0:Int))∧Value.slice none (0:Nat) (0:Nat)=Value.slice none (0:Nat) (0:Nat)∧True)∧(True∧(True∧s=s)∧(True∧i=i)∧((3:Nat)=(3:Nat)∧Int.toNat a + (1:Nat)=Int.toNat a + (1:Nat))∧True)∧
 (True∧True∧
 flat3 (List.map mr1 (List.take (Int.toNat a) (rows3 c))) ++ [(Sc.mk (Sc.i (List.getD c (Int.toNat a * (3:Nat)) (Sc.mk ((0:Int)) ([]))) ) ([])),(Sc.mk ((0:Int)) (othR (Sc.s (List.getD c (Int.toNat a * (3:Nat) + (1:Nat)) { i := (0:Int),s := [] })))),(Sc.mk (Sc.i (List.getD c (Int.toNat a * (3:Nat) + (1:Nat) + (1:Nat)) (Sc.mk ((0:Int)) ([]))) ) ([]))]=flat3 (List.map mr1 (List.take (Int.toNat a) (rows3 c))) ++ [(Sc.mk (Sc.i (List.getD c (Int.toNat a * (3:Nat)) (Sc.mk ((0:Int)) ([]))) ) ([])),(Sc.mk ((0:Int)) (othR (Sc.s (List.getD c (Int.toNat a * (3:Nat) + (1:Nat)) { i := (0:Int),s := [] })))),(Sc.mk (Sc.i (List.getD c (Int.toNat a * (3:Nat) + (1:Nat) + (1:Nat)) (Sc.mk ((0:Int)) ([]))) ) ([]))])∧
 True)∧True)∧(True∧(((1:Nat)=(1:Nat)∧(0:Nat)=(0:Nat))∧((2:Nat)=(2:Nat)∧(0:Nat)=(0:Nat))∧((0:Nat)=(0:Nat)∧n=n)∧(True∧(↑n:Int)=(↑n:Int))∧(True∧IntKind.wrap .i64 (a + (1:Int))=IntKind.wrap .i64 (a + (1:Int)))∧True)∧((True∧
 True∧c=c)∧(True∧(True∧(0:Int)=(0:Int))∧(True∧(0:Int)=(0:Int))∧Value.slice none (0:Nat) (0:Nat)=Value.slice none (0:Nat) (0:Nat)∧True)∧(True∧(True∧s=s)∧(True∧i=i)∧((3:Nat)=(3:Nat)∧
 Int.toNat a + (1:Nat)=Int.toNat (IntKind.wrap .i64 (a + (1:Int))))∧True)∧(True∧True∧
 flat3 (List.map mr1 (List.take (Int.toNat a) (rows3 c))) ++ [(Sc.mk (Sc.i (List.getD c (Int.toNat a * (3:Nat)) (Sc.mk ((0:Int)) ([]))) ) ([])),(Sc.mk ((0:Int)) (othR (Sc.s (List.getD c (Int.toNat a * (3:Nat) + (1:Nat)) { i := (0:Int),s := [] })))),(Sc.mk (Sc.i (List.getD c (Int.toNat a * (3:Nat) + (1:Nat) + (1:Nat)) (Sc.mk ((0:Int)) ([]))) ) ([]))]=flat3 (List.map mr1 (List.take (Int.toNat (IntKind.wrap .i64 (a + (1:Int)))) (rows3 c))))∧
 True)∧True)∧At (miInv (tabB s i (rows3 c)) n (IntKind.wrap .i64 (a + (1:Int)))∧Int.toNat ((↑n:Int) - IntKind.wrap .i64 (a + (1:Int))) < Int.toNat ((↑n:Int) - a)))∧(decide (a < (↑n:Int))=false→
 K (V.tup [V.agg [V.int .i64 s,V.int .i64 i,V.row (3:Nat) (Int.toNat a)],V.lit true]) [⟨Cells.recs [Sh.int IntKind.i64,Sh.str,Sh.int IntKind.i64] c,96,Kind.rows (3:Nat)⟩,⟨Cells.vals [V.int .i64 s,V.int .i64 i,V.row (3:Nat) (Int.toNat a)],31,Kind.box⟩,⟨Cells.vals [V.int .i64 s,V.int .i64 i,V.row (3:Nat) (Int.toNat a)],31,Kind.box⟩,⟨Cells.recs [Sh.int IntKind.i64,Sh.str,Sh.int IntKind.i64] (flat3 (List.map mr1 (List.take (Int.toNat a) (rows3 c)))),96,Kind.rows (3:Nat)⟩]))
def VC_impl_MirrorTable (s:Int)(i:Int)(n:Nat)(c:List Sc)(g0:List UInt8)(g1:List UInt8)(g2:List UInt8)(g3:List UInt8)(K:V → List Blk → Prop):Prop:=
 At (is3 c n∧n≤(2000000:Nat)∧isSg g0 g1 g2 g3)∧((!tabB s i (rows3 c))=true→
 K (V.tup [V.agg [V.int .i64 (0:Int),V.int .i64 (0:Int),V.raw (Value.slice none (0:Nat) (0:Nat))],V.lit false]) [⟨Cells.recs [Sh.int IntKind.i64,Sh.str,Sh.int IntKind.i64] c,96,Kind.rows (3:Nat)⟩,⟨Cells.vals [V.str g0,V.str g1,V.str g2,V.str g3],9,Kind.gl (0:Nat)⟩,⟨Cells.vals [V.int .i64 s,V.int .i64 i,V.row (0:Nat) n],31,Kind.box⟩,⟨Cells.vals [V.int .i64 (0:Int),V.int .i64 (0:Int),V.raw (Value.slice none (0:Nat) (0:Nat))],31,Kind.box⟩])∧
 ((!tabB s i (rows3 c))=false→At (is3 c n∧n≤(2000000:Nat)∧(1:Nat)≤n)∧(True∧(((2:Nat)=(2:Nat)∧(0:Nat)=(0:Nat))∧((3:Nat)=(3:Nat)∧(0:Nat)=(0:Nat))∧((0:Nat)=(0:Nat)∧n=n)∧(True∧(↑n:Int)=(↑n:Int))∧(True∧(0:Int)=(0:Int))∧True)∧
 ((True∧True∧c=c)∧(True∧g0=g0∧g1=g1∧g2=g2∧g3=g3∧True)∧(True∧(True∧(0:Int)=(0:Int))∧(True∧(0:Int)=(0:Int))∧Value.slice none (0:Nat) (0:Nat)=Value.slice none (0:Nat) (0:Nat)∧True)∧(True∧(True∧s=s)∧(True∧i=i)∧
 ((4:Nat)=(4:Nat)∧n=n)∧True)∧(True∧True∧c=flat3 (mrRow (rows3 c) (Int.toNat (0:Int))))∧True)∧True)∧At (miInv (tabB s i (rows3 c)) n (0:Int))∧∀(a:Int),miInv (tabB s i (rows3 c)) n a→(decide (a < (↑n:Int))=true→
 At ((0:Int)≤a∧a < (↑n:Int))∧At (Int.toNat a * (3:Nat) + (3:Nat)≤List.length c∧Int.toNat a * (3:Nat) % (3:Nat)=(0:Nat))∧True∧
 At (List.length (Sc.s (List.getD c (Int.toNat a * (3:Nat) + (1:Nat)) (Sc.mk ((0:Int)) ([]))))≤(1000:Nat))∧At ((0:Int)≤a∧a < (↑n:Int))∧
 At (Int.toNat a * (3:Nat) + (1:Nat) < List.length (flat3 (mrRow (rows3 c) (Int.toNat a)))∧shAt [Sh.int IntKind.i64,Sh.str,Sh.int IntKind.i64] (Int.toNat a * (3:Nat) + (1:Nat))=Sh.str)∧(True∧(((2:Nat)=(2:Nat)∧
 (0:Nat)=(0:Nat))∧((3:Nat)=(3:Nat)∧(0:Nat)=(0:Nat))∧((0:Nat)=(0:Nat)∧n=n)∧(True∧(↑n:Int)=(↑n:Int))∧(True∧IntKind.wrap .i64 (a + (1:Int))=IntKind.wrap .i64 (a + (1:Int)))∧True)∧((True∧True∧c=c)∧(True∧g0=g0∧g1=g1∧g2=g2∧
 g3=g3∧True)∧(True∧(True∧(0:Int)=(0:Int))∧(True∧(0:Int)=(0:Int))∧Value.slice none (0:Nat) (0:Nat)=Value.slice none (0:Nat) (0:Nat)∧True)∧(True∧(True∧s=s)∧(True∧i=i)∧((4:Nat)=(4:Nat)∧n=n)∧True)∧(True∧True∧
 List.set (flat3 (mrRow (rows3 c) (Int.toNat a))) (Int.toNat a * (3:Nat) + (1:Nat)) (Sc.mk ((0:Int)) (othR (Sc.s (List.getD c (Int.toNat a * (3:Nat) + (1:Nat)) { i := (0:Int),s := [] }))))=flat3 (mrRow (rows3 c) (Int.toNat (IntKind.wrap .i64 (a + (1:Int))))))∧
 True)∧True)∧At (miInv (tabB s i (rows3 c)) n (IntKind.wrap .i64 (a + (1:Int)))∧Int.toNat ((↑n:Int) - IntKind.wrap .i64 (a + (1:Int))) < Int.toNat ((↑n:Int) - a)))∧(decide (a < (↑n:Int))=false→
 K (V.tup [V.agg [V.int .i64 s,V.int .i64 i,V.row (4:Nat) n],V.lit true]) [⟨Cells.recs [Sh.int IntKind.i64,Sh.str,Sh.int IntKind.i64] c,96,Kind.rows (3:Nat)⟩,⟨Cells.vals [V.str g0,V.str g1,V.str g2,V.str g3],9,Kind.gl (0:Nat)⟩,⟨Cells.vals [V.int .i64 s,V.int .i64 i,V.row (4:Nat) n],31,Kind.box⟩,⟨Cells.vals [V.int .i64 s,V.int .i64 i,V.row (4:Nat) n],31,Kind.box⟩,⟨Cells.recs [Sh.int IntKind.i64,Sh.str,Sh.int IntKind.i64] (flat3 (mrRow (rows3 c) (Int.toNat a))),96,Kind.rows (3:Nat)⟩]))
end Go.Vi
