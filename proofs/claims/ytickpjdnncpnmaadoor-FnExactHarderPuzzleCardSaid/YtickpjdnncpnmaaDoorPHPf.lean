import Derived.Test.YtickpjdnncpnmaaDoorPNPf
/- Puzzles: harder puzzles. -/
namespace Go.Vi
end Go.Vi

/- Closed forms of the functions of this chapter. -/
namespace Go.Vi
set_option linter.unusedVariables false
def F_spec_HarderPuzzle : GSpec := fun args m =>
 match args, m with
 | [.agg [.str pr, .int .i64 pw, .int .i64 ph, .row 0 n]], [⟨.ints .i64 a, 83, .rows 3⟩] => some (a.length = n * 3 /\ n <= 2000000, .tup [.agg [.str (bif hrG pr pw ph n a then pr else []), .int .i64 (bif hrG pr pw ph n a then pw else 0), .int .i64 (bif hrG pr pw ph n a then ph else 0), .row 1 (hrN pr pw ph n a)], .bool (hrG pr pw ph n a)], [⟨.ints .i64 a, 83, .rows 3⟩, ⟨.ints .i64 (hrB pr pw ph n a), 83, .rows 3⟩])
 | _, _ => none
def F_impl_HarderPuzzle : GSpec := fun args m =>
 match args, m with
 | [.agg [.str pr, .int .i64 pw, .int .i64 ph, .row 0 n]], [⟨.ints .i64 a, 83, .rows 3⟩] => some (a.length = n * 3 /\ n <= 2000000, .tup [.agg [.str (bif hrG pr pw ph n a then pr else []), .int .i64 (bif hrG pr pw ph n a then pw else 0), .int .i64 (bif hrG pr pw ph n a then ph else 0), .row 1 (hrN pr pw ph n a)], .bool (hrG pr pw ph n a)], [⟨.ints .i64 a, 83, .rows 3⟩, ⟨.ints .i64 (hrB pr pw ph n a), 83, .rows 3⟩])
 | _, _ => none
end Go.Vi

/- The conditions, reckoned out by program: texts alone. -/
namespace Go.Vi
set_option linter.unusedVariables false
def VC_spec_HarderPuzzle (pr:List UInt8)(pw:Int)(ph:Int)(n:Nat)(a:List Int)(K:V → List Blk → Prop):Prop:=
 At (List.length a=n * (3:Nat)∧n≤(2000000:Nat))∧((!goodZ pr pw ph n a)=true→
 K (V.tup [V.agg [V.str ([]:List UInt8),V.int .i64 (0:Int),V.int .i64 (0:Int),V.raw (Value.slice none (0:Nat) (0:Nat))],V.lit false]) [⟨Cells.ints .i64 a,83,Kind.rows (3:Nat)⟩,⟨Cells.vals [V.str pr,V.int .i64 pw,V.int .i64 ph,V.row (0:Nat) n],31,Kind.box⟩,⟨Cells.vals [V.str ([]:List UInt8),V.int .i64 (0:Int),V.int .i64 (0:Int),V.raw (Value.slice none (0:Nat) (0:Nat))],31,Kind.box⟩])∧
 ((!goodZ pr pw ph n a)=false→At (goodZ pr pw ph n a=true∧List.length a=n * (3:Nat))∧((!(↑(List.length (solZ pr pw ph n a)):Int)==(1:Int))=true→
 K (V.tup [V.agg [V.str ([]:List UInt8),V.int .i64 (0:Int),V.int .i64 (0:Int),V.raw (Value.slice none (0:Nat) (0:Nat))],V.lit false]) [⟨Cells.ints .i64 a,83,Kind.rows (3:Nat)⟩,⟨Cells.vals [V.str pr,V.int .i64 pw,V.int .i64 ph,V.row (0:Nat) n],31,Kind.box⟩,⟨Cells.vals [V.str ([]:List UInt8),V.int .i64 (0:Int),V.int .i64 (0:Int),V.raw (Value.slice none (0:Nat) (0:Nat))],31,Kind.box⟩])∧
 ((!(↑(List.length (solZ pr pw ph n a)):Int)==(1:Int))=false→At ((List.length ([]:List Int)=(0:Nat) * (3:Nat)∧n * (3:Nat)≤List.length a)∧posM (rowKind (3:Nat)) n∧(0:Nat) + n≤(1000000000:Nat))∧(True∧(((1:Nat)=(1:Nat)∧
 (0:Nat)=(0:Nat))∧((2:Nat)=(2:Nat)∧(0:Nat)=(0:Nat))∧false=false∧((3:Nat)=(3:Nat)∧(0:Nat) + n=keepN (hrM pr pw ph n a (Int.toNat ((0:Int) + ((↑n:Int) - (↑((0:Nat) + n):Int))))) n)∧(True∧
 (0:Int)=(↑(keepN (hrM pr pw ph n a (Int.toNat ((0:Int) + ((↑n:Int) - (↑((0:Nat) + n):Int))))) (Int.toNat ((0:Int) + ((↑n:Int) - (↑((0:Nat) + n):Int))))):Int))∧True)∧((True∧IntKind.i64=IntKind.i64∧a=a)∧(True∧pr=pr∧(True∧
 pw=pw)∧(True∧ph=ph)∧((0:Nat)=(0:Nat)∧n=n)∧True)∧(True∧nilB=nilB∧(True∧(0:Int)=(0:Int))∧(True∧(0:Int)=(0:Int))∧Value.slice none (0:Nat) (0:Nat)=Value.slice none (0:Nat) (0:Nat)∧True)∧(True∧IntKind.i64=IntKind.i64∧
 ([]:List Int) ++ List.take (n * (3:Nat)) a=keepL a (hrM pr pw ph n a (Int.toNat ((0:Int) + ((↑n:Int) - (↑((0:Nat) + n):Int))))) n)∧True)∧True)∧At (kInv n ((0:Int) + ((↑n:Int) - (↑((0:Nat) + n):Int))))∧
 ∀(a_3:Int),kInv n a_3→(decide ((↑(keepN (hrM pr pw ph n a (Int.toNat a_3)) (Int.toNat a_3)):Int) < (↑(keepN (hrM pr pw ph n a (Int.toNat a_3)) n):Int))=true→
 At (List.length (keepL a (hrM pr pw ph n a (Int.toNat a_3)) n)=keepN (hrM pr pw ph n a (Int.toNat a_3)) n * (3:Nat)∧keepN (hrM pr pw ph n a (Int.toNat a_3)) n≤(2000000:Nat)∧
 (0:Int)≤(↑(keepN (hrM pr pw ph n a (Int.toNat a_3)) (Int.toNat a_3)):Int)∧(↑(keepN (hrM pr pw ph n a (Int.toNat a_3)) (Int.toNat a_3)):Int) < (↑(keepN (hrM pr pw ph n a (Int.toNat a_3)) n):Int))∧
 At (goodZ pr pw ph (keepN (hrM pr pw ph n a (Int.toNat a_3)) n - (1:Nat)) (wo3 (keepL a (hrM pr pw ph n a (Int.toNat a_3)) n) (Int.toNat (↑(keepN (hrM pr pw ph n a (Int.toNat a_3)) (Int.toNat a_3)):Int)))=true∧
 List.length (wo3 (keepL a (hrM pr pw ph n a (Int.toNat a_3)) n) (Int.toNat (↑(keepN (hrM pr pw ph n a (Int.toNat a_3)) (Int.toNat a_3)):Int)))=(keepN (hrM pr pw ph n a (Int.toNat a_3)) n - (1:Nat)) * (3:Nat))∧
 (((↑(List.length (solZ pr pw ph (keepN (hrM pr pw ph n a (Int.toNat a_3)) n - (1:Nat)) (wo3 (keepL a (hrM pr pw ph n a (Int.toNat a_3)) n) (Int.toNat (↑(keepN (hrM pr pw ph n a (Int.toNat a_3)) (Int.toNat a_3)):Int))))):Int)==(1:Int))=true→
 (True∧(((1:Nat)=(1:Nat)∧(0:Nat)=(0:Nat))∧((2:Nat)=(2:Nat)∧(0:Nat)=(0:Nat))∧false=false∧((3:Nat)=(3:Nat)∧
 keepN (hrM pr pw ph n a (Int.toNat a_3)) n - (1:Nat)=keepN (hrM pr pw ph n a (Int.toNat ((↑(keepN (hrM pr pw ph n a (Int.toNat a_3)) (Int.toNat a_3)):Int) + ((↑n:Int) - (↑(keepN (hrM pr pw ph n a (Int.toNat a_3)) n - (1:Nat)):Int))))) n)∧
 (True∧
 (↑(keepN (hrM pr pw ph n a (Int.toNat a_3)) (Int.toNat a_3)):Int)=(↑(keepN (hrM pr pw ph n a (Int.toNat ((↑(keepN (hrM pr pw ph n a (Int.toNat a_3)) (Int.toNat a_3)):Int) + ((↑n:Int) - (↑(keepN (hrM pr pw ph n a (Int.toNat a_3)) n - (1:Nat)):Int))))) (Int.toNat ((↑(keepN (hrM pr pw ph n a (Int.toNat a_3)) (Int.toNat a_3)):Int) + ((↑n:Int) - (↑(keepN (hrM pr pw ph n a (Int.toNat a_3)) n - (1:Nat)):Int))))):Int))∧
 True)∧((True∧IntKind.i64=IntKind.i64∧a=a)∧(True∧pr=pr∧(True∧pw=pw)∧(True∧ph=ph)∧((0:Nat)=(0:Nat)∧n=n)∧True)∧(True∧nilB=nilB∧(True∧(0:Int)=(0:Int))∧(True∧(0:Int)=(0:Int))∧
 Value.slice none (0:Nat) (0:Nat)=Value.slice none (0:Nat) (0:Nat)∧True)∧(True∧IntKind.i64=IntKind.i64∧
 wo3 (keepL a (hrM pr pw ph n a (Int.toNat a_3)) n) (Int.toNat (↑(keepN (hrM pr pw ph n a (Int.toNat a_3)) (Int.toNat a_3)):Int))=keepL a (hrM pr pw ph n a (Int.toNat ((↑(keepN (hrM pr pw ph n a (Int.toNat a_3)) (Int.toNat a_3)):Int) + ((↑n:Int) - (↑(keepN (hrM pr pw ph n a (Int.toNat a_3)) n - (1:Nat)):Int))))) n)∧
 True)∧True)∧At (kInv n ((↑(keepN (hrM pr pw ph n a (Int.toNat a_3)) (Int.toNat a_3)):Int) + ((↑n:Int) - (↑(keepN (hrM pr pw ph n a (Int.toNat a_3)) n - (1:Nat)):Int)))∧
 Int.toNat ((↑n:Int) - ((↑(keepN (hrM pr pw ph n a (Int.toNat a_3)) (Int.toNat a_3)):Int) + ((↑n:Int) - (↑(keepN (hrM pr pw ph n a (Int.toNat a_3)) n - (1:Nat)):Int)))) < Int.toNat ((↑n:Int) - a_3)))∧
 (((↑(List.length (solZ pr pw ph (keepN (hrM pr pw ph n a (Int.toNat a_3)) n - (1:Nat)) (wo3 (keepL a (hrM pr pw ph n a (Int.toNat a_3)) n) (Int.toNat (↑(keepN (hrM pr pw ph n a (Int.toNat a_3)) (Int.toNat a_3)):Int))))):Int)==(1:Int))=false→
 (True∧(((1:Nat)=(1:Nat)∧(0:Nat)=(0:Nat))∧((2:Nat)=(2:Nat)∧(0:Nat)=(0:Nat))∧false=false∧((3:Nat)=(3:Nat)∧
 keepN (hrM pr pw ph n a (Int.toNat a_3)) n=keepN (hrM pr pw ph n a (Int.toNat (IntKind.wrap .i64 ((↑(keepN (hrM pr pw ph n a (Int.toNat a_3)) (Int.toNat a_3)):Int) + (1:Int)) + ((↑n:Int) - (↑(keepN (hrM pr pw ph n a (Int.toNat a_3)) n):Int))))) n)∧
 (True∧
 IntKind.wrap .i64 ((↑(keepN (hrM pr pw ph n a (Int.toNat a_3)) (Int.toNat a_3)):Int) + (1:Int))=(↑(keepN (hrM pr pw ph n a (Int.toNat (IntKind.wrap .i64 ((↑(keepN (hrM pr pw ph n a (Int.toNat a_3)) (Int.toNat a_3)):Int) + (1:Int)) + ((↑n:Int) - (↑(keepN (hrM pr pw ph n a (Int.toNat a_3)) n):Int))))) (Int.toNat (IntKind.wrap .i64 ((↑(keepN (hrM pr pw ph n a (Int.toNat a_3)) (Int.toNat a_3)):Int) + (1:Int)) + ((↑n:Int) - (↑(keepN (hrM pr pw ph n a (Int.toNat a_3)) n):Int))))):Int))∧
 True)∧((True∧IntKind.i64=IntKind.i64∧a=a)∧(True∧pr=pr∧(True∧pw=pw)∧(True∧ph=ph)∧((0:Nat)=(0:Nat)∧n=n)∧True)∧(True∧nilB=nilB∧(True∧(0:Int)=(0:Int))∧(True∧(0:Int)=(0:Int))∧
 Value.slice none (0:Nat) (0:Nat)=Value.slice none (0:Nat) (0:Nat)∧True)∧(True∧IntKind.i64=IntKind.i64∧
 keepL a (hrM pr pw ph n a (Int.toNat a_3)) n=keepL a (hrM pr pw ph n a (Int.toNat (IntKind.wrap .i64 ((↑(keepN (hrM pr pw ph n a (Int.toNat a_3)) (Int.toNat a_3)):Int) + (1:Int)) + ((↑n:Int) - (↑(keepN (hrM pr pw ph n a (Int.toNat a_3)) n):Int))))) n)∧
 True)∧True)∧At (kInv n (IntKind.wrap .i64 ((↑(keepN (hrM pr pw ph n a (Int.toNat a_3)) (Int.toNat a_3)):Int) + (1:Int)) + ((↑n:Int) - (↑(keepN (hrM pr pw ph n a (Int.toNat a_3)) n):Int)))∧
 Int.toNat ((↑n:Int) - (IntKind.wrap .i64 ((↑(keepN (hrM pr pw ph n a (Int.toNat a_3)) (Int.toNat a_3)):Int) + (1:Int)) + ((↑n:Int) - (↑(keepN (hrM pr pw ph n a (Int.toNat a_3)) n):Int)))) < Int.toNat ((↑n:Int) - a_3))))∧
 (decide ((↑(keepN (hrM pr pw ph n a (Int.toNat a_3)) (Int.toNat a_3)):Int) < (↑(keepN (hrM pr pw ph n a (Int.toNat a_3)) n):Int))=false→
 K (V.tup [V.agg [V.str pr,V.int .i64 pw,V.int .i64 ph,V.row (3:Nat) (keepN (hrM pr pw ph n a (Int.toNat a_3)) n)],V.lit true]) [⟨Cells.ints .i64 a,83,Kind.rows (3:Nat)⟩,⟨Cells.vals [V.str pr,V.int .i64 pw,V.int .i64 ph,V.row (0:Nat) n],31,Kind.box⟩,⟨Cells.vals [V.str pr,V.int .i64 pw,V.int .i64 ph,V.row (3:Nat) (keepN (hrM pr pw ph n a (Int.toNat a_3)) n)],31,Kind.box⟩,⟨Cells.ints .i64 (keepL a (hrM pr pw ph n a (Int.toNat a_3)) n),83,Kind.rows (3:Nat)⟩])))
def VC_impl_HarderPuzzle (pr:List UInt8)(pw:Int)(ph:Int)(n:Nat)(a:List Int)(K:V → List Blk → Prop):Prop:=
 At (List.length a=n * (3:Nat)∧n≤(2000000:Nat))∧At ((0:Int)≤(↑n:Int))∧((!goodZ pr pw ph n a)=true→
 K (V.tup [V.agg [V.str ([]:List UInt8),V.int .i64 (0:Int),V.int .i64 (0:Int),V.raw (Value.slice none (0:Nat) (0:Nat))],V.lit false]) [⟨Cells.ints .i64 a,83,Kind.rows (3:Nat)⟩,⟨Cells.vals [V.str pr,V.int .i64 pw,V.int .i64 ph,V.row (0:Nat) n],31,Kind.box⟩,⟨Cells.vals [V.str ([]:List UInt8),V.int .i64 (0:Int),V.int .i64 (0:Int),V.raw (Value.slice none (0:Nat) (0:Nat))],31,Kind.box⟩,⟨Cells.recs [Sh.str,Sh.int IntKind.u64] (bif goodZ pr pw ph n a then candL pr pw ph n a (textsZ pr pw ph) else []),102,Kind.rows (2:Nat)⟩])∧
 ((!goodZ pr pw ph n a)=false→At (goodL (bif goodZ pr pw ph n a then candL pr pw ph n a (textsZ pr pw ph) else []) (bif goodZ pr pw ph n a then List.length (textsZ pr pw ph) else (0:Nat))∧
 (0:Int)≤IntKind.wrap IntKind.u64 (IntKind.wrap IntKind.u64 ((1:Int) * (2:Int) ^ min (Int.toNat (↑n:Int)) (64:Nat)) - (1:Int))∧
 IntKind.wrap IntKind.u64 (IntKind.wrap IntKind.u64 ((1:Int) * (2:Int) ^ min (Int.toNat (↑n:Int)) (64:Nat)) - (1:Int)) < (18446744073709551616:Int))∧
 (((↑(List.length (fitL (bif goodZ pr pw ph n a then candL pr pw ph n a (textsZ pr pw ph) else []) (IntKind.wrap IntKind.u64 (IntKind.wrap IntKind.u64 ((1:Int) * (2:Int) ^ min (Int.toNat (↑n:Int)) (64:Nat)) - (1:Int))) (bif goodZ pr pw ph n a then List.length (textsZ pr pw ph) else (0:Nat)))):Int) != (1:Int))=true→
 K (V.tup [V.agg [V.str ([]:List UInt8),V.int .i64 (0:Int),V.int .i64 (0:Int),V.raw (Value.slice none (0:Nat) (0:Nat))],V.lit false]) [⟨Cells.ints .i64 a,83,Kind.rows (3:Nat)⟩,⟨Cells.vals [V.str pr,V.int .i64 pw,V.int .i64 ph,V.row (0:Nat) n],31,Kind.box⟩,⟨Cells.vals [V.str ([]:List UInt8),V.int .i64 (0:Int),V.int .i64 (0:Int),V.raw (Value.slice none (0:Nat) (0:Nat))],31,Kind.box⟩,⟨Cells.recs [Sh.str,Sh.int IntKind.u64] (bif goodZ pr pw ph n a then candL pr pw ph n a (textsZ pr pw ph) else []),102,Kind.rows (2:Nat)⟩])∧
 (((↑(List.length (fitL (bif goodZ pr pw ph n a then candL pr pw ph n a (textsZ pr pw ph) else []) (IntKind.wrap IntKind.u64 (IntKind.wrap IntKind.u64 ((1:Int) * (2:Int) ^ min (Int.toNat (↑n:Int)) (64:Nat)) - (1:Int))) (bif goodZ pr pw ph n a then List.length (textsZ pr pw ph) else (0:Nat)))):Int) != (1:Int))=false→
 (True∧(((1:Nat)=(1:Nat)∧(0:Nat)=(0:Nat))∧((2:Nat)=(2:Nat)∧(0:Nat)=(0:Nat))∧false=false∧((3:Nat)=(3:Nat)∧
 (bif goodZ pr pw ph n a then List.length (textsZ pr pw ph) else (0:Nat))=bif goodZ pr pw ph n a then List.length (textsZ pr pw ph) else (0:Nat))∧(True∧
 IntKind.wrap IntKind.u64 (IntKind.wrap IntKind.u64 ((1:Int) * (2:Int) ^ min (Int.toNat (↑n:Int)) (64:Nat)) - (1:Int))=hrM pr pw ph n a (Int.toNat (0:Int)))∧(True∧(↑n:Int)=(↑n:Int))∧(True∧(0:Int)=(0:Int))∧True)∧((True∧
 IntKind.i64=IntKind.i64∧a=a)∧(True∧pr=pr∧(True∧pw=pw)∧(True∧ph=ph)∧((0:Nat)=(0:Nat)∧n=n)∧True)∧(True∧nilB=nilB∧(True∧(0:Int)=(0:Int))∧(True∧(0:Int)=(0:Int))∧
 Value.slice none (0:Nat) (0:Nat)=Value.slice none (0:Nat) (0:Nat)∧True)∧(True∧True∧
 (bif goodZ pr pw ph n a then candL pr pw ph n a (textsZ pr pw ph) else [])=bif goodZ pr pw ph n a then candL pr pw ph n a (textsZ pr pw ph) else [])∧True)∧True)∧At (kInv n (0:Int))∧∀(a_3:Int),kInv n a_3→
 (decide (a_3 < (↑n:Int))=true→At ((0:Int)≤hrM pr pw ph n a (Int.toNat a_3)∧hrM pr pw ph n a (Int.toNat a_3) < (18446744073709551616:Int)∧(0:Int)≤a_3∧a_3≤(60:Int))∧
 At (goodL (bif goodZ pr pw ph n a then candL pr pw ph n a (textsZ pr pw ph) else []) (bif goodZ pr pw ph n a then List.length (textsZ pr pw ph) else (0:Nat))∧
 (0:Int)≤wout (hrM pr pw ph n a (Int.toNat a_3)) (Int.toNat a_3)∧wout (hrM pr pw ph n a (Int.toNat a_3)) (Int.toNat a_3) < (18446744073709551616:Int))∧
 (((↑(List.length (fitL (bif goodZ pr pw ph n a then candL pr pw ph n a (textsZ pr pw ph) else []) (wout (hrM pr pw ph n a (Int.toNat a_3)) (Int.toNat a_3)) (bif goodZ pr pw ph n a then List.length (textsZ pr pw ph) else (0:Nat)))):Int)==(1:Int))=true→
 At ((0:Int)≤hrM pr pw ph n a (Int.toNat a_3)∧hrM pr pw ph n a (Int.toNat a_3) < (18446744073709551616:Int)∧(0:Int)≤a_3∧a_3≤(60:Int))∧(True∧(((1:Nat)=(1:Nat)∧(0:Nat)=(0:Nat))∧((2:Nat)=(2:Nat)∧(0:Nat)=(0:Nat))∧false=false∧
 ((3:Nat)=(3:Nat)∧(bif goodZ pr pw ph n a then List.length (textsZ pr pw ph) else (0:Nat))=bif goodZ pr pw ph n a then List.length (textsZ pr pw ph) else (0:Nat))∧(True∧
 wout (hrM pr pw ph n a (Int.toNat a_3)) (Int.toNat a_3)=hrM pr pw ph n a (Int.toNat (IntKind.wrap .i64 (a_3 + (1:Int)))))∧(True∧(↑n:Int)=(↑n:Int))∧(True∧
 IntKind.wrap .i64 (a_3 + (1:Int))=IntKind.wrap .i64 (a_3 + (1:Int)))∧True)∧((True∧IntKind.i64=IntKind.i64∧a=a)∧(True∧pr=pr∧(True∧pw=pw)∧(True∧ph=ph)∧((0:Nat)=(0:Nat)∧n=n)∧True)∧(True∧nilB=nilB∧(True∧(0:Int)=(0:Int))∧
 (True∧(0:Int)=(0:Int))∧Value.slice none (0:Nat) (0:Nat)=Value.slice none (0:Nat) (0:Nat)∧True)∧(True∧True∧
 (bif goodZ pr pw ph n a then candL pr pw ph n a (textsZ pr pw ph) else [])=bif goodZ pr pw ph n a then candL pr pw ph n a (textsZ pr pw ph) else [])∧True)∧True)∧At (kInv n (IntKind.wrap .i64 (a_3 + (1:Int)))∧
 Int.toNat ((↑n:Int) - IntKind.wrap .i64 (a_3 + (1:Int))) < Int.toNat ((↑n:Int) - a_3)))∧
 (((↑(List.length (fitL (bif goodZ pr pw ph n a then candL pr pw ph n a (textsZ pr pw ph) else []) (wout (hrM pr pw ph n a (Int.toNat a_3)) (Int.toNat a_3)) (bif goodZ pr pw ph n a then List.length (textsZ pr pw ph) else (0:Nat)))):Int)==(1:Int))=false→
 (True∧(((1:Nat)=(1:Nat)∧(0:Nat)=(0:Nat))∧((2:Nat)=(2:Nat)∧(0:Nat)=(0:Nat))∧false=false∧((3:Nat)=(3:Nat)∧
 (bif goodZ pr pw ph n a then List.length (textsZ pr pw ph) else (0:Nat))=bif goodZ pr pw ph n a then List.length (textsZ pr pw ph) else (0:Nat))∧(True∧
 hrM pr pw ph n a (Int.toNat a_3)=hrM pr pw ph n a (Int.toNat (IntKind.wrap .i64 (a_3 + (1:Int)))))∧(True∧(↑n:Int)=(↑n:Int))∧(True∧IntKind.wrap .i64 (a_3 + (1:Int))=IntKind.wrap .i64 (a_3 + (1:Int)))∧True)∧((True∧
 IntKind.i64=IntKind.i64∧a=a)∧(True∧pr=pr∧(True∧pw=pw)∧(True∧ph=ph)∧((0:Nat)=(0:Nat)∧n=n)∧True)∧(True∧nilB=nilB∧(True∧(0:Int)=(0:Int))∧(True∧(0:Int)=(0:Int))∧
 Value.slice none (0:Nat) (0:Nat)=Value.slice none (0:Nat) (0:Nat)∧True)∧(True∧True∧
 (bif goodZ pr pw ph n a then candL pr pw ph n a (textsZ pr pw ph) else [])=bif goodZ pr pw ph n a then candL pr pw ph n a (textsZ pr pw ph) else [])∧True)∧True)∧At (kInv n (IntKind.wrap .i64 (a_3 + (1:Int)))∧
 Int.toNat ((↑n:Int) - IntKind.wrap .i64 (a_3 + (1:Int))) < Int.toNat ((↑n:Int) - a_3))))∧(decide (a_3 < (↑n:Int))=false→At (List.length a=n * (3:Nat)∧n≤(60:Nat)∧(0:Int)≤hrM pr pw ph n a (Int.toNat a_3)∧
 hrM pr pw ph n a (Int.toNat a_3) < (18446744073709551616:Int))∧
 K (V.tup [V.agg [V.str pr,V.int .i64 pw,V.int .i64 ph,V.row (4:Nat) (keepN (hrM pr pw ph n a (Int.toNat a_3)) n)],V.lit true]) [⟨Cells.ints .i64 a,83,Kind.rows (3:Nat)⟩,⟨Cells.vals [V.str pr,V.int .i64 pw,V.int .i64 ph,V.row (0:Nat) n],31,Kind.box⟩,⟨Cells.vals [V.str pr,V.int .i64 pw,V.int .i64 ph,V.row (4:Nat) (keepN (hrM pr pw ph n a (Int.toNat a_3)) n)],31,Kind.box⟩,⟨Cells.recs [Sh.str,Sh.int IntKind.u64] (bif goodZ pr pw ph n a then candL pr pw ph n a (textsZ pr pw ph) else []),102,Kind.rows (2:Nat)⟩,⟨Cells.ints .i64 (keepL a (hrM pr pw ph n a (Int.toNat a_3)) n),83,Kind.rows (3:Nat)⟩])))
end Go.Vi

/- Harder puzzles: the conditions hold. -/
namespace Go.Vi
/-! ### harder puzzles -/
theorem keepN_wo {m : Int} {j : Nat} (hj : j <= 60) : keepN (wout m j) (j + 1) = keepN m j := by
 have below : ∀ i, i <= j -> keepN (wout m j) i = keepN m i := by
  intro i
  induction i with
  | zero => intro _; rfl
  | succ i ih =>
   intro hi
   have hw : (wout m j).toNat.testBit i = m.toNat.testBit i := by rw [wout_bit (by omega) (by omega), decide_eq_false (by omega)]; simp
   simp only [keepN, ih (by omega), hw]
 have hw : (wout m j).toNat.testBit j = false := by rw [wout_bit (by omega) (by omega)]; simp
 simp only [keepN, below j (Nat.le_refl _), hw, cond_false, Nat.add_zero]
theorem hrM_yes {r : List UInt8} {w h : Int} {n : Nat} {a : List Int} {k : Int} (hk : 0 <= k) (hc : (cntM r w h n a (wout (hrM r w h n a k.toNat) k.toNat) == 1) = true) : hrM r w h n a (k + 1).toNat = wout (hrM r w h n a k.toNat) k.toNat := by
 rw [show (k + 1).toNat = k.toNat + 1 by omega]
 simp only [hrM, hc, cond_true]
theorem hrM_no {r : List UInt8} {w h : Int} {n : Nat} {a : List Int} {k : Int} (hk : 0 <= k) (hc : (cntM r w h n a (wout (hrM r w h n a k.toNat) k.toNat) == 1) = false) : hrM r w h n a (k + 1).toNat = hrM r w h n a k.toNat := by
 rw [show (k + 1).toNat = k.toNat + 1 by omega]
 simp only [hrM, hc, cond_false]
theorem beq1 {x : Nat} : (((x : Nat) : Int) == 1) = (x == 1) := by
 rw [Bool.eq_iff_iff, beq_iff_eq, beq_iff_eq]
 omega
theorem retG_h0 {a : List Int} {e e' : TypeId} {s : List UInt8} {rest : List Blk} (hs : s = []) : retG 1 (.tup [.agg [.str [], .int .i64 0, .int .i64 0, .row 1 0], .bool false]) [⟨.ints .i64 a, e, .rows 3⟩, ⟨.ints .i64 [], e', .rows 3⟩] (.tup [.agg [.str s, .int .i64 0, .int .i64 0, .raw (.slice none 0 0)], .lit false]) (⟨.ints .i64 a, e, .rows 3⟩ :: rest) := by
 subst hs
 unfold retG leSel leSelBy autoSel
 simp [pairsL, pairsV, idPairs, pairsIn, selOf, lookN, selMem, chkB, nodupSel, hasSel, prefSel, leSt, leL, leV, nilToL, V.nilTo, isNilS, isGhost, findSel, selL, V.sel, Cells.selN, Cells.none0, Kind.isRow, leMem, leCells, memUnder, underL, V.under]
 exact trivial
theorem retG_h3 {a l : List Int} {n : Nat} {r : List UInt8} {w h : Int} {e e' : TypeId} {b1 b2 : Blk} : retG 1 (.tup [.agg [.str r, .int .i64 w, .int .i64 h, .row 1 n], .bool true]) [⟨.ints .i64 a, e, .rows 3⟩, ⟨.ints .i64 l, e', .rows 3⟩] (.tup [.agg [.str r, .int .i64 w, .int .i64 h, .row 3 n], .lit true]) [⟨.ints .i64 a, e, .rows 3⟩, b1, b2, ⟨.ints .i64 l, e', .rows 3⟩] := by
 unfold retG leSel leSelBy autoSel
 simp [pairsL, pairsV, idPairs, pairsIn, selOf, lookN, selMem, chkB, nodupSel, hasSel, prefSel, leSt, leL, leV, nilToL, V.nilTo, isNilS, isGhost, findSel, selL, V.sel, Cells.selN, leMem, leCells, memUnder, underL, V.under]
 exact trivial
theorem retG_h4 {a l : List Int} {n : Nat} {r : List UInt8} {w h : Int} {e e' : TypeId} {b1 b2 b3 : Blk} : retG 1 (.tup [.agg [.str r, .int .i64 w, .int .i64 h, .row 1 n], .bool true]) [⟨.ints .i64 a, e, .rows 3⟩, ⟨.ints .i64 l, e', .rows 3⟩] (.tup [.agg [.str r, .int .i64 w, .int .i64 h, .row 4 n], .lit true]) [⟨.ints .i64 a, e, .rows 3⟩, b1, b2, b3, ⟨.ints .i64 l, e', .rows 3⟩] := by
 unfold retG leSel leSelBy autoSel
 simp [pairsL, pairsV, idPairs, pairsIn, selOf, lookN, selMem, chkB, nodupSel, hasSel, prefSel, leSt, leL, leV, nilToL, V.nilTo, isNilS, isGhost, findSel, selL, V.sel, Cells.selN, leMem, leCells, memUnder, underL, V.under]
 exact trivial
theorem bne1 {x : Nat} : (((x : Nat) : Int) != 1) = !(x == 1) := by
 rw [bne, beq1]
theorem wrap_full {n : Nat} (hn : n <= 60) : IntKind.wrap .u64 (IntKind.wrap .u64 (1 * 2 ^ min (Int.toNat (n : Int)) 64) - 1) = fullM n := by
 obtain ⟨e, e1, e2⟩ := two_pow (n := (n : Int)) ⟨by omega, by omega⟩
 rw [show min (Int.toNat (n : Int)) 64 = (n : Int).toNat by omega, e, wrapU_in (x := ((2 ^ (n : Int).toNat : Nat) : Int)) (by omega), wrapU_in (by omega)]
 rw [Int.toNat_natCast] at e1 e2 ⊢
 unfold fullM
 omega
theorem vc_spec_HarderPuzzle (pr : List UInt8) (pw ph : Int) (n : Nat) (a : List Int) (h : a.length = n * 3 /\ n <= 2000000) : VC_spec_HarderPuzzle pr pw ph n a
  (retG 1 (.tup [.agg [.str (bif hrG pr pw ph n a then pr else []), .int .i64 (bif hrG pr pw ph n a then pw else 0), .int .i64 (bif hrG pr pw ph n a then ph else 0), .row 1 (hrN pr pw ph n a)], .bool (hrG pr pw ph n a)]) [⟨.ints .i64 a, 83, .rows 3⟩, ⟨.ints .i64 (hrB pr pw ph n a), 83, .rows 3⟩]) := by
 unfold VC_spec_HarderPuzzle hrN hrB
 refine ⟨⟨h⟩, fun hg => ?_, fun hg => ?_⟩
 ·rw [Bool.not_eq_true'] at hg
  rw [show hrG pr pw ph n a = false by unfold hrG; rw [hg]; rfl]
  exact retG_h0 rfl
 ·rw [Bool.not_eq_false'] at hg
  obtain ⟨_, hn, _, _⟩ := goodZ_in hg
  rw [beq1, <- cnt_full (r := pr) (w := pw) (h := ph) h.1]
  refine ⟨⟨hg, h.1⟩, fun h1 => ?_, fun h1 => ?_⟩
  ·rw [Bool.not_eq_true'] at h1
   rw [show hrG pr pw ph n a = false by unfold hrG; rw [hg, h1]; rfl]
   exact retG_h0 rfl
  ·rw [Bool.not_eq_false'] at h1
   rw [show hrG pr pw ph n a = true by unfold hrG; rw [hg, h1]; rfl]
   obtain ⟨f1, f2⟩ := keep_all (a := a) (m := fullM n) (i := n) (by omega) (fun j hj => by rw [full_bit, decide_eq_true hj])
   rw [show (0 : Int) + ((n : Int) - ((0 + n : Nat) : Int)) = 0 by omega]
   refine ⟨⟨⟨by simp, by omega⟩, trivial, by omega⟩, ?_, ⟨Int.le_refl _, by omega⟩, fun j hj => ⟨fun hc => ?_, fun hc => ?_⟩⟩
   ·simp [hrM, f1, f2, keepN]
   ·obtain ⟨j1, j2⟩ := hj
    have hones := keepN_ones (m := hrM pr pw ph n a j.toNat) (j := j.toNat) (d := n - j.toNat) (fun i h1 h2 => hrM_bit pr pw ph n a (by omega) j.toNat i h1 (by omega))
    rw [show j.toNat + (n - j.toNat) = n by omega] at hones
    have hc := of_decide_eq_true hc
    have hjn : j.toNat < n := by omega
    have hbit := hrM_bit pr pw ph n a (by omega) j.toNat j.toNat (Nat.le_refl _) hjn
    obtain ⟨w1, w2⟩ := wo_keep (a := a) (by omega) hjn hbit
    have w3 := keepN_wo (m := hrM pr pw ph n a j.toNat) (j := j.toNat) (by omega)
    have hl := keepL_len a (hrM pr pw ph n a j.toNat) n
    have hle := keepN_le (hrM pr pw ph n a j.toNat) n
    have hgw := keep_good (m := wout (hrM pr pw ph n a j.toNat) j.toNat) hg
    have hlw := keepL_len a (wout (hrM pr pw ph n a j.toNat) j.toNat) n
    have hi : kInv n (j + 1) /\ ((n : Int) - (j + 1)).toNat < ((n : Int) - j).toNat := ⟨⟨by omega, by omega⟩, by omega⟩
    rw [Int.toNat_natCast, w1, <- w2, beq1]
    refine ⟨⟨hl, by omega, by omega, hc⟩, ⟨hgw, hlw⟩, fun hb => ?_, fun hb => ?_⟩
    ·rw [show ((keepN (hrM pr pw ph n a j.toNat) j.toNat : Nat) : Int) + ((n : Int) - ((keepN (wout (hrM pr pw ph n a j.toNat) j.toNat) n : Nat) : Int)) = j + 1 by omega, hrM_yes j1 hb, show (j + 1).toNat = j.toNat + 1 by omega, w3]
     simp [hi]
    ·have hk1 : keepN (hrM pr pw ph n a j.toNat) (j.toNat + 1) = keepN (hrM pr pw ph n a j.toNat) j.toNat + 1 := by simp only [keepN, hbit, cond_true]
     have hle2 := keepN_le (hrM pr pw ph n a j.toNat) j.toNat
     rw [wrap64_in (x := ((keepN (hrM pr pw ph n a j.toNat) j.toNat : Nat) : Int) + 1) (by omega), show ((keepN (hrM pr pw ph n a j.toNat) j.toNat : Nat) : Int) + 1 + ((n : Int) - ((keepN (hrM pr pw ph n a j.toNat) n : Nat) : Int)) = j + 1 by omega, hrM_no j1 hb, show (j + 1).toNat = j.toNat + 1 by omega, hk1]
     simp [hi]
   ·obtain ⟨j1, j2⟩ := hj
    have hones := keepN_ones (m := hrM pr pw ph n a j.toNat) (j := j.toNat) (d := n - j.toNat) (fun i h1 h2 => hrM_bit pr pw ph n a (by omega) j.toNat i h1 (by omega))
    rw [show j.toNat + (n - j.toNat) = n by omega] at hones
    have hc := of_decide_eq_false hc
    rw [show j.toNat = n by omega]
    exact retG_h3
theorem vc_impl_HarderPuzzle (pr : List UInt8) (pw ph : Int) (n : Nat) (a : List Int) (h : a.length = n * 3 /\ n <= 2000000) : VC_impl_HarderPuzzle pr pw ph n a
  (retG 1 (.tup [.agg [.str (bif hrG pr pw ph n a then pr else []), .int .i64 (bif hrG pr pw ph n a then pw else 0), .int .i64 (bif hrG pr pw ph n a then ph else 0), .row 1 (hrN pr pw ph n a)], .bool (hrG pr pw ph n a)]) [⟨.ints .i64 a, 83, .rows 3⟩, ⟨.ints .i64 (hrB pr pw ph n a), 83, .rows 3⟩]) := by
 unfold VC_impl_HarderPuzzle hrN hrB
 refine ⟨⟨h⟩, ⟨by omega⟩, fun hg => ?_, fun hg => ?_⟩
 ·rw [Bool.not_eq_true'] at hg
  rw [show hrG pr pw ph n a = false by unfold hrG; rw [hg]; rfl]
  exact retG_h0 rfl
 ·rw [Bool.not_eq_false'] at hg
  obtain ⟨_, hn, _, hT⟩ := goodZ_in hg
  have hp := pow60 (n := n) (by omega)
  have hf := full_bd n
  rw [hg]
  simp only [cond_true]
  rw [wrap_full (by omega), fit_cnt hf.1 hf.2, bne1]
  have hL : goodL (candL pr pw ph n a (textsZ pr pw ph)) (textsZ pr pw ph).length := candL_good (by omega) hT
  refine ⟨⟨hL, hf.1, by omega⟩, fun h1 => ?_, fun h1 => ?_⟩
  ·rw [Bool.not_eq_true'] at h1
   rw [show hrG pr pw ph n a = false by unfold hrG; rw [hg, h1]; rfl]
   exact retG_h0 rfl
  ·rw [Bool.not_eq_false'] at h1
   rw [show hrG pr pw ph n a = true by unfold hrG; rw [hg, h1]; rfl]
   refine ⟨by simp [hrM], ⟨Int.le_refl _, by omega⟩, fun j hj => ⟨fun hc => ?_, fun hc => ?_⟩⟩
   ·have hc := of_decide_eq_true hc
    obtain ⟨j1, j2⟩ := hj
    have hb := hrM_bd pr pw ph n a j.toNat
    have hw := wout_le (hrM pr pw ph n a j.toNat) j.toNat
    have hw0 : 0 <= wout (hrM pr pw ph n a j.toNat) j.toNat := by unfold wout; omega
    have hi : kInv n (j + 1) /\ ((n : Int) - (j + 1)).toNat < ((n : Int) - j).toNat := ⟨⟨by omega, by omega⟩, by omega⟩
    rw [wrap64_in (x := j + 1) (by omega), fit_cnt hw0 (by omega), beq1]
    refine ⟨⟨hb.1, by omega, j1, by omega⟩, ⟨hL, hw0, by omega⟩, fun hy => ⟨⟨hb.1, by omega, j1, by omega⟩, ?_, ⟨hi⟩⟩, fun hy => ⟨?_, ⟨hi⟩⟩⟩
    ·rw [hrM_yes j1 hy]
     simp
    ·rw [hrM_no j1 hy]
     simp
   ·have hc := of_decide_eq_false hc
    obtain ⟨j1, j2⟩ := hj
    have hb := hrM_bd pr pw ph n a j.toNat
    refine ⟨⟨h.1, by omega, hb.1, by omega⟩, ?_⟩
    rw [show j.toNat = n by omega]
    exact retG_h4
end Go.Vi
