/- The conditions, reckoned out by program: texts alone. -/
import Derived.Test.YtickpjdnncpnmaaDoorPADefs
namespace Go.Vi
set_option linter.unusedVariables false
def VC_spec_pzPower (s:List UInt8)(n:Int)(K:V → Prop):Prop:=
 ((s=s∧(True∧n=n)∧(True∧(0:Int)=(0:Int))∧(True∧(1:Int)=(1:Int))∧True)∧True∧True)∧At (powInv s n (n,(1:Int)))∧∀(a:Int × Int),powInv s n a→(decide (Prod.fst a > (0:Int))=true→
 (decide (IntKind.wrap .i64 (Prod.snd a * (↑(List.length s):Int)) > (300:Int))=true→K (V.int .i64 (0:Int)))∧(decide (IntKind.wrap .i64 (Prod.snd a * (↑(List.length s):Int)) > (300:Int))=false→((s=s∧(True∧
 IntKind.wrap .i64 (Prod.fst a - (1:Int))=IntKind.wrap .i64 (Prod.fst a - (1:Int)))∧(True∧(0:Int)=(0:Int))∧(True∧
 IntKind.wrap .i64 (Prod.snd a * (↑(List.length s):Int))=IntKind.wrap .i64 (Prod.snd a * (↑(List.length s):Int)))∧True)∧True∧True)∧
 At (powInv s n (IntKind.wrap .i64 (Prod.fst a - (1:Int)),IntKind.wrap .i64 (Prod.snd a * (↑(List.length s):Int)))∧Int.toNat (IntKind.wrap .i64 (Prod.fst a - (1:Int))) < Int.toNat (Prod.fst a))))∧
 (decide (Prod.fst a > (0:Int))=false→K (V.int .i64 (Prod.snd a)))
def VC_spec_pzSize (s:List UInt8)(w:Int)(h:Int)(K:V → Prop):Prop:=
 At True∧(ruleB s=true→At True∧(inB w (1:Int) (9:Int)=true→At True∧(inB h (1:Int) (9:Int)=true→(decide (IntKind.wrap .i64 (w * h)≤(9:Int))=true→At ((1:Nat)≤List.length s∧List.length s≤(6:Nat)∧
 (0:Int)≤IntKind.wrap .i64 (w * h)∧IntKind.wrap .i64 (w * h)≤(9:Int))∧K (V.bool (decide (pow300 (List.length s) (Int.toNat (IntKind.wrap .i64 (w * h))) > (0:Int)))))∧(decide (IntKind.wrap .i64 (w * h)≤(9:Int))=false→
 K (V.lit false)))∧(inB h (1:Int) (9:Int)=false→K (V.lit false)))∧(inB w (1:Int) (9:Int)=false→K (V.lit false)))∧(ruleB s=false→K (V.lit false))
def VC_impl_isSize (w:Int)(h:Int)(K:V → Prop):Prop:=
 At True∧(inB w (1:Int) (9:Int)=true→At True∧K (V.bool (inB h (1:Int) (9:Int))))∧(inB w (1:Int) (9:Int)=false→K (V.lit false))
def VC_impl_CountBoards (s:List UInt8)(w:Int)(h:Int)(K:V → Prop):Prop:=
 At True∧((!ruleB s)=true→K (V.tup [V.int .i64 (0:Int),V.lit false]))∧((!ruleB s)=false→At True∧((!(inB w (1:Int) (9:Int) && inB h (1:Int) (9:Int)))=true→K (V.tup [V.int .i64 (0:Int),V.lit false]))∧
 ((!(inB w (1:Int) (9:Int) && inB h (1:Int) (9:Int)))=false→(decide (IntKind.wrap .i64 (w * h) > (9:Int))=true→K (V.tup [V.int .i64 (0:Int),V.lit false]))∧(decide (IntKind.wrap .i64 (w * h) > (9:Int))=false→((s=s∧(True∧
 (0:Int)=(0:Int))∧false=false∧(True∧(1:Int)=(1:Int))∧(True∧IntKind.wrap .i64 (w * h)=IntKind.wrap .i64 (w * h))∧(True∧(0:Int)=(0:Int))∧True)∧True∧True)∧At (cntInv s (IntKind.wrap .i64 (w * h)) ((0:Int),(1:Int)))∧
 ∀(a:Int × Int),cntInv s (IntKind.wrap .i64 (w * h)) a→(decide (Prod.fst a < IntKind.wrap .i64 (w * h))=true→((s=s∧(True∧(0:Int)=(0:Int))∧false=false∧(True∧
 IntKind.wrap .i64 (Prod.snd a * (↑(List.length s):Int))=IntKind.wrap .i64 (Prod.snd a * (↑(List.length s):Int)))∧(True∧IntKind.wrap .i64 (w * h)=IntKind.wrap .i64 (w * h))∧(True∧
 IntKind.wrap .i64 (Prod.fst a + (1:Int))=IntKind.wrap .i64 (Prod.fst a + (1:Int)))∧True)∧True∧True)∧
 At (cntInv s (IntKind.wrap .i64 (w * h)) (IntKind.wrap .i64 (Prod.fst a + (1:Int)),IntKind.wrap .i64 (Prod.snd a * (↑(List.length s):Int)))∧
 Int.toNat (IntKind.wrap .i64 (w * h) - IntKind.wrap .i64 (Prod.fst a + (1:Int))) < Int.toNat (IntKind.wrap .i64 (w * h) - Prod.fst a)))∧(decide (Prod.fst a < IntKind.wrap .i64 (w * h))=false→
 (decide (Prod.snd a > (300:Int))=true→K (V.tup [V.int .i64 (0:Int),V.lit false]))∧(decide (Prod.snd a > (300:Int))=false→K (V.tup [V.int .i64 (Prod.snd a),V.lit true]))))))
def VC_spec_pzClue (s:List UInt8)(cells:Int)(cx:Int)(cy:Int)(ck:Int)(K:V → Prop):Prop:=
 ((cx==(0:Int))=true→At True∧(inB cy (0:Int) (IntKind.wrap .i64 (cells - (1:Int)))=true→At True∧K (V.bool (inB ck (0:Int) (IntKind.wrap .i64 ((↑(List.length s):Int) - (1:Int))))))∧
 (inB cy (0:Int) (IntKind.wrap .i64 (cells - (1:Int)))=false→K (V.lit false)))∧((cx==(0:Int))=false→((cx==(1:Int))=true→At True∧(inB cy (0:Int) (50:Int)=true→At True∧
 K (V.bool (inB ck (0:Int) (IntKind.wrap .i64 (cells - (1:Int))))))∧(inB cy (0:Int) (50:Int)=false→K (V.lit false)))∧((cx==(1:Int))=false→((cx==(2:Int))=true→At True∧(inB cy (0:Int) (50:Int)=true→At True∧
 K (V.bool (inB ck (0:Int) (3:Int))))∧(inB cy (0:Int) (50:Int)=false→K (V.lit false)))∧((cx==(2:Int))=false→((cx==(3:Int))=true→At True∧(inB cy (0:Int) (50:Int)=true→At True∧K (V.bool (inB ck (0:Int) cells)))∧
 (inB cy (0:Int) (50:Int)=false→K (V.lit false)))∧((cx==(3:Int))=false→((cx==(4:Int))=true→At True∧(inB cy (0:Int) (100:Int)=true→K (V.bool (ck==(0:Int))))∧(inB cy (0:Int) (100:Int)=false→K (V.lit false)))∧
 ((cx==(4:Int))=false→K (V.lit false))))))
def VC_spec_pzGood (pr:List UInt8)(pw:Int)(ph:Int)(n:Nat)(a:List Int)(K:V → List Blk → Prop):Prop:=
 At True∧((!sizeB pr pw ph)=true→K (V.lit false) [⟨Cells.ints .i64 a,83,Kind.rows (3:Nat)⟩,⟨Cells.vals [V.str pr,V.int .i64 pw,V.int .i64 ph,V.row (0:Nat) n],31,Kind.box⟩])∧
 ((!sizeB pr pw ph)=false→(decide ((↑n:Int) > (6:Int))=true→
 K (V.lit false) [⟨Cells.ints .i64 a,83,Kind.rows (3:Nat)⟩,⟨Cells.vals [V.str pr,V.int .i64 pw,V.int .i64 ph,V.row (0:Nat) n],31,Kind.box⟩])∧(decide ((↑n:Int) > (6:Int))=false→((((1:Nat)=(1:Nat)∧
 (0:Nat)=(0:Nat))∧false=false∧((0:Nat)=(0:Nat)∧n=n)∧(True∧(↑n:Int)=(↑n:Int))∧(True∧(0:Int)=(0:Int))∧True)∧((True∧IntKind.i64=IntKind.i64∧a=a)∧(True∧pr=pr∧(True∧pw=pw)∧(True∧ph=ph)∧((0:Nat)=(0:Nat)∧n=n)∧True)∧True)∧True)∧
 At (gzInv pr pw ph n a (0:Int))∧∀(a_3:Int),gzInv pr pw ph n a a_3→(decide (a_3 < (↑n:Int))=true→At ((0:Int)≤a_3∧a_3 < (↑n:Int))∧At (Int.toNat a_3 * (3:Nat) + (3:Nat)≤List.length a)∧At (List.length pr≤(1000:Nat)∧
 (0:Int)≤IntKind.wrap .i64 (pw * ph)∧IntKind.wrap .i64 (pw * ph)≤(1000:Int))∧
 ((!clueB (List.getD a (Int.toNat a_3 * (3:Nat)) (0:Int)) (List.getD a (Int.toNat a_3 * (3:Nat) + (1:Nat)) (0:Int)) (List.getD a (Int.toNat a_3 * (3:Nat) + (1:Nat) + (1:Nat)) (0:Int)) (↑(List.length pr):Int) (IntKind.wrap .i64 (pw * ph)))=true→
 K (V.lit false) [⟨Cells.ints .i64 a,83,Kind.rows (3:Nat)⟩,⟨Cells.vals [V.str pr,V.int .i64 pw,V.int .i64 ph,V.row (0:Nat) n],31,Kind.box⟩,⟨Cells.vals [V.int .i64 (List.getD a (Int.toNat a_3 * (3:Nat)) (0:Int)),V.int .i64 (List.getD a (Int.toNat a_3 * (3:Nat) + (1:Nat)) (0:Int)),V.int .i64 (List.getD a (Int.toNat a_3 * (3:Nat) + (1:Nat) + (1:Nat)) (0:Int))],83,Kind.box⟩])∧
 ((!clueB (List.getD a (Int.toNat a_3 * (3:Nat)) (0:Int)) (List.getD a (Int.toNat a_3 * (3:Nat) + (1:Nat)) (0:Int)) (List.getD a (Int.toNat a_3 * (3:Nat) + (1:Nat) + (1:Nat)) (0:Int)) (↑(List.length pr):Int) (IntKind.wrap .i64 (pw * ph)))=false→
 ((((1:Nat)=(1:Nat)∧(0:Nat)=(0:Nat))∧false=false∧((0:Nat)=(0:Nat)∧n=n)∧(True∧(↑n:Int)=(↑n:Int))∧(True∧IntKind.wrap .i64 (a_3 + (1:Int))=IntKind.wrap .i64 (a_3 + (1:Int)))∧True)∧((True∧IntKind.i64=IntKind.i64∧a=a)∧(True∧
 pr=pr∧(True∧pw=pw)∧(True∧ph=ph)∧((0:Nat)=(0:Nat)∧n=n)∧True)∧True)∧True)∧At (gzInv pr pw ph n a (IntKind.wrap .i64 (a_3 + (1:Int)))∧Int.toNat ((↑n:Int) - IntKind.wrap .i64 (a_3 + (1:Int))) < Int.toNat ((↑n:Int) - a_3))))∧
 (decide (a_3 < (↑n:Int))=false→K (V.lit true) [⟨Cells.ints .i64 a,83,Kind.rows (3:Nat)⟩,⟨Cells.vals [V.str pr,V.int .i64 pw,V.int .i64 ph,V.row (0:Nat) n],31,Kind.box⟩])))
def VC_impl_IsPuzzle (pr:List UInt8)(pw:Int)(ph:Int)(n:Nat)(a:List Int)(K:V → List Blk → Prop):Prop:=
 At True∧((!sizeB pr pw ph)=true→K (V.lit false) [⟨Cells.ints .i64 a,83,Kind.rows (3:Nat)⟩,⟨Cells.vals [V.str pr,V.int .i64 pw,V.int .i64 ph,V.row (0:Nat) n],31,Kind.box⟩])∧
 ((!sizeB pr pw ph)=false→(decide ((↑n:Int) > (6:Int))=true→
 K (V.lit false) [⟨Cells.ints .i64 a,83,Kind.rows (3:Nat)⟩,⟨Cells.vals [V.str pr,V.int .i64 pw,V.int .i64 ph,V.row (0:Nat) n],31,Kind.box⟩])∧(decide ((↑n:Int) > (6:Int))=false→
 At (List.length a=n * (3:Nat)∧(0:Int)≤(↑(List.length pr):Int)∧(↑(List.length pr):Int)≤(1000:Int)∧(0:Int)≤IntKind.wrap .i64 (pw * ph)∧IntKind.wrap .i64 (pw * ph)≤(1000:Int)∧n≤(2000000:Nat))∧
 K (V.bool (allC a (↑(List.length pr):Int) (IntKind.wrap .i64 (pw * ph)) n)) [⟨Cells.ints .i64 a,83,Kind.rows (3:Nat)⟩,⟨Cells.vals [V.str pr,V.int .i64 pw,V.int .i64 ph,V.row (0:Nat) n],31,Kind.box⟩]))
def VC_impl_firstClues (n:Int)(K:V → Prop):Prop:=
 At ((0:Int)≤n)∧K (V.int .u64 (IntKind.wrap IntKind.u64 (IntKind.wrap IntKind.u64 ((1:Int) * (2:Int) ^ min (Int.toNat n) (64:Nat)) - (1:Int))))
def VC_impl_oneClue (n:Int)(K:V → Prop):Prop:=
 At ((0:Int)≤n)∧K (V.int .u64 (IntKind.wrap IntKind.u64 ((1:Int) * (2:Int) ^ min (Int.toNat n) (64:Nat))))
def VC_impl_clueSet_hasAll (s:Int)(o:Int)(K:V → Prop):Prop:=
 At ((0:Int)≤s∧s < (18446744073709551616:Int)∧(0:Int)≤o∧o < (18446744073709551616:Int))∧K (V.bool ((↑(Int.toNat s &&& Int.toNat o):Int)==o))
def VC_impl_clueSet_without (s:Int)(n:Int)(K:V → Prop):Prop:=
 At ((0:Int)≤n∧n≤(60:Int))∧At ((0:Int)≤s∧s < (18446744073709551616:Int)∧(0:Int)≤(↑((2:Nat) ^ Int.toNat n):Int)∧(↑((2:Nat) ^ Int.toNat n):Int) < (18446744073709551616:Int))∧
 K (V.int .u64 (↑(Int.toNat s &&& (18446744073709551615:Nat) - Int.toNat (↑((2:Nat) ^ Int.toNat n):Int)):Int))
def VC_impl_allClues (pr:List UInt8)(pw:Int)(ph:Int)(n:Nat)(a:List Int)(K:V → List Blk → Prop):Prop:=
 At ((0:Int)≤(↑n:Int)∧(↑n:Int)≤(60:Int))∧
 K (V.int .u64 (↑((2:Nat) ^ Int.toNat (↑n:Int) - (1:Nat)):Int)) [⟨Cells.ints .i64 a,83,Kind.rows (3:Nat)⟩,⟨Cells.vals [V.str pr,V.int .i64 pw,V.int .i64 ph,V.row (0:Nat) n],31,Kind.box⟩]
def VC_impl_withClues (m:Int)(pr:List UInt8)(pw:Int)(ph:Int)(n:Nat)(a:List Int)(K:V → List Blk → Prop):Prop:=
 (True∧((True∧m=m)∧((1:Nat)=(1:Nat)∧(0:Nat)=(0:Nat))∧((2:Nat)=(2:Nat)∧(0:Nat)=(0:Nat))∧((3:Nat)=(3:Nat)∧(0:Nat)=(0:Nat))∧((0:Nat)=(0:Nat)∧n=n)∧(True∧(↑n:Int)=(↑n:Int))∧(True∧(0:Int)=(0:Int))∧True)∧((True∧
 IntKind.i64=IntKind.i64∧a=a)∧(True∧pr=pr∧(True∧pw=pw)∧(True∧ph=ph)∧((0:Nat)=(0:Nat)∧n=n)∧True)∧(True∧nilB=nilB∧(True∧(0:Int)=(0:Int))∧(True∧(0:Int)=(0:Int))∧
 Value.slice none (0:Nat) (0:Nat)=Value.slice none (0:Nat) (0:Nat)∧True)∧(True∧IntKind.i64=IntKind.i64∧nilI=keepL a m (Int.toNat (0:Int)))∧True)∧True)∧At (wcInv a n m (0:Int))∧∀(a_1:Int),wcInv a n m a_1→
 (decide (a_1 < (↑n:Int))=true→At ((0:Int)≤a_1∧a_1 < (↑n:Int))∧At (Int.toNat a_1 * (3:Nat) + (3:Nat)≤List.length a)∧At ((0:Int)≤a_1∧a_1≤(60:Int))∧At ((0:Int)≤m∧m < (18446744073709551616:Int)∧
 (0:Int)≤(↑((2:Nat) ^ Int.toNat a_1):Int)∧(↑((2:Nat) ^ Int.toNat a_1):Int) < (18446744073709551616:Int))∧(allIn2 m (↑((2:Nat) ^ Int.toNat a_1):Int)=true→
 At ((List.length (keepL a m (Int.toNat a_1))=keepN m (Int.toNat a_1) * (3:Nat)∧
 (1:Nat) * (3:Nat)≤List.length [List.getD a (Int.toNat a_1 * (3:Nat)) (0:Int),List.getD a (Int.toNat a_1 * (3:Nat) + (1:Nat)) (0:Int),List.getD a (Int.toNat a_1 * (3:Nat) + (1:Nat) + (1:Nat)) (0:Int)])∧
 posM (Kind.rows (3:Nat)) (1:Nat)∧keepN m (Int.toNat a_1) + (1:Nat)≤(1000000000:Nat))∧(True∧((True∧m=m)∧((1:Nat)=(1:Nat)∧(0:Nat)=(0:Nat))∧((2:Nat)=(2:Nat)∧(0:Nat)=(0:Nat))∧((3:Nat)=(3:Nat)∧
 keepN m (Int.toNat a_1) + (1:Nat)=keepN m (Int.toNat (IntKind.wrap .i64 (a_1 + (1:Int)))))∧((0:Nat)=(0:Nat)∧n=n)∧(True∧(↑n:Int)=(↑n:Int))∧(True∧IntKind.wrap .i64 (a_1 + (1:Int))=IntKind.wrap .i64 (a_1 + (1:Int)))∧True)∧
 ((True∧IntKind.i64=IntKind.i64∧a=a)∧(True∧pr=pr∧(True∧pw=pw)∧(True∧ph=ph)∧((0:Nat)=(0:Nat)∧n=n)∧True)∧(True∧nilB=nilB∧(True∧(0:Int)=(0:Int))∧(True∧(0:Int)=(0:Int))∧
 Value.slice none (0:Nat) (0:Nat)=Value.slice none (0:Nat) (0:Nat)∧True)∧(True∧IntKind.i64=IntKind.i64∧
 keepL a m (Int.toNat a_1) ++ List.take ((1:Nat) * (3:Nat)) [List.getD a (Int.toNat a_1 * (3:Nat)) (0:Int),List.getD a (Int.toNat a_1 * (3:Nat) + (1:Nat)) (0:Int),List.getD a (Int.toNat a_1 * (3:Nat) + (1:Nat) + (1:Nat)) (0:Int)]=keepL a m (Int.toNat (IntKind.wrap .i64 (a_1 + (1:Int)))))∧
 True)∧True)∧At (wcInv a n m (IntKind.wrap .i64 (a_1 + (1:Int)))∧Int.toNat ((↑n:Int) - IntKind.wrap .i64 (a_1 + (1:Int))) < Int.toNat ((↑n:Int) - a_1)))∧(allIn2 m (↑((2:Nat) ^ Int.toNat a_1):Int)=false→(True∧((True∧m=m)∧
 ((1:Nat)=(1:Nat)∧(0:Nat)=(0:Nat))∧((2:Nat)=(2:Nat)∧(0:Nat)=(0:Nat))∧((3:Nat)=(3:Nat)∧keepN m (Int.toNat a_1)=keepN m (Int.toNat (IntKind.wrap .i64 (a_1 + (1:Int)))))∧((0:Nat)=(0:Nat)∧n=n)∧(True∧(↑n:Int)=(↑n:Int))∧(True∧
 IntKind.wrap .i64 (a_1 + (1:Int))=IntKind.wrap .i64 (a_1 + (1:Int)))∧True)∧((True∧IntKind.i64=IntKind.i64∧a=a)∧(True∧pr=pr∧(True∧pw=pw)∧(True∧ph=ph)∧((0:Nat)=(0:Nat)∧n=n)∧True)∧(True∧nilB=nilB∧(True∧(0:Int)=(0:Int))∧
 (True∧(0:Int)=(0:Int))∧Value.slice none (0:Nat) (0:Nat)=Value.slice none (0:Nat) (0:Nat)∧True)∧(True∧IntKind.i64=IntKind.i64∧keepL a m (Int.toNat a_1)=keepL a m (Int.toNat (IntKind.wrap .i64 (a_1 + (1:Int)))))∧True)∧
 True)∧At (wcInv a n m (IntKind.wrap .i64 (a_1 + (1:Int)))∧Int.toNat ((↑n:Int) - IntKind.wrap .i64 (a_1 + (1:Int))) < Int.toNat ((↑n:Int) - a_1))))∧(decide (a_1 < (↑n:Int))=false→
 K (V.agg [V.str pr,V.int .i64 pw,V.int .i64 ph,V.row (3:Nat) (keepN m (Int.toNat a_1))]) [⟨Cells.ints .i64 a,83,Kind.rows (3:Nat)⟩,⟨Cells.vals [V.str pr,V.int .i64 pw,V.int .i64 ph,V.row (3:Nat) (keepN m (Int.toNat a_1))],31,Kind.box⟩,⟨Cells.vals [V.str pr,V.int .i64 pw,V.int .i64 ph,V.row (3:Nat) (keepN m (Int.toNat a_1))],31,Kind.box⟩,⟨Cells.ints .i64 (keepL a m (Int.toNat a_1)),83,Kind.rows (3:Nat)⟩])
def VC_spec_pzWithout (k:Int)(n:Nat)(a:List Int)(K:V → List Blk → Prop):Prop:=
 ((At ((0:Int)≤k∧k≤(↑n:Int)∧n * (3:Nat)≤Cells.len (Cells.ints .i64 a))∧(At ((List.length ([]:List Int)=(0:Nat) * (3:Nat)∧Int.toNat k * (3:Nat)≤List.length (List.drop ((0:Nat) * (3:Nat)) a))∧
 posM (rowKind (3:Nat)) (Int.toNat k)∧(0:Nat) + Int.toNat k≤(1000000000:Nat))∧(At ((0:Int)≤IntKind.wrap .i64 (k + (1:Int))∧IntKind.wrap .i64 (k + (1:Int))≤(↑n:Int)∧n * (3:Nat)≤Cells.len (Cells.ints .i64 a))∧
 (At ((List.length (([]:List Int) ++ List.take (Int.toNat k * (3:Nat)) (List.drop ((0:Nat) * (3:Nat)) a))=((0:Nat) + Int.toNat k) * (3:Nat)∧
 (n - Int.toNat (IntKind.wrap .i64 (k + (1:Int)))) * (3:Nat)≤List.length (List.drop (Int.toNat (IntKind.wrap .i64 (k + (1:Int))) * (3:Nat)) a))∧posM (rowKind (3:Nat)) (n - Int.toNat (IntKind.wrap .i64 (k + (1:Int))))∧
 (0:Nat) + Int.toNat k + (n - Int.toNat (IntKind.wrap .i64 (k + (1:Int))))≤(1000000000:Nat))∧
 K (V.row (3:Nat) ((0:Nat) + Int.toNat k + (n - Int.toNat (IntKind.wrap .i64 (k + (1:Int)))))) [⟨Cells.ints .i64 a,83,Kind.rows (3:Nat)⟩,⟨Cells.dead,83,Kind.rows (3:Nat)⟩,⟨Cells.dead,83,Kind.rows (3:Nat)⟩,⟨Cells.ints .i64 (([]:List Int) ++ List.take (Int.toNat k * (3:Nat)) (List.drop ((0:Nat) * (3:Nat)) a) ++ List.take ((n - Int.toNat (IntKind.wrap .i64 (k + (1:Int)))) * (3:Nat)) (List.drop (Int.toNat (IntKind.wrap .i64 (k + (1:Int))) * (3:Nat)) a)),83,Kind.rows (3:Nat)⟩])∧
 True)∧True)∧(At ((0:Int)≤IntKind.wrap .i64 (k + (1:Int))∧IntKind.wrap .i64 (k + (1:Int))≤(↑n:Int)∧n * (3:Nat)≤Cells.len (Cells.ints .i64 a))∧(At ((List.length ([]:List Int)=(0:Nat) * (3:Nat)∧
 Int.toNat k * (3:Nat)≤List.length (List.drop ((0:Nat) * (3:Nat)) a))∧posM (rowKind (3:Nat)) (Int.toNat k)∧(0:Nat) + Int.toNat k≤(1000000000:Nat))∧
 (At ((List.length (([]:List Int) ++ List.take (Int.toNat k * (3:Nat)) (List.drop ((0:Nat) * (3:Nat)) a))=((0:Nat) + Int.toNat k) * (3:Nat)∧
 (n - Int.toNat (IntKind.wrap .i64 (k + (1:Int)))) * (3:Nat)≤List.length (List.drop (Int.toNat (IntKind.wrap .i64 (k + (1:Int))) * (3:Nat)) a))∧posM (rowKind (3:Nat)) (n - Int.toNat (IntKind.wrap .i64 (k + (1:Int))))∧
 (0:Nat) + Int.toNat k + (n - Int.toNat (IntKind.wrap .i64 (k + (1:Int))))≤(1000000000:Nat))∧
 K (V.row (3:Nat) ((0:Nat) + Int.toNat k + (n - Int.toNat (IntKind.wrap .i64 (k + (1:Int)))))) [⟨Cells.ints .i64 a,83,Kind.rows (3:Nat)⟩,⟨Cells.dead,83,Kind.rows (3:Nat)⟩,⟨Cells.dead,83,Kind.rows (3:Nat)⟩,⟨Cells.ints .i64 (([]:List Int) ++ List.take (Int.toNat k * (3:Nat)) (List.drop ((0:Nat) * (3:Nat)) a) ++ List.take ((n - Int.toNat (IntKind.wrap .i64 (k + (1:Int)))) * (3:Nat)) (List.drop (Int.toNat (IntKind.wrap .i64 (k + (1:Int))) * (3:Nat)) a)),83,Kind.rows (3:Nat)⟩])∧
 True)∧True)∧True)∧(At ((0:Int)≤IntKind.wrap .i64 (k + (1:Int))∧IntKind.wrap .i64 (k + (1:Int))≤(↑n:Int)∧n * (3:Nat)≤Cells.len (Cells.ints .i64 a))∧(At ((0:Int)≤k∧k≤(↑n:Int)∧n * (3:Nat)≤Cells.len (Cells.ints .i64 a))∧
 (At ((List.length ([]:List Int)=(0:Nat) * (3:Nat)∧Int.toNat k * (3:Nat)≤List.length (List.drop ((0:Nat) * (3:Nat)) a))∧posM (rowKind (3:Nat)) (Int.toNat k)∧(0:Nat) + Int.toNat k≤(1000000000:Nat))∧
 (At ((List.length (([]:List Int) ++ List.take (Int.toNat k * (3:Nat)) (List.drop ((0:Nat) * (3:Nat)) a))=((0:Nat) + Int.toNat k) * (3:Nat)∧
 (n - Int.toNat (IntKind.wrap .i64 (k + (1:Int)))) * (3:Nat)≤List.length (List.drop (Int.toNat (IntKind.wrap .i64 (k + (1:Int))) * (3:Nat)) a))∧posM (rowKind (3:Nat)) (n - Int.toNat (IntKind.wrap .i64 (k + (1:Int))))∧
 (0:Nat) + Int.toNat k + (n - Int.toNat (IntKind.wrap .i64 (k + (1:Int))))≤(1000000000:Nat))∧
 K (V.row (3:Nat) ((0:Nat) + Int.toNat k + (n - Int.toNat (IntKind.wrap .i64 (k + (1:Int)))))) [⟨Cells.ints .i64 a,83,Kind.rows (3:Nat)⟩,⟨Cells.dead,83,Kind.rows (3:Nat)⟩,⟨Cells.dead,83,Kind.rows (3:Nat)⟩,⟨Cells.ints .i64 (([]:List Int) ++ List.take (Int.toNat k * (3:Nat)) (List.drop ((0:Nat) * (3:Nat)) a) ++ List.take ((n - Int.toNat (IntKind.wrap .i64 (k + (1:Int)))) * (3:Nat)) (List.drop (Int.toNat (IntKind.wrap .i64 (k + (1:Int))) * (3:Nat)) a)),83,Kind.rows (3:Nat)⟩])∧
 True)∧True)∧True)∧True)∧(At ((0:Int)≤k∧k≤(↑n:Int)∧n * (3:Nat)≤Cells.len (Cells.ints .i64 a))∧((At ((List.length ([]:List Int)=(0:Nat) * (3:Nat)∧Int.toNat k * (3:Nat)≤List.length (List.drop ((0:Nat) * (3:Nat)) a))∧
 posM (rowKind (3:Nat)) (Int.toNat k)∧(0:Nat) + Int.toNat k≤(1000000000:Nat))∧(At ((0:Int)≤IntKind.wrap .i64 (k + (1:Int))∧IntKind.wrap .i64 (k + (1:Int))≤(↑n:Int)∧n * (3:Nat)≤Cells.len (Cells.ints .i64 a))∧
 (At ((List.length (([]:List Int) ++ List.take (Int.toNat k * (3:Nat)) (List.drop ((0:Nat) * (3:Nat)) a))=((0:Nat) + Int.toNat k) * (3:Nat)∧
 (n - Int.toNat (IntKind.wrap .i64 (k + (1:Int)))) * (3:Nat)≤List.length (List.drop (Int.toNat (IntKind.wrap .i64 (k + (1:Int))) * (3:Nat)) a))∧posM (rowKind (3:Nat)) (n - Int.toNat (IntKind.wrap .i64 (k + (1:Int))))∧
 (0:Nat) + Int.toNat k + (n - Int.toNat (IntKind.wrap .i64 (k + (1:Int))))≤(1000000000:Nat))∧
 K (V.row (3:Nat) ((0:Nat) + Int.toNat k + (n - Int.toNat (IntKind.wrap .i64 (k + (1:Int)))))) [⟨Cells.ints .i64 a,83,Kind.rows (3:Nat)⟩,⟨Cells.dead,83,Kind.rows (3:Nat)⟩,⟨Cells.dead,83,Kind.rows (3:Nat)⟩,⟨Cells.ints .i64 (([]:List Int) ++ List.take (Int.toNat k * (3:Nat)) (List.drop ((0:Nat) * (3:Nat)) a) ++ List.take ((n - Int.toNat (IntKind.wrap .i64 (k + (1:Int)))) * (3:Nat)) (List.drop (Int.toNat (IntKind.wrap .i64 (k + (1:Int))) * (3:Nat)) a)),83,Kind.rows (3:Nat)⟩])∧
 True)∧True)∧(At ((0:Int)≤IntKind.wrap .i64 (k + (1:Int))∧IntKind.wrap .i64 (k + (1:Int))≤(↑n:Int)∧n * (3:Nat)≤Cells.len (Cells.ints .i64 a))∧(At ((List.length ([]:List Int)=(0:Nat) * (3:Nat)∧
 Int.toNat k * (3:Nat)≤List.length (List.drop ((0:Nat) * (3:Nat)) a))∧posM (rowKind (3:Nat)) (Int.toNat k)∧(0:Nat) + Int.toNat k≤(1000000000:Nat))∧
 (At ((List.length (([]:List Int) ++ List.take (Int.toNat k * (3:Nat)) (List.drop ((0:Nat) * (3:Nat)) a))=((0:Nat) + Int.toNat k) * (3:Nat)∧
 (n - Int.toNat (IntKind.wrap .i64 (k + (1:Int)))) * (3:Nat)≤List.length (List.drop (Int.toNat (IntKind.wrap .i64 (k + (1:Int))) * (3:Nat)) a))∧posM (rowKind (3:Nat)) (n - Int.toNat (IntKind.wrap .i64 (k + (1:Int))))∧
 (0:Nat) + Int.toNat k + (n - Int.toNat (IntKind.wrap .i64 (k + (1:Int))))≤(1000000000:Nat))∧
 K (V.row (3:Nat) ((0:Nat) + Int.toNat k + (n - Int.toNat (IntKind.wrap .i64 (k + (1:Int)))))) [⟨Cells.ints .i64 a,83,Kind.rows (3:Nat)⟩,⟨Cells.dead,83,Kind.rows (3:Nat)⟩,⟨Cells.dead,83,Kind.rows (3:Nat)⟩,⟨Cells.ints .i64 (([]:List Int) ++ List.take (Int.toNat k * (3:Nat)) (List.drop ((0:Nat) * (3:Nat)) a) ++ List.take ((n - Int.toNat (IntKind.wrap .i64 (k + (1:Int)))) * (3:Nat)) (List.drop (Int.toNat (IntKind.wrap .i64 (k + (1:Int))) * (3:Nat)) a)),83,Kind.rows (3:Nat)⟩])∧
 True)∧True)∧True)∧(At ((0:Int)≤IntKind.wrap .i64 (k + (1:Int))∧IntKind.wrap .i64 (k + (1:Int))≤(↑n:Int)∧n * (3:Nat)≤Cells.len (Cells.ints .i64 a))∧((At ((List.length ([]:List Int)=(0:Nat) * (3:Nat)∧
 Int.toNat k * (3:Nat)≤List.length (List.drop ((0:Nat) * (3:Nat)) a))∧posM (rowKind (3:Nat)) (Int.toNat k)∧(0:Nat) + Int.toNat k≤(1000000000:Nat))∧
 (At ((List.length (([]:List Int) ++ List.take (Int.toNat k * (3:Nat)) (List.drop ((0:Nat) * (3:Nat)) a))=((0:Nat) + Int.toNat k) * (3:Nat)∧
 (n - Int.toNat (IntKind.wrap .i64 (k + (1:Int)))) * (3:Nat)≤List.length (List.drop (Int.toNat (IntKind.wrap .i64 (k + (1:Int))) * (3:Nat)) a))∧posM (rowKind (3:Nat)) (n - Int.toNat (IntKind.wrap .i64 (k + (1:Int))))∧
 (0:Nat) + Int.toNat k + (n - Int.toNat (IntKind.wrap .i64 (k + (1:Int))))≤(1000000000:Nat))∧
 K (V.row (3:Nat) ((0:Nat) + Int.toNat k + (n - Int.toNat (IntKind.wrap .i64 (k + (1:Int)))))) [⟨Cells.ints .i64 a,83,Kind.rows (3:Nat)⟩,⟨Cells.dead,83,Kind.rows (3:Nat)⟩,⟨Cells.dead,83,Kind.rows (3:Nat)⟩,⟨Cells.ints .i64 (([]:List Int) ++ List.take (Int.toNat k * (3:Nat)) (List.drop ((0:Nat) * (3:Nat)) a) ++ List.take ((n - Int.toNat (IntKind.wrap .i64 (k + (1:Int)))) * (3:Nat)) (List.drop (Int.toNat (IntKind.wrap .i64 (k + (1:Int))) * (3:Nat)) a)),83,Kind.rows (3:Nat)⟩])∧
 True)∧True)∧True)∧True)∧(At ((0:Int)≤IntKind.wrap .i64 (k + (1:Int))∧IntKind.wrap .i64 (k + (1:Int))≤(↑n:Int)∧n * (3:Nat)≤Cells.len (Cells.ints .i64 a))∧((At ((0:Int)≤k∧k≤(↑n:Int)∧
 n * (3:Nat)≤Cells.len (Cells.ints .i64 a))∧(At ((List.length ([]:List Int)=(0:Nat) * (3:Nat)∧Int.toNat k * (3:Nat)≤List.length (List.drop ((0:Nat) * (3:Nat)) a))∧posM (rowKind (3:Nat)) (Int.toNat k)∧
 (0:Nat) + Int.toNat k≤(1000000000:Nat))∧(At ((List.length (([]:List Int) ++ List.take (Int.toNat k * (3:Nat)) (List.drop ((0:Nat) * (3:Nat)) a))=((0:Nat) + Int.toNat k) * (3:Nat)∧
 (n - Int.toNat (IntKind.wrap .i64 (k + (1:Int)))) * (3:Nat)≤List.length (List.drop (Int.toNat (IntKind.wrap .i64 (k + (1:Int))) * (3:Nat)) a))∧posM (rowKind (3:Nat)) (n - Int.toNat (IntKind.wrap .i64 (k + (1:Int))))∧
 (0:Nat) + Int.toNat k + (n - Int.toNat (IntKind.wrap .i64 (k + (1:Int))))≤(1000000000:Nat))∧
 K (V.row (3:Nat) ((0:Nat) + Int.toNat k + (n - Int.toNat (IntKind.wrap .i64 (k + (1:Int)))))) [⟨Cells.ints .i64 a,83,Kind.rows (3:Nat)⟩,⟨Cells.dead,83,Kind.rows (3:Nat)⟩,⟨Cells.dead,83,Kind.rows (3:Nat)⟩,⟨Cells.ints .i64 (([]:List Int) ++ List.take (Int.toNat k * (3:Nat)) (List.drop ((0:Nat) * (3:Nat)) a) ++ List.take ((n - Int.toNat (IntKind.wrap .i64 (k + (1:Int)))) * (3:Nat)) (List.drop (Int.toNat (IntKind.wrap .i64 (k + (1:Int))) * (3:Nat)) a)),83,Kind.rows (3:Nat)⟩])∧
 True)∧True)∧True)∧(At ((0:Int)≤k∧k≤(↑n:Int)∧n * (3:Nat)≤Cells.len (Cells.ints .i64 a))∧((At ((List.length ([]:List Int)=(0:Nat) * (3:Nat)∧Int.toNat k * (3:Nat)≤List.length (List.drop ((0:Nat) * (3:Nat)) a))∧
 posM (rowKind (3:Nat)) (Int.toNat k)∧(0:Nat) + Int.toNat k≤(1000000000:Nat))∧(At ((List.length (([]:List Int) ++ List.take (Int.toNat k * (3:Nat)) (List.drop ((0:Nat) * (3:Nat)) a))=((0:Nat) + Int.toNat k) * (3:Nat)∧
 (n - Int.toNat (IntKind.wrap .i64 (k + (1:Int)))) * (3:Nat)≤List.length (List.drop (Int.toNat (IntKind.wrap .i64 (k + (1:Int))) * (3:Nat)) a))∧posM (rowKind (3:Nat)) (n - Int.toNat (IntKind.wrap .i64 (k + (1:Int))))∧
 (0:Nat) + Int.toNat k + (n - Int.toNat (IntKind.wrap .i64 (k + (1:Int))))≤(1000000000:Nat))∧
 K (V.row (3:Nat) ((0:Nat) + Int.toNat k + (n - Int.toNat (IntKind.wrap .i64 (k + (1:Int)))))) [⟨Cells.ints .i64 a,83,Kind.rows (3:Nat)⟩,⟨Cells.dead,83,Kind.rows (3:Nat)⟩,⟨Cells.dead,83,Kind.rows (3:Nat)⟩,⟨Cells.ints .i64 (([]:List Int) ++ List.take (Int.toNat k * (3:Nat)) (List.drop ((0:Nat) * (3:Nat)) a) ++ List.take ((n - Int.toNat (IntKind.wrap .i64 (k + (1:Int)))) * (3:Nat)) (List.drop (Int.toNat (IntKind.wrap .i64 (k + (1:Int))) * (3:Nat)) a)),83,Kind.rows (3:Nat)⟩])∧
 True)∧True)∧True)∧True)∧True
end Go.Vi
