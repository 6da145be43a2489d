import Derived.Test.YtickpjdnncpnmaaDoorCLPf
/- How the laws compare and mark rows of numbers and of texts, beside clues. -/
namespace Go.Vi
def ixInv (m : Nat) (i : Int) : Prop := 0 <= i /\ i <= m
def eqsInv (a b : List Int) (i : Int) : Prop := 0 <= i /\ i <= a.length /\ a.length = b.length /\ a.length <= 2000000 /\ a.take i.toNat = b.take i.toNat
def ann_laws_eqIntS : Nat -> St -> Option Ann := fun _ st =>
 match st.mem, st.get 0, st.get 1 with
 | [⟨.ints _ a, _, _⟩, ⟨.ints _ b, _, _⟩], .row x n, .row y m => some {
     α := Int
     find := fun st => intAt st 5
     head := fun i => only st [(0, .row x n), (1, .row y m), (5, .int .i64 i)]
     inv := fun i => eqsInv a b i
     meas := fun i => (a.length - i).toNat }
 | _, _, _ => none
def mrkRow (a : List Int) (k0 : Int) (i : Nat) : List Int := ramp k0 i ++ a.drop i
def ann_laws_markIntS : Nat -> St -> Option Ann := fun _ st =>
 match st.mem, st.get 0, intAt st 1 with
 | [⟨.ints kd a, e, kk⟩], .row x n, some k0 => some {
     α := Int
     find := fun st => intAt st 5
     head := fun i => { only st [(0, .row x n), (1, .int .i64 (k0 + i)), (5, .int .i64 i)] with mem := [⟨.ints kd (mrkRow a k0 i.toNat), e, kk⟩] }
     inv := fun i => ixInv a.length i
     meas := fun i => ((a.length : Int) - i).toNat }
 | _, _, _ => none
def hldInv (a : List Int) (k0 : Int) (i : Int) : Prop := ixInv a.length i /\ a.take i.toNat = ramp k0 i.toNat
def ann_laws_heldIntS : Nat -> St -> Option Ann := fun _ st =>
 match st.mem, st.get 0, intAt st 1 with
 | [⟨.ints _ a, _, _⟩], .row x n, some k0 => some {
     α := Int
     find := fun st => intAt st 5
     head := fun i => only st [(0, .row x n), (1, .int .i64 (k0 + i)), (5, .int .i64 i)]
     inv := fun i => hldInv a k0 i
     meas := fun i => ((a.length : Int) - i).toNat }
 | _, _, _ => none
/-- The digits of n ahead of a text; f is more than enough. -/
def digF : Nat -> Nat -> List UInt8 -> List UInt8
 | 0, _, l => l
 | f + 1, n, l => bif decide (n = 0) then l else digF f (n / 10) (UInt8.ofNat (48 + n % 10) :: l)
def mtx (k : Int) : List UInt8 := bif decide (k <= 0) then [109, 48] else 109 :: digF k.toNat k.toNat []
def mtInv (k0 : Int) (q : Int × List UInt8) : Prop := 0 <= q.1 /\ q.1 + q.2.length <= 100000000 /\ digF q.1.toNat q.1.toNat q.2 = digF k0.toNat k0.toNat []
def ann_laws_markText : Nat -> St -> Option Ann := fun _ st =>
 match intAt st 0 with
 | some k0 => some {
   α := Int × List UInt8
   find := fun st => (match intAt st 0, strAt st 3 with | some k, some l => some (k, l) | _, _ => none)
   head := fun q => only st [(0, .int .i64 q.1), (3, .str q.2)]
   inv := fun q => mtInv k0 q
   meas := fun q => q.1.toNat }
 | none => none
def eqtInv (a b : List (List UInt8)) (i : Int) : Prop := 0 <= i /\ i <= a.length /\ a.length = b.length /\ a.length <= 2000000 /\ a.take i.toNat = b.take i.toNat
def ann_laws_eqStringS : Nat -> St -> Option Ann := fun key st =>
 match Nat.beq key 4, st.mem, st.get 0, st.get 1 with
 | true, [⟨.strs a, _, _⟩, ⟨.strs b, _, _⟩], .row x n, .row y m => some {
   α := Int
   find := fun st => intAt st 5
   head := fun i => only st [(0, .row x n), (1, .row y m), (5, .int .i64 i)]
   inv := fun i => eqtInv a b i
   meas := fun i => (a.length - i).toNat }
 | _, _, _, _ => none
def rampS (k : Int) (n : Nat) : List (List UInt8) := (List.range n).map fun j : Nat => mtx (k + (j : Int))
def mrkS (a : List (List UInt8)) (k0 : Int) (i : Nat) : List (List UInt8) := rampS k0 i ++ a.drop i
def ann_laws_markStringS : Nat -> St -> Option Ann := fun key st =>
 match Nat.beq key 2, st.mem, st.get 0, intAt st 1 with
 | true, [⟨.strs a, e, kk⟩], .row x n, some k0 => some {
   α := Int
   find := fun st => intAt st 5
   head := fun i => { only st [(0, .row x n), (1, .int .i64 (k0 + i)), (5, .int .i64 i)] with mem := [⟨.strs (mrkS a k0 i.toNat), e, kk⟩] }
   inv := fun i => ixInv a.length i
   meas := fun i => ((a.length : Int) - i).toNat }
 | _, _, _, _ => none
def hldS (a : List (List UInt8)) (k0 : Int) (i : Int) : Prop := ixInv a.length i /\ a.take i.toNat = rampS k0 i.toNat
def ann_laws_heldStringS : Nat -> St -> Option Ann := fun key st =>
 match Nat.beq key 2, st.mem, st.get 0, intAt st 1 with
 | true, [⟨.strs a, _, _⟩], .row x n, some k0 => some {
   α := Int
   find := fun st => intAt st 5
   head := fun i => only st [(0, .row x n), (1, .int .i64 (k0 + i)), (5, .int .i64 i)]
   inv := fun i => hldS a k0 i
   meas := fun i => ((a.length : Int) - i).toNat }
 | _, _, _, _ => none
end Go.Vi

/- Closed forms of the functions of this chapter. -/
namespace Go.Vi
set_option linter.unusedVariables false
def F_laws_eqIntS : FSpec := fun args m =>
 match args, m with
 | [.row 0 n, .row 1 m], [⟨.ints .i64 a, e, k⟩, ⟨.ints .i64 b, f, q⟩] => some (a.length = n /\ b.length = m /\ n <= 2000000 /\ m <= 2000000, .bool (a == b))
 | _, _ => none
def F_laws_markIntS : GSpec := fun args m =>
 match args, m with
 | [.row 0 n, .int .i64 k], [⟨.ints .i64 (a), 3, .row⟩] => some (a.length = n /\ n <= 2000000 /\ 0 <= k /\ k <= 1000000000000000, .int .i64 (k + (n : Nat)), [⟨.ints .i64 (ramp k n), 3, .row⟩])
 | _, _ => none
def F_laws_heldIntS : FSpec := fun args m =>
 match args, m with
 | [.row 0 n, .int .i64 q], [⟨.ints .i64 a, e, k⟩] => some (a.length = n /\ n <= 2000000 /\ 0 <= q /\ q <= 1000000000000000, .int .i64 (bif a == ramp q n then q + (n : Nat) else -1))
 | _, _ => none
def F_laws_eqStringS : FSpec := fun args m =>
 match args, m with
 | [.row 0 n, .row 1 m], [⟨.strs (a), e, k⟩, ⟨.strs (b), f, q⟩] => some (a.length = n /\ b.length = m /\ n <= 2000000 /\ m <= 2000000, .bool (a == b))
 | _, _ => none
def F_laws_markText : FSpec := fun args m =>
 match args, m with
 | [.int .i64 k], [] => some (0 <= k /\ k <= 100000000, .str (mtx k))
 | _, _ => none
def F_laws_markStringS : GSpec := fun args m =>
 match args, m with
 | [.row 0 n, .int .i64 k], [⟨.strs (a), 9, .row⟩] => some (a.length = n /\ n <= 2000000 /\ 0 <= k /\ k <= 10000000, .int .i64 (k + (n : Nat)), [⟨.strs (rampS k n), 9, .row⟩])
 | _, _ => none
def F_laws_heldStringS : FSpec := fun args m =>
 match args, m with
 | [.row 0 n, .int .i64 q], [⟨.strs (a), 9, .row⟩] => some (a.length = n /\ n <= 2000000 /\ 0 <= q /\ q <= 10000000, .int .i64 (bif a == rampS q n then q + (n : Nat) else -1))
 | _, _ => none
end Go.Vi

/- The conditions, reckoned out by program: texts alone. -/
namespace Go.Vi
set_option linter.unusedVariables false
def VC_laws_eqIntS (n:Nat)(m:Nat)(a:List Int)(b:List Int)(e:TypeId)(k:Kind)(f:TypeId)(q:Kind)(K:V → List Blk → Prop):Prop:=
 (((↑n:Int) != (↑m:Int))=true→K (V.lit false) [⟨Cells.ints .i64 a,e,k⟩,⟨Cells.ints .i64 b,f,q⟩])∧(((↑n:Int) != (↑m:Int))=false→((((0:Nat)=(0:Nat)∧n=n)∧((1:Nat)=(1:Nat)∧m=m)∧(True∧(0:Int)=(0:Int))∧True)∧
 ((Bool.rec False True (Nat.beq e e && decide (k=k))∧IntKind.i64=IntKind.i64∧a=a)∧(Bool.rec False True (Nat.beq f f && decide (q=q))∧IntKind.i64=IntKind.i64∧b=b)∧True)∧True)∧At (eqsInv a b (0:Int))∧
 ∀(a_2:Int),eqsInv a b a_2→(decide (a_2 < (↑n:Int))=true→True∧At ((0:Int)≤a_2∧a_2 < (↑n:Int))∧At (Int.toNat a_2 < List.length a)∧At ((0:Int)≤a_2∧a_2 < (↑m:Int))∧At (Int.toNat a_2 < List.length b)∧
 ((List.getD a (Int.toNat a_2) (0:Int) != List.getD b (Int.toNat a_2) (0:Int))=true→K (V.lit false) [⟨Cells.ints .i64 a,e,k⟩,⟨Cells.ints .i64 b,f,q⟩])∧
 ((List.getD a (Int.toNat a_2) (0:Int) != List.getD b (Int.toNat a_2) (0:Int))=false→((((0:Nat)=(0:Nat)∧n=n)∧((1:Nat)=(1:Nat)∧m=m)∧(True∧IntKind.wrap .i64 (a_2 + (1:Int))=IntKind.wrap .i64 (a_2 + (1:Int)))∧True)∧
 ((Bool.rec False True (Nat.beq e e && decide (k=k))∧IntKind.i64=IntKind.i64∧a=a)∧(Bool.rec False True (Nat.beq f f && decide (q=q))∧IntKind.i64=IntKind.i64∧b=b)∧True)∧True)∧
 At (eqsInv a b (IntKind.wrap .i64 (a_2 + (1:Int)))∧Int.toNat ((↑(List.length a):Int) - IntKind.wrap .i64 (a_2 + (1:Int))) < Int.toNat ((↑(List.length a):Int) - a_2))))∧(decide (a_2 < (↑n:Int))=false→
 K (V.lit true) [⟨Cells.ints .i64 a,e,k⟩,⟨Cells.ints .i64 b,f,q⟩]))
def VC_laws_markIntS (k:Int)(n:Nat)(a:List Int)(K:V → List Blk → Prop):Prop:=
 ((((0:Nat)=(0:Nat)∧n=n)∧(True∧k=k + (0:Int))∧(True∧(0:Int)=(0:Int))∧True)∧((True∧IntKind.i64=IntKind.i64∧a=mrkRow a k (Int.toNat (0:Int)))∧True)∧True)∧At (ixInv (List.length a) (0:Int))∧
 ∀(a_1:Int),ixInv (List.length a) a_1→(decide (a_1 < (↑n:Int))=true→At ((0:Int)≤a_1∧a_1 < (↑n:Int))∧At (Int.toNat a_1 < List.length (mrkRow a k (Int.toNat a_1)))∧((((0:Nat)=(0:Nat)∧n=n)∧(True∧
 IntKind.wrap .i64 (k + a_1 + (1:Int))=k + IntKind.wrap .i64 (a_1 + (1:Int)))∧(True∧IntKind.wrap .i64 (a_1 + (1:Int))=IntKind.wrap .i64 (a_1 + (1:Int)))∧True)∧((True∧IntKind.i64=IntKind.i64∧
 List.set (mrkRow a k (Int.toNat a_1)) (Int.toNat a_1) (k + a_1)=mrkRow a k (Int.toNat (IntKind.wrap .i64 (a_1 + (1:Int)))))∧True)∧True)∧At (ixInv (List.length a) (IntKind.wrap .i64 (a_1 + (1:Int)))∧
 Int.toNat ((↑(List.length a):Int) - IntKind.wrap .i64 (a_1 + (1:Int))) < Int.toNat ((↑(List.length a):Int) - a_1)))∧(decide (a_1 < (↑n:Int))=false→
 K (V.int .i64 (k + a_1)) [⟨Cells.ints .i64 (mrkRow a k (Int.toNat a_1)),3,Kind.row⟩])
def VC_laws_heldIntS (q:Int)(n:Nat)(a:List Int)(e:TypeId)(k:Kind)(K:V → List Blk → Prop):Prop:=
 ((((0:Nat)=(0:Nat)∧n=n)∧(True∧q=q + (0:Int))∧(True∧(0:Int)=(0:Int))∧True)∧((Bool.rec False True (Nat.beq e e && decide (k=k))∧IntKind.i64=IntKind.i64∧a=a)∧True)∧True)∧At (hldInv a q (0:Int))∧∀(a_1:Int),hldInv a q a_1→
 (decide (a_1 < (↑n:Int))=true→At ((0:Int)≤a_1∧a_1 < (↑n:Int))∧At (Int.toNat a_1 < List.length a)∧((List.getD a (Int.toNat a_1) (0:Int) != q + a_1)=true→K (V.int .i64 (-1:Int)) [⟨Cells.ints .i64 a,e,k⟩])∧
 ((List.getD a (Int.toNat a_1) (0:Int) != q + a_1)=false→((((0:Nat)=(0:Nat)∧n=n)∧(True∧IntKind.wrap .i64 (q + a_1 + (1:Int))=q + IntKind.wrap .i64 (a_1 + (1:Int)))∧(True∧
 IntKind.wrap .i64 (a_1 + (1:Int))=IntKind.wrap .i64 (a_1 + (1:Int)))∧True)∧((Bool.rec False True (Nat.beq e e && decide (k=k))∧IntKind.i64=IntKind.i64∧a=a)∧True)∧True)∧At (hldInv a q (IntKind.wrap .i64 (a_1 + (1:Int)))∧
 Int.toNat ((↑(List.length a):Int) - IntKind.wrap .i64 (a_1 + (1:Int))) < Int.toNat ((↑(List.length a):Int) - a_1))))∧(decide (a_1 < (↑n:Int))=false→K (V.int .i64 (q + a_1)) [⟨Cells.ints .i64 a,e,k⟩])
def VC_laws_eqStringS (n:Nat)(m:Nat)(a:List (List UInt8))(b:List (List UInt8))(e:TypeId)(k:Kind)(f:TypeId)(q:Kind)(K:V → List Blk → Prop):Prop:=
 (((↑n:Int) != (↑m:Int))=true→K (V.lit false) [⟨Cells.strs a,e,k⟩,⟨Cells.strs b,f,q⟩])∧(((↑n:Int) != (↑m:Int))=false→((((0:Nat)=(0:Nat)∧n=n)∧((1:Nat)=(1:Nat)∧m=m)∧(True∧(0:Int)=(0:Int))∧True)∧
 ((Bool.rec False True (Nat.beq e e && decide (k=k))∧a=a)∧(Bool.rec False True (Nat.beq f f && decide (q=q))∧b=b)∧True)∧True)∧At (eqtInv a b (0:Int))∧∀(a_2:Int),eqtInv a b a_2→(decide (a_2 < (↑n:Int))=true→True∧
 At ((0:Int)≤a_2∧a_2 < (↑n:Int))∧At (Int.toNat a_2 < List.length a)∧At ((0:Int)≤a_2∧a_2 < (↑m:Int))∧At (Int.toNat a_2 < List.length b)∧((!List.getD a (Int.toNat a_2) []==List.getD b (Int.toNat a_2) [])=true→
 K (V.lit false) [⟨Cells.strs a,e,k⟩,⟨Cells.strs b,f,q⟩])∧((!List.getD a (Int.toNat a_2) []==List.getD b (Int.toNat a_2) [])=false→((((0:Nat)=(0:Nat)∧n=n)∧((1:Nat)=(1:Nat)∧m=m)∧(True∧
 IntKind.wrap .i64 (a_2 + (1:Int))=IntKind.wrap .i64 (a_2 + (1:Int)))∧True)∧((Bool.rec False True (Nat.beq e e && decide (k=k))∧a=a)∧(Bool.rec False True (Nat.beq f f && decide (q=q))∧b=b)∧True)∧True)∧
 At (eqtInv a b (IntKind.wrap .i64 (a_2 + (1:Int)))∧Int.toNat ((↑(List.length a):Int) - IntKind.wrap .i64 (a_2 + (1:Int))) < Int.toNat ((↑(List.length a):Int) - a_2))))∧(decide (a_2 < (↑n:Int))=false→
 K (V.lit true) [⟨Cells.strs a,e,k⟩,⟨Cells.strs b,f,q⟩]))
def VC_laws_markText (k:Int)(K:V → Prop):Prop:=
 (decide (k≤(0:Int))=true→K (V.str (Array.toList #[(109:UInt8),(48:UInt8)])))∧(decide (k≤(0:Int))=false→(((True∧k=k)∧nilB=nilB∧True)∧True∧True)∧At (mtInv k (k,Array.toList #[]))∧∀(a:Int × List UInt8),mtInv k a→
 (decide (Prod.fst a > (0:Int))=true→At ((10:Int) ≠ (0:Int))∧At (∀(n:Int),n ∈ [IntKind.wrap IntKind.u8 (IntKind.wrap .i64 ((48:Int) + Int.tmod (Prod.fst a) (10:Int)))]→(0:Int)≤n∧n < (256:Int))∧
 At ((1:Nat)≤List.length (List.map (fun (n:Int) ↦ UInt8.ofNat (Int.toNat n)) [IntKind.wrap IntKind.u8 (IntKind.wrap .i64 ((48:Int) + Int.tmod (Prod.fst a) (10:Int)))]))∧
 At (List.length (List.take (1:Nat) (List.map (fun (n:Int) ↦ UInt8.ofNat (Int.toNat n)) [IntKind.wrap IntKind.u8 (IntKind.wrap .i64 ((48:Int) + Int.tmod (Prod.fst a) (10:Int)))])) + List.length (Prod.snd a)≤(9223372036854775807:Nat))∧
 At ((10:Int) ≠ (0:Int))∧(((True∧IntKind.wrap .i64 (Int.tdiv (Prod.fst a) (10:Int))=IntKind.wrap .i64 (Int.tdiv (Prod.fst a) (10:Int)))∧
 List.take (1:Nat) (List.map (fun (n:Int) ↦ UInt8.ofNat (Int.toNat n)) [IntKind.wrap IntKind.u8 (IntKind.wrap .i64 ((48:Int) + Int.tmod (Prod.fst a) (10:Int)))]) ++ Prod.snd a=List.take (1:Nat) (List.map (fun (n:Int) ↦ UInt8.ofNat (Int.toNat n)) [IntKind.wrap IntKind.u8 (IntKind.wrap .i64 ((48:Int) + Int.tmod (Prod.fst a) (10:Int)))]) ++ Prod.snd a∧
 True)∧True∧True)∧
 At (mtInv k (IntKind.wrap .i64 (Int.tdiv (Prod.fst a) (10:Int)),List.take (1:Nat) (List.map (fun (n:Int) ↦ UInt8.ofNat (Int.toNat n)) [IntKind.wrap IntKind.u8 (IntKind.wrap .i64 ((48:Int) + Int.tmod (Prod.fst a) (10:Int)))]) ++ Prod.snd a)∧
 Int.toNat (IntKind.wrap .i64 (Int.tdiv (Prod.fst a) (10:Int))) < Int.toNat (Prod.fst a)))∧(decide (Prod.fst a > (0:Int))=false→
 At (List.length (Array.toList #[(109:UInt8)]) + List.length (Prod.snd a)≤(9223372036854775807:Nat))∧K (V.str (Array.toList #[(109:UInt8)] ++ Prod.snd a))))
def VC_laws_markStringS (k:Int)(n:Nat)(a:List (List UInt8))(K:V → List Blk → Prop):Prop:=
 ((((0:Nat)=(0:Nat)∧n=n)∧(True∧k=k + (0:Int))∧(True∧(0:Int)=(0:Int))∧True)∧((True∧a=mrkS a k (Int.toNat (0:Int)))∧True)∧True)∧At (ixInv (List.length a) (0:Int))∧∀(a_1:Int),ixInv (List.length a) a_1→
 (decide (a_1 < (↑n:Int))=true→At ((0:Int)≤k + a_1∧k + a_1≤(100000000:Int))∧At ((0:Int)≤a_1∧a_1 < (↑n:Int))∧At (Int.toNat a_1 < List.length (mrkS a k (Int.toNat a_1)))∧((((0:Nat)=(0:Nat)∧n=n)∧(True∧
 IntKind.wrap .i64 (k + a_1 + (1:Int))=k + IntKind.wrap .i64 (a_1 + (1:Int)))∧(True∧IntKind.wrap .i64 (a_1 + (1:Int))=IntKind.wrap .i64 (a_1 + (1:Int)))∧True)∧((True∧
 List.set (mrkS a k (Int.toNat a_1)) (Int.toNat a_1) (mtx (k + a_1))=mrkS a k (Int.toNat (IntKind.wrap .i64 (a_1 + (1:Int)))))∧True)∧True)∧At (ixInv (List.length a) (IntKind.wrap .i64 (a_1 + (1:Int)))∧
 Int.toNat ((↑(List.length a):Int) - IntKind.wrap .i64 (a_1 + (1:Int))) < Int.toNat ((↑(List.length a):Int) - a_1)))∧(decide (a_1 < (↑n:Int))=false→
 K (V.int .i64 (k + a_1)) [⟨Cells.strs (mrkS a k (Int.toNat a_1)),9,Kind.row⟩])
def VC_laws_heldStringS (q:Int)(n:Nat)(a:List (List UInt8))(K:V → List Blk → Prop):Prop:=
 ((((0:Nat)=(0:Nat)∧n=n)∧(True∧q=q + (0:Int))∧(True∧(0:Int)=(0:Int))∧True)∧((True∧a=a)∧True)∧True)∧At (hldS a q (0:Int))∧∀(a_1:Int),hldS a q a_1→(decide (a_1 < (↑n:Int))=true→True∧At ((0:Int)≤a_1∧a_1 < (↑n:Int))∧
 At (Int.toNat a_1 < List.length a)∧At ((0:Int)≤q + a_1∧q + a_1≤(100000000:Int))∧((!List.getD a (Int.toNat a_1) []==mtx (q + a_1))=true→K (V.int .i64 (-1:Int)) [⟨Cells.strs a,9,Kind.row⟩])∧
 ((!List.getD a (Int.toNat a_1) []==mtx (q + a_1))=false→((((0:Nat)=(0:Nat)∧n=n)∧(True∧IntKind.wrap .i64 (q + a_1 + (1:Int))=q + IntKind.wrap .i64 (a_1 + (1:Int)))∧(True∧
 IntKind.wrap .i64 (a_1 + (1:Int))=IntKind.wrap .i64 (a_1 + (1:Int)))∧True)∧((True∧a=a)∧True)∧True)∧At (hldS a q (IntKind.wrap .i64 (a_1 + (1:Int)))∧
 Int.toNat ((↑(List.length a):Int) - IntKind.wrap .i64 (a_1 + (1:Int))) < Int.toNat ((↑(List.length a):Int) - a_1))))∧(decide (a_1 < (↑n:Int))=false→K (V.int .i64 (q + a_1)) [⟨Cells.strs a,9,Kind.row⟩])
end Go.Vi

/- The conditions hold: rows of numbers and of texts compared and marked. -/
namespace Go.Vi
set_option linter.unusedSimpArgs false
theorem mk_wrap {x : Int} (h : -9223372036854775808 <= x /\ x <= 9223372036854775807) : IntKind.wrap .i64 x = x := IntWalk.i64_in _ (by omega)
theorem recT {b : Bool} (h : b = true) : (Bool.rec False True b : Prop) := by subst h; trivial
theorem ek_refl (e : TypeId) (k : Kind) : (Bool.rec False True (Nat.beq e e && decide (k = k)) : Prop) := recT (by simp)
theorem retG_a1 {q r : Int} {a : List Int} {e : TypeId} {k : Kind} {J : List Blk} (h : q = r) : retG 1 (.int .i64 r) [⟨.ints .i64 a, e, k⟩] (.int .i64 q) (⟨.ints .i64 a, e, k⟩ :: J) := by
 subst h
 unfold retG leSel leSelBy autoSel
 simp [pairsL, pairsV, idPairs, pairsIn, selOf, lookN, selMem, chkB, nodupSel, hasSel, prefSel, leSt, leL, leV, nilToL, V.nilTo, selL, V.sel, Cells.selN, leMem, leCells, memUnder, underL, V.under]
theorem retG_a2l {q r : Bool} {a b : List Int} {e f : TypeId} {k g : Kind} {J : List Blk} (h : q = r) : retG 2 (.bool r) [⟨.ints .i64 a, e, k⟩, ⟨.ints .i64 b, f, g⟩] (.lit q) (⟨.ints .i64 a, e, k⟩ :: ⟨.ints .i64 b, f, g⟩ :: J) := by
 subst h
 unfold retG leSel leSelBy autoSel
 simp [pairsL, pairsV, idPairs, pairsIn, selOf, lookN, selMem, chkB, nodupSel, hasSel, prefSel, leSt, leL, leV, nilToL, V.nilTo, selL, V.sel, Cells.selN, leMem, leCells, memUnder, underL, V.under]
theorem take_snoc {α : Type} {l : List α} {i : Nat} (h : i < l.length) (d : α) : l.take (i + 1) = l.take i ++ [l.getD i d] := by
 rw [List.take_succ_eq_append_getElem h]
 simp [List.getD_eq_getElem?_getD, List.getElem?_eq_getElem h]
theorem ne_at {α : Type} [BEq α] [LawfulBEq α] {a b : List α} {i : Nat} {d : α} (h : (a.getD i d == b.getD i d) = false) : (a == b) = false := by
 rw [beq_eq_false_iff_ne] at h ⊢
 rintro rfl
 exact h rfl
theorem vc_laws_eqIntS (n m : Nat) (a b : List Int) (e : TypeId) (k : Kind) (f : TypeId) (q : Kind) (h : a.length = n /\ b.length = m /\ n <= 2000000 /\ m <= 2000000) : VC_laws_eqIntS n m a b e k f q (retG 2 (.bool (a == b)) [⟨.ints .i64 a, e, k⟩, ⟨.ints .i64 b, f, q⟩]) := by
 obtain ⟨rfl, rfl, h1, h2⟩ := h
 unfold VC_laws_eqIntS
 refine ⟨fun hne => retG_a2l ?_, fun heq => ⟨⟨by simp, ⟨⟨ek_refl e k, rfl, rfl⟩, ⟨ek_refl f q, rfl, rfl⟩, trivial⟩, trivial⟩, ?_, fun i hi => ⟨fun hc => ?_, fun hc => retG_a2l ?_⟩⟩⟩
 ·symm
  rw [beq_eq_false_iff_ne]
  rintro rfl
  simp at hne
 ·simp only [bne_eq_false_iff_eq] at heq
  exact ⟨by omega, by omega, by omega, h1, rfl⟩
 ·have hc := of_decide_eq_true hc
  obtain ⟨g1, g2, g3, g4, g5⟩ := hi
  have hla : i.toNat < a.length := by omega
  have hlb : i.toNat < b.length := by omega
  rw [mk_wrap (x := i + 1) (by omega)]
  refine ⟨trivial, ⟨g1, hc⟩, ⟨hla⟩, ⟨by omega, by omega⟩, ⟨hlb⟩, fun hn => retG_a2l ?_, fun he => ⟨⟨by simp, ⟨⟨ek_refl e k, rfl, rfl⟩, ⟨ek_refl f q, rfl, rfl⟩, trivial⟩, trivial⟩, ⟨⟨by omega, by omega, g3, g4, ?_⟩, by omega⟩⟩⟩
  ·exact (ne_at (i := i.toNat) (d := 0) (by simpa [bne] using hn)).symm
  ·simp only [bne_eq_false_iff_eq] at he
   rw [show (i + 1).toNat = i.toNat + 1 by omega, take_snoc hla 0, take_snoc hlb 0, g5, he]
 ·have hc := of_decide_eq_false hc
  obtain ⟨g1, g2, g3, g4, g5⟩ := hi
  rw [List.take_of_length_le (by omega), List.take_of_length_le (by omega)] at g5
  simp [g5]
theorem mrkRow_len {a : List Int} {k : Int} {i : Nat} (h : i <= a.length) : (mrkRow a k i).length = a.length := by
 simp only [mrkRow, List.length_append, ramp_len, List.length_drop]
 omega
theorem mrkRow_set {a : List Int} {k v : Int} {i : Nat} (h : i < a.length) (hv : v = k + (i : Int)) : (mrkRow a k i).set i v = mrkRow a k (i + 1) := by
 subst hv
 unfold mrkRow
 rw [List.set_append_right _ _ (by rw [ramp_len]; exact Nat.le_refl _), ramp_len, Nat.sub_self, List.drop_eq_getElem_cons h, List.set_cons_zero, ramp_succ, List.append_assoc]
 rfl
theorem retG_w1 {q r : Int} {a b : List Int} {e : TypeId} {k : Kind} {J : List Blk} (h : q = r) (hb : b = a) : retG 1 (.int .i64 r) [⟨.ints .i64 a, e, k⟩] (.int .i64 q) (⟨.ints .i64 b, e, k⟩ :: J) := by
 subst hb; exact retG_a1 h
theorem vc_laws_markIntS (k : Int) (n : Nat) (a : List Int) (h : a.length = n /\ n <= 2000000 /\ 0 <= k /\ k <= 1000000000000000) : VC_laws_markIntS k n a (retG 1 (.int .i64 (k + (n : Nat))) [⟨.ints .i64 (ramp k n), 3, .row⟩]) := by
 obtain ⟨rfl, h1, h2, h3⟩ := h
 unfold VC_laws_markIntS
 refine ⟨by simp [mrkRow, ramp], ⟨by omega, by omega⟩, fun i hi => ⟨fun hc => ?_, fun hc => ?_⟩⟩
 ·have hc := of_decide_eq_true hc
  obtain ⟨g1, g2⟩ := hi
  rw [mk_wrap (x := i + 1) (by omega), mk_wrap (x := k + i + 1) (by omega), mrkRow_set (by omega) (show k + i = k + ((i.toNat : Nat) : Int) by omega), mrkRow_len (by omega), show (i + 1).toNat = i.toNat + 1 by omega]
  refine ⟨⟨g1, hc⟩, ⟨by omega⟩, ⟨⟨⟨rfl, rfl⟩, ⟨trivial, by omega⟩, ⟨trivial, rfl⟩, trivial⟩, ⟨⟨trivial, rfl, rfl⟩, trivial⟩, trivial⟩, ⟨⟨by omega, by omega⟩, by omega⟩⟩
 ·have hc := of_decide_eq_false hc
  obtain ⟨g1, g2⟩ := hi
  have e : i.toNat = a.length := by omega
  refine retG_w1 (by omega) ?_
  unfold mrkRow
  rw [e, List.drop_length, List.append_nil]
theorem vc_laws_heldIntS (q : Int) (n : Nat) (a : List Int) (e : TypeId) (k : Kind) (h : a.length = n /\ n <= 2000000 /\ 0 <= q /\ q <= 1000000000000000) : VC_laws_heldIntS q n a e k (retG 1 (.int .i64 (bif a == ramp q n then q + (n : Nat) else -1)) [⟨.ints .i64 a, e, k⟩]) := by
 obtain ⟨rfl, h1, h2, h3⟩ := h
 unfold VC_laws_heldIntS
 refine ⟨⟨by simp, ⟨⟨ek_refl e k, rfl, rfl⟩, trivial⟩, trivial⟩, ⟨⟨by omega, by omega⟩, by simp [ramp]⟩, fun i ⟨⟨g1, g2⟩, g3⟩ => ⟨fun hc => ?_, fun hc => retG_a1 ?_⟩⟩
 ·have hc := of_decide_eq_true hc
  have hil : i.toNat < a.length := by omega
  rw [mk_wrap (x := i + 1) (by omega), mk_wrap (x := q + i + 1) (by omega)]
  refine ⟨⟨g1, hc⟩, ⟨hil⟩, fun hn => retG_a1 ?_, fun hy => ⟨⟨⟨⟨rfl, rfl⟩, ⟨trivial, by omega⟩, ⟨trivial, rfl⟩, trivial⟩, ⟨⟨ek_refl e k, rfl, rfl⟩, trivial⟩, trivial⟩, ⟨⟨⟨by omega, by omega⟩, ?_⟩, by omega⟩⟩⟩
  ·have hne : (a == ramp q a.length) = false := by
    refine ne_at (i := i.toNat) (d := 0) ?_
    rw [show (ramp q a.length).getD i.toNat 0 = q + i by
     simp [ramp, List.getD_eq_getElem?_getD, hil]
     omega]
    simpa [bne] using hn
   rw [hne]; rfl
  ·simp only [bne_eq_false_iff_eq] at hy
   rw [show (i + 1).toNat = i.toNat + 1 by omega, take_snoc hil 0, ramp_succ, g3, hy, show q + ((i.toNat : Nat) : Int) = q + i by omega]
 ·have hc := of_decide_eq_false hc
  have e : i.toNat = a.length := by omega
  rw [e, List.take_length] at g3
  rw [<- g3]
  simp
  omega
theorem retG_s2l {q r : Bool} {a b : List (List UInt8)} {e f : TypeId} {k g : Kind} {J : List Blk} (h : q = r) : retG 2 (.bool r) [⟨.strs a, e, k⟩, ⟨.strs b, f, g⟩] (.lit q) (⟨.strs a, e, k⟩ :: ⟨.strs b, f, g⟩ :: J) := by
 subst h
 unfold retG leSel leSelBy autoSel
 simp [pairsL, pairsV, idPairs, pairsIn, selOf, lookN, selMem, chkB, nodupSel, hasSel, prefSel, leSt, leL, leV, nilToL, V.nilTo, selL, V.sel, Cells.selN, leMem, leCells, memUnder, underL, V.under]
theorem retG_s1 {q r : Int} {a : List (List UInt8)} {e : TypeId} {k : Kind} {J : List Blk} (h : q = r) : retG 1 (.int .i64 r) [⟨.strs a, e, k⟩] (.int .i64 q) (⟨.strs a, e, k⟩ :: J) := by
 subst h
 unfold retG leSel leSelBy autoSel
 simp [pairsL, pairsV, idPairs, pairsIn, selOf, lookN, selMem, chkB, nodupSel, hasSel, prefSel, leSt, leL, leV, nilToL, V.nilTo, selL, V.sel, Cells.selN, leMem, leCells, memUnder, underL, V.under]
theorem retG_ws1 {q r : Int} {a b : List (List UInt8)} {e : TypeId} {k : Kind} {J : List Blk} (h : q = r) (hb : b = a) : retG 1 (.int .i64 r) [⟨.strs a, e, k⟩] (.int .i64 q) (⟨.strs b, e, k⟩ :: J) := by
 subst hb; exact retG_s1 h
theorem vc_laws_eqStringS (n m : Nat) (a b : List (List UInt8)) (e : TypeId) (k : Kind) (f : TypeId) (q : Kind) (h : a.length = n /\ b.length = m /\ n <= 2000000 /\ m <= 2000000) : VC_laws_eqStringS n m a b e k f q (retG 2 (.bool (a == b)) [⟨.strs a, e, k⟩, ⟨.strs b, f, q⟩]) := by
 obtain ⟨rfl, rfl, h1, h2⟩ := h
 unfold VC_laws_eqStringS
 refine ⟨fun hne => retG_s2l ?_, fun heq => ⟨⟨by simp, ⟨⟨ek_refl e k, rfl⟩, ⟨ek_refl f q, rfl⟩, trivial⟩, trivial⟩, ?_, fun i hi => ⟨fun hc => ?_, fun hc => retG_s2l ?_⟩⟩⟩
 ·symm
  rw [beq_eq_false_iff_ne]
  rintro rfl
  simp at hne
 ·simp only [bne_eq_false_iff_eq] at heq
  exact ⟨by omega, by omega, by omega, h1, rfl⟩
 ·have hc := of_decide_eq_true hc
  obtain ⟨g1, g2, g3, g4, g5⟩ := hi
  have hla : i.toNat < a.length := by omega
  have hlb : i.toNat < b.length := by omega
  rw [mk_wrap (x := i + 1) (by omega)]
  refine ⟨trivial, ⟨g1, hc⟩, ⟨hla⟩, ⟨by omega, by omega⟩, ⟨hlb⟩, fun hn => retG_s2l ?_, fun he => ⟨⟨by simp, ⟨⟨ek_refl e k, rfl⟩, ⟨ek_refl f q, rfl⟩, trivial⟩, trivial⟩, ⟨⟨by omega, by omega, g3, g4, ?_⟩, by omega⟩⟩⟩
  ·exact (ne_at (i := i.toNat) (d := []) (by simpa [bne] using hn)).symm
  ·have he : a.getD i.toNat [] = b.getD i.toNat [] := by simpa using he
   rw [show (i + 1).toNat = i.toNat + 1 by omega, take_snoc hla [], take_snoc hlb [], g5, he]
 ·have hc := of_decide_eq_false hc
  obtain ⟨g1, g2, g3, g4, g5⟩ := hi
  rw [List.take_of_length_le (by omega), List.take_of_length_le (by omega)] at g5
  simp [g5]
theorem digF_any : ∀ (f g n : Nat) (l : List UInt8), n <= f -> n <= g -> digF f n l = digF g n l
 | 0, 0, _, _, _, _ => rfl
 | 0, g + 1, n, l, h, _ => by
  have : n = 0 := by omega
  subst this; rfl
 | f + 1, 0, n, l, _, h => by
  have : n = 0 := by omega
  subst this; rfl
 | f + 1, g + 1, n, l, h1, h2 => by
  unfold digF
  by_cases hn : n = 0
  ·rw [decide_eq_true hn]; rfl
  ·rw [decide_eq_false hn]
   exact digF_any f g (n / 10) _ (by omega) (by omega)
theorem digF_step {n : Nat} (h : 0 < n) (l : List UInt8) : digF n n l = digF (n / 10) (n / 10) (UInt8.ofNat (48 + n % 10) :: l) := by
 obtain ⟨m, rfl⟩ : ∃ m, n = m + 1 := ⟨n - 1, by omega⟩
 show (bif decide (m + 1 = 0) then l else digF m ((m + 1) / 10) (UInt8.ofNat (48 + (m + 1) % 10) :: l)) = _
 rw [decide_eq_false (by omega)]
 exact digF_any _ _ _ _ (by omega) (Nat.le_refl _)
theorem u8_ins {x : Int} (h : 0 <= x /\ x <= 255) : IntKind.wrap .u8 x = x := IntWalk.u8_in _ (by omega)
theorem vc_laws_markText (k : Int) (h : 0 <= k /\ k <= 100000000) : VC_laws_markText k (retP (.str (mtx k))) := by
 unfold VC_laws_markText
 simp only [at_iff, true_and, and_true]
 refine ⟨fun h0 => ?_, fun h0 => ⟨⟨h.1, by simp; omega, rfl⟩, fun q hq => ⟨fun hc => ?_, fun hc => ?_⟩⟩⟩
 ·unfold mtx; rw [h0]; exact (retP_str _ _).2 rfl
 ·have hc := of_decide_eq_true hc
  obtain ⟨q, l⟩ := q
  obtain ⟨g0, g1, g2⟩ := hq
  dsimp only at *
  obtain ⟨m, rfl⟩ : ∃ m : Nat, q = m := ⟨q.toNat, by omega⟩
  have e1 : Int.tmod (m : Int) 10 = ((m % 10 : Nat) : Int) := rfl
  have e2 : Int.tdiv (m : Int) 10 = ((m / 10 : Nat) : Int) := rfl
  rw [e1, e2, mk_wrap (x := 48 + ((m % 10 : Nat) : Int)) (by omega), mk_wrap (x := ((m / 10 : Nat) : Int)) (by omega), u8_ins (by omega)]
  have e3 : (48 + ((m % 10 : Nat) : Int)).toNat = 48 + m % 10 := by omega
  simp only [List.map_cons, List.map_nil, e3, List.take_succ_cons, List.take_zero, List.cons_append, List.nil_append, List.length_cons, List.length_nil, Int.toNat_natCast] at *
  refine ⟨by decide, fun x hx => ?_, by omega, by omega, by decide, ⟨by omega, ?_, ?_⟩, by omega⟩
  ·rw [List.mem_singleton] at hx; omega
  ·simp only [List.length_cons]; omega
  ·show digF (m / 10) (m / 10) _ = _
   rw [<- digF_step (by omega)]
   exact g2
 ·have hc := of_decide_eq_false hc
  have h0 := of_decide_eq_false h0
  obtain ⟨q, l⟩ := q
  obtain ⟨g0, g1, g2⟩ := hq
  dsimp only at *
  have : q = 0 := by omega
  subst this
  have g2 : l = digF k.toNat k.toNat [] := g2
  refine ⟨by simp; omega, ?_⟩
  unfold mtx
  rw [decide_eq_false (by omega), g2]
  exact (retP_str _ _).2 rfl
theorem rampS_len (k : Int) (n : Nat) : (rampS k n).length = n := by simp [rampS]
theorem rampS_succ (k : Int) (n : Nat) : rampS k (n + 1) = rampS k n ++ [mtx (k + (n : Int))] := by simp [rampS, List.range_succ]
theorem mrkS_len {a : List (List UInt8)} {k : Int} {i : Nat} (h : i <= a.length) : (mrkS a k i).length = a.length := by
 simp only [mrkS, List.length_append, rampS_len, List.length_drop]
 omega
theorem mrkS_set {a : List (List UInt8)} {k v : Int} {i : Nat} (h : i < a.length) (hv : v = k + (i : Int)) : (mrkS a k i).set i (mtx v) = mrkS a k (i + 1) := by
 subst hv
 unfold mrkS
 rw [List.set_append_right _ _ (by rw [rampS_len]; exact Nat.le_refl _), rampS_len, Nat.sub_self, List.drop_eq_getElem_cons h, List.set_cons_zero, rampS_succ, List.append_assoc]
 rfl
theorem vc_laws_markStringS (k : Int) (n : Nat) (a : List (List UInt8)) (h : a.length = n /\ n <= 2000000 /\ 0 <= k /\ k <= 10000000) : VC_laws_markStringS k n a (retG 1 (.int .i64 (k + (n : Nat))) [⟨.strs (rampS k n), 9, .row⟩]) := by
 obtain ⟨rfl, h1, h2, h3⟩ := h
 unfold VC_laws_markStringS
 simp only [at_iff, true_and, and_true]
 refine ⟨by simp [mrkS, rampS], ⟨by omega, by omega⟩, fun i hi => ⟨fun hc => ?_, fun hc => ?_⟩⟩
 ·have hc := of_decide_eq_true hc
  obtain ⟨g1, g2⟩ := hi
  rw [mk_wrap (x := i + 1) (by omega), mk_wrap (x := k + i + 1) (by omega), mrkS_set (by omega) (show k + i = k + ((i.toNat : Nat) : Int) by omega), mrkS_len (by omega), show (i + 1).toNat = i.toNat + 1 by omega]
  refine ⟨⟨by omega, by omega⟩, ⟨g1, hc⟩, by omega, ⟨by omega, rfl⟩, ⟨by omega, by omega⟩, by omega⟩
 ·have hc := of_decide_eq_false hc
  obtain ⟨g1, g2⟩ := hi
  have e : i.toNat = a.length := by omega
  refine retG_ws1 (by omega) ?_
  unfold mrkS
  rw [e, List.drop_length, List.append_nil]
theorem vc_laws_heldStringS (q : Int) (n : Nat) (a : List (List UInt8)) (h : a.length = n /\ n <= 2000000 /\ 0 <= q /\ q <= 10000000) : VC_laws_heldStringS q n a (retG 1 (.int .i64 (bif a == rampS q n then q + (n : Nat) else -1)) [⟨.strs a, 9, .row⟩]) := by
 obtain ⟨rfl, h1, h2, h3⟩ := h
 unfold VC_laws_heldStringS
 simp only [at_iff, true_and, and_true]
 refine ⟨by simp, ⟨⟨by omega, by omega⟩, by simp [rampS]⟩, fun i ⟨⟨g1, g2⟩, g3⟩ => ⟨fun hc => ?_, fun hc => retG_s1 ?_⟩⟩
 ·have hc := of_decide_eq_true hc
  have hil : i.toNat < a.length := by omega
  rw [mk_wrap (x := i + 1) (by omega), mk_wrap (x := q + i + 1) (by omega)]
  refine ⟨⟨g1, hc⟩, hil, ⟨by omega, by omega⟩, fun hn => retG_s1 ?_, fun hy => ⟨by omega, ⟨⟨by omega, by omega⟩, ?_⟩, by omega⟩⟩
  ·have hne : (a == rampS q a.length) = false := by
    refine ne_at (i := i.toNat) (d := []) ?_
    rw [show (rampS q a.length).getD i.toNat [] = mtx (q + i) by
     simp [rampS, List.getD_eq_getElem?_getD, hil]
     congr 1
     omega]
    simpa [bne] using hn
   rw [hne]; rfl
  ·have hy : a.getD i.toNat [] = mtx (q + i) := by simpa using hy
   rw [show (i + 1).toNat = i.toNat + 1 by omega, take_snoc hil [], rampS_succ, g3, hy, show q + ((i.toNat : Nat) : Int) = q + i by omega]
 ·have hc := of_decide_eq_false hc
  have e : i.toNat = a.length := by omega
  rw [e, List.take_length] at g3
  rw [<- g3]
  simp
  omega
end Go.Vi
