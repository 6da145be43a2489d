import Derived.Test.YtickpjdnncpnmaaDoorSWPf
import Derived.Test.YtickpjdnncpnmaaDoorPAPf
/- What clues tell of worlds. -/
namespace Go.Vi
def wdOf : List V -> Option Wd
 | [.str r, .int _ w, .int _ h, .str c, .int _ x, .int _ y, .int _ d] => some ⟨r, w, h, c, x, y, d⟩
 | _ => none
structure Led where
 s : Int
 k : Int
 v : Wd
def ledInv (f : Wd -> Wd) (s0 : Int) (w0 : Wd) (a : Led) : Prop := goodB w0 = true /\ goodB a.v = true /\ 0 <= s0 /\ a.s <= 3000 /\ 1 <= a.k /\ a.k <= a.s + 1 /\ a.v = iterW f (a.k - 1).toNat w0 /\ iterW f a.s.toNat w0 = iterW f s0.toNat w0
def ann_impl_led : Nat -> St -> Option Ann := fun _ st =>
 match st.mem, intAt st 1, st.get 2 with
 | [⟨.vals vs, e, kd⟩, b1, ⟨_, e2, kd2⟩], some s0, .fn f caps =>
  (match wdOf vs with
  | some w0 => some {
    α := Led
    find := fun st => (match intAt st 1, intAt st 8, st.mem with | some s, some k, [_, _, ⟨.vals vs, _, _⟩] => (match wdOf vs with | some w => some ⟨s, k, w⟩ | none => none) | _, _, _ => none)
    head := fun a => { only st [(1, .int .i64 a.s), (2, .fn f caps), (3, .ptr 0 0), (6, .ptr 1 0), (7, .ptr 2 0), (8, .int .i64 a.k)] with mem := [⟨.vals (wdL w0), e, kd⟩, b1, ⟨.vals (wdL a.v), e2, kd2⟩] }
    inv := ledInv stepW s0 w0
    meas := fun a => (a.s - a.k + 1).toNat }
  | none => none)
 | _, _, _ => none
/-- The sum of colours, how many cells have a colour. -/
def sumC : List UInt8 -> Int
 | [] => 0
 | b :: r => ((b.toNat : Int) - 48) + sumC r
def cntC (b : UInt8) : List UInt8 -> Int
 | [] => 0
 | c :: r => (bif c == b then 1 else 0) + cntC b r
def smInv (c : List UInt8) (i : Int) : Prop := 0 <= i /\ i <= c.length /\ c.length <= 1000
def ann_impl_sumOf : Nat -> St -> Option Ann := fun key st =>
 match Nat.beq key 3, strAt st 0 with
 | true, some c => some {
   α := Int
   find := fun st => intAt st 7
   head := fun i => only st [(0, .str c), (2, .int .i64 0), (3, .int .i64 (sumC (c.take i.toNat))), (6, .int .i64 c.length), (7, .int .i64 i)]
   inv := fun i => smInv c i
   meas := fun i => ((c.length : Int) - i).toNat }
 | _, _ => none
def stepsB (k : Int) : Bool := k == 1 || k == 2 || k == 3
def afterK (k a : Int) (w : Wd) : Wd := bif stepsB k then iterW stepW a.toNat w else w
def valW (k a : Int) (w : Wd) : Int := bif k == 0 then ((w.c.getD a.toNat 0).toNat : Int) - 48 else bif k == 1 then w.y * w.w + w.x else bif k == 2 then w.d else bif k == 3 then cntC 48 w.c else sumC w.c
def valK (k a : Int) (w : Wd) : Int := valW k a (afterK k a w)
def fitB (k a b : Int) (w : Wd) : Bool := bif k == 4 then valK 4 0 w == a else valK k a w == b
/-- What is asked of a clue's kind and number. -/
def askK (k a : Int) (w : Wd) : Bool := goodB w && inB k 0 4 && inB a 0 100 && (!(k == 0) || decide (a < w.c.length))
def pvInv (w0 : Wd) (a0 : Int) (q : Int × Wd) : Prop := goodB q.2 = true /\ a0 <= 100 /\ 0 <= q.1 /\ q.1 <= a0 /\ iterW stepW q.1.toNat q.2 = iterW stepW a0.toNat w0 /\ q.2.c.length = w0.c.length
def pvsInv (c : List UInt8) (i : Int) : Prop := 0 <= i /\ i <= c.length
def ann_spec_pzValue : Nat -> St -> Option Ann := fun key st =>
 match st.mem, intAt st 0, intAt st 1 with
 | [⟨.vals vs, e, kd⟩], some k, some a =>
  (match wdOf vs with
  | some w =>
   (match Nat.beq key 3, Nat.beq key 7 with
   | true, _ => some {
     α := Int × Wd
     find := fun st => (match intAt st 1, st.mem with | some s, ⟨.vals vs, _, _⟩ :: _ => (match wdOf vs with | some w => some (s, w) | none => none) | _, _ => none)
     head := fun q => { only st [(0, .int .i64 k), (1, .int .i64 q.1), (5, .ptr 0 0), (6, .int .i64 0), (7, .int .i64 0), (8, .int .i64 0)] with mem := [⟨.vals (wdL q.2), e, kd⟩] }
     inv := pvInv w a
     meas := fun q => q.1.toNat }
   | _, true => some {
     α := Int
     find := fun st => intAt st 9
     head := fun i => { only st [(0, .int .i64 k), (1, .int .i64 a), (5, .ptr 0 0), (6, .int .i64 0), (7, .int .i64 (sumC (w.c.take i.toNat))), (8, .int .i64 (cntC 48 (w.c.take i.toNat))), (9, .int .i64 i)] with mem := [⟨.vals (wdL w), e, kd⟩] }
     inv := fun i => pvsInv w.c i
     meas := fun i => ((w.c.length : Int) - i).toNat }
   | _, _ => none)
  | none => none)
 | _, _, _ => none
end Go.Vi

/- Closed forms of the functions of this chapter. -/
namespace Go.Vi
set_option linter.unusedVariables false
def F_impl_led : FSpec := fun args m =>
 match args, m with
 | [.agg [.str wr, .int .i64 ww, .int .i64 wh, .str wc, .int .i64 wx, .int .i64 wy, .int .i64 wd], .int .i64 s, .fn 114 []], [] => some (goodB ⟨wr, ww, wh, wc, wx, wy, wd⟩ = true /\ 0 <= s /\ s <= 3000, wdV (iterW stepW s.toNat ⟨wr, ww, wh, wc, wx, wy, wd⟩))
 | _, _ => none
def F_impl_sumOf : FSpec := fun args m =>
 match args, m with
 | [.str s], [] => some (s.length <= 1000, .int .i64 (sumC s))
 | _, _ => none
def F_strings_Count : FSpec := fun args m =>
 match args, m with
 | [.str s, .str q], [] => some (q.length = 1, .int .i64 (cntC (q.getD 0 0) s))
 | _, _ => none
def F_spec_pzValue : FSpec := fun args m =>
 match args, m with
 | [.int .i64 k, .int .i64 a, .agg [.str wr, .int .i64 ww, .int .i64 wh, .str wc, .int .i64 wx, .int .i64 wy, .int .i64 wd]], [] => some (askK k a ⟨wr, ww, wh, wc, wx, wy, wd⟩ = true, .int .i64 (valK k a ⟨wr, ww, wh, wc, wx, wy, wd⟩))
 | _, _ => none
def F_spec_pzFits : FSpec := fun args m =>
 match args, m with
 | [.agg [.int .i64 cx, .int .i64 cy, .int .i64 ck], .agg [.str wr, .int .i64 ww, .int .i64 wh, .str wc, .int .i64 wx, .int .i64 wy, .int .i64 wd]], [] => some (goodB ⟨wr, ww, wh, wc, wx, wy, wd⟩ = true /\ clueB cx cy ck wr.length (ww * wh) = true, .bool (fitB cx cy ck ⟨wr, ww, wh, wc, wx, wy, wd⟩))
 | _, _ => none
def F_impl_clueFrom : FSpec := fun args m =>
 match args, m with
 | [.agg [.str wr, .int .i64 ww, .int .i64 wh, .str wc, .int .i64 wx, .int .i64 wy, .int .i64 wd], .int .i64 k, .int .i64 a], [] => some (askK k a ⟨wr, ww, wh, wc, wx, wy, wd⟩ = true, .agg [.int .i64 k, .int .i64 (bif k == 4 then valK 4 0 ⟨wr, ww, wh, wc, wx, wy, wd⟩ else a), .int .i64 (bif k == 4 then 0 else valK k a ⟨wr, ww, wh, wc, wx, wy, wd⟩)])
 | _, _ => none
def F_impl_doesFit : FSpec := fun args m =>
 match args, m with
 | [.agg [.int .i64 cx, .int .i64 cy, .int .i64 ck], .agg [.str wr, .int .i64 ww, .int .i64 wh, .str wc, .int .i64 wx, .int .i64 wy, .int .i64 wd]], [] => some (goodB ⟨wr, ww, wh, wc, wx, wy, wd⟩ = true /\ clueB cx cy ck wr.length (ww * wh) = true, .bool (fitB cx cy ck ⟨wr, ww, wh, wc, wx, wy, wd⟩))
 | _, _ => none
end Go.Vi

/- The conditions, reckoned out by program: texts alone. -/
namespace Go.Vi
set_option linter.unusedVariables false
def VC_impl_led (wr:List UInt8)(ww:Int)(wh:Int)(wc:List UInt8)(wx:Int)(wy:Int)(wd:Int)(s:Int)(K:V → Prop):Prop:=
 (((True∧s=s)∧((114:Nat)=(114:Nat)∧nilN=nilN)∧((0:Nat)=(0:Nat)∧(0:Nat)=(0:Nat))∧((1:Nat)=(1:Nat)∧(0:Nat)=(0:Nat))∧((2:Nat)=(2:Nat)∧
 (0:Nat)=(0:Nat))∧(True∧(1:Int)=(1:Int))∧True)∧((True∧wr=wr∧(True∧ww=ww)∧(True∧wh=wh)∧wc=wc∧(True∧wx=wx)∧(True∧wy=wy)∧(True∧wd=wd)∧True)∧(True∧nilB=nilB∧(True∧(0:Int)=(0:Int))∧(True∧(0:Int)=(0:Int))∧nilB=nilB∧(True∧
 (0:Int)=(0:Int))∧(True∧(0:Int)=(0:Int))∧(True∧(0:Int)=(0:Int))∧True)∧(True∧wr=Wd.r { r := wr,w := ww,h := wh,c := wc,x := wx,y := wy,d := wd }∧(True∧ww=Wd.w { r := wr,w := ww,h := wh,c := wc,x := wx,y := wy,d := wd })∧
 (True∧wh=Wd.h { r := wr,w := ww,h := wh,c := wc,x := wx,y := wy,d := wd })∧wc=Wd.c { r := wr,w := ww,h := wh,c := wc,x := wx,y := wy,d := wd }∧(True∧wx=Wd.x { r := wr,w := ww,h := wh,c := wc,x := wx,y := wy,d := wd })∧
 (True∧wy=Wd.y { r := wr,w := ww,h := wh,c := wc,x := wx,y := wy,d := wd })∧(True∧wd=Wd.d { r := wr,w := ww,h := wh,c := wc,x := wx,y := wy,d := wd })∧True)∧True)∧True)∧
 At (ledInv stepW s { r := wr,w := ww,h := wh,c := wc,x := wx,y := wy,d := wd } { s := s,k := (1:Int),v := { r := wr,w := ww,h := wh,c := wc,x := wx,y := wy,d := wd } })∧
 ∀(a:Led),ledInv stepW s { r := wr,w := ww,h := wh,c := wc,x := wx,y := wy,d := wd } a→(decide (Led.k a≤Led.s a)=true→At (goodB (Led.v a)=true)∧
 ((Wd.r (stepW (Led.v a))==wr && (Wd.w (stepW (Led.v a))==ww && (Wd.h (stepW (Led.v a))==wh && (Wd.c (stepW (Led.v a))==wc && (Wd.x (stepW (Led.v a))==wx && (Wd.y (stepW (Led.v a))==wy && (Wd.d (stepW (Led.v a))==wd && true)))))))=true→
 At (Led.k a ≠ (0:Int))∧(((True∧IntKind.wrap .i64 (Led.k a + Int.tmod (IntKind.wrap .i64 (Led.s a - Led.k a)) (Led.k a))=IntKind.wrap .i64 (Led.k a + Int.tmod (IntKind.wrap .i64 (Led.s a - Led.k a)) (Led.k a)))∧
 ((114:Nat)=(114:Nat)∧nilN=nilN)∧((0:Nat)=(0:Nat)∧(0:Nat)=(0:Nat))∧((1:Nat)=(1:Nat)∧(0:Nat)=(0:Nat))∧((2:Nat)=(2:Nat)∧(0:Nat)=(0:Nat))∧(True∧
 IntKind.wrap .i64 (Led.k a + (1:Int))=IntKind.wrap .i64 (Led.k a + (1:Int)))∧True)∧((True∧wr=wr∧(True∧ww=ww)∧(True∧wh=wh)∧wc=wc∧(True∧wx=wx)∧(True∧wy=wy)∧(True∧wd=wd)∧True)∧(True∧nilB=nilB∧(True∧(0:Int)=(0:Int))∧(True∧
 (0:Int)=(0:Int))∧nilB=nilB∧(True∧(0:Int)=(0:Int))∧(True∧(0:Int)=(0:Int))∧(True∧(0:Int)=(0:Int))∧True)∧(True∧Wd.r (stepW (Led.v a))=Wd.r (stepW (Led.v a))∧(True∧Wd.w (stepW (Led.v a))=Wd.w (stepW (Led.v a)))∧(True∧
 Wd.h (stepW (Led.v a))=Wd.h (stepW (Led.v a)))∧Wd.c (stepW (Led.v a))=Wd.c (stepW (Led.v a))∧(True∧Wd.x (stepW (Led.v a))=Wd.x (stepW (Led.v a)))∧(True∧Wd.y (stepW (Led.v a))=Wd.y (stepW (Led.v a)))∧(True∧
 Wd.d (stepW (Led.v a))=Wd.d (stepW (Led.v a)))∧True)∧True)∧True)∧
 At (ledInv stepW s { r := wr,w := ww,h := wh,c := wc,x := wx,y := wy,d := wd } { s := IntKind.wrap .i64 (Led.k a + Int.tmod (IntKind.wrap .i64 (Led.s a - Led.k a)) (Led.k a)),k := IntKind.wrap .i64 (Led.k a + (1:Int)),v := stepW (Led.v a) }∧
 Int.toNat (IntKind.wrap .i64 (Led.k a + Int.tmod (IntKind.wrap .i64 (Led.s a - Led.k a)) (Led.k a)) - IntKind.wrap .i64 (Led.k a + (1:Int)) + (1:Int)) < Int.toNat (Led.s a - Led.k a + (1:Int))))∧
 ((Wd.r (stepW (Led.v a))==wr && (Wd.w (stepW (Led.v a))==ww && (Wd.h (stepW (Led.v a))==wh && (Wd.c (stepW (Led.v a))==wc && (Wd.x (stepW (Led.v a))==wx && (Wd.y (stepW (Led.v a))==wy && (Wd.d (stepW (Led.v a))==wd && true)))))))=false→
 (((True∧Led.s a=Led.s a)∧((114:Nat)=(114:Nat)∧nilN=nilN)∧((0:Nat)=(0:Nat)∧(0:Nat)=(0:Nat))∧((1:Nat)=(1:Nat)∧(0:Nat)=(0:Nat))∧
 ((2:Nat)=(2:Nat)∧(0:Nat)=(0:Nat))∧(True∧IntKind.wrap .i64 (Led.k a + (1:Int))=IntKind.wrap .i64 (Led.k a + (1:Int)))∧True)∧((True∧wr=wr∧(True∧ww=ww)∧(True∧wh=wh)∧wc=wc∧(True∧wx=wx)∧(True∧wy=wy)∧(True∧wd=wd)∧True)∧(True∧
 nilB=nilB∧(True∧(0:Int)=(0:Int))∧(True∧(0:Int)=(0:Int))∧nilB=nilB∧(True∧(0:Int)=(0:Int))∧(True∧(0:Int)=(0:Int))∧(True∧(0:Int)=(0:Int))∧True)∧(True∧Wd.r (stepW (Led.v a))=Wd.r (stepW (Led.v a))∧(True∧
 Wd.w (stepW (Led.v a))=Wd.w (stepW (Led.v a)))∧(True∧Wd.h (stepW (Led.v a))=Wd.h (stepW (Led.v a)))∧Wd.c (stepW (Led.v a))=Wd.c (stepW (Led.v a))∧(True∧Wd.x (stepW (Led.v a))=Wd.x (stepW (Led.v a)))∧(True∧
 Wd.y (stepW (Led.v a))=Wd.y (stepW (Led.v a)))∧(True∧Wd.d (stepW (Led.v a))=Wd.d (stepW (Led.v a)))∧True)∧True)∧True)∧
 At (ledInv stepW s { r := wr,w := ww,h := wh,c := wc,x := wx,y := wy,d := wd } { s := Led.s a,k := IntKind.wrap .i64 (Led.k a + (1:Int)),v := stepW (Led.v a) }∧
 Int.toNat (Led.s a - IntKind.wrap .i64 (Led.k a + (1:Int)) + (1:Int)) < Int.toNat (Led.s a - Led.k a + (1:Int)))))∧(decide (Led.k a≤Led.s a)=false→
 K (V.agg [V.str (Wd.r (Led.v a)),V.int .i64 (Wd.w (Led.v a)),V.int .i64 (Wd.h (Led.v a)),V.str (Wd.c (Led.v a)),V.int .i64 (Wd.x (Led.v a)),V.int .i64 (Wd.y (Led.v a)),V.int .i64 (Wd.d (Led.v a))]))
def VC_impl_sumOf (s:List UInt8)(K:V → Prop):Prop:=
 ((s=s∧(True∧(0:Int)=(0:Int))∧(True∧(0:Int)=sumC (List.take (Int.toNat (0:Int)) s))∧(True∧(↑(List.length s):Int)=(↑(List.length s):Int))∧(True∧(0:Int)=(0:Int))∧True)∧True∧True)∧At (smInv s (0:Int))∧∀(a:Int),smInv s a→
 (decide (a < (↑(List.length s):Int))=true→At ((0:Int)≤a∧a < (↑(List.length s):Int))∧At ((0:Int)≤(↑(UInt8.toNat (List.getD s (Int.toNat a) (0:UInt8))):Int)∧
 (↑(UInt8.toNat (List.getD s (Int.toNat a) (0:UInt8))):Int) < (256:Int))∧((s=s∧(True∧(0:Int)=(0:Int))∧(True∧
 IntKind.wrap .i64 (sumC (List.take (Int.toNat a) s) + ((↑(UInt8.toNat (List.getD s (Int.toNat a) (0:UInt8))):Int) - (48:Int)))=sumC (List.take (Int.toNat (IntKind.wrap .i64 (a + (1:Int)))) s))∧(True∧
 (↑(List.length s):Int)=(↑(List.length s):Int))∧(True∧IntKind.wrap .i64 (a + (1:Int))=IntKind.wrap .i64 (a + (1:Int)))∧True)∧True∧True)∧At (smInv s (IntKind.wrap .i64 (a + (1:Int)))∧
 Int.toNat ((↑(List.length s):Int) - IntKind.wrap .i64 (a + (1:Int))) < Int.toNat ((↑(List.length s):Int) - a)))∧(decide (a < (↑(List.length s):Int))=false→K (V.int .i64 (sumC (List.take (Int.toNat a) s))))
def VC_spec_pzValue (k:Int)(a:Int)(wr:List UInt8)(ww:Int)(wh:Int)(wc:List UInt8)(wx:Int)(wy:Int)(wd:Int)(K:V → Prop):Prop:=
 (decide (k > (0:Int))=true→(decide (k < (4:Int))=true→(((True∧k=k)∧(True∧a=a)∧((0:Nat)=(0:Nat)∧(0:Nat)=(0:Nat))∧(True∧(0:Int)=(0:Int))∧(True∧(0:Int)=(0:Int))∧(True∧(0:Int)=(0:Int))∧True)∧((True∧
 wr=Wd.r { r := wr,w := ww,h := wh,c := wc,x := wx,y := wy,d := wd }∧(True∧ww=Wd.w { r := wr,w := ww,h := wh,c := wc,x := wx,y := wy,d := wd })∧(True∧wh=Wd.h { r := wr,w := ww,h := wh,c := wc,x := wx,y := wy,d := wd })∧
 wc=Wd.c { r := wr,w := ww,h := wh,c := wc,x := wx,y := wy,d := wd }∧(True∧wx=Wd.x { r := wr,w := ww,h := wh,c := wc,x := wx,y := wy,d := wd })∧(True∧wy=Wd.y { r := wr,w := ww,h := wh,c := wc,x := wx,y := wy,d := wd })∧
 (True∧wd=Wd.d { r := wr,w := ww,h := wh,c := wc,x := wx,y := wy,d := wd })∧True)∧True)∧True)∧
 At (pvInv { r := wr,w := ww,h := wh,c := wc,x := wx,y := wy,d := wd } a (a,{ r := wr,w := ww,h := wh,c := wc,x := wx,y := wy,d := wd }))∧
 ∀(a_3:Int × Wd),pvInv { r := wr,w := ww,h := wh,c := wc,x := wx,y := wy,d := wd } a a_3→(decide (Prod.fst a_3 > (0:Int))=true→At (goodB (Prod.snd a_3)=true)∧(((True∧k=k)∧(True∧
 IntKind.wrap .i64 (Prod.fst a_3 - (1:Int))=IntKind.wrap .i64 (Prod.fst a_3 - (1:Int)))∧((0:Nat)=(0:Nat)∧(0:Nat)=(0:Nat))∧(True∧(0:Int)=(0:Int))∧(True∧(0:Int)=(0:Int))∧(True∧(0:Int)=(0:Int))∧True)∧((True∧
 Wd.r (stepW (Prod.snd a_3))=Wd.r (stepW (Prod.snd a_3))∧(True∧Wd.w (stepW (Prod.snd a_3))=Wd.w (stepW (Prod.snd a_3)))∧(True∧Wd.h (stepW (Prod.snd a_3))=Wd.h (stepW (Prod.snd a_3)))∧
 Wd.c (stepW (Prod.snd a_3))=Wd.c (stepW (Prod.snd a_3))∧(True∧Wd.x (stepW (Prod.snd a_3))=Wd.x (stepW (Prod.snd a_3)))∧(True∧Wd.y (stepW (Prod.snd a_3))=Wd.y (stepW (Prod.snd a_3)))∧(True∧
 Wd.d (stepW (Prod.snd a_3))=Wd.d (stepW (Prod.snd a_3)))∧True)∧True)∧True)∧At (pvInv { r := wr,w := ww,h := wh,c := wc,x := wx,y := wy,d := wd } a (IntKind.wrap .i64 (Prod.fst a_3 - (1:Int)),stepW (Prod.snd a_3))∧
 Int.toNat (IntKind.wrap .i64 (Prod.fst a_3 - (1:Int))) < Int.toNat (Prod.fst a_3)))∧(decide (Prod.fst a_3 > (0:Int))=false→(((True∧k=k)∧(True∧Prod.fst a_3=Prod.fst a_3)∧((0:Nat)=(0:Nat)∧(0:Nat)=(0:Nat))∧(True∧
 (0:Int)=(0:Int))∧(True∧(0:Int)=sumC (List.take (Int.toNat (0:Int)) (Wd.c (Prod.snd a_3))))∧(True∧(0:Int)=cntC (48:UInt8) (List.take (Int.toNat (0:Int)) (Wd.c (Prod.snd a_3))))∧(True∧(0:Int)=(0:Int))∧True)∧((True∧
 Wd.r (Prod.snd a_3)=Wd.r (Prod.snd a_3)∧(True∧Wd.w (Prod.snd a_3)=Wd.w (Prod.snd a_3))∧(True∧Wd.h (Prod.snd a_3)=Wd.h (Prod.snd a_3))∧Wd.c (Prod.snd a_3)=Wd.c (Prod.snd a_3)∧(True∧
 Wd.x (Prod.snd a_3)=Wd.x (Prod.snd a_3))∧(True∧Wd.y (Prod.snd a_3)=Wd.y (Prod.snd a_3))∧(True∧Wd.d (Prod.snd a_3)=Wd.d (Prod.snd a_3))∧True)∧True)∧True)∧At (pvsInv (Wd.c (Prod.snd a_3)) (0:Int))∧
 ∀(a:Int),pvsInv (Wd.c (Prod.snd a_3)) a→(decide (a < (↑(List.length (Wd.c (Prod.snd a_3))):Int))=true→At ((0:Int)≤a∧a < (↑(List.length (Wd.c (Prod.snd a_3))):Int))∧At ((0:Int)≤a∧
 a < (↑(List.length (Wd.c (Prod.snd a_3))):Int))∧(((↑(UInt8.toNat (List.getD (Wd.c (Prod.snd a_3)) (Int.toNat a) (0:UInt8))):Int)==(48:Int))=true→(((True∧k=k)∧(True∧Prod.fst a_3=Prod.fst a_3)∧((0:Nat)=(0:Nat)∧
 (0:Nat)=(0:Nat))∧(True∧(0:Int)=(0:Int))∧(True∧
 IntKind.wrap .i64 (sumC (List.take (Int.toNat a) (Wd.c (Prod.snd a_3))) + IntKind.wrap .i64 (IntKind.wrap IntKind.u8 ((↑(UInt8.toNat (List.getD (Wd.c (Prod.snd a_3)) (Int.toNat a) (0:UInt8))):Int) - (48:Int))))=sumC (List.take (Int.toNat (IntKind.wrap .i64 (a + (1:Int)))) (Wd.c (Prod.snd a_3))))∧
 (True∧IntKind.wrap .i64 (cntC (48:UInt8) (List.take (Int.toNat a) (Wd.c (Prod.snd a_3))) + (1:Int))=cntC (48:UInt8) (List.take (Int.toNat (IntKind.wrap .i64 (a + (1:Int)))) (Wd.c (Prod.snd a_3))))∧(True∧
 IntKind.wrap .i64 (a + (1:Int))=IntKind.wrap .i64 (a + (1:Int)))∧True)∧((True∧Wd.r (Prod.snd a_3)=Wd.r (Prod.snd a_3)∧(True∧Wd.w (Prod.snd a_3)=Wd.w (Prod.snd a_3))∧(True∧Wd.h (Prod.snd a_3)=Wd.h (Prod.snd a_3))∧
 Wd.c (Prod.snd a_3)=Wd.c (Prod.snd a_3)∧(True∧Wd.x (Prod.snd a_3)=Wd.x (Prod.snd a_3))∧(True∧Wd.y (Prod.snd a_3)=Wd.y (Prod.snd a_3))∧(True∧Wd.d (Prod.snd a_3)=Wd.d (Prod.snd a_3))∧True)∧True)∧True)∧
 At (pvsInv (Wd.c (Prod.snd a_3)) (IntKind.wrap .i64 (a + (1:Int)))∧Int.toNat ((↑(List.length (Wd.c (Prod.snd a_3))):Int) - IntKind.wrap .i64 (a + (1:Int))) < Int.toNat ((↑(List.length (Wd.c (Prod.snd a_3))):Int) - a)))∧
 (((↑(UInt8.toNat (List.getD (Wd.c (Prod.snd a_3)) (Int.toNat a) (0:UInt8))):Int)==(48:Int))=false→(((True∧k=k)∧(True∧Prod.fst a_3=Prod.fst a_3)∧((0:Nat)=(0:Nat)∧(0:Nat)=(0:Nat))∧(True∧(0:Int)=(0:Int))∧(True∧
 IntKind.wrap .i64 (sumC (List.take (Int.toNat a) (Wd.c (Prod.snd a_3))) + IntKind.wrap .i64 (IntKind.wrap IntKind.u8 ((↑(UInt8.toNat (List.getD (Wd.c (Prod.snd a_3)) (Int.toNat a) (0:UInt8))):Int) - (48:Int))))=sumC (List.take (Int.toNat (IntKind.wrap .i64 (a + (1:Int)))) (Wd.c (Prod.snd a_3))))∧
 (True∧cntC (48:UInt8) (List.take (Int.toNat a) (Wd.c (Prod.snd a_3)))=cntC (48:UInt8) (List.take (Int.toNat (IntKind.wrap .i64 (a + (1:Int)))) (Wd.c (Prod.snd a_3))))∧(True∧
 IntKind.wrap .i64 (a + (1:Int))=IntKind.wrap .i64 (a + (1:Int)))∧True)∧((True∧Wd.r (Prod.snd a_3)=Wd.r (Prod.snd a_3)∧(True∧Wd.w (Prod.snd a_3)=Wd.w (Prod.snd a_3))∧(True∧Wd.h (Prod.snd a_3)=Wd.h (Prod.snd a_3))∧
 Wd.c (Prod.snd a_3)=Wd.c (Prod.snd a_3)∧(True∧Wd.x (Prod.snd a_3)=Wd.x (Prod.snd a_3))∧(True∧Wd.y (Prod.snd a_3)=Wd.y (Prod.snd a_3))∧(True∧Wd.d (Prod.snd a_3)=Wd.d (Prod.snd a_3))∧True)∧True)∧True)∧
 At (pvsInv (Wd.c (Prod.snd a_3)) (IntKind.wrap .i64 (a + (1:Int)))∧Int.toNat ((↑(List.length (Wd.c (Prod.snd a_3))):Int) - IntKind.wrap .i64 (a + (1:Int))) < Int.toNat ((↑(List.length (Wd.c (Prod.snd a_3))):Int) - a))))∧
 (decide (a < (↑(List.length (Wd.c (Prod.snd a_3))):Int))=false→((k==(0:Int))=true→At ((0:Int)≤Prod.fst a_3∧Prod.fst a_3 < (↑(List.length (Wd.c (Prod.snd a_3))):Int))∧
 K (V.int .i64 (IntKind.wrap .i64 (IntKind.wrap IntKind.u8 ((↑(UInt8.toNat (List.getD (Wd.c (Prod.snd a_3)) (Int.toNat (Prod.fst a_3)) (0:UInt8))):Int) - (48:Int))))))∧((k==(0:Int))=false→((k==(1:Int))=true→
 K (V.int .i64 (IntKind.wrap .i64 (IntKind.wrap .i64 (Wd.y (Prod.snd a_3) * Wd.w (Prod.snd a_3)) + Wd.x (Prod.snd a_3)))))∧((k==(1:Int))=false→((k==(2:Int))=true→K (V.int .i64 (Wd.d (Prod.snd a_3))))∧((k==(2:Int))=false→
 ((k==(3:Int))=true→K (V.int .i64 (cntC (48:UInt8) (List.take (Int.toNat a) (Wd.c (Prod.snd a_3))))))∧((k==(3:Int))=false→K (V.int .i64 (sumC (List.take (Int.toNat a) (Wd.c (Prod.snd a_3))))))))))))∧
 (decide (k < (4:Int))=false→(((True∧k=k)∧(True∧a=a)∧((0:Nat)=(0:Nat)∧(0:Nat)=(0:Nat))∧(True∧(0:Int)=(0:Int))∧(True∧(0:Int)=sumC (List.take (Int.toNat (0:Int)) wc))∧(True∧
 (0:Int)=cntC (48:UInt8) (List.take (Int.toNat (0:Int)) wc))∧(True∧(0:Int)=(0:Int))∧True)∧((True∧wr=wr∧(True∧ww=ww)∧(True∧wh=wh)∧wc=wc∧(True∧wx=wx)∧(True∧wy=wy)∧(True∧wd=wd)∧True)∧True)∧True)∧At (pvsInv wc (0:Int))∧
 ∀(a_3:Int),pvsInv wc a_3→(decide (a_3 < (↑(List.length wc):Int))=true→At ((0:Int)≤a_3∧a_3 < (↑(List.length wc):Int))∧At ((0:Int)≤a_3∧a_3 < (↑(List.length wc):Int))∧
 (((↑(UInt8.toNat (List.getD wc (Int.toNat a_3) (0:UInt8))):Int)==(48:Int))=true→(((True∧k=k)∧(True∧a=a)∧((0:Nat)=(0:Nat)∧(0:Nat)=(0:Nat))∧(True∧(0:Int)=(0:Int))∧(True∧
 IntKind.wrap .i64 (sumC (List.take (Int.toNat a_3) wc) + IntKind.wrap .i64 (IntKind.wrap IntKind.u8 ((↑(UInt8.toNat (List.getD wc (Int.toNat a_3) (0:UInt8))):Int) - (48:Int))))=sumC (List.take (Int.toNat (IntKind.wrap .i64 (a_3 + (1:Int)))) wc))∧
 (True∧IntKind.wrap .i64 (cntC (48:UInt8) (List.take (Int.toNat a_3) wc) + (1:Int))=cntC (48:UInt8) (List.take (Int.toNat (IntKind.wrap .i64 (a_3 + (1:Int)))) wc))∧(True∧
 IntKind.wrap .i64 (a_3 + (1:Int))=IntKind.wrap .i64 (a_3 + (1:Int)))∧True)∧((True∧wr=wr∧(True∧ww=ww)∧(True∧wh=wh)∧wc=wc∧(True∧wx=wx)∧(True∧wy=wy)∧(True∧wd=wd)∧True)∧True)∧True)∧
 At (pvsInv wc (IntKind.wrap .i64 (a_3 + (1:Int)))∧Int.toNat ((↑(List.length wc):Int) - IntKind.wrap .i64 (a_3 + (1:Int))) < Int.toNat ((↑(List.length wc):Int) - a_3)))∧
 (((↑(UInt8.toNat (List.getD wc (Int.toNat a_3) (0:UInt8))):Int)==(48:Int))=false→(((True∧k=k)∧(True∧a=a)∧((0:Nat)=(0:Nat)∧(0:Nat)=(0:Nat))∧(True∧(0:Int)=(0:Int))∧(True∧
 IntKind.wrap .i64 (sumC (List.take (Int.toNat a_3) wc) + IntKind.wrap .i64 (IntKind.wrap IntKind.u8 ((↑(UInt8.toNat (List.getD wc (Int.toNat a_3) (0:UInt8))):Int) - (48:Int))))=sumC (List.take (Int.toNat (IntKind.wrap .i64 (a_3 + (1:Int)))) wc))∧
 (True∧cntC (48:UInt8) (List.take (Int.toNat a_3) wc)=cntC (48:UInt8) (List.take (Int.toNat (IntKind.wrap .i64 (a_3 + (1:Int)))) wc))∧(True∧IntKind.wrap .i64 (a_3 + (1:Int))=IntKind.wrap .i64 (a_3 + (1:Int)))∧True)∧
 ((True∧wr=wr∧(True∧ww=ww)∧(True∧wh=wh)∧wc=wc∧(True∧wx=wx)∧(True∧wy=wy)∧(True∧wd=wd)∧True)∧True)∧True)∧At (pvsInv wc (IntKind.wrap .i64 (a_3 + (1:Int)))∧
 Int.toNat ((↑(List.length wc):Int) - IntKind.wrap .i64 (a_3 + (1:Int))) < Int.toNat ((↑(List.length wc):Int) - a_3))))∧(decide (a_3 < (↑(List.length wc):Int))=false→((k==(0:Int))=true→At ((0:Int)≤a∧
 a < (↑(List.length wc):Int))∧K (V.int .i64 (IntKind.wrap .i64 (IntKind.wrap IntKind.u8 ((↑(UInt8.toNat (List.getD wc (Int.toNat a) (0:UInt8))):Int) - (48:Int))))))∧((k==(0:Int))=false→((k==(1:Int))=true→
 K (V.int .i64 (IntKind.wrap .i64 (IntKind.wrap .i64 (wy * ww) + wx))))∧((k==(1:Int))=false→((k==(2:Int))=true→K (V.int .i64 wd))∧((k==(2:Int))=false→((k==(3:Int))=true→
 K (V.int .i64 (cntC (48:UInt8) (List.take (Int.toNat a_3) wc))))∧((k==(3:Int))=false→K (V.int .i64 (sumC (List.take (Int.toNat a_3) wc))))))))))∧(decide (k > (0:Int))=false→(((True∧k=k)∧(True∧a=a)∧((0:Nat)=(0:Nat)∧
 (0:Nat)=(0:Nat))∧(True∧(0:Int)=(0:Int))∧(True∧(0:Int)=sumC (List.take (Int.toNat (0:Int)) wc))∧(True∧(0:Int)=cntC (48:UInt8) (List.take (Int.toNat (0:Int)) wc))∧(True∧(0:Int)=(0:Int))∧True)∧((True∧wr=wr∧(True∧ww=ww)∧
 (True∧wh=wh)∧wc=wc∧(True∧wx=wx)∧(True∧wy=wy)∧(True∧wd=wd)∧True)∧True)∧True)∧At (pvsInv wc (0:Int))∧∀(a_2:Int),pvsInv wc a_2→(decide (a_2 < (↑(List.length wc):Int))=true→At ((0:Int)≤a_2∧a_2 < (↑(List.length wc):Int))∧
 At ((0:Int)≤a_2∧a_2 < (↑(List.length wc):Int))∧(((↑(UInt8.toNat (List.getD wc (Int.toNat a_2) (0:UInt8))):Int)==(48:Int))=true→(((True∧k=k)∧(True∧a=a)∧((0:Nat)=(0:Nat)∧(0:Nat)=(0:Nat))∧(True∧(0:Int)=(0:Int))∧(True∧
 IntKind.wrap .i64 (sumC (List.take (Int.toNat a_2) wc) + IntKind.wrap .i64 (IntKind.wrap IntKind.u8 ((↑(UInt8.toNat (List.getD wc (Int.toNat a_2) (0:UInt8))):Int) - (48:Int))))=sumC (List.take (Int.toNat (IntKind.wrap .i64 (a_2 + (1:Int)))) wc))∧
 (True∧IntKind.wrap .i64 (cntC (48:UInt8) (List.take (Int.toNat a_2) wc) + (1:Int))=cntC (48:UInt8) (List.take (Int.toNat (IntKind.wrap .i64 (a_2 + (1:Int)))) wc))∧(True∧
 IntKind.wrap .i64 (a_2 + (1:Int))=IntKind.wrap .i64 (a_2 + (1:Int)))∧True)∧((True∧wr=wr∧(True∧ww=ww)∧(True∧wh=wh)∧wc=wc∧(True∧wx=wx)∧(True∧wy=wy)∧(True∧wd=wd)∧True)∧True)∧True)∧
 At (pvsInv wc (IntKind.wrap .i64 (a_2 + (1:Int)))∧Int.toNat ((↑(List.length wc):Int) - IntKind.wrap .i64 (a_2 + (1:Int))) < Int.toNat ((↑(List.length wc):Int) - a_2)))∧
 (((↑(UInt8.toNat (List.getD wc (Int.toNat a_2) (0:UInt8))):Int)==(48:Int))=false→(((True∧k=k)∧(True∧a=a)∧((0:Nat)=(0:Nat)∧(0:Nat)=(0:Nat))∧(True∧(0:Int)=(0:Int))∧(True∧
 IntKind.wrap .i64 (sumC (List.take (Int.toNat a_2) wc) + IntKind.wrap .i64 (IntKind.wrap IntKind.u8 ((↑(UInt8.toNat (List.getD wc (Int.toNat a_2) (0:UInt8))):Int) - (48:Int))))=sumC (List.take (Int.toNat (IntKind.wrap .i64 (a_2 + (1:Int)))) wc))∧
 (True∧cntC (48:UInt8) (List.take (Int.toNat a_2) wc)=cntC (48:UInt8) (List.take (Int.toNat (IntKind.wrap .i64 (a_2 + (1:Int)))) wc))∧(True∧IntKind.wrap .i64 (a_2 + (1:Int))=IntKind.wrap .i64 (a_2 + (1:Int)))∧True)∧
 ((True∧wr=wr∧(True∧ww=ww)∧(True∧wh=wh)∧wc=wc∧(True∧wx=wx)∧(True∧wy=wy)∧(True∧wd=wd)∧True)∧True)∧True)∧At (pvsInv wc (IntKind.wrap .i64 (a_2 + (1:Int)))∧
 Int.toNat ((↑(List.length wc):Int) - IntKind.wrap .i64 (a_2 + (1:Int))) < Int.toNat ((↑(List.length wc):Int) - a_2))))∧(decide (a_2 < (↑(List.length wc):Int))=false→((k==(0:Int))=true→At ((0:Int)≤a∧
 a < (↑(List.length wc):Int))∧K (V.int .i64 (IntKind.wrap .i64 (IntKind.wrap IntKind.u8 ((↑(UInt8.toNat (List.getD wc (Int.toNat a) (0:UInt8))):Int) - (48:Int))))))∧((k==(0:Int))=false→((k==(1:Int))=true→
 K (V.int .i64 (IntKind.wrap .i64 (IntKind.wrap .i64 (wy * ww) + wx))))∧((k==(1:Int))=false→((k==(2:Int))=true→K (V.int .i64 wd))∧((k==(2:Int))=false→((k==(3:Int))=true→
 K (V.int .i64 (cntC (48:UInt8) (List.take (Int.toNat a_2) wc))))∧((k==(3:Int))=false→K (V.int .i64 (sumC (List.take (Int.toNat a_2) wc)))))))))
def VC_spec_pzFits (cx:Int)(cy:Int)(ck:Int)(wr:List UInt8)(ww:Int)(wh:Int)(wc:List UInt8)(wx:Int)(wy:Int)(wd:Int)(K:V → Prop):Prop:=
 ((cx==(4:Int))=true→True∧At (askK (4:Int) (0:Int) { r := wr,w := ww,h := wh,c := wc,x := wx,y := wy,d := wd }=true)∧K (V.bool (valK (4:Int) (0:Int) { r := wr,w := ww,h := wh,c := wc,x := wx,y := wy,d := wd }==cy)))∧
 ((cx==(4:Int))=false→True∧At (askK cx cy { r := wr,w := ww,h := wh,c := wc,x := wx,y := wy,d := wd }=true)∧K (V.bool (valK cx cy { r := wr,w := ww,h := wh,c := wc,x := wx,y := wy,d := wd }==ck)))
def VC_impl_clueFrom (wr:List UInt8)(ww:Int)(wh:Int)(wc:List UInt8)(wx:Int)(wy:Int)(wd:Int)(k:Int)(a:Int)(K:V → Prop):Prop:=
 ((k==(0:Int))=true→At ((0:Int)≤a∧a < (↑(List.length wc):Int))∧At ((0:Int)≤(↑(UInt8.toNat (List.getD wc (Int.toNat a) (0:UInt8))):Int)∧(↑(UInt8.toNat (List.getD wc (Int.toNat a) (0:UInt8))):Int) < (256:Int))∧
 K (V.agg [V.int .i64 k,V.int .i64 a,V.int .i64 ((↑(UInt8.toNat (List.getD wc (Int.toNat a) (0:UInt8))):Int) - (48:Int))]))∧((k==(0:Int))=false→((k==(4:Int))=true→At (List.length wc≤(1000:Nat))∧
 K (V.agg [V.int .i64 k,V.int .i64 (sumC wc),V.int .i64 (0:Int)]))∧((k==(4:Int))=false→At (goodB { r := wr,w := ww,h := wh,c := wc,x := wx,y := wy,d := wd }=true∧(0:Int)≤a∧a≤(3000:Int))∧((k==(1:Int))=true→
 K (V.agg [V.int .i64 k,V.int .i64 a,V.int .i64 (IntKind.wrap .i64 (IntKind.wrap .i64 (Wd.y (iterW stepW (Int.toNat a) { r := wr,w := ww,h := wh,c := wc,x := wx,y := wy,d := wd }) * Wd.w (iterW stepW (Int.toNat a) { r := wr,w := ww,h := wh,c := wc,x := wx,y := wy,d := wd })) + Wd.x (iterW stepW (Int.toNat a) { r := wr,w := ww,h := wh,c := wc,x := wx,y := wy,d := wd })))]))∧
 ((k==(1:Int))=false→((k==(2:Int))=true→K (V.agg [V.int .i64 k,V.int .i64 a,V.int .i64 (Wd.d (iterW stepW (Int.toNat a) { r := wr,w := ww,h := wh,c := wc,x := wx,y := wy,d := wd }))]))∧((k==(2:Int))=false→
 ((k==(3:Int))=true→At (List.length (Array.toList #[(48:UInt8)])=(1:Nat))∧
 K (V.agg [V.int .i64 k,V.int .i64 a,V.int .i64 (cntC (List.getD (Array.toList #[(48:UInt8)]) (0:Nat) (0:UInt8)) (Wd.c (iterW stepW (Int.toNat a) { r := wr,w := ww,h := wh,c := wc,x := wx,y := wy,d := wd })))]))∧
 ((k==(3:Int))=false→K (V.agg [V.int .i64 k,V.int .i64 a,V.int .i64 (0:Int)]))))))
def VC_impl_doesFit (cx:Int)(cy:Int)(ck:Int)(wr:List UInt8)(ww:Int)(wh:Int)(wc:List UInt8)(wx:Int)(wy:Int)(wd:Int)(K:V → Prop):Prop:=
 True∧At (askK cx cy { r := wr,w := ww,h := wh,c := wc,x := wx,y := wy,d := wd }=true)∧
 K (V.bool (cx==cx && ((cy==bif cx==(4:Int) then valK (4:Int) (0:Int) { r := wr,w := ww,h := wh,c := wc,x := wx,y := wy,d := wd } else cy) && ((ck==bif cx==(4:Int) then (0:Int) else valK cx cy { r := wr,w := ww,h := wh,c := wc,x := wx,y := wy,d := wd }) && true))))
end Go.Vi

/- What clues tell of worlds: the conditions hold. -/
namespace Go.Vi
theorem led_step {f : Wd -> Wd} (hf : ∀ w, goodB w = true -> goodB (f w) = true) {s0 : Int} {w0 : Wd} {a : Led} (h : ledInv f s0 w0 a) (ha : a.k <= a.s) :
  ledInv f s0 w0 ⟨a.s, IntKind.wrap .i64 (a.k + 1), f a.v⟩ /\ (a.s - IntKind.wrap .i64 (a.k + 1) + 1).toNat < (a.s - a.k + 1).toNat := by
 obtain ⟨h1, h2, h3, h4, h5, h6, h7, h8⟩ := h
 rw [wrap64_in (by omega)]
 refine ⟨⟨h1, hf _ h2, h3, h4, by simp only; omega, by simp only; omega, ?_, h8⟩, by omega⟩
 simp only
 rw [h7, show (a.k + 1 - 1).toNat = (a.k - 1).toNat + 1 by omega, iterW_out]
theorem led_round {f : Wd -> Wd} (hf : ∀ w, goodB w = true -> goodB (f w) = true) {s0 : Int} {w0 : Wd} {a : Led} (h : ledInv f s0 w0 a) (ha : a.k <= a.s) (he : f a.v = w0) :
  ledInv f s0 w0 ⟨IntKind.wrap .i64 (a.k + Int.tmod (IntKind.wrap .i64 (a.s - a.k)) a.k), IntKind.wrap .i64 (a.k + 1), f a.v⟩ /\ (IntKind.wrap .i64 (a.k + Int.tmod (IntKind.wrap .i64 (a.s - a.k)) a.k) - IntKind.wrap .i64 (a.k + 1) + 1).toNat < (a.s - a.k + 1).toNat := by
 have hs := led_step hf h ha
 obtain ⟨h1, h2, h3, h4, h5, h6, h7, h8⟩ := h
 have hm := emod_bd (a.s - a.k) h5
 have hle : (a.s - a.k) % a.k <= a.s - a.k := by
  have := Int.emod_nonneg (a.s - a.k) (b := a.k) (by omega)
  have h' := Nat.mod_le (a.s - a.k).toNat a.k.toNat
  have e : (((a.s - a.k).toNat % a.k.toNat : Nat) : Int) = (a.s - a.k) % a.k := by
   rw [Int.natCast_emod, Int.toNat_of_nonneg (by omega), Int.toNat_of_nonneg (by omega)]
  omega
 rw [wrap64_in (x := a.s - a.k) (by omega), tmod_emod (by omega), wrap64_in (x := a.k + (a.s - a.k) % a.k) (by omega)]
 rw [wrap64_in (x := a.k + 1) (by omega)] at hs ⊢
 obtain ⟨⟨g1, g2, g3, g4, g5, g6, g7, g8⟩, _⟩ := hs
 refine ⟨⟨h1, g2, h3, by simp only; omega, g5, by simp only; omega, g7, ?_⟩, by omega⟩
 have hper : iterW f a.k.toNat w0 = w0 := by
  have : f a.v = iterW f a.k.toNat w0 := by
   rw [h7, <- iterW_out f, show (a.k - 1).toNat + 1 = a.k.toNat by omega]
  rw [<- this]; exact he
 simp only
 have e : (a.k + (a.s - a.k) % a.k).toNat = a.k.toNat + (a.s.toNat - a.k.toNat) % a.k.toNat := by
  have e2 : (((a.s.toNat - a.k.toNat) % a.k.toNat : Nat) : Int) = (a.s - a.k) % a.k := by
   rw [Int.natCast_emod]
   congr 1 <;> omega
  omega
 rw [e, iterW_add, hper, iterW_mod f hper, <- h8]
 conv => rhs; rw [show a.s.toNat = a.k.toNat + (a.s.toNat - a.k.toNat) by omega, iterW_add, hper]
theorem led_done {f : Wd -> Wd} {s0 : Int} {w0 : Wd} {a : Led} (h : ledInv f s0 w0 a) (ha : ¬ a.k <= a.s) : a.v = iterW f s0.toNat w0 := by
 obtain ⟨_, _, _, _, h5, h6, h7, h8⟩ := h
 rw [h7, <- h8, show (a.k - 1).toNat = a.s.toNat by omega]
theorem eqW_split {u : Wd} {r : List UInt8} {w h : Int} {c : List UInt8} {x y d : Int} (he : (u.r == r && (u.w == w && (u.h == h && (u.c == c && (u.x == x && (u.y == y && (u.d == d && true))))))) = true) : u = ⟨r, w, h, c, x, y, d⟩ := by
 simp only [Bool.and_eq_true, beq_iff_eq, and_true] at he
 obtain ⟨rfl, rfl, rfl, rfl, rfl, rfl, rfl⟩ := he
 rfl
theorem beqT {k c : Int} (h : (k == c) = true) : k = c := by simpa using h
theorem beqF {k c : Int} (h : (k == c) = false) : k ≠ c := by simpa using h
theorem vc_impl_led (wr : List UInt8) (ww wh : Int) (wc : List UInt8) (wx wy wd s : Int) (h : goodB ⟨wr, ww, wh, wc, wx, wy, wd⟩ = true /\ 0 <= s /\ s <= 3000) : VC_impl_led wr ww wh wc wx wy wd s (retP (wdV (iterW stepW s.toNat ⟨wr, ww, wh, wc, wx, wy, wd⟩))) := by
 unfold VC_impl_led
 obtain ⟨hg, h1, h2⟩ := h
 refine ⟨by simp, ⟨hg, hg, h1, h2, by simp only; omega, by simp only; omega, rfl, rfl⟩, fun a ha => ⟨fun hc => ⟨⟨ha.2.1⟩, fun he => ⟨⟨?_⟩, by simp, ⟨led_round (fun _ => good_step) ha (of_decide_eq_true hc) (eqW_split he)⟩⟩, fun he => ⟨by simp, ⟨led_step (fun _ => good_step) ha (of_decide_eq_true hc)⟩⟩⟩, fun hc => ?_⟩⟩
 ·have := ha.2.2.2.2.1
  omega
 ·exact retP_wd (u := a.v) (led_done ha (of_decide_eq_false hc))
theorem sum_take {c : List UInt8} {i : Nat} (h : i < c.length) : sumC (c.take (i + 1)) = sumC (c.take i) + (((c.getD i 0).toNat : Int) - 48) := by
 induction c generalizing i with
 | nil => simp at h
 | cons b r ih =>
  cases i with
  | zero => simp [sumC]
  | succ i =>
   simp only [List.take_succ_cons, sumC, List.getD_cons_succ]
   rw [ih (by simpa using h)]
   omega
theorem cnt_take {b : UInt8} {c : List UInt8} {i : Nat} (h : i < c.length) : cntC b (c.take (i + 1)) = cntC b (c.take i) + (bif c.getD i 0 == b then 1 else 0) := by
 induction c generalizing i with
 | nil => simp at h
 | cons d r ih =>
  cases i with
  | zero => simp [cntC]
  | succ i =>
   simp only [List.take_succ_cons, cntC, List.getD_cons_succ]
   rw [ih (by simpa using h)]
   omega
theorem sum_bd : ∀ c : List UInt8, -48 * (c.length : Int) <= sumC c /\ sumC c <= 207 * (c.length : Int)
 | [] => by simp [sumC]
 | b :: r => by
  have := sum_bd r
  have := UInt8.toNat_lt b
  simp only [sumC, List.length_cons]
  omega
theorem cnt_bd (b : UInt8) : ∀ c : List UInt8, 0 <= cntC b c /\ cntC b c <= (c.length : Int)
 | [] => by simp [cntC]
 | d :: r => by
  have := cnt_bd b r
  simp only [cntC, List.length_cons]
  cases d == b <;> simp only [cond_true, cond_false] <;> omega
theorem vc_impl_sumOf (s : List UInt8) (h : s.length <= 1000) : VC_impl_sumOf s (retP (.int .i64 (sumC s))) := by
 unfold VC_impl_sumOf
 refine ⟨by simp [sumC], ⟨Int.le_refl _, by omega, h⟩, fun i hi => ⟨fun hc => ?_, fun hc => ?_⟩⟩
 ·have hc := of_decide_eq_true hc
  obtain ⟨g1, g2, _⟩ := hi
  have hb := sum_bd (s.take i.toNat)
  have hl : (s.take i.toNat).length <= 1000 := by rw [List.length_take]; omega
  have hd := UInt8.toNat_lt (s.getD i.toNat 0)
  rw [wrap64_in (x := i + 1) (by omega), wrap64_in (x := sumC _ + _) (by omega), show (i + 1).toNat = i.toNat + 1 by omega, sum_take (by omega)]
  refine ⟨⟨g1, hc⟩, ⟨by omega, by omega⟩, by simp, ⟨⟨by omega, by omega, h⟩, by omega⟩⟩
 ·have hc := of_decide_eq_false hc
  obtain ⟨g1, g2, _⟩ := hi
  rw [retP_int, List.take_of_length_le (by omega)]
theorem good_len {w : Wd} (h : goodB w = true) : w.c.length <= 81 := by
 obtain ⟨h1, h2, _, _, _, h6, _⟩ := good_bd h
 have := mul_bd h1 h2
 omega
theorem cell_dig {w : Wd} (h : goodB w = true) {i : Nat} (hi : i < w.c.length) : 48 <= (w.c.getD i 0).toNat /\ (w.c.getD i 0).toNat <= 57 := by
 obtain ⟨_, _, _, _, _, _, h7, h8, _⟩ := good_bd h
 have hm : w.c.getD i 0 ∈ w.c := by
  rw [List.getD_eq_getElem?_getD, List.getElem?_eq_getElem hi]
  exact List.getElem_mem hi
 have := inB_eq.1 (List.all_eq_true.1 h8 _ hm)
 omega
theorem digit_w {w : Wd} (h : goodB w = true) {i : Nat} (hi : i < w.c.length) : IntKind.wrap .i64 (IntKind.wrap .u8 (((w.c.getD i 0).toNat : Int) - 48)) = ((w.c.getD i 0).toNat : Int) - 48 := by
 have hd := cell_dig h hi
 generalize (w.c.getD i 0).toNat = d at hd ⊢
 have e : IntKind.wrap .u8 ((d : Int) - 48) = (d : Int) - 48 := by
  simp only [IntKind.wrap, IntKind.signed, IntKind.bits]
  simp
  omega
 rw [e, wrap64_in (by omega)]
theorem pv_step {w : Wd} (h : goodB w = true) {i : Int} (g1 : 0 <= i) (hc : i < (w.c.length : Int)) :
  IntKind.wrap .i64 (sumC (w.c.take i.toNat) + IntKind.wrap .i64 (IntKind.wrap .u8 (((w.c.getD i.toNat 0).toNat : Int) - 48))) = sumC (w.c.take (IntKind.wrap .i64 (i + 1)).toNat) /\
  ((((w.c.getD i.toNat 0).toNat : Int) == 48) = true -> IntKind.wrap .i64 (cntC 48 (w.c.take i.toNat) + 1) = cntC 48 (w.c.take (IntKind.wrap .i64 (i + 1)).toNat)) /\
  ((((w.c.getD i.toNat 0).toNat : Int) == 48) = false -> cntC 48 (w.c.take i.toNat) = cntC 48 (w.c.take (IntKind.wrap .i64 (i + 1)).toNat)) := by
 have hl := good_len h
 have hb := sum_bd (w.c.take i.toNat)
 have hk := cnt_bd 48 (w.c.take i.toNat)
 have hlt : (w.c.take i.toNat).length <= 81 := by rw [List.length_take]; omega
 have hd := cell_dig h (i := i.toNat) (by omega)
 rw [digit_w h (by omega), wrap64_in (x := i + 1) (by omega), wrap64_in (x := sumC _ + _) (by omega), wrap64_in (x := cntC _ _ + 1) (by omega), show (i + 1).toNat = i.toNat + 1 by omega, sum_take (by omega), cnt_take (by omega)]
 refine ⟨rfl, fun h3 => ?_, fun h3 => ?_⟩
 ·have h3 := beqT h3
  have e : w.c.getD i.toNat 0 = 48 := UInt8.toNat_inj.1 (by show _ = 48; omega)
  rw [e]; rfl
 ·have h3 := beqF h3
  have e : (w.c.getD i.toNat 0 == 48) = false := by
   rw [beq_eq_false_iff_ne]
   intro e
   rw [e] at h3
   exact h3 rfl
  rw [e, cond_false, Int.add_zero]
theorem good_at {w : Wd} (h : goodB w = true) : IntKind.wrap .i64 (IntKind.wrap .i64 (w.y * w.w) + w.x) = w.y * w.w + w.x /\ True := by
 obtain ⟨h1, h2, h3, h4, _⟩ := good_bd h
 have a1 : 0 <= w.y * w.w := Int.mul_nonneg h4.1 (by omega)
 have a2 : w.y * w.w <= 9 * 9 := Int.mul_le_mul (by omega) (by omega) (by omega) (by omega)
 rw [wrap64_in (x := w.y * w.w) (by omega), wrap64_in (by omega)]
 exact ⟨rfl, trivial⟩
theorem askK_bd {k a : Int} {w : Wd} (h : askK k a w = true) : goodB w = true /\ 0 <= k /\ k <= 4 /\ 0 <= a /\ a <= 100 /\ (k = 0 -> a < w.c.length) := by
 unfold askK at h
 simp only [Bool.and_eq_true] at h
 obtain ⟨⟨⟨h1, h2⟩, h3⟩, h4⟩ := h
 have := inB_eq.1 h2
 have := inB_eq.1 h3
 refine ⟨h1, by omega, by omega, by omega, by omega, fun hk => ?_⟩
 subst hk
 simpa using h4
theorem good_iter {w : Wd} (h : goodB w = true) : ∀ n, goodB (iterW stepW n w) = true
 | 0 => h
 | n + 1 => by rw [iterW_out]; exact good_step (good_iter h n)
theorem vc_spec_pzValue (k a : Int) (wr : List UInt8) (ww wh : Int) (wc : List UInt8) (wx wy wd : Int) (h : askK k a ⟨wr, ww, wh, wc, wx, wy, wd⟩ = true) : VC_spec_pzValue k a wr ww wh wc wx wy wd (retP (.int .i64 (valK k a ⟨wr, ww, wh, wc, wx, wy, wd⟩))) := by
 obtain ⟨hg, k1, k2, a1, a2, ha0⟩ := askK_bd h
 simp only at ha0
 unfold VC_spec_pzValue
 refine ⟨fun h1 => ⟨fun h2 => ⟨by simp, ⟨hg, a2, a1, Int.le_refl _, rfl, rfl⟩, fun q hq => ⟨fun hc => ?_, fun hc => ?_⟩⟩, fun h2 => ?_⟩, fun h1 => ?_⟩
 ·have hc := of_decide_eq_true hc
  obtain ⟨g1, g2, g3, g4, g5, g6⟩ := hq
  refine ⟨⟨g1⟩, by simp, ⟨⟨good_step g1, a2, ?_, ?_, ?_, ?_⟩, ?_⟩⟩
  ·rw [wrap64_in (by omega)]; simp only; omega
  ·rw [wrap64_in (by omega)]; simp only; omega
  ·rw [wrap64_in (by omega), <- g5]
   simp only
   rw [show q.1.toNat = (q.1 - 1).toNat + 1 by omega]
   rfl
  ·rw [<- g6]
   have e1 := (good_bd (good_step g1)).2.2.2.2.2.1
   have e2 := (good_bd g1).2.2.2.2.2.1
   have e3 : (stepW q.2).w = q.2.w := rfl
   have e4 : (stepW q.2).h = q.2.h := rfl
   rw [e3, e4] at e1
   simp only
   omega
  ·rw [wrap64_in (by omega)]; omega
 ·have hc := of_decide_eq_false hc
  have h1 := of_decide_eq_true h1
  have h2 := of_decide_eq_true h2
  obtain ⟨hgX, _, g3, g4, g5, g6⟩ := hq
  have hfin : valW k a q.2 = valK k a ⟨wr, ww, wh, wc, wx, wy, wd⟩ := by
   have hs : stepsB k = true := by
    unfold stepsB
    have : k = 1 \/ k = 2 \/ k = 3 := by omega
    rcases this with rfl | rfl | rfl <;> rfl
   unfold valK afterK
   rw [hs, cond_true, <- g5, show q.1.toNat = 0 by omega]
   rfl
  refine ⟨by simp [sumC, cntC], ⟨Int.le_refl _, by omega⟩, fun i hi => ⟨fun hc => ?_, fun hc => ?_⟩⟩
  ·have hc := of_decide_eq_true hc
   obtain ⟨g1, g2⟩ := hi
   obtain ⟨s1, s2, s3⟩ := pv_step (w := q.2) hgX g1 hc
   have hcl := good_len (w := q.2) hgX
   refine ⟨⟨g1, hc⟩, ⟨g1, hc⟩, fun h3 => ⟨?_, ⟨⟨?_, ?_⟩, ?_⟩⟩, fun h3 => ⟨?_, ⟨⟨?_, ?_⟩, ?_⟩⟩⟩
   ·rw [s1, s2 h3]
    simp
   ·rw [wrap64_in (by first | omega | (simp only at hcl; omega))]; omega
   ·rw [wrap64_in (by first | omega | (simp only at hcl; omega))]; omega
   ·rw [wrap64_in (by first | omega | (simp only at hcl; omega))]; omega
   ·rw [s1, s3 h3]
    simp
   ·rw [wrap64_in (by first | omega | (simp only at hcl; omega))]; omega
   ·rw [wrap64_in (by first | omega | (simp only at hcl; omega))]; omega
   ·rw [wrap64_in (by first | omega | (simp only at hcl; omega))]; omega
  ·have hc := of_decide_eq_false hc
   obtain ⟨g1, g2⟩ := hi
   have hcl := good_len (w := q.2) hgX
   obtain ⟨y1, _⟩ := good_at (w := q.2) hgX
   try simp only at y1 hcl
   rw [List.take_of_length_le (i := i.toNat) (by omega)]
   refine ⟨fun k0 => absurd (beqT k0) (by omega), fun k0 => ⟨fun k1 => ?_, fun k1 => ⟨fun k2 => ?_, fun k2 => ⟨fun k3 => ?_, fun k3 => ?_⟩⟩⟩⟩
   ·rw [retP_int, y1, <- hfin]; obtain rfl := beqT k1; rfl
   ·rw [retP_int, <- hfin]; obtain rfl := beqT k2; rfl
   ·rw [retP_int, <- hfin]; obtain rfl := beqT k3; rfl
   ·have := beqF k1; have := beqF k2; have := beqF k3; omega
 ·have h1 := of_decide_eq_true h1
  have h2 := of_decide_eq_false h2
  have hgX := hg
  refine ⟨by simp [sumC, cntC], ⟨Int.le_refl _, by omega⟩, fun i hi => ⟨fun hc => ?_, fun hc => ?_⟩⟩
  ·have hc := of_decide_eq_true hc
   obtain ⟨g1, g2⟩ := hi
   obtain ⟨s1, s2, s3⟩ := pv_step (w := ⟨wr, ww, wh, wc, wx, wy, wd⟩) hgX g1 hc
   have hcl := good_len (w := ⟨wr, ww, wh, wc, wx, wy, wd⟩) hgX
   refine ⟨⟨g1, hc⟩, ⟨g1, hc⟩, fun h3 => ⟨?_, ⟨⟨?_, ?_⟩, ?_⟩⟩, fun h3 => ⟨?_, ⟨⟨?_, ?_⟩, ?_⟩⟩⟩
   ·rw [s1, s2 h3]
    simp
   ·rw [wrap64_in (by first | omega | (simp only at hcl; omega))]; omega
   ·rw [wrap64_in (by first | omega | (simp only at hcl; omega))]; omega
   ·rw [wrap64_in (by first | omega | (simp only at hcl; omega))]; omega
   ·rw [s1, s3 h3]
    simp
   ·rw [wrap64_in (by first | omega | (simp only at hcl; omega))]; omega
   ·rw [wrap64_in (by first | omega | (simp only at hcl; omega))]; omega
   ·rw [wrap64_in (by first | omega | (simp only at hcl; omega))]; omega
  ·have hc := of_decide_eq_false hc
   obtain ⟨g1, g2⟩ := hi
   have hcl := good_len (w := ⟨wr, ww, wh, wc, wx, wy, wd⟩) hgX
   obtain ⟨y1, _⟩ := good_at (w := ⟨wr, ww, wh, wc, wx, wy, wd⟩) hgX
   try simp only at y1 hcl
   rw [List.take_of_length_le (i := i.toNat) (by omega)]
   refine ⟨fun k0 => absurd (beqT k0) (by omega), fun k0 => ⟨fun k1 => absurd (beqT k1) (by omega), fun k1 => ⟨fun k2 => absurd (beqT k2) (by omega), fun k2 => ⟨fun k3 => absurd (beqT k3) (by omega), fun k3 => ?_⟩⟩⟩⟩
   rw [retP_int]
   obtain rfl : k = 4 := by omega
   rfl
 ·have h1 := of_decide_eq_false h1
  have hgX := hg
  refine ⟨by simp [sumC, cntC], ⟨Int.le_refl _, by omega⟩, fun i hi => ⟨fun hc => ?_, fun hc => ?_⟩⟩
  ·have hc := of_decide_eq_true hc
   obtain ⟨g1, g2⟩ := hi
   obtain ⟨s1, s2, s3⟩ := pv_step (w := ⟨wr, ww, wh, wc, wx, wy, wd⟩) hgX g1 hc
   have hcl := good_len (w := ⟨wr, ww, wh, wc, wx, wy, wd⟩) hgX
   refine ⟨⟨g1, hc⟩, ⟨g1, hc⟩, fun h3 => ⟨?_, ⟨⟨?_, ?_⟩, ?_⟩⟩, fun h3 => ⟨?_, ⟨⟨?_, ?_⟩, ?_⟩⟩⟩
   ·rw [s1, s2 h3]
    simp
   ·rw [wrap64_in (by first | omega | (simp only at hcl; omega))]; omega
   ·rw [wrap64_in (by first | omega | (simp only at hcl; omega))]; omega
   ·rw [wrap64_in (by first | omega | (simp only at hcl; omega))]; omega
   ·rw [s1, s3 h3]
    simp
   ·rw [wrap64_in (by first | omega | (simp only at hcl; omega))]; omega
   ·rw [wrap64_in (by first | omega | (simp only at hcl; omega))]; omega
   ·rw [wrap64_in (by first | omega | (simp only at hcl; omega))]; omega
  ·have hc := of_decide_eq_false hc
   obtain ⟨g1, g2⟩ := hi
   have hcl := good_len (w := ⟨wr, ww, wh, wc, wx, wy, wd⟩) hgX
   obtain ⟨y1, _⟩ := good_at (w := ⟨wr, ww, wh, wc, wx, wy, wd⟩) hgX
   try simp only at y1 hcl
   rw [List.take_of_length_le (i := i.toNat) (by omega)]
   obtain rfl : k = 0 := by omega
   have ha := ha0 rfl
   refine ⟨fun k0 => ⟨⟨by omega, by omega⟩, ?_⟩, fun k0 => absurd rfl (beqF k0)⟩
   rw [retP_int, digit_w (w := ⟨wr, ww, wh, wc, wx, wy, wd⟩) hgX (by simp only; omega)]
   rfl
theorem clue_bd {k a b : Int} {w : Wd} (hg : goodB w = true) (h : clueB k a b w.r.length (w.w * w.h) = true) : (k = 4 -> b = 0) /\ 0 <= k /\ k <= 4 /\ askK k a w = true /\ askK 4 0 w = true := by
 have hlen := (good_bd hg).2.2.2.2.2.1
 have hl := good_len hg
 unfold clueB at h
 simp only [Bool.and_eq_true] at h
 obtain ⟨h1, h2⟩ := h
 have h1 := inB_eq.1 h1
 have h2 := inB_eq.1 h2
 have hk : 0 <= k /\ k <= 4 := by
  refine Classical.byContradiction fun hn => ?_
  have e : gA k (w.w * w.h) = -1 := by
   unfold gA
   rw [beq_eq_false_iff_ne.2 (show k ≠ 0 by omega), beq_eq_false_iff_ne.2 (show k ≠ 1 by omega), beq_eq_false_iff_ne.2 (show k ≠ 2 by omega), beq_eq_false_iff_ne.2 (show k ≠ 3 by omega), beq_eq_false_iff_ne.2 (show k ≠ 4 by omega)]
   rfl
  omega
 have e : k = 0 \/ k = 1 \/ k = 2 \/ k = 3 \/ k = 4 := by omega
 have hask : askK 4 0 w = true := by
  unfold askK
  rw [hg]; rfl
 rcases e with rfl | rfl | rfl | rfl | rfl
 ·have h1' : a <= w.w * w.h - 1 := h1.2
  refine ⟨fun h => by omega, hk.1, hk.2, ?_, hask⟩
  unfold askK
  rw [hg, inB_eq.2 ⟨h1.1, by omega⟩, decide_eq_true (show a < w.c.length by omega)]
  rfl
 ·have h1' : a <= 50 := h1.2
  refine ⟨fun h => by omega, hk.1, hk.2, ?_, hask⟩
  unfold askK
  rw [hg, inB_eq.2 ⟨h1.1, by omega⟩]
  rfl
 ·have h1' : a <= 50 := h1.2
  refine ⟨fun h => by omega, hk.1, hk.2, ?_, hask⟩
  unfold askK
  rw [hg, inB_eq.2 ⟨h1.1, by omega⟩]
  rfl
 ·have h1' : a <= 50 := h1.2
  refine ⟨fun h => by omega, hk.1, hk.2, ?_, hask⟩
  unfold askK
  rw [hg, inB_eq.2 ⟨h1.1, by omega⟩]
  rfl
 ·have h1' : a <= 100 := h1.2
  have h2' : b <= 0 := h2.2
  refine ⟨fun _ => by omega, hk.1, hk.2, ?_, hask⟩
  unfold askK
  rw [hg, inB_eq.2 ⟨h1.1, by omega⟩]
  rfl
theorem vc_spec_pzFits (cx cy ck : Int) (wr : List UInt8) (ww wh : Int) (wc : List UInt8) (wx wy wd : Int) (h : goodB ⟨wr, ww, wh, wc, wx, wy, wd⟩ = true /\ clueB cx cy ck wr.length (ww * wh) = true) : VC_spec_pzFits cx cy ck wr ww wh wc wx wy wd (retP (.bool (fitB cx cy ck ⟨wr, ww, wh, wc, wx, wy, wd⟩))) := by
 obtain ⟨_, _, _, c1, c2⟩ := clue_bd (w := ⟨wr, ww, wh, wc, wx, wy, wd⟩) h.1 h.2
 unfold VC_spec_pzFits fitB
 refine ⟨fun hk => ⟨trivial, ⟨c2⟩, ?_⟩, fun hk => ⟨trivial, ⟨c1⟩, ?_⟩⟩
 ·rw [retP_bool, hk]; rfl
 ·rw [retP_bool, hk]; rfl
theorem retP_clu {a b c : Int} {a' b' c' : Int} (h1 : a' = a) (h2 : b' = b) (h3 : c' = c) : retP (.agg [.int .i64 a, .int .i64 b, .int .i64 c]) (.agg [.int .i64 a', .int .i64 b', .int .i64 c']) := by
 subst h1; subst h2; subst h3
 simp [retP, leV, leL, chkB, V.under, underL]
theorem vc_impl_clueFrom (wr : List UInt8) (ww wh : Int) (wc : List UInt8) (wx wy wd k a : Int) (h : askK k a ⟨wr, ww, wh, wc, wx, wy, wd⟩ = true) : VC_impl_clueFrom wr ww wh wc wx wy wd k a
  (retP (.agg [.int .i64 k, .int .i64 (bif k == 4 then valK 4 0 ⟨wr, ww, wh, wc, wx, wy, wd⟩ else a), .int .i64 (bif k == 4 then 0 else valK k a ⟨wr, ww, wh, wc, wx, wy, wd⟩)])) := by
 obtain ⟨hg, k1, k2, a1, a2, ha0⟩ := askK_bd h
 simp only at ha0
 have hl := good_len hg
 have hb := fun i : Nat => UInt8.toNat_lt (wc.getD i 0)
 unfold VC_impl_clueFrom
 refine ⟨fun h0 => ?_, fun h0 => ⟨fun h4 => ?_, fun h4 => ⟨⟨hg, a1, by omega⟩, fun h1 => ?_, fun h1 => ⟨fun h2 => ?_, fun h2 => ⟨fun h3 => ⟨⟨rfl⟩, ?_⟩, fun h3 => ?_⟩⟩⟩⟩⟩
 ·obtain rfl := beqT h0
  have := ha0 rfl
  have := hb a.toNat
  exact ⟨⟨a1, by omega⟩, ⟨by omega, by omega⟩, retP_clu rfl rfl rfl⟩
 ·obtain rfl := beqT h4
  exact ⟨⟨by simp only at hl; omega⟩, retP_clu rfl rfl rfl⟩
 ·obtain rfl := beqT h1
  obtain ⟨e, _⟩ := good_at (good_iter hg a.toNat)
  rw [e]
  exact retP_clu rfl rfl rfl
 ·obtain rfl := beqT h2
  exact retP_clu rfl rfl rfl
 ·obtain rfl := beqT h3
  exact retP_clu rfl rfl rfl
 ·have := beqF h0; have := beqF h1; have := beqF h2; have := beqF h3; have := beqF h4
  omega
theorem vc_impl_doesFit (cx cy ck : Int) (wr : List UInt8) (ww wh : Int) (wc : List UInt8) (wx wy wd : Int) (h : goodB ⟨wr, ww, wh, wc, wx, wy, wd⟩ = true /\ clueB cx cy ck wr.length (ww * wh) = true) : VC_impl_doesFit cx cy ck wr ww wh wc wx wy wd (retP (.bool (fitB cx cy ck ⟨wr, ww, wh, wc, wx, wy, wd⟩))) := by
 obtain ⟨c0, _, _, c1, c2⟩ := clue_bd (w := ⟨wr, ww, wh, wc, wx, wy, wd⟩) h.1 h.2
 unfold VC_impl_doesFit fitB
 refine ⟨trivial, ⟨c1⟩, ?_⟩
 rw [retP_bool]
 cases hk : (cx == 4)
 ·simp only [cond_false, beq_self_eq_true, Bool.true_and, Bool.and_true]
  rw [Bool.beq_comm]
 ·obtain rfl := beqT hk
  have := c0 rfl
  subst this
  simp only [cond_true, beq_self_eq_true, Bool.true_and, Bool.and_true]
  rw [Bool.beq_comm]
end Go.Vi
