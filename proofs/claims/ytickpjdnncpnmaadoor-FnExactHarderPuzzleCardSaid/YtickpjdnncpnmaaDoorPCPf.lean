import Derived.Test.YtickpjdnncpnmaaDoorPVPf
/- Puzzles: all cells, candidates, what fits, solutions. -/
namespace Go.Vi
/-- All texts of n digits of c colours, in their order. -/
def textsC (c : Nat) : Nat -> List (List UInt8)
 | 0 => [[]]
 | n + 1 => (List.range c).flatMap fun d : Nat => (textsC c n).map (num1 (d : Int) ++ ·)
def addD (t : List UInt8) (k : Nat) : List (List UInt8) := (List.range k).map fun d : Nat => t ++ num1 (d : Int)
def growC (c : Nat) (l : List (List UInt8)) : List (List UInt8) := l.flatMap fun t => addD t c
def textsZ (r : List UInt8) (w h : Int) : List (List UInt8) := textsC r.length (w * h).toNat
def acPre (c n : Int) : Prop := 1 <= c /\ c <= 6 /\ 0 <= n /\ n <= 9 /\ c.toNat ^ n.toNat <= 300
def ac1 (c n i : Int) : Prop := acPre c n /\ 0 <= i /\ i <= n
def ac2 (c n i : Int) (l : List (List UInt8)) (j : Int) : Prop := ac1 c n (i + 1) /\ 0 <= i /\ l = textsC c.toNat i.toNat /\ 0 <= j /\ j <= l.length
def ac3 (c n i : Int) (l : List (List UInt8)) (j : Int) (t : List UInt8) (p : List (List UInt8)) (k : Int) : Prop := ac2 c n i l (j + 1) /\ 0 <= j /\ l.getD j.toNat [] = t /\ p = growC c.toNat (l.take j.toNat) /\ 0 <= k /\ k <= c
def ann_impl_allCells : Nat -> St -> Option Ann := fun key st =>
 match intAt st 0, intAt st 11 with
 | some c, some n =>
  (match Nat.beq key 3, Nat.beq key 6, Nat.beq key 9 with
  | true, _, _ => some {
    α := Int
    find := fun st => intAt st 12
    head := fun i => { only st [(0, .int .i64 c), (5, .row 0 (textsC c.toNat i.toNat).length), (11, .int .i64 n), (12, .int .i64 i)] with mem := [⟨.strs (textsC c.toNat i.toNat), 9, .row⟩] }
    inv := fun i => ac1 c n i
    meas := fun i => (n - i).toNat
    auto := true }
  | _, true, _ =>
   (match st.mem, intAt st 12 with
   | ⟨.strs l, e, kd⟩ :: _, some i => some {
     α := Int
     find := fun st => intAt st 16
     head := fun j => { only st [(0, .int .i64 c), (6, .row 1 (growC c.toNat (l.take j.toNat)).length), (11, .int .i64 n), (12, .int .i64 i), (14, .row 0 l.length), (15, .int .i64 l.length), (16, .int .i64 j)] with mem := [⟨.strs l, e, kd⟩, ⟨.strs (growC c.toNat (l.take j.toNat)), 9, .row⟩] }
     inv := fun j => ac2 c n i l j
     meas := fun j => ((l.length : Int) - j).toNat
     auto := true }
   | _, _ => none)
  | _, _, true =>
   (match st.mem, intAt st 12, intAt st 16, strAt st 8 with
   | [⟨.strs l, e, kd⟩, ⟨.strs p, e', kd'⟩], some i, some j, some t => some {
       α := Int
       find := fun st => intAt st 21
       head := fun k => { only st [(0, .int .i64 c), (6, .row 1 (p ++ addD t k.toNat).length), (8, .str t), (11, .int .i64 n), (12, .int .i64 i), (14, .row 0 l.length), (15, .int .i64 l.length), (16, .int .i64 j), (20, .int .i64 c), (21, .int .i64 k)] with mem := [⟨.strs l, e, kd⟩, ⟨.strs (p ++ addD t k.toNat), e', kd'⟩] }
       inv := fun k => ac3 c n i l j t p k
       meas := fun k => (c - k).toNat
       auto := true }
   | _, _, _, _ => none)
  | _, _, _ => none)
 | _, _ => none
/-! ### candidates -/
def wdT (r : List UInt8) (w h : Int) (t : List UInt8) : Wd := ⟨r, w, h, t, 0, 0, 0⟩
def fitAt (r : List UInt8) (w h : Int) (a : List Int) (t : List UInt8) (i : Nat) : Bool := fitB (a.getD (i * 3) 0) (a.getD (i * 3 + 1) 0) (a.getD (i * 3 + 1 + 1) 0) (wdT r w h t)
def fitsN (r : List UInt8) (w h : Int) (a : List Int) (t : List UInt8) : Nat -> Bool
 | 0 => true
 | i + 1 => fitsN r w h a t i && fitAt r w h a t i
def maskN (r : List UInt8) (w h : Int) (a : List Int) (t : List UInt8) : Nat -> Nat
 | 0 => 0
 | i + 1 => bif fitAt r w h a t i then maskN r w h a t i ||| 2 ^ i else maskN r w h a t i
def candL (r : List UInt8) (w h : Int) (n : Nat) (a : List Int) : List (List UInt8) -> List Sc
 | [] => []
 | t :: l => ⟨0, t⟩ :: ⟨(maskN r w h a t n : Nat), []⟩ :: candL r w h n a l
def solZ (r : List UInt8) (w h : Int) (n : Nat) (a : List Int) : List (List UInt8) := (textsZ r w h).filter fun t => fitsN r w h a t n
def lookX (r : List UInt8) (w h : Int) (n : Nat) (a : List Int) (b : List UInt8) : List (List UInt8) := ((textsC r.length ((w * h).toNat - b.length)).map (b ++ ·)).filter fun t => fitsN r w h a t n
def cdInv (r : List UInt8) (w h : Int) (n : Nat) (a : List Int) (i : Int) : Prop := goodZ r w h n a = true /\ a.length = n * 3 /\ 0 <= i /\ i <= (textsZ r w h).length
def cd2Inv (r : List UInt8) (w h : Int) (n : Nat) (a : List Int) (i : Int) (t : List UInt8) (k : Int) : Prop := cdInv r w h n a (i + 1) /\ 0 <= i /\ (textsZ r w h).getD i.toNat [] = t /\ 0 <= k /\ k <= n
def ann_impl_candidatesOf : Nat -> St -> Option Ann := fun key st =>
 match st.mem with
 | ⟨.ints kd a, e, k0⟩ :: ⟨.vals [.str r, .int i1 w, .int i2 h, .row x n], e1, k1⟩ :: rest =>
  (match Nat.beq key 5, Nat.beq key 10 with
  | true, _ => some {
    α := Int
    find := fun st => intAt st 24
    head := fun i => { only st [(1, .ptr 1 0), (4, .row 3 i.toNat), (22, .row 2 (textsZ r w h).length), (23, .int .i64 (textsZ r w h).length), (24, .int .i64 i)] with mem := [⟨.ints kd a, e, k0⟩, ⟨.vals [.str r, .int i1 w, .int i2 h, .row x n], e1, k1⟩, ⟨.strs (textsZ r w h), 9, .row⟩, ⟨.recs [.str, .int .u64] (candL r w h n a ((textsZ r w h).take i.toNat)), 102, .rows 2⟩] }
    inv := fun i => cdInv r w h n a i
    meas := fun i => (((textsZ r w h).length : Int) - i).toNat
    auto := true }
  | _, true =>
   (match rest, intAt st 24, strAt st 6 with
   | b2 :: b3 :: b4 :: ⟨_, e5, k5⟩ :: _, some i, some t => some {
     α := Int
     find := fun st => intAt st 41
     head := fun k => { only st [(1, .ptr 1 0), (4, .row 3 i.toNat), (6, .str t), (7, .ptr 4 0), (8, .ptr 5 0), (22, .row 2 (textsZ r w h).length), (23, .int .i64 (textsZ r w h).length), (24, .int .i64 i), (39, .row 0 n), (40, .int .i64 n), (41, .int .i64 k)] with mem := [⟨.ints kd a, e, k0⟩, ⟨.vals [.str r, .int i1 w, .int i2 h, .row x n], e1, k1⟩, b2, b3, b4, ⟨.vals [.str t, .int .u64 (maskN r w h a t k.toNat : Nat)], e5, k5⟩] }
     inv := fun k => cd2Inv r w h n a i t k
     meas := fun k => ((n : Int) - k).toNat
     auto := true }
   | _, _, _ => none)
  | _, _ => none)
 | _ => none
/-! ### what fits a set -/
def goodL (l : List Sc) (n : Nat) : Prop := l.length = n * 2 /\ n <= 300 /\ ∀ i, i < n -> 0 <= (l.getD (i * 2 + 1) ⟨0, []⟩).i /\ (l.getD (i * 2 + 1) ⟨0, []⟩).i < 18446744073709551616
def fitL (l : List Sc) (s : Int) : Nat -> List (List UInt8)
 | 0 => []
 | i + 1 => fitL l s i ++ (bif allIn2 (l.getD (i * 2 + 1) ⟨0, []⟩).i s then [(l.getD (i * 2) ⟨0, []⟩).s] else [])
def faInv (l : List Sc) (n : Nat) (s i : Int) : Prop := goodL l n /\ 0 <= s /\ s < 18446744073709551616 /\ 0 <= i /\ i <= n
def ann_impl_fitAll : Nat -> St -> Option Ann := fun key st =>
 match Nat.beq key 3, st.mem, st.get 8, st.get 1 with
 | true, ⟨.recs sh l, e, k0⟩ :: _, .row x n, .int _ s => some {
   α := Int
   find := fun st => intAt st 10
   head := fun i => { only st [(1, .int .u64 s), (5, .row 1 (fitL l s i.toNat).length), (8, .row x n), (9, .int .i64 n), (10, .int .i64 i)] with mem := [⟨.recs sh l, e, k0⟩, ⟨.strs (fitL l s i.toNat), 9, .row⟩] }
   inv := fun i => faInv l n s i
   meas := fun i => ((n : Int) - i).toNat
   auto := true }
 | _, _, _, _ => none
end Go.Vi

/- Closed forms of the functions of this chapter. -/
namespace Go.Vi
set_option linter.unusedVariables false
def F_impl_allCells : GSpec := fun args m =>
 match args, m with
 | [.int .i64 c, .int .i64 n], [] => some (1 <= c /\ c <= 6 /\ 0 <= n /\ n <= 9 /\ c.toNat ^ n.toNat <= 300, .row 0 (textsC c.toNat n.toNat).length, [⟨.strs (textsC c.toNat n.toNat), 9, .row⟩])
 | _, _ => none
def F_impl_candidatesOf : GSpec := fun args m =>
 match args, m with
 | [.agg [.str pr, .int .i64 pw, .int .i64 ph, .row 0 n]], [⟨.ints .i64 a, 83, .rows 3⟩] => some (a.length = n * 3 /\ n <= 2000000, .tup [.row 1 (bif goodZ pr pw ph n a then (textsZ pr pw ph).length else 0), .bool (goodZ pr pw ph n a)], [⟨.ints .i64 a, 83, .rows 3⟩, ⟨.recs [.str, .int .u64] (bif goodZ pr pw ph n a then candL pr pw ph n a (textsZ pr pw ph) else []), 102, .rows 2⟩])
 | _, _ => none
def F_impl_fitAll : GSpec := fun args m =>
 match args, m with
 | [.row 0 n, .int .u64 s], [⟨.recs [.str, .int .u64] (l), 102, .rows 2⟩] => some (goodL l n /\ 0 <= s /\ s < 18446744073709551616, .row 1 (fitL l s n).length, [⟨.recs [.str, .int .u64] (l), 102, .rows 2⟩, ⟨.strs (fitL l s n), 9, .row⟩])
 | _, _ => none
def F_impl_countFit : FSpec := fun args m =>
 match args, m with
 | [.row 0 n, .int .u64 s], [⟨.recs [.str, .int .u64] (l), 102, .rows 2⟩] => some (goodL l n /\ 0 <= s /\ s < 18446744073709551616, .int .i64 (fitL l s n).length)
 | _, _ => none
def F_impl_Solutions : GSpec := fun args m =>
 match args, m with
 | [.agg [.str pr, .int .i64 pw, .int .i64 ph, .row 0 n]], [⟨.ints .i64 a, 83, .rows 3⟩] => some (a.length = n * 3 /\ n <= 2000000, .tup [.row 1 (bif goodZ pr pw ph n a then solZ pr pw ph n a else []).length, .bool (goodZ pr pw ph n a)], [⟨.ints .i64 a, 83, .rows 3⟩, ⟨.strs (bif goodZ pr pw ph n a then solZ pr pw ph n a else []), 9, .row⟩])
 | _, _ => none
end Go.Vi

/- The conditions, reckoned out by program: texts alone. -/
namespace Go.Vi
set_option linter.unusedVariables false
def VC_impl_allCells (c:Int)(n:Int)(K:V → List Blk → Prop):Prop:=
 (True∧((True∧c=c)∧((0:Nat)=(0:Nat)∧(1:Nat)=(1:Nat))∧(True∧n=n)∧(True∧(0:Int)=(0:Int))∧True)∧((True∧[Array.toList #[]]=textsC (Int.toNat c) (Int.toNat (0:Int)))∧True)∧True)∧At (ac1 c n (0:Int))∧∀(a:Int),ac1 c n a→
 (decide (a < n)=true→(True∧((True∧c=c)∧((1:Nat)=(1:Nat)∧(0:Nat)=(0:Nat))∧(True∧n=n)∧(True∧a=a)∧((0:Nat)=(0:Nat)∧List.length (textsC (Int.toNat c) (Int.toNat a))=List.length (textsC (Int.toNat c) (Int.toNat a)))∧(True∧
 (↑(List.length (textsC (Int.toNat c) (Int.toNat a))):Int)=(↑(List.length (textsC (Int.toNat c) (Int.toNat a))):Int))∧(True∧(0:Int)=(0:Int))∧True)∧((True∧
 textsC (Int.toNat c) (Int.toNat a)=textsC (Int.toNat c) (Int.toNat a))∧(True∧nilS=growC (Int.toNat c) (List.take (Int.toNat (0:Int)) (textsC (Int.toNat c) (Int.toNat a))))∧True)∧True)∧
 At (ac2 c n a (textsC (Int.toNat c) (Int.toNat a)) (0:Int))∧∀(a_3:Int),ac2 c n a (textsC (Int.toNat c) (Int.toNat a)) a_3→(decide (a_3 < (↑(List.length (textsC (Int.toNat c) (Int.toNat a))):Int))=true→At ((0:Int)≤a_3∧
 a_3 < (↑(List.length (textsC (Int.toNat c) (Int.toNat a))):Int))∧At (Int.toNat a_3 < List.length (textsC (Int.toNat c) (Int.toNat a)))∧(True∧((True∧c=c)∧((1:Nat)=(1:Nat)∧
 List.length (growC (Int.toNat c) (List.take (Int.toNat a_3) (textsC (Int.toNat c) (Int.toNat a))))=List.length (growC (Int.toNat c) (List.take (Int.toNat a_3) (textsC (Int.toNat c) (Int.toNat a))) ++ addD (List.getD (textsC (Int.toNat c) (Int.toNat a)) (Int.toNat a_3) []) (Int.toNat (0:Int))))∧
 List.getD (textsC (Int.toNat c) (Int.toNat a)) (Int.toNat a_3) []=List.getD (textsC (Int.toNat c) (Int.toNat a)) (Int.toNat a_3) []∧(True∧n=n)∧(True∧a=a)∧((0:Nat)=(0:Nat)∧
 List.length (textsC (Int.toNat c) (Int.toNat a))=List.length (textsC (Int.toNat c) (Int.toNat a)))∧(True∧
 (↑(List.length (textsC (Int.toNat c) (Int.toNat a))):Int)=(↑(List.length (textsC (Int.toNat c) (Int.toNat a))):Int))∧(True∧a_3=a_3)∧(True∧c=c)∧(True∧(0:Int)=(0:Int))∧True)∧((True∧
 textsC (Int.toNat c) (Int.toNat a)=textsC (Int.toNat c) (Int.toNat a))∧(True∧
 growC (Int.toNat c) (List.take (Int.toNat a_3) (textsC (Int.toNat c) (Int.toNat a)))=growC (Int.toNat c) (List.take (Int.toNat a_3) (textsC (Int.toNat c) (Int.toNat a))) ++ addD (List.getD (textsC (Int.toNat c) (Int.toNat a)) (Int.toNat a_3) []) (Int.toNat (0:Int)))∧
 True)∧True)∧
 At (ac3 c n a (textsC (Int.toNat c) (Int.toNat a)) a_3 (List.getD (textsC (Int.toNat c) (Int.toNat a)) (Int.toNat a_3) []) (growC (Int.toNat c) (List.take (Int.toNat a_3) (textsC (Int.toNat c) (Int.toNat a)))) (0:Int))∧
 ∀(a_6:Int),ac3 c n a (textsC (Int.toNat c) (Int.toNat a)) a_3 (List.getD (textsC (Int.toNat c) (Int.toNat a)) (Int.toNat a_3) []) (growC (Int.toNat c) (List.take (Int.toNat a_3) (textsC (Int.toNat c) (Int.toNat a)))) a_6→
 (decide (a_6 < c)=true→At ((0:Int)≤a_6∧a_6≤(9:Int))∧At (List.length (List.getD (textsC (Int.toNat c) (Int.toNat a)) (Int.toNat a_3) []) + List.length (num1 a_6)≤(9223372036854775807:Nat))∧
 At ((List.length (growC (Int.toNat c) (List.take (Int.toNat a_3) (textsC (Int.toNat c) (Int.toNat a))) ++ addD (List.getD (textsC (Int.toNat c) (Int.toNat a)) (Int.toNat a_3) []) (Int.toNat a_6))=List.length (growC (Int.toNat c) (List.take (Int.toNat a_3) (textsC (Int.toNat c) (Int.toNat a))) ++ addD (List.getD (textsC (Int.toNat c) (Int.toNat a)) (Int.toNat a_3) []) (Int.toNat a_6)) * (1:Nat)∧
 (1:Nat) * (1:Nat)≤List.length [List.getD (textsC (Int.toNat c) (Int.toNat a)) (Int.toNat a_3) [] ++ num1 a_6])∧posM Kind.row (1:Nat)∧
 List.length (growC (Int.toNat c) (List.take (Int.toNat a_3) (textsC (Int.toNat c) (Int.toNat a))) ++ addD (List.getD (textsC (Int.toNat c) (Int.toNat a)) (Int.toNat a_3) []) (Int.toNat a_6)) + (1:Nat)≤(1000000000:Nat))∧
 (True∧((True∧c=c)∧((1:Nat)=(1:Nat)∧
 List.length (growC (Int.toNat c) (List.take (Int.toNat a_3) (textsC (Int.toNat c) (Int.toNat a))) ++ addD (List.getD (textsC (Int.toNat c) (Int.toNat a)) (Int.toNat a_3) []) (Int.toNat a_6)) + (1:Nat)=List.length (growC (Int.toNat c) (List.take (Int.toNat a_3) (textsC (Int.toNat c) (Int.toNat a))) ++ addD (List.getD (textsC (Int.toNat c) (Int.toNat a)) (Int.toNat a_3) []) (Int.toNat (IntKind.wrap .i64 (a_6 + (1:Int))))))∧
 List.getD (textsC (Int.toNat c) (Int.toNat a)) (Int.toNat a_3) []=List.getD (textsC (Int.toNat c) (Int.toNat a)) (Int.toNat a_3) []∧(True∧n=n)∧(True∧a=a)∧((0:Nat)=(0:Nat)∧
 List.length (textsC (Int.toNat c) (Int.toNat a))=List.length (textsC (Int.toNat c) (Int.toNat a)))∧(True∧
 (↑(List.length (textsC (Int.toNat c) (Int.toNat a))):Int)=(↑(List.length (textsC (Int.toNat c) (Int.toNat a))):Int))∧(True∧a_3=a_3)∧(True∧c=c)∧(True∧IntKind.wrap .i64 (a_6 + (1:Int))=IntKind.wrap .i64 (a_6 + (1:Int)))∧
 True)∧((True∧textsC (Int.toNat c) (Int.toNat a)=textsC (Int.toNat c) (Int.toNat a))∧(True∧
 growC (Int.toNat c) (List.take (Int.toNat a_3) (textsC (Int.toNat c) (Int.toNat a))) ++ addD (List.getD (textsC (Int.toNat c) (Int.toNat a)) (Int.toNat a_3) []) (Int.toNat a_6) ++ List.take ((1:Nat) * (1:Nat)) [List.getD (textsC (Int.toNat c) (Int.toNat a)) (Int.toNat a_3) [] ++ num1 a_6]=growC (Int.toNat c) (List.take (Int.toNat a_3) (textsC (Int.toNat c) (Int.toNat a))) ++ addD (List.getD (textsC (Int.toNat c) (Int.toNat a)) (Int.toNat a_3) []) (Int.toNat (IntKind.wrap .i64 (a_6 + (1:Int)))))∧
 True)∧True)∧
 At (ac3 c n a (textsC (Int.toNat c) (Int.toNat a)) a_3 (List.getD (textsC (Int.toNat c) (Int.toNat a)) (Int.toNat a_3) []) (growC (Int.toNat c) (List.take (Int.toNat a_3) (textsC (Int.toNat c) (Int.toNat a)))) (IntKind.wrap .i64 (a_6 + (1:Int)))∧
 Int.toNat (c - IntKind.wrap .i64 (a_6 + (1:Int))) < Int.toNat (c - a_6)))∧(decide (a_6 < c)=false→(True∧((True∧c=c)∧((1:Nat)=(1:Nat)∧
 List.length (growC (Int.toNat c) (List.take (Int.toNat a_3) (textsC (Int.toNat c) (Int.toNat a))) ++ addD (List.getD (textsC (Int.toNat c) (Int.toNat a)) (Int.toNat a_3) []) (Int.toNat a_6))=List.length (growC (Int.toNat c) (List.take (Int.toNat (IntKind.wrap .i64 (a_3 + (1:Int)))) (textsC (Int.toNat c) (Int.toNat a)))))∧
 (True∧n=n)∧(True∧a=a)∧((0:Nat)=(0:Nat)∧List.length (textsC (Int.toNat c) (Int.toNat a))=List.length (textsC (Int.toNat c) (Int.toNat a)))∧(True∧
 (↑(List.length (textsC (Int.toNat c) (Int.toNat a))):Int)=(↑(List.length (textsC (Int.toNat c) (Int.toNat a))):Int))∧(True∧IntKind.wrap .i64 (a_3 + (1:Int))=IntKind.wrap .i64 (a_3 + (1:Int)))∧True)∧((True∧
 textsC (Int.toNat c) (Int.toNat a)=textsC (Int.toNat c) (Int.toNat a))∧(True∧
 growC (Int.toNat c) (List.take (Int.toNat a_3) (textsC (Int.toNat c) (Int.toNat a))) ++ addD (List.getD (textsC (Int.toNat c) (Int.toNat a)) (Int.toNat a_3) []) (Int.toNat a_6)=growC (Int.toNat c) (List.take (Int.toNat (IntKind.wrap .i64 (a_3 + (1:Int)))) (textsC (Int.toNat c) (Int.toNat a))))∧
 True)∧True)∧At (ac2 c n a (textsC (Int.toNat c) (Int.toNat a)) (IntKind.wrap .i64 (a_3 + (1:Int)))∧
 Int.toNat ((↑(List.length (textsC (Int.toNat c) (Int.toNat a))):Int) - IntKind.wrap .i64 (a_3 + (1:Int))) < Int.toNat ((↑(List.length (textsC (Int.toNat c) (Int.toNat a))):Int) - a_3))))∧
 (decide (a_3 < (↑(List.length (textsC (Int.toNat c) (Int.toNat a))):Int))=false→(True∧((True∧c=c)∧((0:Nat)=(0:Nat)∧
 List.length (growC (Int.toNat c) (List.take (Int.toNat a_3) (textsC (Int.toNat c) (Int.toNat a))))=List.length (textsC (Int.toNat c) (Int.toNat (IntKind.wrap .i64 (a + (1:Int))))))∧(True∧n=n)∧(True∧
 IntKind.wrap .i64 (a + (1:Int))=IntKind.wrap .i64 (a + (1:Int)))∧True)∧((True∧
 growC (Int.toNat c) (List.take (Int.toNat a_3) (textsC (Int.toNat c) (Int.toNat a)))=textsC (Int.toNat c) (Int.toNat (IntKind.wrap .i64 (a + (1:Int)))))∧True)∧True)∧At (ac1 c n (IntKind.wrap .i64 (a + (1:Int)))∧
 Int.toNat (n - IntKind.wrap .i64 (a + (1:Int))) < Int.toNat (n - a))))∧(decide (a < n)=false→
 K (V.row (0:Nat) (List.length (textsC (Int.toNat c) (Int.toNat a)))) [⟨Cells.strs (textsC (Int.toNat c) (Int.toNat a)),9,Kind.row⟩])
def VC_impl_candidatesOf (pr:List UInt8)(pw:Int)(ph:Int)(n:Nat)(a:List Int)(K:V → List Blk → Prop):Prop:=
 At (List.length a=n * (3:Nat)∧n≤(2000000:Nat))∧((!goodZ pr pw ph n a)=true→
 K (V.tup [V.raw (Value.slice none (0:Nat) (0:Nat)),V.lit false]) [⟨Cells.ints .i64 a,83,Kind.rows (3:Nat)⟩,⟨Cells.vals [V.str pr,V.int .i64 pw,V.int .i64 ph,V.row (0:Nat) n],31,Kind.box⟩])∧
 ((!goodZ pr pw ph n a)=false→At ((1:Int)≤(↑(List.length pr):Int)∧(↑(List.length pr):Int)≤(6:Int)∧(0:Int)≤IntKind.wrap .i64 (pw * ph)∧IntKind.wrap .i64 (pw * ph)≤(9:Int)∧
 Int.toNat (↑(List.length pr):Int) ^ Int.toNat (IntKind.wrap .i64 (pw * ph))≤(300:Nat))∧(True∧(((1:Nat)=(1:Nat)∧(0:Nat)=(0:Nat))∧((3:Nat)=(3:Nat)∧(0:Nat)=(0:Nat))∧((2:Nat)=(2:Nat)∧
 List.length (textsC (Int.toNat (↑(List.length pr):Int)) (Int.toNat (IntKind.wrap .i64 (pw * ph))))=List.length (textsZ pr pw ph))∧(True∧
 (↑(List.length (textsC (Int.toNat (↑(List.length pr):Int)) (Int.toNat (IntKind.wrap .i64 (pw * ph))))):Int)=(↑(List.length (textsZ pr pw ph)):Int))∧(True∧(0:Int)=(0:Int))∧True)∧((True∧IntKind.i64=IntKind.i64∧a=a)∧(True∧
 pr=pr∧(True∧pw=pw)∧(True∧ph=ph)∧((0:Nat)=(0:Nat)∧n=n)∧True)∧(True∧textsC (Int.toNat (↑(List.length pr):Int)) (Int.toNat (IntKind.wrap .i64 (pw * ph)))=textsZ pr pw ph)∧(True∧True∧
 []=candL pr pw ph n a (List.take (Int.toNat (0:Int)) (textsZ pr pw ph)))∧True)∧True)∧At (cdInv pr pw ph n a (0:Int))∧∀(a_2:Int),cdInv pr pw ph n a a_2→(decide (a_2 < (↑(List.length (textsZ pr pw ph)):Int))=true→
 At ((0:Int)≤a_2∧a_2 < (↑(List.length (textsZ pr pw ph)):Int))∧At (Int.toNat a_2 < List.length (textsZ pr pw ph))∧(True∧(((1:Nat)=(1:Nat)∧(0:Nat)=(0:Nat))∧((3:Nat)=(3:Nat)∧Int.toNat a_2=Int.toNat a_2)∧
 List.getD (textsZ pr pw ph) (Int.toNat a_2) []=List.getD (textsZ pr pw ph) (Int.toNat a_2) []∧((4:Nat)=(4:Nat)∧(0:Nat)=(0:Nat))∧((5:Nat)=(5:Nat)∧(0:Nat)=(0:Nat))∧((2:Nat)=(2:Nat)∧
 List.length (textsZ pr pw ph)=List.length (textsZ pr pw ph))∧(True∧(↑(List.length (textsZ pr pw ph)):Int)=(↑(List.length (textsZ pr pw ph)):Int))∧(True∧a_2=a_2)∧((0:Nat)=(0:Nat)∧n=n)∧(True∧(↑n:Int)=(↑n:Int))∧(True∧
 (0:Int)=(0:Int))∧True)∧((True∧IntKind.i64=IntKind.i64∧a=a)∧(True∧pr=pr∧(True∧pw=pw)∧(True∧ph=ph)∧((0:Nat)=(0:Nat)∧n=n)∧True)∧(True∧textsZ pr pw ph=textsZ pr pw ph)∧(True∧True∧
 candL pr pw ph n a (List.take (Int.toNat a_2) (textsZ pr pw ph))=candL pr pw ph n a (List.take (Int.toNat a_2) (textsZ pr pw ph)))∧(True∧pr=pr∧(True∧pw=pw)∧(True∧ph=ph)∧
 List.getD (textsZ pr pw ph) (Int.toNat a_2) []=List.getD (textsZ pr pw ph) (Int.toNat a_2) []∧(True∧(0:Int)=(0:Int))∧(True∧(0:Int)=(0:Int))∧(True∧(0:Int)=(0:Int))∧True)∧(True∧
 List.getD (textsZ pr pw ph) (Int.toNat a_2) []=List.getD (textsZ pr pw ph) (Int.toNat a_2) []∧(True∧(0:Int)=(↑(maskN pr pw ph a (List.getD (textsZ pr pw ph) (Int.toNat a_2) []) (Int.toNat (0:Int))):Int))∧True)∧True)∧
 True)∧At (cd2Inv pr pw ph n a a_2 (List.getD (textsZ pr pw ph) (Int.toNat a_2) []) (0:Int))∧∀(a_5:Int),cd2Inv pr pw ph n a a_2 (List.getD (textsZ pr pw ph) (Int.toNat a_2) []) a_5→(decide (a_5 < (↑n:Int))=true→
 At ((0:Int)≤a_5∧a_5 < (↑n:Int))∧At (Int.toNat a_5 * (3:Nat) + (3:Nat)≤List.length a)∧At (goodB { r := pr,w := pw,h := ph,c := List.getD (textsZ pr pw ph) (Int.toNat a_2) [],x := (0:Int),y := (0:Int),d := (0:Int) }=true∧
 clueB (List.getD a (Int.toNat a_5 * (3:Nat)) (0:Int)) (List.getD a (Int.toNat a_5 * (3:Nat) + (1:Nat)) (0:Int)) (List.getD a (Int.toNat a_5 * (3:Nat) + (1:Nat) + (1:Nat)) (0:Int)) (↑(List.length pr):Int) (pw * ph)=true)∧
 (fitB (List.getD a (Int.toNat a_5 * (3:Nat)) (0:Int)) (List.getD a (Int.toNat a_5 * (3:Nat) + (1:Nat)) (0:Int)) (List.getD a (Int.toNat a_5 * (3:Nat) + (1:Nat) + (1:Nat)) (0:Int)) { r := pr,w := pw,h := ph,c := List.getD (textsZ pr pw ph) (Int.toNat a_2) [],x := (0:Int),y := (0:Int),d := (0:Int) }=true→
 True∧At ((0:Int)≤a_5∧a_5≤(60:Int))∧At ((0:Int)≤(↑(maskN pr pw ph a (List.getD (textsZ pr pw ph) (Int.toNat a_2) []) (Int.toNat a_5)):Int)∧
 (↑(maskN pr pw ph a (List.getD (textsZ pr pw ph) (Int.toNat a_2) []) (Int.toNat a_5)):Int) < (18446744073709551616:Int)∧(0:Int)≤(↑((2:Nat) ^ Int.toNat a_5):Int)∧
 (↑((2:Nat) ^ Int.toNat a_5):Int) < (18446744073709551616:Int))∧(True∧(((1:Nat)=(1:Nat)∧(0:Nat)=(0:Nat))∧((3:Nat)=(3:Nat)∧Int.toNat a_2=Int.toNat a_2)∧
 List.getD (textsZ pr pw ph) (Int.toNat a_2) []=List.getD (textsZ pr pw ph) (Int.toNat a_2) []∧((4:Nat)=(4:Nat)∧(0:Nat)=(0:Nat))∧((5:Nat)=(5:Nat)∧(0:Nat)=(0:Nat))∧((2:Nat)=(2:Nat)∧
 List.length (textsZ pr pw ph)=List.length (textsZ pr pw ph))∧(True∧(↑(List.length (textsZ pr pw ph)):Int)=(↑(List.length (textsZ pr pw ph)):Int))∧(True∧a_2=a_2)∧((0:Nat)=(0:Nat)∧n=n)∧(True∧(↑n:Int)=(↑n:Int))∧(True∧
 IntKind.wrap .i64 (a_5 + (1:Int))=IntKind.wrap .i64 (a_5 + (1:Int)))∧True)∧((True∧IntKind.i64=IntKind.i64∧a=a)∧(True∧pr=pr∧(True∧pw=pw)∧(True∧ph=ph)∧((0:Nat)=(0:Nat)∧n=n)∧True)∧(True∧textsZ pr pw ph=textsZ pr pw ph)∧
 (True∧True∧candL pr pw ph n a (List.take (Int.toNat a_2) (textsZ pr pw ph))=candL pr pw ph n a (List.take (Int.toNat a_2) (textsZ pr pw ph)))∧(True∧pr=pr∧(True∧pw=pw)∧(True∧ph=ph)∧
 List.getD (textsZ pr pw ph) (Int.toNat a_2) []=List.getD (textsZ pr pw ph) (Int.toNat a_2) []∧(True∧(0:Int)=(0:Int))∧(True∧(0:Int)=(0:Int))∧(True∧(0:Int)=(0:Int))∧True)∧(True∧
 List.getD (textsZ pr pw ph) (Int.toNat a_2) []=List.getD (textsZ pr pw ph) (Int.toNat a_2) []∧(True∧
 (↑(Int.toNat (↑(maskN pr pw ph a (List.getD (textsZ pr pw ph) (Int.toNat a_2) []) (Int.toNat a_5)):Int) ||| Int.toNat (↑((2:Nat) ^ Int.toNat a_5):Int)):Int)=(↑(maskN pr pw ph a (List.getD (textsZ pr pw ph) (Int.toNat a_2) []) (Int.toNat (IntKind.wrap .i64 (a_5 + (1:Int))))):Int))∧
 True)∧True)∧True)∧At (cd2Inv pr pw ph n a a_2 (List.getD (textsZ pr pw ph) (Int.toNat a_2) []) (IntKind.wrap .i64 (a_5 + (1:Int)))∧Int.toNat ((↑n:Int) - IntKind.wrap .i64 (a_5 + (1:Int))) < Int.toNat ((↑n:Int) - a_5)))∧
 (fitB (List.getD a (Int.toNat a_5 * (3:Nat)) (0:Int)) (List.getD a (Int.toNat a_5 * (3:Nat) + (1:Nat)) (0:Int)) (List.getD a (Int.toNat a_5 * (3:Nat) + (1:Nat) + (1:Nat)) (0:Int)) { r := pr,w := pw,h := ph,c := List.getD (textsZ pr pw ph) (Int.toNat a_2) [],x := (0:Int),y := (0:Int),d := (0:Int) }=false→
 (True∧(((1:Nat)=(1:Nat)∧(0:Nat)=(0:Nat))∧((3:Nat)=(3:Nat)∧Int.toNat a_2=Int.toNat a_2)∧List.getD (textsZ pr pw ph) (Int.toNat a_2) []=List.getD (textsZ pr pw ph) (Int.toNat a_2) []∧((4:Nat)=(4:Nat)∧(0:Nat)=(0:Nat))∧
 ((5:Nat)=(5:Nat)∧(0:Nat)=(0:Nat))∧((2:Nat)=(2:Nat)∧List.length (textsZ pr pw ph)=List.length (textsZ pr pw ph))∧(True∧(↑(List.length (textsZ pr pw ph)):Int)=(↑(List.length (textsZ pr pw ph)):Int))∧(True∧a_2=a_2)∧
 ((0:Nat)=(0:Nat)∧n=n)∧(True∧(↑n:Int)=(↑n:Int))∧(True∧IntKind.wrap .i64 (a_5 + (1:Int))=IntKind.wrap .i64 (a_5 + (1:Int)))∧True)∧((True∧IntKind.i64=IntKind.i64∧a=a)∧(True∧pr=pr∧(True∧pw=pw)∧(True∧ph=ph)∧((0:Nat)=(0:Nat)∧
 n=n)∧True)∧(True∧textsZ pr pw ph=textsZ pr pw ph)∧(True∧True∧candL pr pw ph n a (List.take (Int.toNat a_2) (textsZ pr pw ph))=candL pr pw ph n a (List.take (Int.toNat a_2) (textsZ pr pw ph)))∧(True∧pr=pr∧(True∧pw=pw)∧
 (True∧ph=ph)∧List.getD (textsZ pr pw ph) (Int.toNat a_2) []=List.getD (textsZ pr pw ph) (Int.toNat a_2) []∧(True∧(0:Int)=(0:Int))∧(True∧(0:Int)=(0:Int))∧(True∧(0:Int)=(0:Int))∧True)∧(True∧
 List.getD (textsZ pr pw ph) (Int.toNat a_2) []=List.getD (textsZ pr pw ph) (Int.toNat a_2) []∧(True∧
 (↑(maskN pr pw ph a (List.getD (textsZ pr pw ph) (Int.toNat a_2) []) (Int.toNat a_5)):Int)=(↑(maskN pr pw ph a (List.getD (textsZ pr pw ph) (Int.toNat a_2) []) (Int.toNat (IntKind.wrap .i64 (a_5 + (1:Int))))):Int))∧
 True)∧True)∧True)∧At (cd2Inv pr pw ph n a a_2 (List.getD (textsZ pr pw ph) (Int.toNat a_2) []) (IntKind.wrap .i64 (a_5 + (1:Int)))∧Int.toNat ((↑n:Int) - IntKind.wrap .i64 (a_5 + (1:Int))) < Int.toNat ((↑n:Int) - a_5))))∧
 (decide (a_5 < (↑n:Int))=false→At ((List.length (candL pr pw ph n a (List.take (Int.toNat a_2) (textsZ pr pw ph)))=Int.toNat a_2 * (2:Nat)∧
 (1:Nat) * (2:Nat)≤List.length [(Sc.mk ((0:Int)) (List.getD (textsZ pr pw ph) (Int.toNat a_2) [])),(Sc.mk ((↑(maskN pr pw ph a (List.getD (textsZ pr pw ph) (Int.toNat a_2) []) (Int.toNat a_5)):Int)) ([]))])∧
 posM (Kind.rows (2:Nat)) (1:Nat)∧Int.toNat a_2 + (1:Nat)≤(1000000000:Nat))∧(True∧(((1:Nat)=(1:Nat)∧(0:Nat)=(0:Nat))∧((3:Nat)=(3:Nat)∧Int.toNat a_2 + (1:Nat)=Int.toNat (IntKind.wrap .i64 (a_2 + (1:Int))))∧
 ((2:Nat)=(2:Nat)∧List.length (textsZ pr pw ph)=List.length (textsZ pr pw ph))∧(True∧(↑(List.length (textsZ pr pw ph)):Int)=(↑(List.length (textsZ pr pw ph)):Int))∧(True∧
 IntKind.wrap .i64 (a_2 + (1:Int))=IntKind.wrap .i64 (a_2 + (1:Int)))∧True)∧((True∧IntKind.i64=IntKind.i64∧a=a)∧(True∧pr=pr∧(True∧pw=pw)∧(True∧ph=ph)∧((0:Nat)=(0:Nat)∧n=n)∧True)∧(True∧textsZ pr pw ph=textsZ pr pw ph)∧
 (True∧True∧
 candL pr pw ph n a (List.take (Int.toNat a_2) (textsZ pr pw ph)) ++ List.take ((1:Nat) * (2:Nat)) [(Sc.mk ((0:Int)) (List.getD (textsZ pr pw ph) (Int.toNat a_2) [])),(Sc.mk ((↑(maskN pr pw ph a (List.getD (textsZ pr pw ph) (Int.toNat a_2) []) (Int.toNat a_5)):Int)) ([]))]=candL pr pw ph n a (List.take (Int.toNat (IntKind.wrap .i64 (a_2 + (1:Int)))) (textsZ pr pw ph)))∧
 True)∧True)∧At (cdInv pr pw ph n a (IntKind.wrap .i64 (a_2 + (1:Int)))∧Int.toNat ((↑(List.length (textsZ pr pw ph)):Int) - IntKind.wrap .i64 (a_2 + (1:Int))) < Int.toNat ((↑(List.length (textsZ pr pw ph)):Int) - a_2))))∧
 (decide (a_2 < (↑(List.length (textsZ pr pw ph)):Int))=false→
 K (V.tup [V.row (3:Nat) (Int.toNat a_2),V.lit true]) [⟨Cells.ints .i64 a,83,Kind.rows (3:Nat)⟩,⟨Cells.vals [V.str pr,V.int .i64 pw,V.int .i64 ph,V.row (0:Nat) n],31,Kind.box⟩,⟨Cells.strs (textsZ pr pw ph),9,Kind.row⟩,⟨Cells.recs [Sh.str,Sh.int IntKind.u64] (candL pr pw ph n a (List.take (Int.toNat a_2) (textsZ pr pw ph))),102,Kind.rows (2:Nat)⟩]))
def VC_impl_fitAll (s:Int)(n:Nat)(l:List Sc)(K:V → List Blk → Prop):Prop:=
 (True∧((True∧s=s)∧((1:Nat)=(1:Nat)∧(0:Nat)=(0:Nat))∧((0:Nat)=(0:Nat)∧n=n)∧(True∧(↑n:Int)=(↑n:Int))∧(True∧(0:Int)=(0:Int))∧True)∧((True∧True∧l=l)∧(True∧nilS=fitL l s (Int.toNat (0:Int)))∧True)∧True)∧
 At (faInv l n s (0:Int))∧∀(a:Int),faInv l n s a→(decide (a < (↑n:Int))=true→At ((0:Int)≤a∧a < (↑n:Int))∧At (Int.toNat a * (2:Nat) + (2:Nat)≤List.length l∧Int.toNat a * (2:Nat) % (2:Nat)=(0:Nat))∧
 At ((0:Int)≤Sc.i (List.getD l (Int.toNat a * (2:Nat) + (1:Nat)) (Sc.mk ((0:Int)) ([])))∧Sc.i (List.getD l (Int.toNat a * (2:Nat) + (1:Nat)) (Sc.mk ((0:Int)) ([]))) < (18446744073709551616:Int)∧(0:Int)≤s∧
 s < (18446744073709551616:Int))∧(allIn2 (Sc.i (List.getD l (Int.toNat a * (2:Nat) + (1:Nat)) (Sc.mk ((0:Int)) ([])))) s=true→At ((List.length (fitL l s (Int.toNat a))=List.length (fitL l s (Int.toNat a)) * (1:Nat)∧
 (1:Nat) * (1:Nat)≤List.length [Sc.s (List.getD l (Int.toNat a * (2:Nat)) (Sc.mk ((0:Int)) ([])))])∧posM Kind.row (1:Nat)∧List.length (fitL l s (Int.toNat a)) + (1:Nat)≤(1000000000:Nat))∧(True∧((True∧s=s)∧
 ((1:Nat)=(1:Nat)∧List.length (fitL l s (Int.toNat a)) + (1:Nat)=List.length (fitL l s (Int.toNat (IntKind.wrap .i64 (a + (1:Int))))))∧((0:Nat)=(0:Nat)∧n=n)∧(True∧(↑n:Int)=(↑n:Int))∧(True∧
 IntKind.wrap .i64 (a + (1:Int))=IntKind.wrap .i64 (a + (1:Int)))∧True)∧((True∧True∧l=l)∧(True∧
 fitL l s (Int.toNat a) ++ List.take ((1:Nat) * (1:Nat)) [Sc.s (List.getD l (Int.toNat a * (2:Nat)) (Sc.mk ((0:Int)) ([])))]=fitL l s (Int.toNat (IntKind.wrap .i64 (a + (1:Int)))))∧True)∧True)∧
 At (faInv l n s (IntKind.wrap .i64 (a + (1:Int)))∧Int.toNat ((↑n:Int) - IntKind.wrap .i64 (a + (1:Int))) < Int.toNat ((↑n:Int) - a)))∧
 (allIn2 (Sc.i (List.getD l (Int.toNat a * (2:Nat) + (1:Nat)) (Sc.mk ((0:Int)) ([])))) s=false→(True∧((True∧s=s)∧((1:Nat)=(1:Nat)∧
 List.length (fitL l s (Int.toNat a))=List.length (fitL l s (Int.toNat (IntKind.wrap .i64 (a + (1:Int))))))∧((0:Nat)=(0:Nat)∧n=n)∧(True∧(↑n:Int)=(↑n:Int))∧(True∧
 IntKind.wrap .i64 (a + (1:Int))=IntKind.wrap .i64 (a + (1:Int)))∧True)∧((True∧True∧l=l)∧(True∧fitL l s (Int.toNat a)=fitL l s (Int.toNat (IntKind.wrap .i64 (a + (1:Int)))))∧True)∧True)∧
 At (faInv l n s (IntKind.wrap .i64 (a + (1:Int)))∧Int.toNat ((↑n:Int) - IntKind.wrap .i64 (a + (1:Int))) < Int.toNat ((↑n:Int) - a))))∧(decide (a < (↑n:Int))=false→
 K (V.row (1:Nat) (List.length (fitL l s (Int.toNat a)))) [⟨Cells.recs [Sh.str,Sh.int IntKind.u64] l,102,Kind.rows (2:Nat)⟩,⟨Cells.strs (fitL l s (Int.toNat a)),9,Kind.row⟩])
def VC_impl_countFit (s:Int)(n:Nat)(l:List Sc)(K:V → List Blk → Prop):Prop:=
 At (goodL l n∧(0:Int)≤s∧s < (18446744073709551616:Int))∧
 K (V.int .i64 (↑(List.length (fitL l s n)):Int)) [⟨Cells.recs [Sh.str,Sh.int IntKind.u64] l,102,Kind.rows (2:Nat)⟩,⟨Cells.strs (fitL l s n),9,Kind.row⟩]
def VC_impl_Solutions (pr:List UInt8)(pw:Int)(ph:Int)(n:Nat)(a:List Int)(K:V → List Blk → Prop):Prop:=
 At (List.length a=n * (3:Nat)∧n≤(2000000:Nat))∧((!goodZ pr pw ph n a)=true→
 K (V.tup [V.raw (Value.slice none (0:Nat) (0:Nat)),V.lit false]) [⟨Cells.ints .i64 a,83,Kind.rows (3:Nat)⟩,⟨Cells.vals [V.str pr,V.int .i64 pw,V.int .i64 ph,V.row (0:Nat) n],31,Kind.box⟩,⟨Cells.recs [Sh.str,Sh.int IntKind.u64] (bif goodZ pr pw ph n a then candL pr pw ph n a (textsZ pr pw ph) else []),102,Kind.rows (2:Nat)⟩])∧
 ((!goodZ pr pw ph n a)=false→At (n≤(60:Nat))∧At (goodL (bif goodZ pr pw ph n a then candL pr pw ph n a (textsZ pr pw ph) else []) (bif goodZ pr pw ph n a then List.length (textsZ pr pw ph) else (0:Nat))∧
 (0:Int)≤(↑((2:Nat) ^ n - (1:Nat)):Int)∧(↑((2:Nat) ^ n - (1:Nat)):Int) < (18446744073709551616:Int))∧
 K (V.tup [V.row (3:Nat) (List.length (fitL (bif goodZ pr pw ph n a then candL pr pw ph n a (textsZ pr pw ph) else []) (↑((2:Nat) ^ n - (1:Nat)):Int) (bif goodZ pr pw ph n a then List.length (textsZ pr pw ph) else (0:Nat)))),V.lit true]) [⟨Cells.ints .i64 a,83,Kind.rows (3:Nat)⟩,⟨Cells.vals [V.str pr,V.int .i64 pw,V.int .i64 ph,V.row (0:Nat) n],31,Kind.box⟩,⟨Cells.recs [Sh.str,Sh.int IntKind.u64] (bif goodZ pr pw ph n a then candL pr pw ph n a (textsZ pr pw ph) else []),102,Kind.rows (2:Nat)⟩,⟨Cells.strs (fitL (bif goodZ pr pw ph n a then candL pr pw ph n a (textsZ pr pw ph) else []) (↑((2:Nat) ^ n - (1:Nat)):Int) (bif goodZ pr pw ph n a then List.length (textsZ pr pw ph) else (0:Nat))),9,Kind.row⟩])
end Go.Vi

/- Puzzles: candidates and what fits: the conditions hold. -/
namespace Go.Vi
/-! ### all texts -/
theorem flat_len {α : Type} {f : Nat -> List α} {m : Nat} (h : ∀ d, (f d).length = m) : ∀ k, ((List.range k).flatMap f).length = k * m
 | 0 => by simp
 | k + 1 => by
  rw [List.range_succ, List.flatMap_append, List.length_append, flat_len h k]
  simp [h, Nat.succ_mul]
theorem texts_len (c : Nat) : ∀ n, (textsC c n).length = c ^ n
 | 0 => rfl
 | n + 1 => by
  simp only [textsC]
  rw [flat_len (m := c ^ n) (fun d => by rw [List.length_map, texts_len c n]) c, Nat.pow_succ, Nat.mul_comm]
theorem num1_dig {d c : Nat} (h : d < c) (hc : c <= 9) : ∀ b ∈ num1 (d : Int), inB ((b.toNat : Int) - 48) 0 ((c : Int) - 1) = true := by
 intro b hb
 unfold num1 at hb
 rw [List.mem_singleton] at hb
 subst hb
 rw [inB_eq]
 have : (UInt8.ofNat (48 + (d : Int)).toNat).toNat = 48 + d := by
  rw [UInt8.toNat_ofNat']
  omega
 rw [this]
 omega
theorem texts_mem {c : Nat} (hc : c <= 9) : ∀ {n : Nat} {t : List UInt8}, t ∈ textsC c n -> t.length = n /\ colsB t c = true
 | 0, t, h => by
  simp only [textsC, List.mem_singleton] at h
  subst h
  exact ⟨rfl, rfl⟩
 | n + 1, t, h => by
  simp only [textsC, List.mem_flatMap, List.mem_range, List.mem_map] at h
  obtain ⟨d, hd, u, hu, rfl⟩ := h
  obtain ⟨h1, h2⟩ := texts_mem hc hu
  refine ⟨by simp [num1, h1], ?_⟩
  unfold colsB at h2 ⊢
  rw [List.all_append, h2, Bool.and_true, List.all_eq_true]
  exact num1_dig hd hc
theorem addD_len (t : List UInt8) (k : Nat) : (addD t k).length = k := by simp [addD]
theorem addD_succ (t : List UInt8) (k : Nat) : addD t (k + 1) = addD t k ++ [t ++ num1 (k : Int)] := by simp [addD, List.range_succ]
theorem grow_take {c : Nat} {l : List (List UInt8)} {j : Nat} (h : j < l.length) : growC c (l.take (j + 1)) = growC c (l.take j) ++ addD (l.getD j []) c := by
 rw [List.take_succ_eq_append_getElem h]
 simp only [growC, List.flatMap_append, List.flatMap_cons, List.flatMap_nil, List.append_nil, List.getD_eq_getElem?_getD, List.getElem?_eq_getElem h, Option.getD_some]
theorem grow_len (c : Nat) : ∀ l : List (List UInt8), (growC c l).length = l.length * c
 | [] => by simp [growC]
 | t :: r => by
  have := grow_len c r
  simp only [growC, List.flatMap_cons, List.length_append, addD_len, List.length_cons] at this ⊢
  rw [this, Nat.succ_mul, Nat.add_comm]
theorem grow_map (c : Nat) (p : List UInt8) : ∀ l : List (List UInt8), growC c (l.map (p ++ ·)) = (growC c l).map (p ++ ·)
 | [] => rfl
 | t :: r => by
  have := grow_map c p r
  simp only [growC, List.map_cons, List.flatMap_cons, List.map_append] at this ⊢
  rw [this]
  simp [addD]
theorem grow_flat (c : Nat) (f : Nat -> List (List UInt8)) : ∀ k, growC c ((List.range k).flatMap f) = (List.range k).flatMap fun d => growC c (f d)
 | 0 => rfl
 | k + 1 => by
  have := grow_flat c f k
  simp only [growC] at this ⊢
  rw [List.range_succ, List.flatMap_append, List.flatMap_append, List.flatMap_append, this]
  simp
theorem grow_texts (c : Nat) : ∀ n, growC c (textsC c n) = textsC c (n + 1)
 | 0 => by
  simp only [textsC, growC, List.flatMap_cons, List.flatMap_nil, List.append_nil, addD, List.nil_append, List.map_cons, List.map_nil]
  induction List.range c with
  | nil => rfl
  | cons d r ih => simp [ih]
 | n + 1 => by
  conv => lhs; rw [textsC]
  rw [grow_flat]
  conv => rhs; rw [textsC]
  congr 1
  funext d
  rw [grow_map, grow_texts c n]
theorem pow_le300 {c n : Nat} (hc : 1 <= c) (h : c ^ n <= 300) {i : Nat} (hi : i <= n) : c ^ i <= 300 := Nat.le_trans (pow_mono hc hi) h
theorem posM1 : posM Kind.row 1 := by show 0 < 1; omega
theorem retG_r0 {n : Nat} {l : List (List UInt8)} {e : TypeId} : retG 0 (.row 0 n) [⟨.strs l, e, .row⟩] (.row 0 n) [⟨.strs l, e, .row⟩] := by
 unfold retG leSel leSelBy autoSel
 simp [pairsL, pairsV, idPairs, pairsIn, selOf, lookN, selMem, chkB, nodupSel, hasSel, prefSel, leSt, leL, leV, nilToL, V.nilTo, isNilS, findSel, selL, V.sel, Cells.selN, leMem, leCells, memUnder, underL, V.under]
 exact trivial
theorem vc_impl_allCells (c n : Int) (h : 1 <= c /\ c <= 6 /\ 0 <= n /\ n <= 9 /\ c.toNat ^ n.toNat <= 300) : VC_impl_allCells c n (retG 0 (.row 0 (textsC c.toNat n.toNat).length) [⟨.strs (textsC c.toNat n.toNat), 9, .row⟩]) := by
 unfold VC_impl_allCells
 obtain ⟨h1, h2, h3, h4, h5⟩ := h
 have hp : acPre c n := ⟨h1, h2, h3, h4, h5⟩
 refine ⟨by simp [textsC], ⟨hp, Int.le_refl _, h3⟩, fun i hi => ⟨fun hc => ?_, fun hc => ?_⟩⟩
 ·have hc := of_decide_eq_true hc
  obtain ⟨_, i1, i2⟩ := hi
  have hl := texts_len c.toNat i.toNat
  have hL := pow_le300 (c := c.toNat) (by omega) h5 (show i.toNat <= n.toNat by omega)
  have hmem := fun j => @texts_mem c.toNat (by omega) i.toNat ((textsC c.toNat i.toNat).getD j [])
  have hgr := grow_texts c.toNat i.toNat
  have hTT : textsC c.toNat i.toNat = textsC c.toNat i.toNat := rfl
  generalize hTe : textsC c.toNat i.toNat = T at hl hmem hgr hTT ⊢
  rw [wrap64_in (x := i + 1) (by omega)]
  refine ⟨by simp [growC], ⟨⟨hp, by omega, by omega⟩, i1, hTe.symm, Int.le_refl _, by omega⟩, fun j hj => ⟨fun hc2 => ?_, fun hc2 => ?_⟩⟩
  ·have hc2 := of_decide_eq_true hc2
   obtain ⟨_, _, hT, j1, j2⟩ := hj
   have hjl : j.toNat < T.length := by omega
   have htl := hmem j.toNat (by
    rw [List.getD_eq_getElem?_getD, List.getElem?_eq_getElem hjl]
    exact List.getElem_mem hjl)
   have hgl : (growC c.toNat (T.take j.toNat)).length = j.toNat * c.toNat := by rw [grow_len, List.length_take]; congr 1; omega
   have hm6 : j.toNat * c.toNat <= 300 * 6 := Nat.mul_le_mul (by omega) (by omega)
   have hgt := grow_take (c := c.toNat) hjl
   rw [wrap64_in (x := j + 1) (by omega), show (j + 1).toNat = j.toNat + 1 by omega]
   refine ⟨⟨j1, hc2⟩, ⟨hjl⟩, by simp [addD], ⟨⟨⟨⟨hp, by omega, by omega⟩, i1, hT, by omega, by omega⟩, j1, rfl, rfl, Int.le_refl _, by omega⟩, fun k hk => ⟨fun hc3 => ?_, fun hc3 => ?_⟩⟩⟩
   ·have hc3 := of_decide_eq_true hc3
    obtain ⟨_, _, _, _, k1, k2⟩ := hk
    have hs := addD_succ (T.getD j.toNat []) k.toNat
    rw [Int.toNat_of_nonneg k1] at hs
    rw [wrap64_in (x := k + 1) (by omega), show (k + 1).toNat = k.toNat + 1 by omega, hs]
    refine ⟨⟨k1, by omega⟩, ⟨by rw [num1_len]; omega⟩, ⟨⟨by simp, by simp⟩, posM1, by rw [List.length_append, hgl, addD_len]; omega⟩, by simp [Nat.add_assoc], ⟨⟨⟨⟨hp, by omega, by omega⟩, i1, hT, by omega, by omega⟩, j1, rfl, rfl, by omega, by omega⟩, by omega⟩⟩
   ·have hc3 := of_decide_eq_false hc3
    obtain ⟨_, _, _, _, k1, k2⟩ := hk
    rw [show k.toNat = c.toNat by omega, hgt]
    exact ⟨by simp, ⟨⟨⟨hp, by omega, by omega⟩, i1, hT, by omega, by omega⟩, by omega⟩⟩
  ·have hc2 := of_decide_eq_false hc2
   obtain ⟨_, _, hT, j1, j2⟩ := hj
   rw [List.take_of_length_le (by omega), hgr, show (i + 1).toNat = i.toNat + 1 by omega]
   exact ⟨by simp, ⟨⟨hp, by omega, by omega⟩, by omega⟩⟩
 ·have hc := of_decide_eq_false hc
  obtain ⟨_, i1, i2⟩ := hi
  rw [show i = n by omega]
  exact retG_r0
/-! ### what fits a set -/
theorem fitL_len (l : List Sc) (s : Int) : ∀ i, (fitL l s i).length <= i
 | 0 => by simp [fitL]
 | i + 1 => by
  have := fitL_len l s i
  simp only [fitL, List.length_append]
  cases allIn2 (l.getD (i * 2 + 1) ⟨0, []⟩).i s <;> simp <;> omega
theorem retG_f {l : List Sc} {sh : List Sh} {t : List (List UInt8)} {e e' : TypeId} : retG 1 (.row 1 t.length) [⟨.recs sh l, e, .rows 2⟩, ⟨.strs t, e', .row⟩] (.row 1 t.length) [⟨.recs sh l, e, .rows 2⟩, ⟨.strs t, e', .row⟩] := by
 unfold retG leSel leSelBy autoSel
 simp [pairsL, pairsV, idPairs, pairsIn, selOf, lookN, selMem, chkB, nodupSel, hasSel, prefSel, leSt, leL, leV, nilToL, V.nilTo, isNilS, findSel, selL, V.sel, Cells.selN, leMem, leCells, memUnder, underL, V.under]
 exact trivial
theorem retG_fn {k : Int} {l : List Sc} {sh : List Sh} {e : TypeId} {b : Blk} : retG 1 (.int .i64 k) [⟨.recs sh l, e, .rows 2⟩] (.int .i64 k) [⟨.recs sh l, e, .rows 2⟩, b] := by
 unfold retG leSel leSelBy autoSel
 simp [pairsL, pairsV, idPairs, pairsIn, selOf, lookN, selMem, chkB, nodupSel, hasSel, prefSel, leSt, leL, leV, nilToL, V.nilTo, findSel, selL, V.sel, Cells.selN, leMem, leCells, memUnder, underL, V.under]
theorem vc_impl_fitAll (s : Int) (n : Nat) (l : List Sc) (h : goodL l n /\ 0 <= s /\ s < 18446744073709551616) : VC_impl_fitAll s n l (retG 1 (.row 1 (fitL l s n).length) [⟨.recs [.str, .int .u64] l, 102, .rows 2⟩, ⟨.strs (fitL l s n), 9, .row⟩]) := by
 unfold VC_impl_fitAll
 obtain ⟨⟨g1, g2, g3⟩, s1, s2⟩ := h
 refine ⟨by simp [fitL], ⟨⟨g1, g2, g3⟩, s1, s2, Int.le_refl _, by omega⟩, fun i hi => ⟨fun hc => ?_, fun hc => ?_⟩⟩
 ·have hc := of_decide_eq_true hc
  obtain ⟨_, _, _, i1, i2⟩ := hi
  have hv := g3 i.toNat (by omega)
  have hL := fitL_len l s i.toNat
  rw [wrap64_in (x := i + 1) (by omega), show (i + 1).toNat = i.toNat + 1 by omega]
  refine ⟨⟨i1, hc⟩, ⟨by omega, by omega⟩, ⟨hv.1, hv.2, s1, s2⟩, fun hb => ?_, fun hb => ?_⟩
  ·exact ⟨⟨⟨by simp, by simp⟩, posM1, by omega⟩, by simp only [fitL, hb]; simp, ⟨⟨⟨g1, g2, g3⟩, s1, s2, by omega, by omega⟩, by omega⟩⟩
  ·exact ⟨by simp only [fitL, hb]; simp, ⟨⟨⟨g1, g2, g3⟩, s1, s2, by omega, by omega⟩, by omega⟩⟩
 ·have hc := of_decide_eq_false hc
  obtain ⟨_, _, _, i1, i2⟩ := hi
  rw [show i.toNat = n by omega]
  exact retG_f
theorem vc_impl_countFit (s : Int) (n : Nat) (l : List Sc) (h : goodL l n /\ 0 <= s /\ s < 18446744073709551616) : VC_impl_countFit s n l (retG 1 (.int .i64 (fitL l s n).length) [⟨.recs [.str, .int .u64] l, 102, .rows 2⟩]) := by
 unfold VC_impl_countFit
 exact ⟨⟨h⟩, retG_fn⟩
/-! ### candidates -/
theorem maskN_lt (r : List UInt8) (w h : Int) (a : List Int) (t : List UInt8) : ∀ i, maskN r w h a t i < 2 ^ i
 | 0 => by simp [maskN]
 | i + 1 => by
  have := maskN_lt r w h a t i
  have h2 := Nat.two_pow_add_eq_or_of_lt this 1
  have h3 : 2 ^ (i + 1) = 2 * 2 ^ i := by rw [Nat.pow_succ, Nat.mul_comm]
  simp only [maskN]
  cases fitAt r w h a t i
  ·simp only [cond_false]; omega
  ·simp only [cond_true]
   rw [Nat.or_comm]
   rw [Nat.mul_one] at h2
   omega
theorem maskN_full (r : List UInt8) (w h : Int) (a : List Int) (t : List UInt8) : ∀ i, maskN r w h a t i = 2 ^ i - 1 ↔ fitsN r w h a t i = true
 | 0 => by simp [maskN, fitsN]
 | i + 1 => by
  have hl := maskN_lt r w h a t i
  have ih := maskN_full r w h a t i
  have h2 := Nat.two_pow_add_eq_or_of_lt hl 1
  have h3 : 2 ^ (i + 1) = 2 * 2 ^ i := by rw [Nat.pow_succ, Nat.mul_comm]
  rw [Nat.mul_one] at h2
  simp only [maskN, fitsN, Bool.and_eq_true]
  rw [<- ih]
  cases fitAt r w h a t i
  ·simp only [cond_false, Bool.false_eq_true, and_false, iff_false]; omega
  ·simp only [cond_true, and_true]
   rw [Nat.or_comm]
   omega
theorem allIn2_mask {r : List UInt8} {w h : Int} {a : List Int} {t : List UInt8} {n : Nat} : allIn2 ((maskN r w h a t n : Nat) : Int) ((2 ^ n - 1 : Nat) : Int) = fitsN r w h a t n := by
 unfold allIn2
 have hl := maskN_lt r w h a t n
 have hf := maskN_full r w h a t n
 rw [Int.toNat_natCast, Int.toNat_natCast, Nat.and_two_pow_sub_one_eq_mod, Nat.mod_eq_of_lt hl]
 cases hh : fitsN r w h a t n
 ·rw [hh] at hf
  simp only [Bool.false_eq_true, iff_false] at hf
  simp only [beq_eq_false_iff_ne, ne_eq]
  omega
 ·rw [hf.2 hh]
  simp
theorem candL_len (r : List UInt8) (w h : Int) (n : Nat) (a : List Int) : ∀ l, (candL r w h n a l).length = l.length * 2
 | [] => rfl
 | t :: l => by
  have := candL_len r w h n a l
  simp only [candL, List.length_cons, this]
  omega
theorem candL_app (r : List UInt8) (w h : Int) (n : Nat) (a : List Int) (m : List (List UInt8)) : ∀ l, candL r w h n a (l ++ m) = candL r w h n a l ++ candL r w h n a m
 | [] => rfl
 | t :: l => by
  simp only [List.cons_append, candL, candL_app r w h n a m l]
theorem candL_get {r : List UInt8} {w h : Int} {n : Nat} {a : List Int} : ∀ {l : List (List UInt8)} {i : Nat}, i < l.length ->
  (candL r w h n a l).getD (i * 2) ⟨0, []⟩ = ⟨0, l.getD i []⟩ /\ (candL r w h n a l).getD (i * 2 + 1) ⟨0, []⟩ = ⟨(maskN r w h a (l.getD i []) n : Nat), []⟩
 | [], _, hi => by simp at hi
 | t :: l, 0, _ => by simp [candL]
 | t :: l, i + 1, hi => by
  have := candL_get (r := r) (w := w) (h := h) (n := n) (a := a) (l := l) (i := i) (by simpa using hi)
  simp only [candL, show (i + 1) * 2 = i * 2 + 1 + 1 by omega, List.getD_cons_succ]
  exact this
theorem candL_good {r : List UInt8} {w h : Int} {n : Nat} {a : List Int} {l : List (List UInt8)} (hn : n <= 60) (hl : l.length <= 300) : goodL (candL r w h n a l) l.length := by
 refine ⟨candL_len .., hl, fun i hi => ?_⟩
 rw [(candL_get hi).2]
 have := maskN_lt r w h a (l.getD i []) n
 have h60 : 2 ^ n <= 2 ^ 60 := Nat.pow_le_pow_right (by omega) hn
 refine ⟨by simp only; omega, ?_⟩
 simp only
 omega
theorem fitL_cand {r : List UInt8} {w h : Int} {n : Nat} {a : List Int} {l : List (List UInt8)} : ∀ i, i <= l.length -> fitL (candL r w h n a l) ((2 ^ n - 1 : Nat) : Int) i = (l.take i).filter fun t => fitsN r w h a t n
 | 0, _ => by simp [fitL]
 | i + 1, hi => by
  have hg := candL_get (r := r) (w := w) (h := h) (n := n) (a := a) (show i < l.length by omega)
  rw [fitL, fitL_cand i (by omega), hg.1, hg.2, List.take_succ_eq_append_getElem (by omega), List.filter_append, allIn2_mask]
  congr 1
  simp only [List.getD_eq_getElem?_getD, List.getElem?_eq_getElem (show i < l.length by omega), Option.getD_some, List.filter_cons, List.filter_nil]
  cases fitsN r w h a l[i] n <;> simp
theorem retG_cand0 {a : List Int} {e e' : TypeId} {sh : List Sh} {b1 : Blk} : retG 1 (.tup [.row 1 0, .bool false]) [⟨.ints .i64 a, e, .rows 3⟩, ⟨.recs sh [], e', .rows 2⟩] (.tup [.raw (.slice none 0 0), .lit false]) [⟨.ints .i64 a, e, .rows 3⟩, b1] := by
 unfold retG leSel leSelBy autoSel
 simp [pairsL, pairsV, idPairs, pairsIn, selOf, lookN, selMem, chkB, nodupSel, hasSel, prefSel, leSt, leL, leV, nilToL, V.nilTo, isNilS, isGhost, findSel, selL, V.sel, Cells.selN, Cells.none0, Kind.isRow, leMem, leCells, memUnder, underL, V.under]
 exact trivial
theorem retG_cand {a : List Int} {l : List Sc} {n : Nat} {e e' : TypeId} {sh : List Sh} {b1 b2 : Blk} : retG 1 (.tup [.row 1 n, .bool true]) [⟨.ints .i64 a, e, .rows 3⟩, ⟨.recs sh l, e', .rows 2⟩] (.tup [.row 3 n, .lit true]) [⟨.ints .i64 a, e, .rows 3⟩, b1, b2, ⟨.recs sh l, e', .rows 2⟩] := by
 unfold retG leSel leSelBy autoSel
 simp [pairsL, pairsV, idPairs, pairsIn, selOf, lookN, selMem, chkB, nodupSel, hasSel, prefSel, leSt, leL, leV, nilToL, V.nilTo, isNilS, isGhost, findSel, selL, V.sel, Cells.selN, leMem, leCells, memUnder, underL, V.under]
 exact trivial
theorem retG_sol0 {a : List Int} {e e' : TypeId} {b1 b2 : Blk} : retG 1 (.tup [.row 1 0, .bool false]) [⟨.ints .i64 a, e, .rows 3⟩, ⟨.strs [], e', .row⟩] (.tup [.raw (.slice none 0 0), .lit false]) [⟨.ints .i64 a, e, .rows 3⟩, b1, b2] := by
 unfold retG leSel leSelBy autoSel
 simp [pairsL, pairsV, idPairs, pairsIn, selOf, lookN, selMem, chkB, nodupSel, hasSel, prefSel, leSt, leL, leV, nilToL, V.nilTo, isNilS, isGhost, findSel, selL, V.sel, Cells.selN, Cells.none0, Kind.isRow, leMem, leCells, memUnder, underL, V.under]
 exact trivial
theorem retG_sol {a : List Int} {l : List (List UInt8)} {n : Nat} {e e' : TypeId} {b1 b2 : Blk} : retG 1 (.tup [.row 1 n, .bool true]) [⟨.ints .i64 a, e, .rows 3⟩, ⟨.strs l, e', .row⟩] (.tup [.row 3 n, .lit true]) [⟨.ints .i64 a, e, .rows 3⟩, b1, b2, ⟨.strs l, e', .row⟩] := by
 unfold retG leSel leSelBy autoSel
 simp [pairsL, pairsV, idPairs, pairsIn, selOf, lookN, selMem, chkB, nodupSel, hasSel, prefSel, leSt, leL, leV, nilToL, V.nilTo, isNilS, isGhost, findSel, selL, V.sel, Cells.selN, leMem, leCells, memUnder, underL, V.under]
 exact trivial
theorem allC_at {a : List Int} {c k : Int} : ∀ {n i : Nat}, allC a c k n = true -> i < n -> cluAt a i c k = true
 | n + 1, i, h, hi => by
  simp only [allC, Bool.and_eq_true] at h
  by_cases he : i = n
  ·rw [he]; exact h.2
  ·exact allC_at h.1 (by omega)
theorem good_T {r t : List UInt8} {w h : Int} (hs : sizeB r w h = true) (ht : t ∈ textsZ r w h) : goodB (wdT r w h t) = true := by
 have hb := size_bd hs
 obtain ⟨h1, h2⟩ := texts_mem (c := r.length) (by omega) ht
 have hr : ruleB r = true := by
  simp only [sizeB, Bool.and_eq_true] at hs
  exact hs.1.1.1
 have hw : inB w 1 9 = true := by rw [inB_eq]; omega
 have hh : inB h 1 9 = true := by rw [inB_eq]; omega
 have hl : ((t.length : Int) == w * h) = true := by rw [beq_iff_eq, h1]; omega
 have hx : inB 0 0 (w - 1) = true := by rw [inB_eq]; omega
 have hy : inB 0 0 (h - 1) = true := by rw [inB_eq]; omega
 simp only [goodB, wdT, hr, hw, hh, hl, h2, hx, hy, Bool.and_true, Bool.true_and]
 rfl
theorem getD_in {l : List (List UInt8)} {i : Nat} (h : i < l.length) : l.getD i [] ∈ l := by
 rw [List.getD_eq_getElem?_getD, List.getElem?_eq_getElem h]
 exact List.getElem_mem h
theorem cand_step {r : List UInt8} {w h : Int} {n : Nat} {a : List Int} {l : List (List UInt8)} {i : Nat} (hi : i < l.length) :
  candL r w h n a (l.take (i + 1)) = candL r w h n a (l.take i) ++ [⟨0, l.getD i []⟩, ⟨(maskN r w h a (l.getD i []) n : Nat), []⟩] := by
 rw [List.take_succ_eq_append_getElem hi, candL_app]
 simp only [candL, List.getD_eq_getElem?_getD, List.getElem?_eq_getElem hi, Option.getD_some]
theorem goodZ_in {r : List UInt8} {w h : Int} {n : Nat} {a : List Int} (hg : goodZ r w h n a = true) : sizeB r w h = true /\ n <= 6 /\ allC a r.length (w * h) n = true /\ (textsZ r w h).length <= 300 := by
 simp only [goodZ, Bool.and_eq_true, decide_eq_true_eq] at hg
 refine ⟨hg.1.1, hg.1.2, hg.2, ?_⟩
 have hs := hg.1.1
 simp only [sizeB, Bool.and_eq_true, decide_eq_true_eq] at hs
 rw [textsZ, texts_len]
 exact hs.2
theorem vc_impl_candidatesOf (pr : List UInt8) (pw ph : Int) (n : Nat) (a : List Int) (h : a.length = n * 3 /\ n <= 2000000) : VC_impl_candidatesOf pr pw ph n a
  (retG 1 (.tup [.row 1 (bif goodZ pr pw ph n a then (textsZ pr pw ph).length else 0), .bool (goodZ pr pw ph n a)]) [⟨.ints .i64 a, 83, .rows 3⟩, ⟨.recs [.str, .int .u64] (bif goodZ pr pw ph n a then candL pr pw ph n a (textsZ pr pw ph) else []), 102, .rows 2⟩]) := by
 unfold VC_impl_candidatesOf
 refine ⟨⟨h⟩, fun hg => ?_, fun hg => ?_⟩
 ·rw [Bool.not_eq_true'] at hg
  rw [hg]
  exact retG_cand0
 ·rw [Bool.not_eq_false'] at hg
  rw [hg]
  simp only [cond_true]
  obtain ⟨hs, hn, hall, hT⟩ := goodZ_in hg
  have hb := size_bd hs
  have hp : pr.length ^ (pw * ph).toNat <= 300 := by rw [textsZ, texts_len] at hT; exact hT
  rw [wrap64_in (x := pw * ph) (by omega)]
  refine ⟨⟨by omega, by omega, by omega, by omega, by rw [Int.toNat_natCast]; exact hp⟩, by simp [textsZ, candL], ⟨hg, h.1, Int.le_refl _, by omega⟩, fun i hi => ⟨fun hc => ?_, fun hc => ?_⟩⟩
  ·have hc := of_decide_eq_true hc
   obtain ⟨_, _, i1, i2⟩ := hi
   have hil : i.toNat < (textsZ pr pw ph).length := by omega
   have hw := good_T hs (getD_in hil)
   have hst := cand_step (r := pr) (w := pw) (h := ph) (n := n) (a := a) hil
   have hcl := candL_len pr pw ph n a ((textsZ pr pw ph).take i.toNat)
   rw [List.length_take] at hcl
   rw [wrap64_in (x := i + 1) (by omega), show (i + 1).toNat = i.toNat + 1 by omega]
   refine ⟨⟨i1, hc⟩, ⟨hil⟩, by simp [maskN], ⟨⟨hg, h.1, by omega, by omega⟩, i1, rfl, Int.le_refl _, by omega⟩, fun k hk => ⟨fun hc2 => ?_, fun hc2 => ?_⟩⟩
   ·have hc2 := of_decide_eq_true hc2
    obtain ⟨_, _, _, k1, k2⟩ := hk
    have hlt := maskN_lt pr pw ph a ((textsZ pr pw ph).getD i.toNat []) k.toNat
    have h60 : 2 ^ k.toNat <= 2 ^ 60 := Nat.pow_le_pow_right (by omega) (by omega)
    rw [wrap64_in (x := k + 1) (by omega), show (k + 1).toNat = k.toNat + 1 by omega]
    refine ⟨⟨k1, hc2⟩, ⟨by omega⟩, ⟨hw, allC_at hall (by omega)⟩, fun hf => ?_, fun hf => ?_⟩
    ·have hm : maskN pr pw ph a ((textsZ pr pw ph).getD i.toNat []) (k.toNat + 1) = maskN pr pw ph a ((textsZ pr pw ph).getD i.toNat []) k.toNat ||| 2 ^ k.toNat := by
      have hf' : fitAt pr pw ph a ((textsZ pr pw ph).getD i.toNat []) k.toNat = true := hf
      simp only [maskN, hf', cond_true]
     rw [hm, Int.toNat_natCast, Int.toNat_natCast]
     exact ⟨trivial, ⟨by omega, by omega⟩, ⟨by omega, by omega, by omega, by omega⟩, by simp, ⟨⟨⟨hg, h.1, by omega, by omega⟩, i1, rfl, by omega, by omega⟩, by omega⟩⟩
    ·have hm : maskN pr pw ph a ((textsZ pr pw ph).getD i.toNat []) (k.toNat + 1) = maskN pr pw ph a ((textsZ pr pw ph).getD i.toNat []) k.toNat := by
      have hf' : fitAt pr pw ph a ((textsZ pr pw ph).getD i.toNat []) k.toNat = false := hf
      simp only [maskN, hf', cond_false]
     rw [hm]
     exact ⟨by simp, ⟨⟨⟨hg, h.1, by omega, by omega⟩, i1, rfl, by omega, by omega⟩, by omega⟩⟩
   ·have hc2 := of_decide_eq_false hc2
    obtain ⟨_, _, _, k1, k2⟩ := hk
    rw [show k.toNat = n by omega, hst]
    exact ⟨⟨⟨by omega, by simp⟩, trivial, by omega⟩, by simp, ⟨⟨hg, h.1, by omega, by omega⟩, by omega⟩⟩
  ·have hc := of_decide_eq_false hc
   obtain ⟨_, _, i1, i2⟩ := hi
   rw [show i.toNat = (textsZ pr pw ph).length by omega, List.take_length]
   exact retG_cand
theorem vc_impl_Solutions (pr : List UInt8) (pw ph : Int) (n : Nat) (a : List Int) (h : a.length = n * 3 /\ n <= 2000000) : VC_impl_Solutions pr pw ph n a
  (retG 1 (.tup [.row 1 (bif goodZ pr pw ph n a then solZ pr pw ph n a else []).length, .bool (goodZ pr pw ph n a)]) [⟨.ints .i64 a, 83, .rows 3⟩, ⟨.strs (bif goodZ pr pw ph n a then solZ pr pw ph n a else []), 9, .row⟩]) := by
 unfold VC_impl_Solutions
 refine ⟨⟨h⟩, fun hg => ?_, fun hg => ?_⟩
 ·rw [Bool.not_eq_true'] at hg
  rw [hg]
  exact retG_sol0
 ·rw [Bool.not_eq_false'] at hg
  rw [hg]
  simp only [cond_true]
  obtain ⟨hs, hn, hall, hT⟩ := goodZ_in hg
  have h60 : 2 ^ n <= 2 ^ 60 := Nat.pow_le_pow_right (by omega) (by omega)
  have hgl := candL_good (r := pr) (w := pw) (h := ph) (n := n) (a := a) (l := textsZ pr pw ph) (by omega) hT
  have hfl := fitL_cand (r := pr) (w := pw) (h := ph) (n := n) (a := a) (l := textsZ pr pw ph) _ (Nat.le_refl _)
  rw [hfl, List.take_length]
  exact ⟨⟨by omega⟩, ⟨hgl, by omega, by omega⟩, retG_sol⟩
end Go.Vi
