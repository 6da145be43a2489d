/- Tables: rows of numbers and texts in a law; what is good. -/
import Derived.Test.YtpkokghbkamelaaDoorVig
import Derived.Test.YtpkokghbkamelaaDoorVik
namespace Go.Vi
def inB (a b c : Int) : Bool := decide (b <= a) && decide (a <= c)
def signB (c : UInt8) : Bool := c == 76 || c == 82 || c == 78 || c == 85
def ruleB (l : List UInt8) : Bool := decide (1 <= l.length) && decide (l.length <= 6) && l.all signB
def tsB (s : List UInt8) : Bool := decide (s.length = 1) && ruleB s
def szI (n : Int) (left : Int) : Int := bif decide (left - n < 0) then -1 else left - n
def szTL : List Row3 -> Int -> Int
 | [], left => left
 | r :: l, left => bif decide (szI r.t.length left < 0) then -1 else szTL l (szI r.t.length left)
def szT (l : List Row3) (left : Int) : Int := bif decide (left - l.length < 0) then -1 else szTL l (left - l.length)
def isSg (g0 g1 g2 g3 : List UInt8) : Prop := g0 = [78] /\ g1 = [82] /\ g2 = [85] /\ g3 = [76]
def qtF : List (List UInt8) -> Int -> List UInt8 -> Int
 | [], _, _ => -1
 | g :: r, i, s => bif g == s then i else qtF r (i + 1) s
def signs : List (List UInt8) := [[78], [82], [85], [76]]
def qtI (s : List UInt8) : Int := qtF signs 0 s
def rowG (s i : Int) (r : Row3) : Bool := inB r.a 0 (i - 1) && tsB r.t && inB r.b 0 (s - 1)
def tabB (s i : Int) (l : List Row3) : Bool := inB s 1 4 && inB i 1 4 && decide ((l.length : Int) = s * i) && l.all (rowG s i)
def fillR (l : List Row3) (i : Nat) : List Sc := flat3 (l.take i) ++ List.replicate ((l.length - i) * 3) ⟨0, []⟩
/-- The rows that a flat list is of. -/
def rows3 : List Sc -> List Row3
 | a :: t :: b :: l => ⟨a.i, t.s, b.i⟩ :: rows3 l
 | _ => []
def is3 (c : List Sc) (n : Nat) : Prop := c = flat3 (rows3 c) /\ (rows3 c).length = n
/-! ### loops -/
def ruleInv (s : List UInt8) (i : Int) : Prop := 0 <= i /\ i <= s.length /\ 1 <= s.length /\ s.length <= 6 /\ (s.take i.toNat).all signB = true
def ann_spec_woRule : Nat -> St -> Option Ann := fun _ st =>
 match strAt st 0 with
 | some s => some { α := Int, find := fun st => intAt st 3, head := fun i => only st [(0, .str s), (3, .int .i64 i)], inv := fun i => ruleInv s i, meas := fun i => (s.length - i).toNat }
 | none => none
def qtInv (s : List UInt8) (i : Int) : Prop := 0 <= i /\ i <= 4 /\ qtF (signs.drop i.toNat) i s = qtI s
def ann_impl_quartersOfTurn : Nat -> St -> Option Ann := fun _ st =>
 match strAt st 0, st.get 5 with
 | some s, v => some { α := Int, find := fun st => intAt st 6, head := fun i => only st [(0, .str s), (5, v), (6, .int .i64 i)], inv := fun i => qtInv s i, meas := fun i => (4 - i).toNat }
 | none, _ => none
def szInv (l : List Row3) (left0 : Int) (q : Int × Int) : Prop := 0 <= q.1 /\ q.1 <= l.length /\ 0 <= q.2 /\ q.2 <= 1048576 /\ szTL (l.drop q.1.toNat) q.2 = szTL l left0
def ann_laws_szRowS : Nat -> St -> Option Ann := fun _ st =>
 match st.mem, st.get 0, intAt st 1 with
 | [⟨.recs _ c, _, _⟩], .row x n, some left0 => some {
     α := Int × Int
     find := fun st => (match intAt st 5, intAt st 1 with | some i, some left => some (i, left) | _, _ => none)
     head := fun q => only st [(0, .row x n), (1, .int .i64 q.2), (5, .int .i64 q.1)]
     inv := fun q => szInv (rows3 c) left0 q
     meas := fun q => ((n : Int) - q.1).toNat }
 | _, _, _ => none
def ixInv (m : Nat) (i : Int) : Prop := 0 <= i /\ i <= m
def ann_laws_toRowS : Nat -> St -> Option Ann := fun _ st =>
 match st.mem, st.get 0 with
 | ⟨.recs sh c, e, k⟩ :: _, .row _ n => some {
   α := Int
   find := fun st => intAt st 4
   head := fun i => { only st [(0, .row 0 n), (3, .row 1 n), (4, .int .i64 i)] with mem := [⟨.recs sh c, e, k⟩, ⟨.recs sh3 (fillR (rows3 c) i.toNat), 96, .rows 3⟩] }
   inv := fun i => ixInv n i
   meas := fun i => ((n : Int) - i).toNat
   auto := true }
 | _, _ => none
def eqInv (a b : List Row3) (i : Int) : Prop := 0 <= i /\ i <= a.length /\ a.length = b.length /\ a.length <= 2000000 /\ a.take i.toNat = b.take i.toNat
def ann_laws_eqRowS : Nat -> St -> Option Ann := fun _ st =>
 match st.mem, st.get 0, st.get 1 with
 | [⟨.recs _ a, _, _⟩, ⟨.recs _ b, _, _⟩], .row x n, .row y m => some {
     α := Int
     find := fun st => intAt st 5
     head := fun i => only st [(0, .row x n), (1, .row y m), (5, .int .i64 i)]
     inv := fun i => eqInv (rows3 a) (rows3 b) i
     meas := fun i => ((n : Int) - i).toNat }
 | _, _, _ => none
def allInv (s i : Int) (l : List Row3) (k : Int) : Prop := 0 <= k /\ k <= l.length /\ (l.take k.toNat).all (rowG s i) = true
def boxSI : List Blk -> Option (Int × Int)
 | [] => none
 | ⟨.vals [.int _ s, .int _ i, _], _, _⟩ :: _ => some (s, i)
 | _ :: r => boxSI r
def ann_spec_taGood : Nat -> St -> Option Ann := fun _ st =>
 match st.mem, st.get 27, st.get 1, boxSI st.mem with
 | ⟨.recs _ a, _, _⟩ :: _, .row x n, v, some (s, i) => some {
   α := Int
   find := fun st => intAt st 29
   head := fun k => only st [(1, v), (27, .row x n), (28, .int .i64 n), (29, .int .i64 k)]
   inv := fun k => allInv s i (rows3 a) k
   meas := fun k => ((n : Int) - k).toNat }
 | _, _, _, _ => none
def ann_impl_IsTable : Nat -> St -> Option Ann := fun _ st =>
 match st.mem, st.get 23, st.get 1, boxSI st.mem with
 | ⟨.recs _ a, _, _⟩ :: _, .row x n, v, some (s, i) => some {
   α := Int
   find := fun st => intAt st 25
   head := fun k => only st [(1, v), (23, .row x n), (24, .int .i64 n), (25, .int .i64 k)]
   inv := fun k => allInv s i (rows3 a) k
   meas := fun k => ((n : Int) - k).toNat }
 | _, _, _, _ => none
end Go.Vi
