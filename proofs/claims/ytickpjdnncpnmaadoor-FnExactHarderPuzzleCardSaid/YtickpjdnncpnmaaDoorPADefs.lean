/- Puzzles: sizes, clues, sets of clues, clues left out. -/
import Derived.Test.YtickpjdnncpnmaaDoorCLPf
import Derived.Test.YtickpjdnncpnmaaDoorPDDoorPf
namespace Go.Vi
def pow300 (c n : Nat) : Int := bif decide (c ^ n <= 300) then ((c ^ n : Nat) : Int) else 0
def sizeB (s : List UInt8) (w h : Int) : Bool := ruleB s && (inB w 1 9 && inB h 1 9) && decide (w * h <= 9) && decide (s.length ^ (w * h).toNat <= 300)
def cntB (s : List UInt8) (w h : Int) : Int := bif sizeB s w h then ((s.length ^ (w * h).toNat : Nat) : Int) else 0
def goodZ (r : List UInt8) (w h : Int) (n : Nat) (a : List Int) : Bool := sizeB r w h && decide (n <= 6) && allC a r.length (w * h) n
def allIn2 (s o : Int) : Bool := ((s.toNat &&& o.toNat : Nat) : Int) == o
def wout (s : Int) (k : Nat) : Int := ((s.toNat &&& (18446744073709551615 - 2 ^ k) : Nat) : Int)
def keepN (m : Int) : Nat -> Nat
 | 0 => 0
 | i + 1 => keepN m i + (bif m.toNat.testBit i then 1 else 0)
def keepL (a : List Int) (m : Int) : Nat -> List Int
 | 0 => []
 | i + 1 => keepL a m i ++ (bif m.toNat.testBit i then [a.getD (i * 3) 0, a.getD (i * 3 + 1) 0, a.getD (i * 3 + 1 + 1) 0] else [])
def wo3 (a : List Int) (k : Nat) : List Int := a.take (k * 3) ++ a.drop ((k + 1) * 3)
def powInv (s : List UInt8) (n : Int) (q : Int × Int) : Prop := 1 <= s.length /\ s.length <= 6 /\ n <= 9 /\ 0 <= q.1 /\ q.1 <= n /\ q.2 = ((s.length ^ (n - q.1).toNat : Nat) : Int) /\ q.2 <= 300
def ann_spec_pzPower : Nat -> St -> Option Ann := fun key st =>
 match Nat.beq key 2, strAt st 0, intAt st 1 with
 | true, some s, some n => some {
   α := Int × Int
   find := fun st => (match intAt st 1, intAt st 5 with | some k, some x => some (k, x) | _, _ => none)
   head := fun q => only st [(0, .str s), (1, .int .i64 q.1), (4, .int .i64 0), (5, .int .i64 q.2)]
   inv := fun q => powInv s n q
   meas := fun q => q.1.toNat }
 | _, _, _ => none
def cntInv (s : List UInt8) (m : Int) (q : Int × Int) : Prop := 1 <= s.length /\ s.length <= 6 /\ m <= 9 /\ 0 <= q.1 /\ q.1 <= m /\ q.2 = ((s.length ^ q.1.toNat : Nat) : Int)
def ann_impl_CountBoards : Nat -> St -> Option Ann := fun key st =>
 match Nat.beq key 5, strAt st 0, intAt st 26 with
 | true, some s, some m => some {
   α := Int × Int
   find := fun st => (match intAt st 27, intAt st 8 with | some k, some x => some (k, x) | _, _ => none)
   head := fun q => only st [(0, .str s), (6, .int .i64 0), (7, .lit false), (8, .int .i64 q.2), (26, .int .i64 m), (27, .int .i64 q.1)]
   inv := fun q => cntInv s m q
   meas := fun q => (m - q.1).toNat }
 | _, _, _ => none
def pzOf : List V -> Option (List UInt8 × Int × Int)
 | .str r :: .int _ w :: .int _ h :: _ => some (r, w, h)
 | _ => none
def gzInv (r : List UInt8) (w h : Int) (n : Nat) (a : List Int) (i : Int) : Prop := a.length = n * 3 /\ sizeB r w h = true /\ n <= 6 /\ 0 <= i /\ i <= n /\ allC a r.length (w * h) i.toNat = true
def ann_spec_pzGood : Nat -> St -> Option Ann := fun key st =>
 match Nat.beq key 4, st.mem, st.get 20 with
 | true, [⟨.ints _ a, _, _⟩, ⟨.vals vs, _, _⟩], .row x n =>
  (match pzOf vs with
  | some (r, w, h) => some {
    α := Int
    find := fun st => intAt st 22
    head := fun i => only st [(1, .ptr 1 0), (2, .lit false), (20, .row x n), (21, .int .i64 n), (22, .int .i64 i)]
    inv := fun i => gzInv r w h n a i
    meas := fun i => ((n : Int) - i).toNat }
  | none => none)
 | _, _, _ => none
def wcInv (a : List Int) (n : Nat) (m i : Int) : Prop := a.length = n * 3 /\ n <= 60 /\ 0 <= m /\ m < 18446744073709551616 /\ 0 <= i /\ i <= n
def ann_impl_withClues : Nat -> St -> Option Ann := fun key st =>
 match Nat.beq key 3, st.mem, st.get 9, st.get 1 with
 | true, b0 :: b1 :: b2 :: _, .row x n, .int _ m =>
  (match b0 with
  | ⟨.ints _ a, _, _⟩ => some {
    α := Int
    find := fun st => intAt st 11
    head := fun i => { only st [(1, .int .u64 m), (2, .ptr 1 0), (4, .ptr 2 0), (5, .row 3 (keepN m i.toNat)), (9, .row x n), (10, .int .i64 n), (11, .int .i64 i)] with mem := [b0, b1, b2, ⟨.ints .i64 (keepL a m i.toNat), 83, .rows 3⟩] }
    inv := fun i => wcInv a n m i
    meas := fun i => ((n : Int) - i).toNat
    auto := true }
  | _ => none)
 | _, _, _, _ => none
end Go.Vi
