/- Puzzles: sizes, clues, sets of clues, clues left out. -/
import Derived.Test.YtickpjdnncpnmaaDoorCLPf
import Derived.Test.YtickpjdnncpnmaaDoorPDDoorPf
namespace Go.Vi
def pow300 (c n : Nat) : Int := bif decide (c ^ n <= 300) then ((c ^ n : Nat) : Int) else 0
def sizeB (s : List UInt8) (w h : Int) : Bool := ruleB s && (inB w 1 9 && inB h 1 9) && decide (w * h <= 9) && decide (s.length ^ (w * h).toNat <= 300)
def cntB (s : List UInt8) (w h : Int) : Int := bif sizeB s w h then ((s.length ^ (w * h).toNat : Nat) : Int) else 0
def powInv (s : List UInt8) (n : Int) (q : Int × Int) : Prop := 1 <= s.length /\ s.length <= 6 /\ n <= 9 /\ 0 <= q.1 /\ q.1 <= n /\ q.2 = ((s.length ^ (n - q.1).toNat : Nat) : Int) /\ q.2 <= 300
def ann_spec_pzPower : Nat -> St -> Option Ann := fun key st =>
 match Nat.beq key 2, strAt st 0, intAt st 1 with
 | true, some s, some n => some {
   α := Int × Int
   find := fun st => (match intAt st 1, intAt st 5 with | some k, some x => some (k, x) | _, _ => none)
   head := fun q => only st [(0, .str s), (1, .int .i64 q.1), (4, .int .i64 0), (5, .int .i64 q.2)]
   inv := fun q => powInv s n q
   meas := fun q => q.1.toNat }
 | _, _, _ => none
def cntInv (s : List UInt8) (m : Int) (q : Int × Int) : Prop := 1 <= s.length /\ s.length <= 6 /\ m <= 9 /\ 0 <= q.1 /\ q.1 <= m /\ q.2 = ((s.length ^ q.1.toNat : Nat) : Int)
def ann_impl_CountBoards : Nat -> St -> Option Ann := fun key st =>
 match Nat.beq key 5, strAt st 0, intAt st 26 with
 | true, some s, some m => some {
   α := Int × Int
   find := fun st => (match intAt st 27, intAt st 8 with | some k, some x => some (k, x) | _, _ => none)
   head := fun q => only st [(0, .str s), (6, .int .i64 0), (7, .lit false), (8, .int .i64 q.2), (26, .int .i64 m), (27, .int .i64 q.1)]
   inv := fun q => cntInv s m q
   meas := fun q => (m - q.1).toNat }
 | _, _, _ => none
end Go.Vi
