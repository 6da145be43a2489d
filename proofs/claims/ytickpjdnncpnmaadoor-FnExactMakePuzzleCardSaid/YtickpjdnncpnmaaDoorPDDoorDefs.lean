/- The door to which a clue comes that is none. -/
import Derived.Test.YtickpjdnncpnmaaDoorPDDefs
namespace Go.Vi
/-- admit: it returns where there is a clue, and panics with it otherwise. -/
def F_admit : PSpec := fun args =>
 match args with
 | [.agg [.int .i64 k, .int .i64 a, .int .i64 b], .int .i64 cols, .int .i64 cells] => some (0 <= cols /\ cols <= 1000 /\ 0 <= cells /\ cells <= 1000, clueB k a b cols cells = true, .tup [], .iface 83 (cluV k a b))
 | _ => none
/-- The loop: the clues before i are clues. -/
def aclInv (n : Nat) (a : List Int) (cols cells i : Int) : Prop := a.length = n * 3 /\ 0 <= cols /\ cols <= 1000 /\ 0 <= cells /\ cells <= 1000 /\ n <= 2000000 /\ 0 <= i /\ i <= n /\ allC a cols cells i.toNat = true
def ann_areClues : Nat -> St -> Option Ann := fun key st =>
 match Nat.beq key 3, st.mem, st.get 0, intAt st 1, intAt st 2 with
 | true, [⟨.ints kd a, e, kk⟩, bx], .row x n, some cols, some cells => some {
   α := Int
   find := fun st => intAt st 12
   head := fun i => { only st [(1, .int .i64 cols), (2, .int .i64 cells), (6, .ptr 1 0), (10, .row x n), (11, .int .i64 n), (12, .int .i64 i)] with mem := [⟨.ints kd a, e, kk⟩, bx] }
   inv := fun i => aclInv n a cols cells i
   meas := fun i => ((n : Int) - i).toNat }
 | _, _, _, _, _ => none
def clB (a : List Int) (e : TypeId) : Blk := ⟨.ints .i64 a, e, .rows 3⟩
def bxB (o : Bool) : Blk := ⟨.vals [.bool o], 4, .box⟩
def F_impl_areClues : FSpec := fun args m =>
 match args, m with
 | [.row 0 n, .int .i64 cols, .int .i64 cells], [⟨.ints .i64 a, _, .rows 3⟩] => some (a.length = n * 3 /\ 0 <= cols /\ cols <= 1000 /\ 0 <= cells /\ cells <= 1000 /\ n <= 2000000, .bool (allC a cols cells n))
 | _, _ => none
/-- How the body behind the door ends. -/
def doorK (a : List Int) (e : TypeId) (ok : Bool) : Exit -> St -> Prop := fun x st =>
 match x with
 | .ret => ok = true /\ leSt 2 st ⟨doorSt 21 6, [clB a e, bxB true]⟩
 | .panic ch => ok = false /\ (∃ k u v, ch = oneP (.iface 83 (cluV k u v))) /\ leSt 2 st ⟨doorSt 21 6, [clB a e, bxB false]⟩
 | _ => False
/-- How the closure ends. -/
def catchK (a : List Int) (e : TypeId) (b : Bool) : Exit -> St -> Prop := fun x st => x = .normal /\ leSt 2 st ⟨List.replicate 10 .undef, [clB a e, bxB (!b)]⟩
end Go.Vi
