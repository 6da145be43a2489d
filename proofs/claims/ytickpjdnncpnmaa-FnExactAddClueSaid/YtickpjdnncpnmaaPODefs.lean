/- Puzzles: a clue more, with named parts. -/
import Derived.Test.YtickpjdnncpnmaaPAPf
namespace Go.Vi
def okA (g : Bool) (n : Nat) (r : List UInt8) (w h x y k : Int) : Bool := g && clueB x y k r.length (w * h) && decide (n < 6)
def acG (r : List UInt8) (w h : Int) (n : Nat) (a : List Int) (x y k : Int) : Bool := okA (goodZ r w h n a) n r w h x y k
def acR (r : List UInt8) (w h : Int) (n : Nat) (a : List Int) (x y k : Int) : List UInt8 := bif acG r w h n a x y k then r else []
def acW (r : List UInt8) (w h : Int) (n : Nat) (a : List Int) (x y k : Int) : Int := bif acG r w h n a x y k then w else 0
def acH (r : List UInt8) (w h : Int) (n : Nat) (a : List Int) (x y k : Int) : Int := bif acG r w h n a x y k then h else 0
def acN (r : List UInt8) (w h : Int) (n : Nat) (a : List Int) (x y k : Int) : Nat := bif acG r w h n a x y k then n + 1 else 0
def acB (r : List UInt8) (w h : Int) (n : Nat) (a : List Int) (x y k : Int) : List Int := bif acG r w h n a x y k then a ++ [x, y, k] else []
def ann_spec_AddClue : Nat -> St -> Option Ann := fun key st =>
 match Nat.beq key 1003, st.mem with
 | true, [⟨.ints kd a, e, k0⟩, ⟨.vals [.str r, .int i1 w, .int i2 h, .row x n], e1, k1⟩, ⟨.vals [.int j1 cx, .int j2 cy, .int j3 ck], e2, k2⟩, ⟨_, e3, k3⟩] => some {
   α := Unit
   find := fun _ => some ()
   head := fun _ => { only st [(2, .ptr 1 0), (3, .ptr 2 0), (4, .ptr 3 0), (5, .lit true)] with mem := [⟨.ints kd a, e, k0⟩, ⟨.vals [.str r, .int i1 w, .int i2 h, .row x n], e1, k1⟩, ⟨.vals [.int j1 cx, .int j2 cy, .int j3 ck], e2, k2⟩, ⟨.vals [.str r, .int .i64 w, .int .i64 h, .row 4 (n + 1)], e3, k3⟩, ⟨.ints .i64 (a ++ [cx, cy, ck]), 34, .rows 3⟩] }
   inv := fun _ => True
   meas := fun _ => 0 }
 | _, _ => none
def ann_impl_AddClue : Nat -> St -> Option Ann := fun key st =>
 match Nat.beq key 1004, st.mem with
 | true, [⟨.ints kd a, e, k0⟩, ⟨.vals [.str r, .int i1 w, .int i2 h, .row _ n], e1, k1⟩, ⟨.vals [.int j1 cx, .int j2 cy, .int j3 ck], e2, k2⟩, ⟨c3, e3, k3⟩] => some {
   α := Unit
   find := fun _ => some ()
   head := fun _ => { only st [(2, .ptr 1 0), (3, .ptr 2 0), (4, .ptr 3 0)] with mem := [⟨.ints kd a, e, k0⟩, ⟨.vals [.str r, .int i1 w, .int i2 h, .row 4 (n + 1)], e1, k1⟩, ⟨.vals [.int j1 cx, .int j2 cy, .int j3 ck], e2, k2⟩, ⟨c3, e3, k3⟩, ⟨.ints .i64 (a ++ [cx, cy, ck]), 34, .rows 3⟩] }
   inv := fun _ => True
   meas := fun _ => 0 }
 | _, _ => none
def ann_laws_FnExactAddClue : Nat -> St -> Option Ann := fun key st =>
 match Nat.beq key 1005, Nat.beq key 1007, st.mem with
 | true, _, [⟨.ints kd a, e, k0⟩, ⟨.vals [.str r, .int i1 w, .int i2 h, .row x n], e1, k1⟩, ⟨.vals [.int j1 cx, .int j2 cy, .int j3 ck], e2, k2⟩] => some {
   α := Unit
   find := fun _ => some ()
   head := fun _ => { only st [(2, .ptr 1 0), (3, .ptr 2 0), (6, .ptr 3 0), (7, .bool (acG r w h n a cx cy ck))] with mem := [⟨.ints kd a, e, k0⟩, ⟨.vals [.str r, .int i1 w, .int i2 h, .row x n], e1, k1⟩, ⟨.vals [.int j1 cx, .int j2 cy, .int j3 ck], e2, k2⟩, ⟨.vals [.str (acR r w h n a cx cy ck), .int .i64 (acW r w h n a cx cy ck), .int .i64 (acH r w h n a cx cy ck), .row 4 (acN r w h n a cx cy ck)], 30, .box⟩, ⟨.ints .i64 (acB r w h n a cx cy ck), 34, .rows 3⟩] }
   inv := fun _ => True
   meas := fun _ => 0
   join := true
   auto := true }
 | _, true, [⟨.ints kd a, e, k0⟩, ⟨.vals [.str r, .int i1 w, .int i2 h, .row x n], e1, k1⟩, ⟨.vals [.int j1 cx, .int j2 cy, .int j3 ck], e2, k2⟩, b3, b4, b5, b6] => some {
   α := Unit
   find := fun _ => some ()
   head := fun _ => { only st [(2, .ptr 1 0), (3, .ptr 2 0), (6, .ptr 3 0), (7, .bool (acG r w h n a cx cy ck)), (8, st.get 8), (9, .ptr 7 0), (10, .bool (acG r w h n a cx cy ck))] with mem := [⟨.ints kd a, e, k0⟩, ⟨.vals [.str r, .int i1 w, .int i2 h, .row x n], e1, k1⟩, ⟨.vals [.int j1 cx, .int j2 cy, .int j3 ck], e2, k2⟩, b3, b4, b5, b6, ⟨.vals [.str (acR r w h n a cx cy ck), .int .i64 (acW r w h n a cx cy ck), .int .i64 (acH r w h n a cx cy ck), .row 8 (acN r w h n a cx cy ck)], 30, .box⟩, ⟨.ints .i64 (acB r w h n a cx cy ck), 34, .rows 3⟩] }
   inv := fun _ => True
   meas := fun _ => 0
   join := true
   auto := true }
 | _, _, _ => none
end Go.Vi
