/- Puzzles: a clue more. -/
import Derived.Test.YtbdhilflnfllaabPAPf
namespace Go.Vi
def okA (g : Bool) (n : Nat) (r : List UInt8) (w h x y k : Int) : Bool := g && clueB x y k r.length (w * h) && decide (n < 6)
def ann_spec_AddClue : Nat → St → Option Ann := fun key st =>
  match Nat.beq key 1003, st.mem with
  | true, [⟨.ints kd a, e, k0⟩, ⟨.vals [.str r, .int i1 w, .int i2 h, .row x n], e1, k1⟩, ⟨.vals [.int j1 cx, .int j2 cy, .int j3 ck], e2, k2⟩, ⟨_, e3, k3⟩] => some {
      α := Unit
      find := fun _ => some ()
      head := fun _ => { only st [(2, .ptr 1 0), (3, .ptr 2 0), (4, .ptr 3 0), (5, .lit true)] with mem := [⟨.ints kd a, e, k0⟩, ⟨.vals [.str r, .int i1 w, .int i2 h, .row x n], e1, k1⟩, ⟨.vals [.int j1 cx, .int j2 cy, .int j3 ck], e2, k2⟩, ⟨.vals [.str r, .int .i64 w, .int .i64 h, .row 4 (n + 1)], e3, k3⟩, ⟨.ints .i64 (a ++ [cx, cy, ck]), 37, .rows 3⟩] }
      inv := fun _ => True
      meas := fun _ => 0 }
  | _, _ => none
def ann_impl_AddClue : Nat → St → Option Ann := fun key st =>
  match Nat.beq key 1004, st.mem with
  | true, [⟨.ints kd a, e, k0⟩, ⟨.vals [.str r, .int i1 w, .int i2 h, .row _ n], e1, k1⟩, ⟨.vals [.int j1 cx, .int j2 cy, .int j3 ck], e2, k2⟩, ⟨c3, e3, k3⟩] => some {
      α := Unit
      find := fun _ => some ()
      head := fun _ => { only st [(2, .ptr 1 0), (3, .ptr 2 0), (4, .ptr 3 0)] with mem := [⟨.ints kd a, e, k0⟩, ⟨.vals [.str r, .int i1 w, .int i2 h, .row 4 (n + 1)], e1, k1⟩, ⟨.vals [.int j1 cx, .int j2 cy, .int j3 ck], e2, k2⟩, ⟨c3, e3, k3⟩, ⟨.ints .i64 (a ++ [cx, cy, ck]), 37, .rows 3⟩] }
      inv := fun _ => True
      meas := fun _ => 0 }
  | _, _ => none
end Go.Vi
