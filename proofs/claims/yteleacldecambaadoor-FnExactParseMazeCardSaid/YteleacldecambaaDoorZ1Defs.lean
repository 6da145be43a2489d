/- A maze read. -/
import Derived.Test.YteleacldecambaaDoorO1Pf
import Derived.Test.YteleacldecambaaDoorZ0Pf
namespace Go.Vi
def endM (t : List UInt8) : Bool := decide (1 ≤ t.length) && (t.getD (t.length - 1) 0 == 33)
def cutM (t : List UInt8) : List UInt8 := bif endM t then t.take (t.length - 1) else t
def parM (s : List UInt8) : Mz := ⟨(s.getD 0 0).toNat - 48, (s.getD 2 0).toNat - 48, cutM (s.drop 4), endM (s.drop 4)⟩
def okM (s : List UInt8) : Bool := decide (5 ≤ s.length) && mzB (parM s) && (textM (parM s) == s)
def okMz (s : List UInt8) : Mz := bif okM s then parM s else ⟨0, 0, [], false⟩
def ann_spec_miParse : Nat → St → Option Ann := fun key st =>
  match Nat.beq key 1007, st.get 0, st.get 4, st.get 5, st.mem with
  | true, .str s, .row a _, .row b _, b0 :: _ => (match st.mem[a]?, st.mem[b]? with
    | some ⟨.strs l1, _, _⟩, some ⟨.strs l2, _, _⟩ => some {
        α := Unit
        find := fun _ => some ()
        head := fun _ => { only st [(0, .str s), (2, .ptr 0 0), (6, .ptr 1 0)] with mem := [b0, ⟨.vals [.int .i64 (readF (l2.getD 0 [])), .int .i64 (readF (l2.getD 1 [])), .str (l1.getD 1 []), .lit false], 27, .box⟩] }
        inv := fun _ => True
        meas := fun _ => 0
        join := true }
    | _, _ => none)
  | _, _, _, _, _ => (match Nat.beq key 1012, st.get 0, st.mem with
    | true, .str s, [_, ⟨.vals [.int _ w, .int _ h, .str c, u], _, _⟩] => (match asB u with
      | some t => some {
          α := Unit
          find := fun _ => some ()
          head := fun _ => { only st [(2, .ptr 0 0), (3, .bool (mzB ⟨w, h, c, t⟩ && (textM ⟨w, h, c, t⟩ == s)))] with mem := [⟨.vals [.int .i64 w, .int .i64 h, .str c, .bool t], 27, .box⟩] }
          inv := fun _ => True
          meas := fun _ => 0
          join := true }
      | none => none)
    | _, _, _ => none)
def ann_impl_ParseMaze : Nat → St → Option Ann := fun key st =>
  match Nat.beq key 1004, st.get 0, st.get 4, st.get 5, st.mem with
  | true, .str s, .str c, .bool t, [b0] => some {
      α := Unit
      find := fun _ => some ()
      head := fun _ => { only st [(0, .str s), (2, .ptr 0 0), (6, .ptr 1 0)] with mem := [b0, ⟨.vals [.int .i64 ((s.getD 0 0).toNat - 48), .int .i64 ((s.getD 2 0).toNat - 48), .str c, .bool t], 27, .box⟩] }
      inv := fun _ => True
      meas := fun _ => 0
      join := true }
  | _, _, _, _, _ => none
end Go.Vi
