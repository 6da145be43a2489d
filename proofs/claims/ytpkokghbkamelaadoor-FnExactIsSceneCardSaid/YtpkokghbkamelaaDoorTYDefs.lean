/- Tables told as texts. -/
import Derived.Test.YtpkokghbkamelaaDoorTTPf
namespace Go.Vi
set_option linter.unusedVariables false
def num1 (n : Int) : List UInt8 := [UInt8.ofNat (48 + n).toNat]
def txH (s i : Int) : List UInt8 := num1 s ++ [47] ++ num1 i ++ [58]
def tx1 (r : Row3) : List UInt8 := num1 r.a ++ r.t ++ num1 r.b
def txK (s i : Int) (l : List Row3) (j : Nat) : List UInt8 := txH s i ++ (l.take j).flatMap tx1
def txT (s i : Int) (l : List Row3) : List UInt8 := txK s i l l.length
def txInv (g : Bool) (n : Nat) (j : Int) : Prop := g = true /\ ixInv n j
/-- a: the box's place, t: the text's slot; p, q, r: the row's, its length's and the place's slots. -/
def annTX (a t p q r h0 h1 hl : Nat) (bs : List Blk) (c : List Sc) (s i : Int) (n : Nat) : Nat -> St -> Option Ann := fun key st =>
 match Nat.beq key h0, Nat.beq key h1, Nat.beq key hl with
 | true, _, _ => some { α := Unit, find := fun _ => some (), head := fun _ => { only st [(1, .ptr a 0), (t, .str (txH s i))] with mem := bs }, inv := fun _ => True, meas := fun _ => 0, join := true }
 | _, true, _ => (match strAt st t, intAt st r with
  | some u, some j => some { α := Unit, find := fun _ => some (), head := fun _ => { only st [(1, .ptr a 0), (t, .str (u ++ tx1 ((rows3 c).getD j.toNat default))), (p, .row 0 n), (q, .int .i64 n), (r, .int .i64 j)] with mem := bs }, inv := fun _ => True, meas := fun _ => 0, join := true }
  | _, _ => none)
 | _, _, true => some {
   α := Int
   find := fun st => intAt st r
   head := fun j => { only st [(1, .ptr a 0), (t, .str (txK s i (rows3 c) j.toNat)), (p, .row 0 n), (q, .int .i64 n), (r, .int .i64 j)] with mem := bs }
   inv := fun j => txInv (tabB s i (rows3 c)) n j
   meas := fun j => ((n : Int) - j).toNat
   auto := true }
 | _, _, _ => none
def ann_spec_taText : Nat -> St -> Option Ann := fun key st =>
 match st.mem with
 | ⟨.recs sh c, e, k⟩ :: ⟨.vals [.int _ s, .int _ i, .row b n], eb, kb⟩ :: _ => annTX 1 3 16 17 18 1001 1005 3 [⟨.recs sh c, e, k⟩, ⟨.vals [.int .i64 s, .int .i64 i, .row b n], eb, kb⟩] c s i n key st
 | _ => none
def ann_impl_TableText : Nat -> St -> Option Ann := fun key st =>
 match st.mem with
 | ⟨.recs sh c, e, k⟩ :: gl :: ⟨.vals [.int _ s, .int _ i, .row b n], eb, kb⟩ :: _ => annTX 2 4 20 21 22 1003 1007 5 [⟨.recs sh c, e, k⟩, gl, ⟨.vals [.int .i64 s, .int .i64 i, .row b n], eb, kb⟩] c s i n key st
 | _ => none
end Go.Vi
