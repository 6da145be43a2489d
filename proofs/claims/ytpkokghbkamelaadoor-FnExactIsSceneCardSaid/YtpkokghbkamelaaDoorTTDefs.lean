/- Tables told: how the laws mark them; L and R exchanged; tables mirrored. -/
import Derived.Test.YtpkokghbkamelaaDoorTAPf
namespace Go.Vi
set_option linter.unusedVariables false
def oth (c : UInt8) : UInt8 := bif c == 76 then 82 else bif c == 82 then 76 else c
def othR (s : List UInt8) : List UInt8 := s.map oth
def othInv (s : List UInt8) (i : Int) : Prop := 0 <= i /\ i <= s.length /\ s.length <= 1000
def ann_spec_woOther : Nat -> St -> Option Ann := fun _ st =>
 match strAt st 0 with
 | some s => some { α := Int, find := fun st => intAt st 4, head := fun i => only st [(0, .str s), (3, .str (othR (s.take i.toNat))), (4, .int .i64 i)], inv := fun i => othInv s i, meas := fun i => (s.length - i).toNat }
 | none => none
/-- What lies in the row at the loop's head: those before i are exchanged. -/
def othRow (s : List UInt8) (i : Int) : List UInt8 := othR (s.take i.toNat) ++ s.drop i.toNat
def ann_impl_exchanged : Nat -> St -> Option Ann := fun _ st =>
 match st.mem with
 | [⟨.bytes s, e, k⟩] => some { α := Int, find := fun st => intAt st 10, head := fun i => { only st [(3, .row 0 s.length), (8, .row 0 s.length), (9, .int .i64 s.length), (10, .int .i64 i)] with mem := [⟨.bytes (othRow s i), e, k⟩] }, inv := fun i => othInv s i, meas := fun i => (s.length - i).toNat }
 | _ => none
/-! ### marks -/
/-- The digits of n ahead of a text; f is more than enough. -/
def digF : Nat -> Nat -> List UInt8 -> List UInt8
 | 0, _, l => l
 | f + 1, n, l => bif decide (n = 0) then l else digF f (n / 10) (UInt8.ofNat (48 + n % 10) :: l)
def mtx (k : Int) : List UInt8 := bif decide (k <= 0) then [109, 48] else 109 :: digF k.toNat k.toNat []
def mkR (k : Int) (n : Nat) : List Row3 := (List.range n).map fun j : Nat => ⟨k + (3 * j : Nat), mtx (k + (3 * j : Nat) + 1), k + (3 * j : Nat) + 2⟩
def mtInv (k0 : Int) (q : Int × List UInt8) : Prop := 0 <= q.1 /\ q.1 + q.2.length <= 100000000 /\ digF q.1.toNat q.1.toNat q.2 = digF k0.toNat k0.toNat []
def ann_laws_markText : Nat -> St -> Option Ann := fun _ st =>
 match intAt st 0 with
 | some k0 => some {
   α := Int × List UInt8
   find := fun st => (match intAt st 0, strAt st 3 with | some k, some l => some (k, l) | _, _ => none)
   head := fun q => only st [(0, .int .i64 q.1), (3, .str q.2)]
   inv := fun q => mtInv k0 q
   meas := fun q => q.1.toNat }
 | none => none
def mkRow (l : List Row3) (k : Int) (j : Nat) : List Row3 := mkR k j ++ l.drop j
def ann_laws_markRowS : Nat -> St -> Option Ann := fun _ st =>
 match st.mem, st.get 0, intAt st 1 with
 | [⟨.recs sh c, e, kk⟩], .row x n, some k0 => some {
     α := Int
     find := fun st => intAt st 5
     head := fun j => { only st [(0, .row x n), (1, .int .i64 (k0 + 3 * j)), (5, .int .i64 j)] with mem := [⟨.recs sh (flat3 (mkRow (rows3 c) k0 j.toNat)), e, kk⟩] }
     inv := fun j => ixInv n j
     meas := fun j => ((n : Int) - j).toNat }
 | _, _, _ => none
def hdInv (l : List Row3) (k0 : Int) (n : Nat) (j : Int) : Prop := ixInv n j /\ l.take j.toNat = mkR k0 j.toNat
def ann_laws_heldRowS : Nat -> St -> Option Ann := fun _ st =>
 match st.mem, st.get 0, intAt st 1 with
 | [⟨.recs _ c, _, _⟩], .row x n, some k0 => some {
     α := Int
     find := fun st => intAt st 5
     head := fun j => only st [(0, .row x n), (1, .int .i64 (k0 + 3 * j)), (5, .int .i64 j)]
     inv := fun j => hdInv (rows3 c) k0 n j
     meas := fun j => ((n : Int) - j).toNat }
 | _, _, _ => none
/-! ### tables mirrored -/
def mr1 (r : Row3) : Row3 := ⟨r.a, othR r.t, r.b⟩
def zI (g : Bool) (x : Int) : Int := bif g then x else 0
def mrR (g : Bool) (l : List Row3) : List Row3 := bif g then l.map mr1 else []
def mrRow (l : List Row3) (j : Nat) : List Row3 := (l.take j).map mr1 ++ l.drop j
def TB : TypeId := 31
def nilBox : Blk := ⟨.vals [.int .i64 0, .int .i64 0, .raw (.slice none 0 0)], 31, .box⟩
def tabBox (s i : Int) (b n : Nat) : Blk := ⟨.vals [.int .i64 s, .int .i64 i, .row b n], 31, .box⟩
def rwBlk (l : List Row3) : Blk := ⟨.recs [.int .i64, .str, .int .i64] (flat3 l), 96, .rows 3⟩
def miInv (g : Bool) (n : Nat) (j : Int) : Prop := g = true /\ ixInv n j
def annSM : Nat -> St -> Option Ann := fun key st =>
 match st.mem, st.get 17, boxSI st.mem, key with
 | ⟨.recs sh c, e, k⟩ :: _, .row x n, some (s, i), 5 => some {
   α := Int
   find := fun st => intAt st 19
   head := fun j => { only st [(2, .ptr 1 0), (4, .ptr 2 0), (17, .row 0 n), (18, .int .i64 n), (19, .int .i64 j)] with mem := [⟨.recs sh c, e, k⟩, nilBox, tabBox s i 3 j.toNat, rwBlk ((rows3 c).take j.toNat |>.map mr1)] }
   inv := fun j => miInv (tabB s i (rows3 c)) n j
   meas := fun j => ((n : Int) - j).toNat
   auto := true }
 | _, _, _, _ => none
/-- Behind the region that draws its order: one row more. -/
def annSMj : St -> Option Ann := fun st =>
 match st.mem with
 | [b0, b1, ⟨.vals [.int q1 s, .int q2 i, .row _ m], e2, k2⟩, ⟨.recs sh d, e3, k3⟩, ⟨.vals [.int _ p, .str t, .int _ q], _, _⟩] => some {
   α := Unit
   find := fun _ => some ()
   head := fun _ => { only st ([2, 4, 17, 18, 19].map fun t => (t, st.get t)) with mem := [b0, b1, ⟨.vals [.int q1 s, .int q2 i, .row 3 (m + 1)], e2, k2⟩, ⟨.recs sh (d ++ [⟨p, []⟩, ⟨0, othR t⟩, ⟨q, []⟩]), e3, k3⟩] }
   inv := fun _ => True
   meas := fun _ => 0
   auto := true
   join := true }
 | _ => none
def ann_spec_MirrorTable : Nat -> St -> Option Ann := fun key st => match Nat.beq key 1007 with | true => annSMj st | false => annSM key st
def ann_impl_MirrorTable : Nat -> St -> Option Ann := fun key st =>
 match st.mem, st.get 14, boxSI st.mem, key with
 | ⟨.recs sh c, e, k⟩ :: gl :: _, .row x n, some (s, i), 5 => some {
   α := Int
   find := fun st => intAt st 16
   head := fun j => { only st [(2, .ptr 2 0), (4, .ptr 3 0), (14, .row 0 n), (15, .int .i64 n), (16, .int .i64 j)] with mem := [⟨.recs sh c, e, k⟩, gl, nilBox, tabBox s i 4 n, rwBlk (mrRow (rows3 c) j.toNat)] }
   inv := fun j => miInv (tabB s i (rows3 c)) n j
   meas := fun j => ((n : Int) - j).toNat
   auto := true }
 | _, _, _, _ => none
end Go.Vi
