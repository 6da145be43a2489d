/- Tables told: how the laws mark them; L and R exchanged; tables mirrored. -/
import Derived.Test.YtpkokghbkamelaaDoorTAPf
namespace Go.Vi
set_option linter.unusedVariables false
/-! ### marks -/
/-- The digits of n ahead of a text; f is more than enough. -/
def digF : Nat -> Nat -> List UInt8 -> List UInt8
 | 0, _, l => l
 | f + 1, n, l => bif decide (n = 0) then l else digF f (n / 10) (UInt8.ofNat (48 + n % 10) :: l)
def mtx (k : Int) : List UInt8 := bif decide (k <= 0) then [109, 48] else 109 :: digF k.toNat k.toNat []
def mkR (k : Int) (n : Nat) : List Row3 := (List.range n).map fun j : Nat => ⟨k + (3 * j : Nat), mtx (k + (3 * j : Nat) + 1), k + (3 * j : Nat) + 2⟩
def mtInv (k0 : Int) (q : Int × List UInt8) : Prop := 0 <= q.1 /\ q.1 + q.2.length <= 100000000 /\ digF q.1.toNat q.1.toNat q.2 = digF k0.toNat k0.toNat []
def ann_laws_markText : Nat -> St -> Option Ann := fun _ st =>
 match intAt st 0 with
 | some k0 => some {
   α := Int × List UInt8
   find := fun st => (match intAt st 0, strAt st 3 with | some k, some l => some (k, l) | _, _ => none)
   head := fun q => only st [(0, .int .i64 q.1), (3, .str q.2)]
   inv := fun q => mtInv k0 q
   meas := fun q => q.1.toNat }
 | none => none
def mkRow (l : List Row3) (k : Int) (j : Nat) : List Row3 := mkR k j ++ l.drop j
def ann_laws_markRowS : Nat -> St -> Option Ann := fun _ st =>
 match st.mem, st.get 0, intAt st 1 with
 | [⟨.recs sh c, e, kk⟩], .row x n, some k0 => some {
     α := Int
     find := fun st => intAt st 5
     head := fun j => { only st [(0, .row x n), (1, .int .i64 (k0 + 3 * j)), (5, .int .i64 j)] with mem := [⟨.recs sh (flat3 (mkRow (rows3 c) k0 j.toNat)), e, kk⟩] }
     inv := fun j => ixInv n j
     meas := fun j => ((n : Int) - j).toNat }
 | _, _, _ => none
def hdInv (l : List Row3) (k0 : Int) (n : Nat) (j : Int) : Prop := ixInv n j /\ l.take j.toNat = mkR k0 j.toNat
def ann_laws_heldRowS : Nat -> St -> Option Ann := fun _ st =>
 match st.mem, st.get 0, intAt st 1 with
 | [⟨.recs _ c, _, _⟩], .row x n, some k0 => some {
     α := Int
     find := fun st => intAt st 5
     head := fun j => only st [(0, .row x n), (1, .int .i64 (k0 + 3 * j)), (5, .int .i64 j)]
     inv := fun j => hdInv (rows3 c) k0 n j
     meas := fun j => ((n : Int) - j).toNat }
 | _, _, _ => none
/-! ### tables mirrored -/
def zI (g : Bool) (x : Int) : Int := bif g then x else 0
end Go.Vi
