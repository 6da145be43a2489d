/- Sums of colours. -/
import Derived.Test.YtbdhilflnfllaabL1Pf
namespace Go.Vi
def sumC : List UInt8 → Int
  | [] => 0
  | b :: r => ((b.toNat : Int) - 48) + sumC r
def smInv (c : List UInt8) (i : Int) : Prop := 0 ≤ i ∧ i ≤ c.length ∧ c.length ≤ 1000
def ann_impl_sumOf : Nat → St → Option Ann := fun key st =>
  match Nat.beq key 3, strAt st 0 with
  | true, some c => some {
      α := Int
      find := fun st => intAt st 7
      head := fun i => only st [(0, .str c), (2, .int .i64 0), (3, .int .i64 (sumC (c.take i.toNat))), (6, .int .i64 c.length), (7, .int .i64 i)]
      inv := fun i => smInv c i
      meas := fun i => ((c.length : Int) - i).toNat }
  | _, _ => none
def scInv (c : List UInt8) (i : Int) : Prop := 0 ≤ i ∧ i ≤ c.length
def ann_spec_ColourSum : Nat → St → Option Ann := fun _ st =>
  match st.mem with
  | [⟨.vals [_, _, _, .str c, _, _, _], _, _⟩] => some {
      α := Int
      find := fun st => intAt st 5
      head := fun i => only st [(1, .ptr 0 0), (4, .int .i64 (sumC (c.take i.toNat))), (5, .int .i64 i)]
      inv := fun i => scInv c i
      meas := fun i => ((c.length : Int) - i).toNat }
  | _ => none
end Go.Vi
