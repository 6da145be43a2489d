/- EmptyWorld: rows of zeros. -/
import Derived.Test.YtccahaefpbkelaaL1Pf
import Derived.Lib.Repeat
namespace Go.Vi

def emptyB (r : List UInt8) (w h : Int) : Bool := ruleB r && inB w 1 9 && inB h 1 9
def ann_spec_woZeros : Nat → St → Option Ann := fun _ st =>
  match intAt st 0 with
  | some m => some { α := Int, find := fun st => intAt st 0, head := fun i => only st [(0, .int .i64 i), (3, .str (List.replicate (m - i).toNat 48))], inv := fun i => 0 ≤ i ∧ i ≤ m ∧ m ≤ 1000, meas := fun i => i.toNat }
  | none => none
end Go.Vi
