/- Scenes: the empty one of a table. -/
import Derived.Test.YtlnjbdaenikkiaaDoorTTPf
import Derived.Lib.Repeat
namespace Go.Vi
set_option linter.unusedVariables false
def esB (s i : Int) (l : List Row3) (w h : Int) : Bool := tabB s i l && inB w 1 9 && inB h 1 9
def esR (g : Bool) (l : List Row3) : List Row3 := bif g then l else []
def esU (g : Bool) (w h : Int) : List UInt8 := bif g then List.replicate (w * h).toNat 48 else []
def ann_spec_woZeros : Nat → St → Option Ann := fun _ st =>
  match intAt st 0 with
  | some m => some { α := Int, find := fun st => intAt st 0, head := fun i => only st [(0, .int .i64 i), (3, .str (List.replicate (m - i).toNat 48))], inv := fun i => 0 ≤ i ∧ i ≤ m ∧ m ≤ 1000, meas := fun i => i.toNat }
  | none => none
end Go.Vi
