/- Fresh worms. -/
import Derived.Test.YtioppaofihbmpaaVig
import Derived.Lib.Repeat
namespace Go.Vi
structure Wo where
  w : Int
  h : Int
  r : List UInt8
  n : List UInt8
  x : Int
  y : Int
  d : Int
def inB (a b c : Int) : Bool := decide (b ≤ a) && decide (a ≤ c)
def woV (m : Wo) : V := .agg [.int .i64 m.w, .int .i64 m.h, .str m.r, .str m.n, .int .i64 m.x, .int .i64 m.y, .int .i64 m.d]
def zeroWo : Wo := ⟨0, 0, [], [], 0, 0, 0⟩
def okWo (ok : Bool) (m : Wo) : V := .tup [woV (bif ok then m else zeroWo), .bool ok]
def eqWo (a b : Wo) : Bool := a.w == b.w && a.h == b.h && a.r == b.r && a.n == b.n && a.x == b.x && a.y == b.y && a.d == b.d
def ann_spec_wmOnes : Nat → St → Option Ann := fun _ st =>
  match intAt st 0 with
  | some m => some { α := Int, find := fun st => intAt st 0, head := fun i => only st [(0, .int .i64 i), (3, .str (List.replicate (m - i).toNat 49))], inv := fun i => 0 ≤ i ∧ i ≤ m ∧ m ≤ 1000, meas := fun i => i.toNat }
  | none => none
end Go.Vi
