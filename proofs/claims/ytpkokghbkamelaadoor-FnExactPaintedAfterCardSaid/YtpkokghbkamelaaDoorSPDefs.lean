/- Cells painted. -/
import Derived.Test.YtpkokghbkamelaaDoorSGPf
namespace Go.Vi
set_option linter.unusedVariables false
def cntC (b : UInt8) : List UInt8 -> Int
 | [] => 0
 | c :: r => (bif c == b then 1 else 0) + cntC b r
/-- How many are not 0. -/
def paN (u : List UInt8) : Int := (u.length : Int) - cntC 48 u
def paInv (u : List UInt8) (p : Int × Int) : Prop := 0 <= p.2 /\ p.2 <= u.length /\ u.length <= 81 /\ p.1 = paN (u.take p.2.toNat)
def ann_spec_PaintedAfter : Nat -> St -> Option Ann := fun key st =>
 match st.mem, Nat.ble 1000 key with
 | [_, _, _, ⟨.vals [_, _, _, _, _, .str u, _, _, _, _], _, _⟩], false =>
  some { α := Int × Int, find := fun st => (match intAt st 8, intAt st 9 with | some k, some j => some (k, j) | _, _ => none), head := fun p => only st [(6, .ptr 3 0), (8, .int .i64 p.1), (9, .int .i64 p.2)], inv := paInv u, meas := fun p => (u.length - p.2).toNat }
 | _, _ => none
end Go.Vi
