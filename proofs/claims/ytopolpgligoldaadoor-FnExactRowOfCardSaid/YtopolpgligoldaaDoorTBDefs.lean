/- Tables: a row by its state and its tint. -/
import Derived.Test.YtopolpgligoldaaDoorTAPf
namespace Go.Vi
def rofB (s i : Int) (l : List Row3) (p q : Int) : Bool := tabB s i l && inB p 0 (s - 1) && inB q 0 (i - 1)
def rofF (s i : Int) (l : List Row3) (p q : Int) : Row3 := bif rofB s i l p q then l.getD (p * i + q).toNat default else ⟨0, [], 0⟩
end Go.Vi
