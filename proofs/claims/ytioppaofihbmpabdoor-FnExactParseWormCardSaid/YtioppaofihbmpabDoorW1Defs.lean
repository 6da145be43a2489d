/- WorldText. -/
import Derived.Test.YtioppaofihbmpabDoorL1Pf
namespace Go.Vi
def num1 (n : Int) : List UInt8 := [UInt8.ofNat (48 + n).toNat]
def textW (w : Wd) : List UInt8 := w.r ++ [58] ++ num1 w.w ++ [120] ++ num1 w.h ++ [58] ++ w.c ++ [58] ++ num1 w.x ++ [44] ++ num1 w.y ++ [44] ++ num1 w.d
end Go.Vi
