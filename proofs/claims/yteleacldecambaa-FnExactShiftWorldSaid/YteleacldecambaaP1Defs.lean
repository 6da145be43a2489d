/- PaintCell. -/
import Derived.Test.YteleacldecambaaW1Pf
namespace Go.Vi
def paintB (w : Wd) (x y k : Int) : Bool := goodB w && hasB w x y && inB k 0 ((w.r.length : Int) - 1)
def paintC (w : Wd) (x y k : Int) : List UInt8 := w.c.take (cellIx w x y) ++ num1 k ++ w.c.drop (cellIx w x y + 1)
end Go.Vi
