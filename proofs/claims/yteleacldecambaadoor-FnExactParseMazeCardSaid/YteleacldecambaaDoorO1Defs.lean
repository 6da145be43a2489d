/- MazeText. -/
import Derived.Test.YteleacldecambaaDoorA1Pf
import Derived.Test.YteleacldecambaaDoorW1Pf
namespace Go.Vi
def textM (m : Mz) : List UInt8 := num1 m.w ++ [120] ++ num1 m.h ++ [58] ++ m.c ++ (bif m.t then [33] else [])
end Go.Vi
