/- Scenes: the empty one of a table. -/
import Derived.Test.YtpkokghbkamelaaDoorTTPf
namespace Go.Vi
set_option linter.unusedVariables false
def esB (s i : Int) (l : List Row3) (w h : Int) : Bool := tabB s i l && inB w 1 9 && inB h 1 9
def esR (g : Bool) (l : List Row3) : List Row3 := bif g then l else []
def esU (g : Bool) (w h : Int) : List UInt8 := bif g then List.replicate (w * h).toNat 48 else []
end Go.Vi
