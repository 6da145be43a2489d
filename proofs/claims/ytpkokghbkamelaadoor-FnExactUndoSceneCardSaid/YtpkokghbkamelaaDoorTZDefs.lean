/- Scenes: the empty one of a table. -/
import Derived.Test.YtpkokghbkamelaaDoorTTPf
namespace Go.Vi
set_option linter.unusedVariables false
def esR (g : Bool) (l : List Row3) : List Row3 := bif g then l else []
end Go.Vi
