/- Tables told as texts. -/
import Derived.Test.YtpkokghbkamelaaDoorTTPf
namespace Go.Vi
set_option linter.unusedVariables false
def num1 (n : Int) : List UInt8 := [UInt8.ofNat (48 + n).toNat]
end Go.Vi
