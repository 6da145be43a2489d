/- Closed forms of the functions of this chapter. -/
import Derived.Test.YteleacldecambaaDoorK2Defs
namespace Go.Vi
set_option linter.unusedVariables false
end Go.Vi
