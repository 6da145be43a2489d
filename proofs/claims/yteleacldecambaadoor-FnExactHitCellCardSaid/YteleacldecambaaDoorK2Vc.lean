/- The conditions, reckoned out by program: texts alone. -/
import Derived.Test.YteleacldecambaaDoorK2Defs
namespace Go.Vi
set_option linter.unusedVariables false
end Go.Vi
