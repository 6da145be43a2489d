/- Closed forms of the functions of this chapter. -/
import Derived.Test.YtpkokghbkamelaaDoorTYDefs
namespace Go.Vi
set_option linter.unusedVariables false
def F_spec_l1Num : FSpec := fun args m =>
 match args, m with
 | [.int .i64 n], [] => some (0 <= n /\ n <= 9, .str (num1 n))
 | _, _ => none
def F_strconv_FormatInt : FSpec := fun args m =>
 match args, m with
 | [.int .i64 n, .int .i64 b], [] => some (b = 10 /\ 0 <= n /\ n <= 9, .str (num1 n))
 | _, _ => none
def F_strconv_Itoa : FSpec := fun args m =>
 match args, m with
 | [.int .i64 n], [] => some (0 <= n /\ n <= 9, .str (num1 n))
 | _, _ => none
end Go.Vi
