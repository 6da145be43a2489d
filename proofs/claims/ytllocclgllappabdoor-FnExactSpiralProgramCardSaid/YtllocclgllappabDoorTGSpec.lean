/- Closed forms of the functions of this chapter. -/
import Derived.Test.YtllocclgllappabDoorTGDefs
namespace Go.Vi
set_option linter.unusedVariables false
def F_spec_l1Num : FSpec := fun args m =>
  match args, m with
  | [.int .i64 n], [] => some (0 ≤ n ∧ n ≤ 9, .str (num1 n))
  | _, _ => none
def F_strconv_small : FSpec := fun args m =>
  match args, m with
  | [.int .i64 n], [] => some (0 ≤ n ∧ n ≤ 9, .str (num1 n))
  | _, _ => none
def F_impl_programOf : FSpec := fun args m =>
  match args, m with
  | [.row 0 n], [⟨.recs [.int .i64, .int .u8] (c), 38, .rows 2⟩] => some (c.length = n * 2 ∧ n ≤ 9 ∧ okC c ∧ sgC c, .str (prS c))
  | _, _ => none
def F_impl_part : GSpec := fun args m =>
  match args, m with
  | [.row 0 n], [⟨.recs [.int .i64, .int .u8] (c), 38, .rows 2⟩] => some (c.length = n * 2 ∧ n ≤ 9 ∧ zsC c, .tup [], [⟨.recs [.int .i64, .int .u8] (revC c), 38, .rows 2⟩])
  | _, _ => none
def F_spec_BackProgram : FSpec := fun args m =>
  match args, m with
  | [.str s], [] => some ((s.length : Int) ≤ 9223372036854775807, .tup [.str (bkS s), .bool (progB s)])
  | _, _ => none
def F_impl_BackProgram : FSpec := fun args m =>
  match args, m with
  | [.str s], [] => some ((s.length : Int) ≤ 9223372036854775807, .tup [.str (bkS s), .bool (progB s)])
  | _, _ => none
def F_spec_GrowProgram : FSpec := fun args m =>
  match args, m with
  | [.str s, .int .i64 k], [] => some ((s.length : Int) ≤ 9223372036854775807, .tup [.str (gwS s k), .bool (gwB s k)])
  | _, _ => none
def F_impl_GrowProgram : FSpec := fun args m =>
  match args, m with
  | [.str s, .int .i64 k], [] => some ((s.length : Int) ≤ 9223372036854775807, .tup [.str (gwS s k), .bool (gwB s k)])
  | _, _ => none
end Go.Vi
