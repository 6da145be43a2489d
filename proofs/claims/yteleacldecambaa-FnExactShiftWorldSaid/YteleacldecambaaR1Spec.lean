/- Closed forms of the functions of this chapter. -/
import Derived.Test.YteleacldecambaaR1Defs
namespace Go.Vi
def F_spec_woOther : FSpec := fun args m =>
  match args, m with
  | [.str s], [] => some (s.length ≤ 1000, .str (othR s))
  | _, _ => none
def F_impl_exchanged : FSpec := fun args m =>
  match args, m with
  | [.str s], [] => some (s.length ≤ 1000, .str (othR s))
  | _, _ => none
def F_spec_OtherRule : FSpec := fun args m =>
  match args, m with
  | [.str s], [] => some (True, .tup [.str (bif ruleB s then othR s else []), .bool (ruleB s)])
  | _, _ => none
def F_impl_OtherRule : FSpec := fun args m =>
  match args, m with
  | [.str s], [] => some (True, .tup [.str (bif ruleB s then othR s else []), .bool (ruleB s)])
  | _, _ => none
end Go.Vi
