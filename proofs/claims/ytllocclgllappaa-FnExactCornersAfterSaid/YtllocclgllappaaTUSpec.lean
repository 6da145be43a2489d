/- Closed forms of the functions of this chapter. -/
import Derived.Test.YtllocclgllappaaTUDefs
namespace Go.Vi
set_option linter.unusedVariables false
def F_spec_IsProgram : FSpec := fun args m =>
  match args, m with
  | [.str s], [] => some ((s.length : Int) ≤ 9223372036854775807, .bool (progB s))
  | _, _ => none
def F_impl_IsProgram : FSpec := fun args m =>
  match args, m with
  | [.str s], [] => some ((s.length : Int) ≤ 9223372036854775807, .bool (progB s))
  | _, _ => none
def F_impl_quarters : FSpec := fun args m =>
  match args, m with
  | [.int .u8 b], [] => some (True, .int .i64 (qI b))
  | _, _ => none
def F_spec_woTurn : FSpec := fun args m =>
  match args, m with
  | [.int .u8 b], [] => some (True, .int .i64 (qI b))
  | _, _ => none
def F_impl_direction : FSpec := fun args m =>
  match args, m with
  | [.int .i64 w], [] => some (True, .tup [.int .i64 (dxI w), .int .i64 (dyI w)])
  | _, _ => none
def F_spec_tuQuarters : FSpec := fun args m =>
  match args, m with
  | [.str s], [] => some (progB s = true, .int .i64 (quC (ptS s)))
  | _, _ => none
def F_spec_QuartersOf : FSpec := fun args m =>
  match args, m with
  | [.str s], [] => some ((s.length : Int) ≤ 9223372036854775807, .tup [.int .i64 (bif progB s then quC (ptS s) else 0), .bool (progB s)])
  | _, _ => none
def F_impl_QuartersOf : FSpec := fun args m =>
  match args, m with
  | [.str s], [] => some ((s.length : Int) ≤ 9223372036854775807, .tup [.int .i64 (bif progB s then quC (ptS s) else 0), .bool (progB s)])
  | _, _ => none
def F_spec_tuLength : FSpec := fun args m =>
  match args, m with
  | [.str s], [] => some (progB s = true, .int .i64 (lenC (ptS s)))
  | _, _ => none
def F_impl_stepsOf : FSpec := fun args m =>
  match args, m with
  | [.row 0 n], [⟨.recs [.int .i64, .int .u8] (c), 57, k⟩] => some (c.length = n * 2 ∧ n ≤ 900 ∧ okC c, .int .i64 (lenC c))
  | _, _ => none
def F_spec_tuAsked : FSpec := fun args m =>
  match args, m with
  | [.str s, .int .i64 k], [] => some ((s.length : Int) ≤ 9223372036854775807, .bool (askB s k))
  | _, _ => none
def F_bits_Mul64 : FSpec := fun args m =>
  match args, m with
  | [.int .u64 x, .int .u64 y], [] => some (0 ≤ x ∧ x ≤ 100 ∧ 0 ≤ y ∧ y ≤ 100, .tup [.int .u64 0, .int .u64 (x * y)])
  | _, _ => none
def F_bits_Mul : FSpec := fun args m =>
  match args, m with
  | [.int .u64 x, .int .u64 y], [] => some (0 ≤ x ∧ x ≤ 100 ∧ 0 ≤ y ∧ y ≤ 100, .tup [.int .u64 0, .int .u64 (x * y)])
  | _, _ => none
def F_impl_part : GSpec := fun args m =>
  match args, m with
  | [.row 0 n, .int .i64 k], [⟨.recs [.int .i64, .int .u8] (c), 57, .rows 2⟩] => some (c.length = n * 2 ∧ 1 ≤ n ∧ n ≤ 9 ∧ 0 ≤ k ∧ k ≤ 100, .row 1 (n * k.toNat), [⟨.recs [.int .i64, .int .u8] (c), 57, .rows 2⟩, ⟨.recs [.int .i64, .int .u8] (repC k.toNat c), 57, .rows 2⟩])
  | _, _ => none
def F_impl_repeated : GSpec := fun args m =>
  match args, m with
  | [.str s, .int .i64 k], [] => some ((s.length : Int) ≤ 9223372036854775807, .tup [.row 0 (repN s k), .bool (askB s k)], [⟨.recs [.int .i64, .int .u8] (repS s k), 57, .rows 2⟩])
  | _, _ => none
def F_spec_LengthOf : FSpec := fun args m =>
  match args, m with
  | [.str s, .int .i64 k], [] => some ((s.length : Int) ≤ 9223372036854775807, .tup [.int .i64 (bif askB s k then lenC (ptS s) * k else 0), .bool (askB s k)])
  | _, _ => none
def F_impl_LengthOf : FSpec := fun args m =>
  match args, m with
  | [.str s, .int .i64 k], [] => some ((s.length : Int) ≤ 9223372036854775807, .tup [.int .i64 (bif askB s k then lenC (ptS s) * k else 0), .bool (askB s k)])
  | _, _ => none
def F_spec_tuTurtle_tuGo : GSpec := fun args m =>
  match args, m with
  | [.ptr 0 0, .int .i64 a], [⟨.vals [.int .i64 x, .int .i64 y, .int .i64 w], 45, .box⟩] => some (okT 9000 ⟨x, y, w⟩ ∧ 0 ≤ a ∧ a ≤ 9, .tup [], [⟨.vals [.int .i64 (goT a ⟨x, y, w⟩).x, .int .i64 (goT a ⟨x, y, w⟩).y, .int .i64 (goT a ⟨x, y, w⟩).w], 45, .box⟩])
  | _, _ => none
def F_spec_tuTurtle_tuPart : GSpec := fun args m =>
  match args, m with
  | [.ptr 0 0, .str s, .int .i64 i], [⟨.vals [.int .i64 x, .int .i64 y, .int .i64 w], 45, .box⟩] => some (okT 9000 ⟨x, y, w⟩ ∧ 0 ≤ i ∧ i < s.length ∧ digU (s.getD i.toNat 0) = true, .tup [], [⟨.vals [.int .i64 (goT (((s.getD i.toNat 0).toNat : Int) - 48) ⟨x, y, w⟩).x, .int .i64 (goT (((s.getD i.toNat 0).toNat : Int) - 48) ⟨x, y, w⟩).y, .int .i64 (goT (((s.getD i.toNat 0).toNat : Int) - 48) ⟨x, y, w⟩).w], 45, .box⟩])
  | _, _ => none
def F_spec_tuTurtle_tuSign : GSpec := fun args m =>
  match args, m with
  | [.ptr 0 0, .str s, .int .i64 i], [⟨.vals [.int .i64 x, .int .i64 y, .int .i64 w], 45, .box⟩] => some (okT 9000 ⟨x, y, w⟩ ∧ 0 ≤ i ∧ i + 1 < s.length ∧ s.length ≤ 100, .tup [], [⟨.vals [.int .i64 (tnT ((s.getD (i.toNat + 1) 0).toNat : Int) ⟨x, y, w⟩).x, .int .i64 (tnT ((s.getD (i.toNat + 1) 0).toNat : Int) ⟨x, y, w⟩).y, .int .i64 (tnT ((s.getD (i.toNat + 1) 0).toNat : Int) ⟨x, y, w⟩).w], 45, .box⟩])
  | _, _ => none
def F_spec_tuAfter : FSpec := fun args m =>
  match args, m with
  | [.str s, .int .i64 k], [] => some (askB s k = true, .agg [.int .i64 (aftR s k.toNat).x, .int .i64 (aftR s k.toNat).y, .int .i64 (aftR s k.toNat).w])
  | _, _ => none
def F_impl_newTurtle_1 : GSpec := fun args m =>
  match args, m with
  | [.row 0 n, .ptr 1 0], [⟨.recs [.int .i64, .int .u8] (c), 57, .rows 2⟩, ⟨.vals [.int .i64 x, .int .i64 y, .int .i64 w], 51, .box⟩] => some (c.length = n * 2 ∧ n ≤ 900 ∧ okC c ∧ okT (9 * (900 - n)) ⟨x, y, w⟩, .agg [.int .i64 (goC c ⟨x, y, w⟩).x, .int .i64 (goC c ⟨x, y, w⟩).y, .int .i64 (goC c ⟨x, y, w⟩).w], [⟨.recs [.int .i64, .int .u8] (c), 57, .rows 2⟩, ⟨.vals [.int .i64 (goC c ⟨x, y, w⟩).x, .int .i64 (goC c ⟨x, y, w⟩).y, .int .i64 (goC c ⟨x, y, w⟩).w], 51, .box⟩])
  | [.raw (.slice none 0 0), .ptr 0 0], [⟨.vals [.int .i64 x, .int .i64 y, .int .i64 w], 51, .box⟩] => some (True, .agg [.int .i64 x, .int .i64 y, .int .i64 w], [⟨.vals [.int .i64 x, .int .i64 y, .int .i64 w], 51, .box⟩])
  | [.row 0 n, .ptr 1 0], [⟨.recs [.int .i64, .int .u8] (c), 57, .arg 2⟩, ⟨.vals [.int .i64 x, .int .i64 y, .int .i64 w], 51, .box⟩] => some (c.length = n * 2 ∧ n ≤ 900 ∧ okC c ∧ okT (9 * (900 - n)) ⟨x, y, w⟩, .agg [.int .i64 (goC c ⟨x, y, w⟩).x, .int .i64 (goC c ⟨x, y, w⟩).y, .int .i64 (goC c ⟨x, y, w⟩).w], [⟨.recs [.int .i64, .int .u8] (c), 57, .arg 2⟩, ⟨.vals [.int .i64 (goC c ⟨x, y, w⟩).x, .int .i64 (goC c ⟨x, y, w⟩).y, .int .i64 (goC c ⟨x, y, w⟩).w], 51, .box⟩])
  | _, _ => none
def F_spec_PlaceAfter : FSpec := fun args m =>
  match args, m with
  | [.str s, .int .i64 k], [] => some ((s.length : Int) ≤ 9223372036854775807, .tup [.int .i64 (plcF s k).x, .int .i64 (plcF s k).y, .int .i64 (plcF s k).w, .bool (askB s k)])
  | _, _ => none
def F_impl_PlaceAfter : FSpec := fun args m =>
  match args, m with
  | [.str s, .int .i64 k], [] => some ((s.length : Int) ≤ 9223372036854775807, .tup [.int .i64 (plcF s k).x, .int .i64 (plcF s k).y, .int .i64 (plcF s k).w, .bool (askB s k)])
  | _, _ => none
def F_spec_tuCloses : FSpec := fun args m =>
  match args, m with
  | [.str s], [] => some (progB s = true, .int .i64 (clS s))
  | _, _ => none
def F_impl_haltsOf : GSpec := fun args m =>
  match args, m with
  | [.row 0 n, .int .i64 e], [⟨.recs [.int .i64, .int .u8] (c), 57, .rows 2⟩] => some (c.length = n * 2 ∧ n ≤ 900 ∧ okC c ∧ 1 ≤ e ∧ e ≤ 9 ∧ n % e.toNat = 0, .row 1 (n / e.toNat + 1), [⟨.recs [.int .i64, .int .u8] (c), 57, .rows 2⟩, ⟨.ints .i64 (hlC c e.toNat (n / e.toNat + 1)), 51, .rows 3⟩])
  | _, _ => none
def F_spec_ClosesAfter : FSpec := fun args m =>
  match args, m with
  | [.str s], [] => some ((s.length : Int) ≤ 9223372036854775807, .tup [.int .i64 (clF s), .bool (clB s)])
  | _, _ => none
def F_impl_ClosesAfter : FSpec := fun args m =>
  match args, m with
  | [.str s], [] => some ((s.length : Int) ≤ 9223372036854775807, .tup [.int .i64 (clF s), .bool (clB s)])
  | _, _ => none
end Go.Vi
