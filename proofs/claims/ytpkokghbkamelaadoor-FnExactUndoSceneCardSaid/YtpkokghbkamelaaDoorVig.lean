/- Helpers for annotations. -/
import Derived.Test.YtpkokghbkamelaaDoorVif
namespace Go.Vi

/-- Empty lists, named with their types. -/
abbrev nilB : List UInt8 := []
abbrev nilN : List Nat := []
def clearFrom (st : St) : List Nat -> St
 | [] => st
 | n :: ns => clearFrom (st.set n .undef) ns
def putAll (st : St) : List (Nat × V) -> St
 | [] => st
 | (n, v) :: r => putAll (st.set n v) r
def hd (st : St) (clear : List Nat) (puts : List (Nat × V)) : St := putAll (clearFrom st clear) puts
def intAt (st : St) (t : Nat) : Option Int :=
 match st.get t with
 | .int _ n => some n
 | _ => none
def strAt (st : St) (t : Nat) : Option (List UInt8) :=
 match st.get t with
 | .str s => some s
 | _ => none
theorem retP_lit (b c : Bool) : retP (.bool b) (.lit c) ↔ c = b := by simp [retP, leV, chkB, V.under]
theorem retP_bool (b c : Bool) : retP (.bool b) (.bool c) ↔ c = b := by simp [retP, leV, chkB, V.under]
theorem retP_int (k : IntKind) (b c : Int) : retP (.int k b) (.int k c) ↔ c = b := by simp [retP, leV, chkB, V.under]
theorem retP_str (b c : List UInt8) : retP (.str b) (.str c) ↔ c = b := by simp [retP, leV, chkB, V.under]
theorem bool_true {x : Value} {ρ : List Place} {v : V} (hr : Rep ρ v x) {b : Bool} (h : retP (.bool b) v) : x = .bool b := by
 have := leV_rep h.1 hr
 simpa [Rep] using this

/-- Only these slots are known. -/
def only (st : St) (puts : List (Nat × V)) : St := putAll { st with slots := st.slots.map fun _ => .undef } puts
end Go.Vi
