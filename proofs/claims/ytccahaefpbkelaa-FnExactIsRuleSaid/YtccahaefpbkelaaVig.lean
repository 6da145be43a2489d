/- Helpers for annotations. -/
import Derived.Test.YtccahaefpbkelaaVif
namespace Go.Vi

def clearFrom (st : St) : List Nat → St
  | [] => st
  | n :: ns => clearFrom (st.set n .undef) ns
def putAll (st : St) : List (Nat × V) → St
  | [] => st
  | (n, v) :: r => putAll (st.set n v) r
/-- Slots a .. a + n - 1. -/
def rng (a : Nat) : Nat → List Nat
  | 0 => []
  | n + 1 => a :: rng (a + 1) n
def hd (st : St) (clear : List Nat) (puts : List (Nat × V)) : St := putAll (clearFrom st clear) puts
def intAt (st : St) (t : Nat) : Option Int :=
  match st.get t with
  | .int _ n => some n
  | _ => none
def strAt (st : St) (t : Nat) : Option (List UInt8) :=
  match st.get t with
  | .str s => some s
  | _ => none
/-- The end of a call that hands back a value without names. -/
def retV (R : V) : V → List Blk → Prop := fun v m => leSt 0 ⟨[v], m⟩ ⟨[R], []⟩
theorem retV_lit (b c : Bool) (m : List Blk) : retV (.bool b) (.lit c) m ↔ c = b := by simp [retV, leSt, leL, leV, leMem, chkB, underL, V.under, memUnder]
theorem retV_bool (b c : Bool) (m : List Blk) : retV (.bool b) (.bool c) m ↔ c = b := by simp [retV, leSt, leL, leV, leMem, chkB, underL, V.under, memUnder]
theorem retV_int (k k' : IntKind) (b c : Int) (m : List Blk) : retV (.int k b) (.int k' c) m ↔ k' = k ∧ c = b := by simp [retV, leSt, leL, leV, leMem, chkB, underL, V.under, memUnder]
theorem retV_str (b c : List UInt8) (m : List Blk) : retV (.str b) (.str c) m ↔ c = b := by simp [retV, leSt, leL, leV, leMem, chkB, underL, V.under, memUnder]

theorem bool_true {x : Value} {ρ : List Place} {v : V} (hr : Rep ρ v x) {m : List Blk} {b : Bool} (h : retV (.bool b) v m) : x = .bool b := by
  have hl := h.1
  simp only [leL] at hl
  have := leV_rep hl.1 hr
  simpa [Rep] using this

/-- Only these slots are known. -/
def only (st : St) (puts : List (Nat × V)) : St := putAll { st with slots := st.slots.map fun _ => .undef } puts
end Go.Vi
