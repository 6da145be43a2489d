/- Periods, returns, steps between. -/
import Derived.Test.YtlechboepjmmhabDoorS0Pf
namespace Go.Vi
def wdOf : List V → Option Wd
  | [.str r, .int _ w, .int _ h, .str c, .int _ x, .int _ y, .int _ d] => some ⟨r, w, h, c, x, y, d⟩
  | _ => none
/-- The first number of steps from s on, of n, behind which a world is as it is looked for. -/
def untilF (p : Wd → Bool) (least : Int) : Nat → Int → Wd → Option Int
  | 0, _, _ => none
  | n + 1, s, v => bif decide (least ≤ s) && p v then some s else untilF p least n (s + 1) (stepW v)
def untilW (ok : Bool) (p : Wd → Bool) (least : Int) (w : Wd) : Option Int := bif ok then untilF p least 4001 0 w else none
def optI : Option Int → Int
  | some n => n
  | none => 0
def pPer (w v : Wd) : Bool := eqW v w
def pAnt (w v : Wd) : Bool := v.x == w.x && v.y == w.y && v.d == w.d
def pRet (w v : Wd) : Bool := v.x == w.x && v.y == w.y
/-- Looked at before the step. -/
def untInv (p : Wd → Bool) (least : Int) (w0 : Wd) (a : Int × Wd) : Prop := goodB a.2 = true ∧ 0 ≤ a.1 ∧ a.1 ≤ 4001 ∧ untilF p least (4001 - a.1).toNat a.1 a.2 = untilF p least 4001 0 w0
/-- Looked at behind the step. -/
def nowInv (p : Wd → Bool) (w0 : Wd) (a : Int × Wd) : Prop := goodB a.2 = true ∧ 1 ≤ a.1 ∧ a.1 ≤ 4001 ∧ untilF p 1 (4001 - a.1).toNat a.1 (stepW a.2) = untilF p 1 4001 0 w0
def annNow (p : Wd → Wd → Bool) (sn ss : Nat) : Nat → St → Option Ann := fun _ st =>
  match st.mem with
  | [⟨.vals ws, e0, k0⟩, ⟨_, e1, k1⟩] =>
    (match wdOf ws with
    | some w0 => some {
        α := Int × Wd
        find := fun st => (match intAt st ss, st.mem with | some s, [_, ⟨.vals vs, _, _⟩] => (match wdOf vs with | some v => some (s, v) | none => none) | _, _ => none)
        head := fun a => { only st [(1, .ptr 0 0), (sn, .ptr 1 0), (ss, .int .i64 a.1)] with mem := [⟨.vals ws, e0, k0⟩, ⟨.vals (wdL a.2), e1, k1⟩] }
        inv := nowInv (p w0) w0
        meas := fun a => (4001 - a.1).toNat }
    | none => none)
  | _ => none
def ann_spec_loPeriod := annNow pPer 3 4
def ann_spec_AntPeriod := annNow pAnt 4 5
def ann_spec_FirstReturn := annNow pRet 4 5
def ann_spec_StepsBetween : Nat → St → Option Ann := fun _ st =>
  match st.mem with
  | [⟨.vals ws, e0, k0⟩, ⟨.vals us, e1, k1⟩] =>
    (match wdOf ws, wdOf us with
    | some w0, some u => some {
        α := Int × Wd
        find := fun st => (match intAt st 6, st.mem with | some s, [⟨.vals vs, _, _⟩, _] => (match wdOf vs with | some v => some (s, v) | none => none) | _, _ => none)
        head := fun a => { only st [(2, .ptr 0 0), (3, .ptr 1 0), (6, .int .i64 a.1)] with mem := [⟨.vals (wdL a.2), e0, k0⟩, ⟨.vals us, e1, k1⟩] }
        inv := untInv (pPer u) 0 w0
        meas := fun a => (4001 - a.1).toNat }
    | _, _ => none)
  | _ => none
/-- What a function looks for. -/
def lookBy (f : FuncId) : Wd → Wd → Bool :=
  match decide (f = 47), decide (f = 48) with
  | true, _ => pAnt
  | _, true => pRet
  | _, _ => pPer
def ann_impl_stepsUntil : Nat → St → Option Ann := fun _ st =>
  match st.mem, intAt st 1, st.get 2 with
  | [⟨.vals us, e0, k0⟩, ⟨.vals ws, e1, k1⟩, ⟨_, e2, k2⟩], some least, .fn f caps =>
    (match wdOf ws, wdOf us with
    | some w0, some u => some {
        α := Int × Wd
        find := fun st => (match intAt st 9, st.mem with | some s, [_, _, ⟨.vals vs, _, _⟩] => (match wdOf vs with | some v => some (s, v) | none => none) | _, _ => none)
        head := fun a => { only st [(1, .int .i64 least), (2, .fn f caps), (3, .ptr 1 0), (8, .ptr 2 0), (9, .int .i64 a.1)] with mem := [⟨.vals us, e0, k0⟩, ⟨.vals ws, e1, k1⟩, ⟨.vals (wdL a.2), e2, k2⟩] }
        inv := untInv (lookBy f u) least w0
        meas := fun a => (4001 - a.1).toNat }
    | _, _ => none)
  | _, _, _ => none
end Go.Vi
