/- The turns of a track. -/
import Derived.Test.YtbchncdchanomabDoorS0Pf
namespace Go.Vi
def turnsW : Nat → Wd → List UInt8
  | 0, _ => []
  | n + 1, w => w.r.getD (colAt w w.x w.y).toNat 0 :: turnsW n (stepW w)
def wdOf : List V → Option Wd
  | [.str r, .int _ w, .int _ h, .str c, .int _ x, .int _ y, .int _ d] => some ⟨r, w, h, c, x, y, d⟩
  | _ => none
structure Trn where
  s : Int
  v : Wd
  l : List UInt8
def trnInv (s0 : Int) (w0 : Wd) (a : Trn) : Prop := goodB a.v = true ∧ inB s0 0 3000 = true ∧ 0 ≤ a.s ∧ a.s ≤ s0 ∧ (a.l.length : Int) = s0 - a.s ∧ a.l ++ turnsW a.s.toNat a.v = turnsW s0.toNat w0
def ann_spec_TurnsAfter : Nat → St → Option Ann := fun _ st =>
  match st.mem, intAt st 1 with
  | [⟨.vals vs, e, kd⟩], some s0 =>
    (match wdOf vs with
    | some w0 => some {
        α := Trn
        find := fun st => (match intAt st 1, strAt st 6, st.mem with | some s, some l, ⟨.vals vs, _, _⟩ :: _ => (match wdOf vs with | some w => some ⟨s, w, l⟩ | none => none) | _, _, _ => none)
        head := fun a => { only st [(1, .int .i64 a.s), (2, .ptr 0 0), (6, .str a.l)] with mem := [⟨.vals (wdL a.v), e, kd⟩] }
        inv := trnInv s0 w0
        meas := fun a => a.s.toNat }
    | none => none)
  | _, _ => none
/-- Here s counts what is left. -/
def ann_impl_TurnsAfter : Nat → St → Option Ann := fun _ st =>
  match st.mem, intAt st 20 with
  | [b0, ⟨_, e1, k1⟩, ⟨.vals vs, e2, k2⟩], some s0 =>
    (match wdOf vs with
    | some w0 => some {
        α := Trn
        find := fun st => (match intAt st 21, st.get 6, st.get 7 with
          | some i, .row b _, .ptr c _ => (match st.mem[b]?, st.mem[c]? with
            | some ⟨.bytes l, _, _⟩, some ⟨.vals vs, _, _⟩ => (match wdOf vs with | some w => some ⟨i, w, l⟩ | none => none)
            | _, _ => none)
          | _, _, _ => none)
        head := fun a => { only st [(2, .ptr 0 0), (6, .row 1 a.l.length), (7, .ptr 2 0), (20, .int .i64 s0), (21, .int .i64 a.s)] with mem := [b0, ⟨.bytes a.l, e1, k1⟩, ⟨.vals (wdL a.v), e2, k2⟩] }
        inv := fun a => trnInv s0 w0 ⟨s0 - a.s, a.v, a.l⟩
        meas := fun a => (s0 - a.s).toNat
        auto := true }
    | none => none)
  | _, _ => none
end Go.Vi
