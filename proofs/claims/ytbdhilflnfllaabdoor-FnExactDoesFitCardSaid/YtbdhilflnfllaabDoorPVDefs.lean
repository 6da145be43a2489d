/- What clues tell of worlds. -/
import Derived.Test.YtbdhilflnfllaabDoorSWPf
import Derived.Test.YtbdhilflnfllaabDoorPAPf
namespace Go.Vi
def wdOf : List V → Option Wd
  | [.str r, .int _ w, .int _ h, .str c, .int _ x, .int _ y, .int _ d] => some ⟨r, w, h, c, x, y, d⟩
  | _ => none
structure Led where
  s : Int
  k : Int
  v : Wd
def ledInv (f : Wd → Wd) (s0 : Int) (w0 : Wd) (a : Led) : Prop := goodB w0 = true ∧ goodB a.v = true ∧ 0 ≤ s0 ∧ a.s ≤ 3000 ∧ 1 ≤ a.k ∧ a.k ≤ a.s + 1 ∧ a.v = iterW f (a.k - 1).toNat w0 ∧ iterW f a.s.toNat w0 = iterW f s0.toNat w0
def ann_impl_led : Nat → St → Option Ann := fun _ st =>
  match st.mem, intAt st 1, st.get 2 with
  | [⟨.vals vs, e, kd⟩, b1, ⟨_, e2, kd2⟩], some s0, .fn f caps =>
    (match wdOf vs with
    | some w0 => some {
        α := Led
        find := fun st => (match intAt st 1, intAt st 8, st.mem with | some s, some k, [_, _, ⟨.vals vs, _, _⟩] => (match wdOf vs with | some w => some ⟨s, k, w⟩ | none => none) | _, _, _ => none)
        head := fun a => { only st [(1, .int .i64 a.s), (2, .fn f caps), (3, .ptr 0 0), (6, .ptr 1 0), (7, .ptr 2 0), (8, .int .i64 a.k)] with mem := [⟨.vals (wdL w0), e, kd⟩, b1, ⟨.vals (wdL a.v), e2, kd2⟩] }
        inv := ledInv stepW s0 w0
        meas := fun a => (a.s - a.k + 1).toNat }
    | none => none)
  | _, _, _ => none
/-- The sum of colours, how many cells have a colour. -/
def sumC : List UInt8 → Int
  | [] => 0
  | b :: r => ((b.toNat : Int) - 48) + sumC r
def cntC (b : UInt8) : List UInt8 → Int
  | [] => 0
  | c :: r => (bif c == b then 1 else 0) + cntC b r
def smInv (c : List UInt8) (i : Int) : Prop := 0 ≤ i ∧ i ≤ c.length ∧ c.length ≤ 1000
def ann_impl_sumOf : Nat → St → Option Ann := fun key st =>
  match Nat.beq key 3, strAt st 0 with
  | true, some c => some {
      α := Int
      find := fun st => intAt st 7
      head := fun i => only st [(0, .str c), (2, .int .i64 0), (3, .int .i64 (sumC (c.take i.toNat))), (6, .int .i64 c.length), (7, .int .i64 i)]
      inv := fun i => smInv c i
      meas := fun i => ((c.length : Int) - i).toNat }
  | _, _ => none
def stepsB (k : Int) : Bool := k == 1 || k == 2 || k == 3
def afterK (k a : Int) (w : Wd) : Wd := bif stepsB k then iterW stepW a.toNat w else w
def valW (k a : Int) (w : Wd) : Int := bif k == 0 then ((w.c.getD a.toNat 0).toNat : Int) - 48 else bif k == 1 then w.y * w.w + w.x else bif k == 2 then w.d else bif k == 3 then cntC 48 w.c else sumC w.c
def valK (k a : Int) (w : Wd) : Int := valW k a (afterK k a w)
def fitB (k a b : Int) (w : Wd) : Bool := bif k == 4 then valK 4 0 w == a else valK k a w == b
/-- What is asked of a clue's kind and number. -/
def askK (k a : Int) (w : Wd) : Bool := goodB w && inB k 0 4 && inB a 0 100 && (!(k == 0) || decide (a < w.c.length))
def pvInv (w0 : Wd) (a0 : Int) (q : Int × Wd) : Prop := goodB q.2 = true ∧ a0 ≤ 100 ∧ 0 ≤ q.1 ∧ q.1 ≤ a0 ∧ iterW stepW q.1.toNat q.2 = iterW stepW a0.toNat w0 ∧ q.2.c.length = w0.c.length
def pvsInv (c : List UInt8) (i : Int) : Prop := 0 ≤ i ∧ i ≤ c.length
def ann_spec_pzValue : Nat → St → Option Ann := fun key st =>
  match st.mem, intAt st 0, intAt st 1 with
  | [⟨.vals vs, e, kd⟩], some k, some a =>
    (match wdOf vs with
    | some w =>
      (match Nat.beq key 3, Nat.beq key 7 with
      | true, _ => some {
          α := Int × Wd
          find := fun st => (match intAt st 1, st.mem with | some s, ⟨.vals vs, _, _⟩ :: _ => (match wdOf vs with | some w => some (s, w) | none => none) | _, _ => none)
          head := fun q => { only st [(0, .int .i64 k), (1, .int .i64 q.1), (5, .ptr 0 0), (6, .int .i64 0), (7, .int .i64 0), (8, .int .i64 0)] with mem := [⟨.vals (wdL q.2), e, kd⟩] }
          inv := pvInv w a
          meas := fun q => q.1.toNat }
      | _, true => some {
          α := Int
          find := fun st => intAt st 9
          head := fun i => { only st [(0, .int .i64 k), (1, .int .i64 a), (5, .ptr 0 0), (6, .int .i64 0), (7, .int .i64 (sumC (w.c.take i.toNat))), (8, .int .i64 (cntC 48 (w.c.take i.toNat))), (9, .int .i64 i)] with mem := [⟨.vals (wdL w), e, kd⟩] }
          inv := fun i => pvsInv w.c i
          meas := fun i => ((w.c.length : Int) - i).toNat }
      | _, _ => none)
    | none => none)
  | _, _, _ => none
end Go.Vi
