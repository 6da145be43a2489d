/- Worlds: rules, cells, what is good. -/
import Derived.Test.YtpkokghbkamelaaVig
namespace Go.Vi
structure Wd where
 r : List UInt8
 w : Int
 h : Int
 c : List UInt8
 x : Int
 y : Int
 d : Int
def inB (a b c : Int) : Bool := decide (b <= a) && decide (a <= c)
def signB (c : UInt8) : Bool := c == 76 || c == 82 || c == 78 || c == 85
def ruleB (l : List UInt8) : Bool := decide (1 <= l.length) && decide (l.length <= 6) && l.all signB
def colsB (c : List UInt8) (n : Int) : Bool := c.all fun d => inB ((d.toNat : Int) - 48) 0 (n - 1)
def goodB (w : Wd) : Bool :=
 ruleB w.r && inB w.w 1 9 && inB w.h 1 9 && ((w.c.length : Int) == w.w * w.h) && colsB w.c w.r.length && inB w.x 0 (w.w - 1) && inB w.y 0 (w.h - 1) && inB w.d 0 3
def hasB (w : Wd) (x y : Int) : Bool := inB x 0 (w.w - 1) && inB y 0 (w.h - 1)
def cellIx (w : Wd) (x y : Int) : Nat := (y * w.w + x).toNat
def colAt (w : Wd) (x y : Int) : Int := ((w.c.getD (cellIx w x y) 0).toNat : Int) - 48
def szW (w : Wd) (left : Int) : Int := bif decide (left - w.r.length < 0) then -1 else bif decide (left - w.r.length - w.c.length < 0) then -1 else left - w.r.length - w.c.length
def eqW (a b : Wd) : Bool := a.r == b.r && a.w == b.w && a.h == b.h && a.c == b.c && a.x == b.x && a.y == b.y && a.d == b.d
def wdV (w : Wd) : V := .agg [.str w.r, .int .i64 w.w, .int .i64 w.h, .str w.c, .int .i64 w.x, .int .i64 w.y, .int .i64 w.d]
def zeroWd : Wd := ⟨[], 0, 0, [], 0, 0, 0⟩
def okV (ok : Bool) (w : Wd) : V := .tup [wdV (bif ok then w else zeroWd), .bool ok]
def ruleInv (s : List UInt8) (i : Int) : Prop := 0 <= i /\ i <= s.length /\ 1 <= s.length /\ s.length <= 6 /\ (s.take i.toNat).all signB = true
def ann_spec_woRule : Nat -> St -> Option Ann := fun _ st =>
 match strAt st 0 with
 | some s => some { α := Int, find := fun st => intAt st 3, head := fun i => only st [(0, .str s), (3, .int .i64 i)], inv := fun i => ruleInv s i, meas := fun i => (s.length - i).toNat }
 | none => none
def ann_impl_IsRule : Nat -> St -> Option Ann := fun _ st =>
 match strAt st 0 with
 | some s => some { α := Int, find := fun st => intAt st 10, head := fun i => only st [(0, .str s), (9, .int .i64 s.length), (10, .int .i64 i)], inv := fun i => ruleInv s i, meas := fun i => (s.length - i).toNat }
 | none => none
/-- The loop over the cells: those before i are colours. -/
def colsInv (c : List UInt8) (n : Int) (i : Int) : Prop := c.length <= 1000 /\ 0 <= i /\ i <= c.length /\ colsB (c.take i.toNat) n = true
def ann_spec_woGood : Nat -> St -> Option Ann := fun _ st =>
 match st.mem with
 | [⟨.vals [.str r, _, _, .str c, _, _, _], _, _⟩] =>
  some { α := Int, find := fun st => intAt st 3, head := fun i => only st [(1, .ptr 0 0), (3, .int .i64 i)], inv := fun i => colsInv c r.length i, meas := fun i => (c.length - i).toNat }
 | _ => none
def ann_impl_areColours : Nat -> St -> Option Ann := fun _ st =>
 match strAt st 0, intAt st 1 with
 | some c, some n => some { α := Int, find := fun st => intAt st 8, head := fun i => only st [(0, .str c), (1, .int .i64 n), (7, .int .i64 c.length), (8, .int .i64 i)], inv := fun i => colsInv c n i, meas := fun i => (c.length - i).toNat }
 | _, _ => none
end Go.Vi
