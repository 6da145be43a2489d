/- Worlds: rules, cells, what is good. -/
import Derived.Test.YtickpjdnncpnmaaDoorVig
namespace Go.Vi
structure Wd where
 r : List UInt8
 w : Int
 h : Int
 c : List UInt8
 x : Int
 y : Int
 d : Int
def inB (a b c : Int) : Bool := decide (b <= a) && decide (a <= c)
def signB (c : UInt8) : Bool := c == 76 || c == 82 || c == 78 || c == 85
def ruleB (l : List UInt8) : Bool := decide (1 <= l.length) && decide (l.length <= 6) && l.all signB
def colsB (c : List UInt8) (n : Int) : Bool := c.all fun d => inB ((d.toNat : Int) - 48) 0 (n - 1)
def goodB (w : Wd) : Bool :=
 ruleB w.r && inB w.w 1 9 && inB w.h 1 9 && ((w.c.length : Int) == w.w * w.h) && colsB w.c w.r.length && inB w.x 0 (w.w - 1) && inB w.y 0 (w.h - 1) && inB w.d 0 3
def hasB (w : Wd) (x y : Int) : Bool := inB x 0 (w.w - 1) && inB y 0 (w.h - 1)
def cellIx (w : Wd) (x y : Int) : Nat := (y * w.w + x).toNat
def colAt (w : Wd) (x y : Int) : Int := ((w.c.getD (cellIx w x y) 0).toNat : Int) - 48
def wdV (w : Wd) : V := .agg [.str w.r, .int .i64 w.w, .int .i64 w.h, .str w.c, .int .i64 w.x, .int .i64 w.y, .int .i64 w.d]
def ruleInv (s : List UInt8) (i : Int) : Prop := 0 <= i /\ i <= s.length /\ 1 <= s.length /\ s.length <= 6 /\ (s.take i.toNat).all signB = true
def ann_spec_woRule : Nat -> St -> Option Ann := fun _ st =>
 match strAt st 0 with
 | some s => some { α := Int, find := fun st => intAt st 3, head := fun i => only st [(0, .str s), (3, .int .i64 i)], inv := fun i => ruleInv s i, meas := fun i => (s.length - i).toNat }
 | none => none
def ann_impl_IsRule : Nat -> St -> Option Ann := fun _ st =>
 match strAt st 0 with
 | some s => some { α := Int, find := fun st => intAt st 10, head := fun i => only st [(0, .str s), (9, .int .i64 s.length), (10, .int .i64 i)], inv := fun i => ruleInv s i, meas := fun i => (s.length - i).toNat }
 | none => none
end Go.Vi
