/- Worms told and read. -/
import Derived.Test.YtioppaofihbmpabDoorZ0Pf
import Derived.Lib.SlTrimSet
import Derived.Lib.SplitLaws
namespace Go.Vi
structure Wo where
  w : Int
  h : Int
  r : List UInt8
  n : List UInt8
  x : Int
  y : Int
  d : Int
def bitB (c : UInt8) : Bool := c == 48 || c == 49
def binB (l : List UInt8) : Bool := l.all bitB
def womB (m : Wo) : Bool :=
  inB m.w 3 6 && inB m.h 3 6 && ((m.r.length : Int) == m.w * m.h) && ((m.n.length : Int) == m.w * m.h) && binB m.r && binB m.n && inB m.x 0 (m.w - 1) && inB m.y 0 (m.h - 1) && inB m.d 0 3
def woV (m : Wo) : V := .agg [.int .i64 m.w, .int .i64 m.h, .str m.r, .str m.n, .int .i64 m.x, .int .i64 m.y, .int .i64 m.d]
def zeroWo : Wo := ⟨0, 0, [], [], 0, 0, 0⟩
def okWo (ok : Bool) (m : Wo) : V := .tup [woV (bif ok then m else zeroWo), .bool ok]
def szWo (r n : List UInt8) (left : Int) : Int := bif decide (left - r.length < 0) then -1 else bif decide (left - r.length - n.length < 0) then -1 else left - r.length - n.length
def eqWo (a b : Wo) : Bool := a.w == b.w && a.h == b.h && a.r == b.r && a.n == b.n && a.x == b.x && a.y == b.y && a.d == b.d
def textM (m : Wo) : List UInt8 := num1 m.w ++ [120] ++ num1 m.h ++ [58] ++ m.r ++ [58] ++ m.n ++ [58] ++ num1 m.x ++ [44] ++ num1 m.y ++ [44] ++ num1 m.d
def spN (s : List UInt8) : List (List UInt8) := Go.Lib.splitK [58] 0 (min 5 (s.length + 1) - 1) s
def ptW (s : List UInt8) (i : Nat) : List UInt8 := (splL 58 s).getD i []
def dgW (s : List UInt8) (i j : Nat) : Int := ((ptW s i).getD j 0).toNat - 48
def parT (s : List UInt8) : Wo := ⟨dgW s 0 0, dgW s 0 2, ptW s 1, ptW s 2, dgW s 3 0, dgW s 3 2, dgW s 3 4⟩
def okT (s : List UInt8) : Bool := decide ((splL 58 s).length = 4) && decide ((ptW s 0).length = 3) && decide ((ptW s 3).length = 5) && womB (parT s) && (textM (parT s) == s)
/-! ### loops -/
def wgInv (r n : List UInt8) (i : Int) : Prop := 0 ≤ i ∧ i ≤ r.length ∧ r.length ≤ 1000 ∧ n.length = r.length ∧ binB (r.take i.toNat) = true ∧ binB (n.take i.toNat) = true
def ann_spec_wmGood : Nat → St → Option Ann := fun _ st =>
  match st.mem with
  | [⟨.vals [_, _, .str r, .str n, _, _, _], _, _⟩] =>
    some { α := Int, find := fun st => intAt st 3, head := fun i => only st [(1, .ptr 0 0), (3, .int .i64 i)], inv := fun i => wgInv r n i, meas := fun i => (r.length - i).toNat }
  | _ => none
def ann_spec_wmParse : Nat → St → Option Ann := fun key st =>
  match Nat.beq key 1004, st.get 0, st.get 4, st.mem with
  | true, .str s, .row a _, b0 :: _ => (match st.mem[a]? with
    | some ⟨.strs l1, _, _⟩ => some {
        α := Unit
        find := fun _ => some ()
        head := fun _ => { only st [(0, .str s), (2, .ptr 0 0), (4, .row 1 l1.length), (5, .row 2 (splL 120 (l1.getD 0 [])).length), (6, .row 3 (splL 44 (l1.getD 3 [])).length)] with mem := [b0, ⟨.strs l1, 9, .row⟩, ⟨.strs (splL 120 (l1.getD 0 [])), 9, .row⟩, ⟨.strs (splL 44 (l1.getD 3 [])), 9, .row⟩] }
        inv := fun _ => True
        meas := fun _ => 0
        join := true }
    | _ => none)
  | _, _, _, _ => (match Nat.beq key 1008, st.get 0, st.get 7 with
    | true, .str s, .ptr b _ => (match st.mem[b]? with
      | some ⟨.vals [.int _ w, .int _ h, .str r, .str n, .int _ x, .int _ y, .int _ d], _, _⟩ => some {
          α := Unit
          find := fun _ => some ()
          head := fun _ => { only st [(2, .ptr 0 0), (3, .bool (womB ⟨w, h, r, n, x, y, d⟩ && (textM ⟨w, h, r, n, x, y, d⟩ == s)))] with mem := [⟨.vals [.int .i64 w, .int .i64 h, .str r, .str n, .int .i64 x, .int .i64 y, .int .i64 d], 28, .box⟩] }
          inv := fun _ => True
          meas := fun _ => 0
          join := true }
      | _ => none)
    | _, _, _ => none)
end Go.Vi
