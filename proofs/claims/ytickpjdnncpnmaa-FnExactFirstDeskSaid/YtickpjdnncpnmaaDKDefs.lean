/- Programs beside worlds; desks. -/
import Derived.Test.YtickpjdnncpnmaaL1Pf
namespace Go.Vi
/-- The parts of a text: steps and sign, side by side. -/
def ptS : List UInt8 -> List Sc
 | a :: b :: r => ⟨(a.toNat : Int) - 48, []⟩ :: ⟨(b.toNat : Int), []⟩ :: ptS r
 | _ => []
def okP : List UInt8 -> Bool
 | a :: b :: r => inB ((a.toNat : Int) - 48) 0 9 && signB b && okP r
 | _ => true
def progB (s : List UInt8) : Bool := (s.length % 2 == 0) && inB ((s.length / 2 : Nat) : Int) 1 9 && okP s
def partsC (s : List UInt8) : List Sc := bif progB s then ptS s else []
def partsN (s : List UInt8) : Nat := bif progB s then s.length / 2 else 0
/-! ### loops -/
def pgInv (s : List UInt8) (i : Int) : Prop := 0 <= i /\ i <= s.length /\ i.toNat % 2 = 0 /\ s.length % 2 = 0 /\ 1 <= s.length / 2 /\ s.length / 2 <= 9 /\ okP (s.take i.toNat) = true
def ann_spec_tuGood : Nat -> St -> Option Ann := fun _ st =>
 match strAt st 0 with
 | some s => some { α := Int, find := fun st => intAt st 3, head := fun i => only st [(0, .str s), (3, .int .i64 i)], inv := fun i => pgInv s i, meas := fun i => (s.length - i).toNat }
 | none => none
abbrev shP : List Sh := [.int .i64, .int .u8]
def ann_impl_partsOf : Nat -> St -> Option Ann := fun key st =>
 match strAt st 0, key with
 | some s, 5 => some {
   α := Int
   find := fun st => intAt st 5
   head := fun i => { only st [(0, .str s), (4, .row 0 (i.toNat / 2)), (5, .int .i64 i)] with mem := [⟨.recs [.int .i64, .int .u8] (ptS (s.take i.toNat)), 84, .rows 2⟩] }
   inv := fun i => pgInv s i
   meas := fun i => (s.length - i).toNat
   auto := true }
 | _, _ => none
end Go.Vi
