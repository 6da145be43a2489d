/- L and R exchanged. -/
import Derived.Test.YtllocclgllappabDoorTPPf
namespace Go.Vi
def oth (c : UInt8) : UInt8 := bif c == 76 then 82 else bif c == 82 then 76 else c
def othR (s : List UInt8) : List UInt8 := s.map oth
def othInv (s : List UInt8) (i : Int) : Prop := 0 ≤ i ∧ i ≤ s.length ∧ s.length ≤ 1000
def ann_spec_woOther : Nat → St → Option Ann := fun _ st =>
  match strAt st 0 with
  | some s => some { α := Int, find := fun st => intAt st 4, head := fun i => only st [(0, .str s), (3, .str (othR (s.take i.toNat))), (4, .int .i64 i)], inv := fun i => othInv s i, meas := fun i => (s.length - i).toNat }
  | none => none
/-- What lies in the row at the loop's head: those before i are exchanged. -/
def othRow (s : List UInt8) (i : Int) : List UInt8 := othR (s.take i.toNat) ++ s.drop i.toNat
def ann_impl_exchanged : Nat → St → Option Ann := fun _ st =>
  match st.mem with
  | [⟨.bytes s, e, k⟩] => some { α := Int, find := fun st => intAt st 10, head := fun i => { only st [(3, .row 0 s.length), (8, .row 0 s.length), (9, .int .i64 s.length), (10, .int .i64 i)] with mem := [⟨.bytes (othRow s i), e, k⟩] }, inv := fun i => othInv s i, meas := fun i => (s.length - i).toNat }
  | _ => none
end Go.Vi
