/- Worms: lives. -/
import Derived.Test.YtioppaofihbmpabDoorWBPf
import Derived.Test.YtioppaofihbmpabDoorTMPf
namespace Go.Vi
set_option linter.unusedVariables false
/-- The first step from j on at which no line is left to the worm. -/
def dieF (t : List UInt8) (m : Wo) : Nat → Nat → Nat
  | 0, j => j
  | f + 1, j => bif liveW t (iterW t j m) then dieF t m f (j + 1) else j
def lifK (t : List UInt8) (m : Wo) : Nat := dieF t m 73 0
def signW (t : List UInt8) (m : Wo) : UInt8 := match findW m t with | some s => s | none => 0
def nodeW (m : Wo) : Int := m.y * m.w + m.x
def mealsW (t : List UInt8) (m : Wo) (k : Nat) : List UInt8 := (List.range k).map fun j => signW t (iterW t j m)
def runesW (t : List UInt8) (m : Wo) (k : Nat) : List Int := (List.range k).map fun j => ((signW t (iterW t j m)).toNat : Int)
def trackW (t : List UInt8) (m : Wo) (k : Nat) : List Int := (List.range (k + 1)).map fun j => nodeW (iterW t j m)
def askB (t : List UInt8) (m : Wo) : Bool := womB m && tasB t
def mlR (t : List UInt8) (m : Wo) : List Int := bif askB t m then runesW t m (lifK t m) else []
def mlS (t : List UInt8) (m : Wo) : List UInt8 := bif askB t m then mealsW t m (lifK t m) else []
def tkR (t : List UInt8) (m : Wo) : List Int := bif askB t m then trackW t m (lifK t m) else []
def dthW (t : List UInt8) (m : Wo) : Wo := bif askB t m then iterW t (lifK t m) m else zeroWo
def onesW (m : Wo) : Nat := m.r.countP (· == 49) + m.n.countP (· == 49)
/-! ### loops -/
def lfInv (t : List UInt8) (m : Wo) (k : Nat) : Prop := womB m = true ∧ tasB t = true ∧ allL t k m = true
def rowLen (st : St) (t : Nat) : Option Nat := match st.get t with | .row _ n => some n | _ => none
def ann_spec_wmLife : Nat → St → Option Ann := fun key st =>
  match Nat.beq key 3, st.mem, boxWo 0 st.mem, strAt st 1 with
  | true, [⟨_, e, kd⟩, b1, ⟨_, e2, kd2⟩], some m, some t => some {
      α := Nat
      find := fun st => (match rowLen st 8 with | some n => some (n - 1) | none => none)
      head := fun k => { only st [(1, .str t), (2, .ptr 0 0), (4, .ptr 1 0), (7, .str (mealsW t m k)), (8, .row 2 (k + 1))] with mem := [⟨.vals (woL (iterW t k m)), e, kd⟩, b1, ⟨.ints .i64 (trackW t m k), e2, kd2⟩] }
      inv := fun k => lfInv t m k
      meas := fun k => onesW (iterW t k m)
      auto := true }
  | _, _, _, _ => none
def trkLen (st : St) : Option Nat :=
  match st.get 7 with
  | .ptr b _ => (match st.mem[b]? with | some ⟨.vals (_ :: .row _ n :: _), _, _⟩ => some n | _ => none)
  | _ => none
def ann_impl_lived : Nat → St → Option Ann := fun key st =>
  match Nat.beq key 5, st.mem, boxWo 1 st.mem, strAt st 1 with
  | true, [gl, _, rb, ⟨_, e, kd⟩, ⟨_, e2, kd2⟩, ⟨.vals (_ :: _ :: ds), e3, kd3⟩], some m, some t => some {
      α := Nat
      find := fun st => (match trkLen st with | some n => some (n - 1) | none => none)
      head := fun k => { only st [(1, .str t), (4, .ptr 1 0), (6, .ptr 2 0), (7, .ptr 3 0)] with mem := [gl, rb, ⟨.vals (crL (crOf (iterW t k m))), e, kd⟩, ⟨.vals (.row 4 k :: .row 5 (k + 1) :: ds), e3, kd3⟩, ⟨.ints .i32 (runesW t m k), 21, .row⟩, ⟨.ints .i64 (trackW t m k), e2, kd2⟩] }
      inv := fun k => lfInv t m k
      meas := fun k => onesW (iterW t k m)
      auto := true }
  | _, _, _, _ => none
end Go.Vi
