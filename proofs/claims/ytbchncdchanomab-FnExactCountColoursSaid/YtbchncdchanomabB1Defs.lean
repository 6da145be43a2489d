/- BackWorld; colours counted. -/
import Derived.Test.YtbchncdchanomabS0Pf
import Derived.Test.YtbchncdchanomabR1Pf
namespace Go.Vi
def revInv (s : List UInt8) (i : Int) : Prop := -1 ≤ i ∧ i < s.length ∧ s.length ≤ 1000
def revFrom (s : List UInt8) (i : Int) : List UInt8 := (s.drop (i + 1).toNat).reverse
def ann_spec_woReverse : Nat → St → Option Ann := fun _ st =>
  match strAt st 0 with
  | some s => some { α := Int, find := fun st => intAt st 4, head := fun i => only st [(0, .str s), (3, .str (revFrom s i)), (4, .int .i64 i)], inv := fun i => revInv s i, meas := fun i => (i + 1).toNat }
  | none => none
def ann_impl_backwards : Nat → St → Option Ann := fun _ st =>
  match strAt st 0, st.mem with
  | some s, [⟨_, e, k⟩] => some { α := Int, find := fun st => intAt st 4, head := fun i => { only st [(0, .str s), (3, .row 0 (revFrom s i).length), (4, .int .i64 i)] with mem := [⟨.bytes (revFrom s i), e, k⟩] }, inv := fun i => revInv s i, meas := fun i => (i + 1).toNat, auto := true }
  | _, _ => none
def bkCol (n : Int) (b : UInt8) : Int := n - 1 - ((b.toNat : Int) - 48 - 1) % n
def bkB (n : Int) (b : UInt8) : UInt8 := UInt8.ofNat (48 + bkCol n b).toNat
def backC (n : Int) (c : List UInt8) : List UInt8 := c.map (bkB n)
def bkWd (w : Wd) : Wd := movW { w with r := (othR w.r).reverse, c := backC w.r.length w.c, d := (w.d + 2) % 4 } 1
def bkInv (c : List UInt8) (i : Int) : Prop := 0 ≤ i ∧ i ≤ c.length
def ann_spec_BackWorld : Nat → St → Option Ann := fun _ st =>
  match st.mem, intAt st 4 with
  | [⟨.vals [.str r0, w0, h0, .str c0, x0, y0, d0], e0, k0⟩, b1, ⟨.vals [r, w, h, _, x, y, d], e2, k2⟩], some last => some {
      α := Int
      find := fun st => intAt st 6
      head := fun i => { only st [(1, .ptr 0 0), (2, .ptr 1 0), (3, .lit false), (4, .int .i64 last), (5, .ptr 2 0), (6, .int .i64 i)] with mem := [⟨.vals [.str r0, w0, h0, .str c0, x0, y0, d0], e0, k0⟩, b1, ⟨.vals [r, w, h, .str (backC r0.length (c0.take i.toNat)), x, y, d], e2, k2⟩] }
      inv := fun i => bkInv c0 i
      meas := fun i => (c0.length - i).toNat }
  | _, _ => none
/-- What lies in the row at the loop's head: those before i are told anew. -/
def bkRow (n : Int) (c : List UInt8) (i : Int) : List UInt8 := backC n (c.take i.toNat) ++ c.drop i.toNat
def ann_impl_BackWorld : Nat → St → Option Ann := fun _ st =>
  match st.mem with
  | [⟨.vals [.str r0, w0, h0, .str c0, x0, y0, d0], e0, k0⟩, b1, ⟨_, e2, k2⟩] => some {
      α := Int
      find := fun st => intAt st 17
      head := fun i => { only st [(1, .ptr 0 0), (2, .ptr 1 0), (3, .lit false), (4, .row 2 c0.length), (15, .row 2 c0.length), (16, .int .i64 c0.length), (17, .int .i64 i)] with mem := [⟨.vals [.str r0, w0, h0, .str c0, x0, y0, d0], e0, k0⟩, b1, ⟨.bytes (bkRow r0.length c0 i), e2, k2⟩] }
      inv := fun i => bkInv c0 i
      meas := fun i => (c0.length - i).toNat }
  | _ => none
/-! ### counts -/
def cnt1 (l : List Int) (b : UInt8) : List Int := l.set ((b.toNat : Int) - 48).toNat (l.getD ((b.toNat : Int) - 48).toNat 0 + 1)
def cntF (n : Nat) (c : List UInt8) : List Int := c.foldl cnt1 (List.replicate n 0)
def cntW (w : Wd) : List Int := bif goodB w then cntF w.r.length w.c else []
def cntB (l : List Int) (m : Int) : Prop := ∀ x ∈ l, 0 ≤ x ∧ x ≤ m
def cntInv (n : Nat) (c : List UInt8) (i : Int) : Prop := 0 ≤ i ∧ i ≤ c.length ∧ cntB (cntF n (c.take i.toNat)) i
def ann_spec_CountColours : Nat → St → Option Ann := fun _ st =>
  match st.mem with
  | [⟨.vals [.str r0, w0, h0, .str c0, x0, y0, d0], e0, k0⟩, ⟨_, e1, k1⟩] => some {
      α := Int
      find := fun st => intAt st 5
      head := fun i => { only st [(1, .ptr 0 0), (4, .row 1 r0.length), (5, .int .i64 i)] with mem := [⟨.vals [.str r0, w0, h0, .str c0, x0, y0, d0], e0, k0⟩, ⟨.ints .i64 (cntF r0.length (c0.take i.toNat)), e1, k1⟩] }
      inv := fun i => cntInv r0.length c0 i
      meas := fun i => (c0.length - i).toNat }
  | _ => none
def ann_impl_CountColours : Nat → St → Option Ann := fun _ st =>
  match st.mem with
  | [⟨.vals [.str r0, w0, h0, .str c0, x0, y0, d0], e0, k0⟩, ⟨_, e1, k1⟩] => some {
      α := Int
      find := fun st => intAt st 16
      head := fun i => { only st [(1, .ptr 0 0), (4, .row 1 r0.length), (15, .int .i64 c0.length), (16, .int .i64 i)] with mem := [⟨.vals [.str r0, w0, h0, .str c0, x0, y0, d0], e0, k0⟩, ⟨.ints .i64 (cntF r0.length (c0.take i.toNat)), e1, k1⟩] }
      inv := fun i => cntInv r0.length c0 i
      meas := fun i => (c0.length - i).toNat }
  | _ => none
/-! ### rows of numbers in a law -/
def ramp (k : Int) (n : Nat) : List Int := (List.range n).map fun j : Nat => k + (j : Int)
def eqsInv (a b : List Int) (i : Int) : Prop := 0 ≤ i ∧ i ≤ a.length ∧ a.length = b.length ∧ a.length ≤ 1000 ∧ a.take i.toNat = b.take i.toNat
def ann_laws_eqIntS : Nat → St → Option Ann := fun _ st =>
  match st.mem, st.get 0, st.get 1 with
  | [⟨.ints _ a, _, _⟩, ⟨.ints _ b, _, _⟩], .row x n, .row y m => some {
      α := Int
      find := fun st => intAt st 5
      head := fun i => only st [(0, .row x n), (1, .row y m), (5, .int .i64 i)]
      inv := fun i => eqsInv a b i
      meas := fun i => (a.length - i).toNat }
  | _, _, _ => none
def mrkInv (a : List Int) (k0 : Int) (i : Int) : Prop := 0 ≤ i ∧ i ≤ a.length ∧ a.length ≤ 1000 ∧ 0 ≤ k0 ∧ k0 ≤ 1000
def mrkRow (a : List Int) (k0 : Int) (i : Int) : List Int := ramp k0 i.toNat ++ a.drop i.toNat
def ann_laws_markIntS : Nat → St → Option Ann := fun _ st =>
  match st.mem, st.get 0, intAt st 1 with
  | [⟨.ints kd a, e, kk⟩], .row x n, some k0 => some {
      α := Int
      find := fun st => intAt st 5
      head := fun i => { only st [(0, .row x n), (1, .int .i64 (k0 + i)), (5, .int .i64 i)] with mem := [⟨.ints kd (mrkRow a k0 i), e, kk⟩] }
      inv := fun i => mrkInv a k0 i
      meas := fun i => (a.length - i).toNat }
  | _, _, _ => none
def hldInv (a : List Int) (k0 : Int) (i : Int) : Prop := mrkInv a k0 i ∧ a.take i.toNat = ramp k0 i.toNat
def ann_laws_heldIntS : Nat → St → Option Ann := fun _ st =>
  match st.mem, st.get 0, intAt st 1 with
  | [⟨.ints _ a, _, _⟩], .row x n, some k0 => some {
      α := Int
      find := fun st => intAt st 5
      head := fun i => only st [(0, .row x n), (1, .int .i64 (k0 + i)), (5, .int .i64 i)]
      inv := fun i => hldInv a k0 i
      meas := fun i => (a.length - i).toNat }
  | _, _, _ => none
end Go.Vi
