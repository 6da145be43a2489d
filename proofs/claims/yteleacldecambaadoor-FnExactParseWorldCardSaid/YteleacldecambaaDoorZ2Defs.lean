/- A world read. -/
import Derived.Test.YteleacldecambaaDoorW1Pf
import Derived.Test.YteleacldecambaaDoorZ0Pf
import Derived.Lib.SplitLaws
namespace Go.Vi
def spN (s : List UInt8) : List (List UInt8) := Go.Lib.splitK [58] 0 (min 5 (s.length + 1) - 1) s
def ptW (s : List UInt8) (i : Nat) : List UInt8 := (splL 58 s).getD i []
def dgW (s : List UInt8) (i j : Nat) : Int := ((ptW s i).getD j 0).toNat - 48
def parW (s : List UInt8) : Wd := ⟨ptW s 0, dgW s 1 0, dgW s 1 2, ptW s 2, dgW s 3 0, dgW s 3 2, dgW s 3 4⟩
def okW (s : List UInt8) : Bool := decide ((splL 58 s).length = 4) && decide ((ptW s 1).length = 3) && decide ((ptW s 3).length = 5) && goodB (parW s) && (textW (parW s) == s)
def okWd (s : List UInt8) : Wd := bif okW s then parW s else zeroWd
def ann_spec_woParse : Nat → St → Option Ann := fun key st =>
  match Nat.beq key 1004, st.get 4, st.mem with
  | true, .row a _, b0 :: _ => (match st.mem[a]? with
    | some ⟨.strs l1, _, _⟩ => some {
        α := Unit
        find := fun _ => some ()
        head := fun _ => { only st [(2, .ptr 0 0), (4, .row 1 l1.length), (5, .row 2 (splL 120 (l1.getD 1 [])).length), (6, .row 3 (splL 44 (l1.getD 3 [])).length)] with mem := [b0, ⟨.strs l1, 9, .row⟩, ⟨.strs (splL 120 (l1.getD 1 [])), 9, .row⟩, ⟨.strs (splL 44 (l1.getD 3 [])), 9, .row⟩] }
        inv := fun _ => True
        meas := fun _ => 0
        join := true }
    | _ => none)
  | _, _, _ => none
def ann_impl_ParseWorld : Nat → St → Option Ann := fun _ _ => none
end Go.Vi
