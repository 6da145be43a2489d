/- Scenes: steps. -/
import Derived.Test.YtpkokghbkamelaaDoorSCPf
namespace Go.Vi
set_option linter.unusedVariables false
def sX (w h : Int) (u : List UInt8) (x y d q : Int) : Sx := ⟨w, h, u, x, y, d, q⟩
/-- A region behind which this is the state. -/
def said (h : St) : Option Ann := some { α := Unit, find := fun _ => some (), head := fun _ => h, inv := fun _ => True, meas := fun _ => 0, join := true }
def saidF (h : St) : Option Ann := some { α := Unit, find := fun _ => some (), head := fun _ => h, inv := fun _ => True, meas := fun _ => 0, join := true, force := true }
def scL (s i : Int) (b n : Nat) (a : Sx) : List V := [.int .i64 s, .int .i64 i, .row b n, .int .i64 a.w, .int .i64 a.h, .str a.u, .int .i64 a.x, .int .i64 a.y, .int .i64 a.d, .int .i64 a.q]
def acL (a : Sx) : List V := [.str [], .int .i64 a.w, .int .i64 a.h, .str a.u, .int .i64 a.x, .int .i64 a.y, .int .i64 a.d, .int .i64 a.q]
def ann_impl_actor_scene : Nat -> St -> Option Ann := fun key st =>
 match st.mem, Nat.beq key 1001 with
 | ⟨.recs sh c, e, k⟩ :: ⟨.vals [_, .int _ w, .int _ h, .str u, .int _ x, .int _ y, .int _ d, .int _ q], e1, k1⟩ :: ⟨.vals [.int _ s, .int _ i, .row b n], e2, k2⟩ :: ⟨_, e3, k3⟩ :: _, true =>
  saidF { only st [(2, .ptr 1 0), (3, .ptr 2 0), (4, .ptr 3 0)] with mem := [⟨.recs sh c, e, k⟩, ⟨.vals [.str [], .int .i64 w, .int .i64 h, .str u, .int .i64 x, .int .i64 y, .int .i64 d, .int .i64 q], e1, k1⟩, ⟨.vals [.int .i64 s, .int .i64 i, .row b n], e2, k2⟩, ⟨.vals [.int .i64 s, .int .i64 i, .row 4 n, .int .i64 w, .int .i64 h, .str u, .int .i64 x, .int .i64 y, .int .i64 d, .int .i64 q], e3, k3⟩, ⟨.recs sh c, e, k⟩] }
 | _, _ => none
end Go.Vi
