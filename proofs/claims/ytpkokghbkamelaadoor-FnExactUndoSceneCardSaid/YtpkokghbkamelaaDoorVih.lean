/- Arguments opened: structs of one-cell fields, whatever their number. -/
import Derived.Test.YtpkokghbkamelaaDoorVig
import Derived.ProofKit
import Derived.Lib.SmallJoins
namespace Go.Vi
open Go.Joins Go.ChangeShapes Go.WideShapes Go.RowKit Go.Deep
section
variable {H : Type} {enc : TypeId × Value -> H} {P : Program} {w : World} {base : Nat} {spare : Nat -> Bool} {held : Bool}
theorem cell_int {t : TypeId} {k : IntKind} {cs : List Value} {j : Nat} (ht : P.underlying t = some (.int k)) (h : ∃ (c : Value) (y : DataW H × List MemPlace) (n : Nat), cs[j]? = some c /\ DataW.trod enc P w base spare held n t [c] = some y) :
  ∃ a, cs[j]? = some (.int k a) /\ (Lit.int k a).wf = true := by
 obtain ⟨c, y, n, hc, hy⟩ := h
 obtain ⟨a, e0, _, wa⟩ := DataW.trod_int ht hy
 simp at e0
 exact ⟨a, by rw [hc, e0], wa⟩
theorem cell_string {t : TypeId} {cs : List Value} {j : Nat} (ht : P.underlying t = some .string) (h : ∃ (c : Value) (y : DataW H × List MemPlace) (n : Nat), cs[j]? = some c /\ DataW.trod enc P w base spare held n t [c] = some y) :
  ∃ a, cs[j]? = some (.string a) /\ a.size <= maxLen := by
 obtain ⟨c, y, n, hc, hy⟩ := h
 obtain ⟨a, e0, _, wa⟩ := DataW.trod_string ht hy
 simp at e0
 exact ⟨a, by rw [hc, e0], wa⟩
end
theorem list_of3 {l : List Value} {x0 x1 x2 : Value} (h : l.length = 3) (h0 : l[0]? = some x0) (h1 : l[1]? = some x1) (h2 : l[2]? = some x2) : l = [x0, x1, x2] := by
 match l, h with
 | [_, _, _], _ => simp at h0 h1 h2; simp [h0, h1, h2]
theorem list_of4 {l : List Value} {x0 x1 x2 x3 : Value} (h : l.length = 4) (h0 : l[0]? = some x0) (h1 : l[1]? = some x1) (h2 : l[2]? = some x2) (h3 : l[3]? = some x3) : l = [x0, x1, x2, x3] := by
 match l, h with
 | [_, _, _, _], _ => simp at h0 h1 h2 h3; simp [h0, h1, h2, h3]
theorem wf_i64_bd {a : Int} (h : (Lit.int .i64 a).wf = true) : -9223372036854775808 <= a /\ a <= 9223372036854775807 := by
 simp [Lit.wf, IntKind.min, IntKind.max, IntKind.signed, IntKind.bits] at h
 omega
theorem str_bd {s : ByteArray} (h : s.size <= maxLen) : (s.data.toList.length : Int) <= 9223372036854775807 := by
 unfold maxLen at h
 have : s.data.toList.length = s.size := by rw [Array.length_toList]; rfl
 omega
end Go.Vi
