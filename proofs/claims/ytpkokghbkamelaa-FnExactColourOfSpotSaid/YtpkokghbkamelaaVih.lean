/- Arguments opened: structs of one-cell fields, whatever their number. -/
import Derived.Test.YtpkokghbkamelaaVig
import Derived.ProofKit
import Derived.Lib.SmallJoins
namespace Go.Vi
open Go.Joins Go.ChangeShapes Go.WideShapes Go.RowKit Go.Deep
section
variable {H : Type} {enc : TypeId × Value -> H} {P : Program} {w : World} {base : Nat} {spare : Nat -> Bool} {held : Bool}
theorem struct_cells {r : Reach} {b0 : Nat} {t : TypeId} {fs : Array Field} {v : Value} {d : DataW H} {p : List MemPlace} (hs : P.underlying t = some (.struct fs)) (hone : oneCellFields P fs = true) (hC : P.cellsOf t = fs.size)
  (hv : Value.okWide P w r b0 t v) (h : DataW.Trod enc P w base spare held t v d p) :
  ∃ cs : List Value, v = .agg cs.toArray /\ cs.length = fs.size /\ ∀ (j : Nat) (f : Field), fs[j]? = some f -> ∃ (c : Value) (y : DataW H × List MemPlace) (n : Nat), cs[j]? = some c /\ DataW.trod enc P w base spare held n f.type [c] = some y := by
 obtain ⟨cs, rfl, hsz⟩ := okWide_struct hs hv
 obtain ⟨fuel, hf⟩ := h
 obtain ⟨xs, n, _, hx, _, hlen, hg⟩ := DataW.trod_struct hs hf
 refine ⟨cs.toList, by simp, by simpa using hsz.trans hC, fun j f hj => ?_⟩
 obtain ⟨ho, hk⟩ := hone_of hone j f hj
 have hjl : j < fs.size := (Array.getElem?_eq_some_iff.1 hj).1
 have hjc : j < cs.toList.length := by have := hsz.trans hC; simp at this ⊢; omega
 have h1 := hg j f hj
 rw [ho, hk] at h1
 have hone' : (cs.toList.drop j).take 1 = [cs.toList[j]] := by
  rw [List.drop_eq_getElem_cons hjc]
  rfl
 have hxl : j < xs.length := by omega
 refine ⟨cs.toList[j], xs[j], n, List.getElem?_eq_getElem hjc, ?_⟩
 have hxs : xs[j]? = some xs[j] := List.getElem?_eq_getElem hxl
 rw [<- hxs, <- h1, <- hone']
 rfl
theorem cell_int {t : TypeId} {k : IntKind} {cs : List Value} {j : Nat} (ht : P.underlying t = some (.int k)) (h : ∃ (c : Value) (y : DataW H × List MemPlace) (n : Nat), cs[j]? = some c /\ DataW.trod enc P w base spare held n t [c] = some y) :
  ∃ a, cs[j]? = some (.int k a) /\ (Lit.int k a).wf = true := by
 obtain ⟨c, y, n, hc, hy⟩ := h
 obtain ⟨a, e0, _, wa⟩ := DataW.trod_int ht hy
 simp at e0
 exact ⟨a, by rw [hc, e0], wa⟩
theorem cell_string {t : TypeId} {cs : List Value} {j : Nat} (ht : P.underlying t = some .string) (h : ∃ (c : Value) (y : DataW H × List MemPlace) (n : Nat), cs[j]? = some c /\ DataW.trod enc P w base spare held n t [c] = some y) :
  ∃ a, cs[j]? = some (.string a) /\ a.size <= maxLen := by
 obtain ⟨c, y, n, hc, hy⟩ := h
 obtain ⟨a, e0, _, wa⟩ := DataW.trod_string ht hy
 simp at e0
 exact ⟨a, by rw [hc, e0], wa⟩
theorem cell_bool {t : TypeId} {cs : List Value} {j : Nat} (ht : P.underlying t = some .bool) (h : ∃ (c : Value) (y : DataW H × List MemPlace) (n : Nat), cs[j]? = some c /\ DataW.trod enc P w base spare held n t [c] = some y) :
  ∃ a, cs[j]? = some (.bool a) := by
 obtain ⟨c, y, n, hc, hy⟩ := h
 obtain ⟨a, e0, _⟩ := DataW.trod_bool ht hy
 simp at e0
 exact ⟨a, by rw [hc, e0]⟩
end
theorem list_of3 {l : List Value} {x0 x1 x2 : Value} (h : l.length = 3) (h0 : l[0]? = some x0) (h1 : l[1]? = some x1) (h2 : l[2]? = some x2) : l = [x0, x1, x2] := by
 match l, h with
 | [_, _, _], _ => simp at h0 h1 h2; simp [h0, h1, h2]
theorem list_of4 {l : List Value} {x0 x1 x2 x3 : Value} (h : l.length = 4) (h0 : l[0]? = some x0) (h1 : l[1]? = some x1) (h2 : l[2]? = some x2) (h3 : l[3]? = some x3) : l = [x0, x1, x2, x3] := by
 match l, h with
 | [_, _, _, _], _ => simp at h0 h1 h2 h3; simp [h0, h1, h2, h3]
theorem list_of6 {l : List Value} {x0 x1 x2 x3 x4 x5 : Value} (h : l.length = 6) (h0 : l[0]? = some x0) (h1 : l[1]? = some x1) (h2 : l[2]? = some x2) (h3 : l[3]? = some x3) (h4 : l[4]? = some x4) (h5 : l[5]? = some x5) :
  l = [x0, x1, x2, x3, x4, x5] := by
 match l, h with
 | [_, _, _, _, _, _], _ => simp at h0 h1 h2 h3 h4 h5; simp [h0, h1, h2, h3, h4, h5]
theorem list_of7 {l : List Value} {x0 x1 x2 x3 x4 x5 x6 : Value} (h : l.length = 7) (h0 : l[0]? = some x0) (h1 : l[1]? = some x1) (h2 : l[2]? = some x2) (h3 : l[3]? = some x3) (h4 : l[4]? = some x4) (h5 : l[5]? = some x5) (h6 : l[6]? = some x6) :
  l = [x0, x1, x2, x3, x4, x5, x6] := by
 match l, h with
 | [_, _, _, _, _, _, _], _ => simp at h0 h1 h2 h3 h4 h5 h6; simp [h0, h1, h2, h3, h4, h5, h6]
theorem wf_i64_bd {a : Int} (h : (Lit.int .i64 a).wf = true) : -9223372036854775808 <= a /\ a <= 9223372036854775807 := by
 simp [Lit.wf, IntKind.min, IntKind.max, IntKind.signed, IntKind.bits] at h
 omega
theorem str_bd {s : ByteArray} (h : s.size <= maxLen) : (s.data.toList.length : Int) <= 9223372036854775807 := by
 unfold maxLen at h
 have : s.data.toList.length = s.size := by rw [Array.length_toList]; rfl
 omega
end Go.Vi
