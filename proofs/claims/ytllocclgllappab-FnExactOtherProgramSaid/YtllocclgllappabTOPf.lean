/- Programs exchanged and joined: the conditions hold. -/
import Derived.Test.YtllocclgllappabTOVc
import Derived.Test.YtllocclgllappabTOSpec
namespace Go.Vi
theorem prog_short {s : List UInt8} (h : progB s = true) : s.length ≤ 19 := by
  unfold progB at h
  simp only [Bool.and_eq_true, beq_iff_eq] at h
  rw [inB_eq] at h
  omega
theorem retP_sb {a a' : List UInt8} {b b' : Bool} (hb : b' = b) (ha : a' = a) : retP (.tup [.str a, .bool b]) (.tup [.str a', .lit b']) := by
  subst hb; subst ha; simp [retP, leV, leL, chkB, V.under, underL]
theorem vc_impl_IsProgram (s : List UInt8) (h : (s.length : Int) ≤ 9223372036854775807) : VC_impl_IsProgram s (retP (.bool (progB s))) := by
  unfold VC_impl_IsProgram
  simp only [at_iff, retP_bool, and_true]
  exact h
theorem vc_spec_OtherProgram (s : List UInt8) (h : (s.length : Int) ≤ 9223372036854775807) : VC_spec_OtherProgram s (retP (.tup [.str (bif progB s then othR s else []), .bool (progB s)])) := by
  unfold VC_spec_OtherProgram
  simp only [at_iff, Bool.not_eq_true', Bool.not_eq_false']
  exact ⟨h, fun h1 => retP_sb h1.symm (by rw [h1]; rfl), fun h1 => ⟨by have := prog_short h1; omega, retP_sb h1.symm (by rw [h1]; rfl)⟩⟩
theorem vc_impl_OtherProgram (s : List UInt8) (h : (s.length : Int) ≤ 9223372036854775807) : VC_impl_OtherProgram s (retP (.tup [.str (bif progB s then othR s else []), .bool (progB s)])) := vc_spec_OtherProgram s h
theorem join_no {s t : List UInt8} (h : joinB s t = false) : joinS s t = [] := by unfold joinS; rw [h]; rfl
theorem join_yes {s t : List UInt8} (h : joinB s t = true) : joinS s t = s ++ t := by unfold joinS; rw [h]; rfl
theorem vc_spec_JoinPrograms (s t : List UInt8) (h : (s.length : Int) ≤ 9223372036854775807 ∧ (t.length : Int) ≤ 9223372036854775807) : VC_spec_JoinPrograms s t (retP (.tup [.str (joinS s t), .bool (joinB s t)])) := by
  unfold VC_spec_JoinPrograms
  simp only [at_iff, Bool.not_eq_true', Bool.not_eq_false']
  have no : joinB s t = false → retP (.tup [.str (joinS s t), .bool (joinB s t)]) (.tup [.str (Array.toList #[]), .lit false]) := fun hn => retP_sb hn.symm (join_no hn).symm
  refine ⟨h.1, fun h1 => no (by unfold joinB; rw [h1]; rfl), fun h1 => ⟨h.2, fun h2 => no (by unfold joinB; rw [h1, h2]; rfl), fun h2 => ?_⟩⟩
  have l1 := prog_short h1
  have l2 := prog_short h2
  have l3 : ((s ++ t).length : Int) ≤ 9223372036854775807 := by rw [List.length_append]; omega
  refine ⟨by omega, l3, fun h3 => no (by unfold joinB; rw [h1, h2, h3]; rfl), fun h3 => ⟨by omega, ?_⟩⟩
  have hy : joinB s t = true := by unfold joinB; rw [h1, h2, h3]; rfl
  exact retP_sb hy.symm (join_yes hy).symm
theorem vc_impl_JoinPrograms (s t : List UInt8) (h : (s.length : Int) ≤ 9223372036854775807 ∧ (t.length : Int) ≤ 9223372036854775807) : VC_impl_JoinPrograms s t (retP (.tup [.str (joinS s t), .bool (joinB s t)])) := vc_spec_JoinPrograms s t h
end Go.Vi
