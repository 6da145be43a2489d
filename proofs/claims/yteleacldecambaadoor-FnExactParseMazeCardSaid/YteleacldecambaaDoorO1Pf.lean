/- MazeText: the conditions hold. -/
import Derived.Test.YteleacldecambaaDoorO1Vc
import Derived.Test.YteleacldecambaaDoorO1Spec
namespace Go.Vi
theorem vc_spec_miText (mw mh : Int) (mc : List UInt8) (mu : Bool) (h : mzB ⟨mw, mh, mc, mu⟩ = true) : VC_spec_miText mw mh mc mu (retP (.str (textM ⟨mw, mh, mc, mu⟩))) := by
  obtain ⟨hw, hh, hl, _⟩ := mz_iff.1 h
  simp only at hw hh hl
  have hm := mul_bd hw hh
  have r1 : (0 : Int) ≤ mw ∧ mw ≤ 9 := by omega
  have r2 : (0 : Int) ≤ mh ∧ mh ≤ 9 := by omega
  unfold VC_spec_miText
  simp only [at_iff, r1, r2, List.length_append, num1_len, List.length_cons, List.length_nil, true_and, and_self, retP_str, textM]
  refine ⟨by omega, by omega, by omega, by omega, fun hu => ⟨by omega, by simp [hu]⟩, fun hu => by simp [hu]⟩
theorem vc_spec_MazeText (mw mh : Int) (mc : List UInt8) (mu : Bool) (_ : True) : VC_spec_MazeText mw mh mc mu (retP (.tup [.str (bif mzB ⟨mw, mh, mc, mu⟩ then textM ⟨mw, mh, mc, mu⟩ else []), .bool (mzB ⟨mw, mh, mc, mu⟩)])) := by
  unfold VC_spec_MazeText
  cases hg : mzB ⟨mw, mh, mc, mu⟩ <;> simp [at_iff, retP, leV, leL, chkB, V.under, underL]
theorem vc_impl_MazeText (mw mh : Int) (mc : List UInt8) (mu : Bool) (_ : True) : VC_impl_MazeText mw mh mc mu (retP (.tup [.str (bif mzB ⟨mw, mh, mc, mu⟩ then textM ⟨mw, mh, mc, mu⟩ else []), .bool (mzB ⟨mw, mh, mc, mu⟩)])) := by
  unfold VC_impl_MazeText
  cases hg : mzB ⟨mw, mh, mc, mu⟩
  · simp [at_iff, retP, leV, leL, chkB, V.under, underL]
  · obtain ⟨hw, hh, hl, _⟩ := mz_iff.1 hg
    simp only at hw hh hl
    have hm := mul_bd hw hh
    have r1 : (0 : Int) ≤ mw ∧ mw ≤ 9 := by omega
    have r2 : (0 : Int) ≤ mh ∧ mh ≤ 9 := by omega
    refine ⟨⟨trivial⟩, fun hf => by simp at hf, fun _ => ?_⟩
    simp only [at_iff, r1, r2, List.length_append, num1_len, List.length_cons, List.length_nil, true_and, and_self]
    refine ⟨by omega, by omega, by omega, by omega, fun hu => ⟨by omega, ?_⟩, fun hu => ?_⟩ <;> simp [hu, textM, retP, leV, leL, chkB, V.under, underL]
end Go.Vi
