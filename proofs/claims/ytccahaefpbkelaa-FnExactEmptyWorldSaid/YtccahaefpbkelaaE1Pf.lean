/- EmptyWorld's conditions hold. -/
import Derived.Test.YtccahaefpbkelaaE1Vc
import Derived.Test.YtccahaefpbkelaaE1Spec
namespace Go.Vi
theorem repeat_one (n : Nat) : Go.Lib.repeatL (Array.toList #[(48 : UInt8)]) n = List.replicate n 48 := by
  induction n with
  | zero => rfl
  | succ n ih => rw [Go.Lib.repeatL, ih, List.replicate_succ]; rfl
theorem vc_spec_woZeros (n : Int) (h : 0 ≤ n ∧ n ≤ 1000) : VC_spec_woZeros n (retP (.str (List.replicate n.toNat 48))) := by
  unfold VC_spec_woZeros
  simp only [at_iff, retP_str, and_true, true_and, decide_eq_true_eq, decide_eq_false_iff_not, List.length_replicate]
  refine ⟨by simp, ⟨h.1, Int.le_refl _, h.2⟩, fun i hi => ⟨fun hlt => ?_, fun hge => ?_⟩⟩
  · rw [wrap64_in (by omega)]
    refine ⟨by simp only [List.length_cons, List.length_nil]; omega, ?_, by omega, by omega⟩
    rw [show (n - (i - 1)).toNat = (n - i).toNat + 1 by omega, List.replicate_succ']
  · rw [show (n - i).toNat = n.toNat by omega]
theorem size_bd {w h : Int} (hw : inB w 1 9 = true) (hh : inB h 1 9 = true) : IntKind.wrap .i64 (w * h) = w * h ∧ 1 ≤ w * h ∧ w * h ≤ 81 := by
  have hm := mul_bd (inB_eq.1 hw) (inB_eq.1 hh)
  exact ⟨wrap64_in (by omega), hm⟩
theorem vc_spec_EmptyWorld (r : List UInt8) (w h : Int) (_ : True) : VC_spec_EmptyWorld r w h (retP (okV (emptyB r w h) ⟨r, w, h, List.replicate (w * h).toNat 48, 0, 0, 0⟩)) := by
  unfold VC_spec_EmptyWorld emptyB
  cases h1 : ruleB r
  · simp [at_iff, okV, wdV, zeroWd, retP, leV, leL, chkB, V.under, underL]
  cases h2 : inB w 1 9
  · simp [at_iff, okV, wdV, zeroWd, retP, leV, leL, chkB, V.under, underL]
  cases h3 : inB h 1 9
  · simp [at_iff, okV, wdV, zeroWd, retP, leV, leL, chkB, V.under, underL]
  obtain ⟨e, hlo, hhi⟩ := size_bd h2 h3
  rw [e]
  have hle : 0 ≤ w * h ∧ w * h ≤ 1000 := by omega
  simp [at_iff, hle, okV, wdV, zeroWd, retP, leV, leL, chkB, V.under, underL]
theorem vc_impl_EmptyWorld (r : List UInt8) (w h : Int) (_ : True) : VC_impl_EmptyWorld r w h (retP (okV (emptyB r w h) ⟨r, w, h, List.replicate (w * h).toNat 48, 0, 0, 0⟩)) := by
  unfold VC_impl_EmptyWorld emptyB
  cases h1 : ruleB r
  · simp [at_iff, okV, wdV, zeroWd, retP, leV, leL, chkB, V.under, underL]
  cases h2 : inB w 1 9
  · simp [at_iff, okV, wdV, zeroWd, retP, leV, leL, chkB, V.under, underL]
  cases h3 : inB h 1 9
  · simp [at_iff, okV, wdV, zeroWd, retP, leV, leL, chkB, V.under, underL]
  obtain ⟨e, hlo, hhi⟩ := size_bd h2 h3
  rw [e, repeat_one]
  have hle : 0 ≤ w * h ∧ w * h ≤ 9223372036854775807 := by omega
  have hl : (w * h).toNat ≤ 140737488355328 := by omega
  simp [at_iff, hle, hl, okV, wdV, zeroWd, retP, leV, leL, chkB, V.under, underL]
end Go.Vi
