/- Fresh worms: the conditions hold. -/
import Derived.Test.YtioppaofihbmpaaWXVc
import Derived.Test.YtioppaofihbmpaaWXSpec
namespace Go.Vi
set_option linter.unusedSimpArgs false
theorem wrap64_in {x : Int} (h : -9223372036854775808 ≤ x ∧ x ≤ 9223372036854775807) : IntKind.wrap .i64 x = x := IntWalk.i64_in _ (by omega)
theorem inB_eq {n lo hi : Int} : inB n lo hi = true ↔ lo ≤ n ∧ n ≤ hi := by unfold inB; simp
theorem vc_spec_l1In (n lo hi : Int) (_ : True) : VC_spec_l1In n lo hi (retP (.bool (inB n lo hi))) := by
  unfold VC_spec_l1In inB
  simp only [retP_lit, retP_bool, ge_iff_le]
  refine ⟨fun h => by simp [h], fun h => by simp [h]⟩
theorem vc_impl_within (n lo hi : Int) (_ : True) : VC_impl_within n lo hi (retP (.bool (inB n lo hi))) := by
  unfold VC_impl_within inB
  simp only [retP_lit, retP_bool]
  refine ⟨fun h => by simp [h], fun h => by simp [h]⟩
theorem mul_bd6 {a b : Int} (ha : 3 ≤ a ∧ a ≤ 6) (hb : 3 ≤ b ∧ b ≤ 6) : 9 ≤ a * b ∧ a * b ≤ 36 := by
  have h1 : a * b ≤ 6 * b := Int.mul_le_mul_of_nonneg_right ha.2 (by omega)
  have h2 : 3 * b ≤ a * b := Int.mul_le_mul_of_nonneg_right ha.1 (by omega)
  omega
theorem vc_impl_isGrid (a b : Int) (_ : True) : VC_impl_isGrid a b (retP (.bool (inB a 3 6 && inB b 3 6))) := by
  unfold VC_impl_isGrid
  simp only [at_iff, retP_lit, retP_bool, true_and]
  refine ⟨fun h => by simp [h], fun h => by simp [h]⟩
theorem retP_okwl {u m : Wo} {b ok : Bool} (h : b = ok) (hu : u = bif ok then m else zeroWo) : retP (okWo ok m) (.tup [woV u, .lit b]) := by
  subst h; subst hu
  simp [okWo, woV, retP, leV, leL, chkB, V.under, underL]
theorem vc_laws_eqWorm (aw ah : Int) (ar an : List UInt8) (ax ay ad bw bh : Int) (br bn : List UInt8) (bx by_ bd : Int) (_ : True) : VC_laws_eqWorm aw ah ar an ax ay ad bw bh br bn bx by_ bd (retP (.bool (eqWo ⟨aw, ah, ar, an, ax, ay, ad⟩ ⟨bw, bh, br, bn, bx, by_, bd⟩))) := by
  unfold VC_laws_eqWorm eqWo
  simp only [retP_lit, Bool.not_eq_true', Bool.not_eq_false', bne_iff_ne, ne_eq, bne_eq_false_iff_eq]
  refine ⟨fun h => by simp [h], fun h1 => ⟨fun h => by simp [h], fun h2 => ⟨fun h => by simp [h], fun h3 => ⟨fun h => by simp [h], fun h4 => ⟨fun h => by simp [h], fun h5 => ⟨fun h => by simp [h], fun h6 => ⟨fun h => by simp [h], fun h7 => by simp [h1, h2, h3, h4, h5, h6, h7]⟩⟩⟩⟩⟩⟩⟩
theorem eqWo_self (m : Wo) : eqWo m m = true := by unfold eqWo; simp
theorem repeat_one (n : Nat) : Go.Lib.repeatL (Array.toList #[(49 : UInt8)]) n = List.replicate n 49 := by
  induction n with
  | zero => rfl
  | succ n ih => rw [Go.Lib.repeatL, ih, List.replicate_succ]; rfl
theorem vc_spec_wmOnes (n : Int) (h : 0 ≤ n ∧ n ≤ 1000) : VC_spec_wmOnes n (retP (.str (List.replicate n.toNat 49))) := by
  unfold VC_spec_wmOnes
  simp only [at_iff, retP_str, and_true, true_and, decide_eq_true_eq, decide_eq_false_iff_not, List.length_replicate]
  refine ⟨by simp, ⟨h.1, Int.le_refl _, h.2⟩, fun i hi => ⟨fun hlt => ?_, fun hge => ?_⟩⟩
  · rw [wrap64_in (by omega)]
    refine ⟨by simp only [List.length_cons, List.length_nil]; omega, ?_, by omega, by omega⟩
    rw [show (n - (i - 1)).toNat = (n - i).toNat + 1 by omega, List.replicate_succ']
  · rw [show (n - i).toNat = n.toNat by omega]
theorem fresh_bd {w h : Int} (hw : inB w 3 6 = true) (hh : inB h 3 6 = true) : IntKind.wrap .i64 (w * h) = w * h ∧ 9 ≤ w * h ∧ w * h ≤ 36 := by
  have hm := mul_bd6 (inB_eq.1 hw) (inB_eq.1 hh)
  exact ⟨wrap64_in (by omega), hm⟩
theorem vc_spec_FreshWorm (a b : Int) (_ : True) : VC_spec_FreshWorm a b (retP (okWo (inB a 3 6 && inB b 3 6) ⟨a, b, List.replicate (a * b).toNat 49, List.replicate (a * b).toNat 49, 0, 0, 0⟩)) := by
  unfold VC_spec_FreshWorm
  cases h2 : inB a 3 6
  · simp [at_iff, okWo, woV, zeroWo, retP, leV, leL, chkB, V.under, underL]
  cases h3 : inB b 3 6
  · simp [at_iff, okWo, woV, zeroWo, retP, leV, leL, chkB, V.under, underL]
  obtain ⟨e, hlo, hhi⟩ := fresh_bd h2 h3
  rw [e]
  have hle : 0 ≤ a * b ∧ a * b ≤ 1000 := by omega
  simp [at_iff, hle, okWo, woV, zeroWo, retP, leV, leL, chkB, V.under, underL]
theorem vc_impl_FreshWorm (a b : Int) (_ : True) : VC_impl_FreshWorm a b (retP (okWo (inB a 3 6 && inB b 3 6) ⟨a, b, List.replicate (a * b).toNat 49, List.replicate (a * b).toNat 49, 0, 0, 0⟩)) := by
  unfold VC_impl_FreshWorm
  cases h2 : inB a 3 6
  · simp [at_iff, okWo, woV, zeroWo, retP, leV, leL, chkB, V.under, underL]
  cases h3 : inB b 3 6
  · simp [at_iff, okWo, woV, zeroWo, retP, leV, leL, chkB, V.under, underL]
  obtain ⟨e, hlo, hhi⟩ := fresh_bd h2 h3
  rw [e, repeat_one]
  have hle : 0 ≤ a * b ∧ a * b ≤ 9223372036854775807 := by omega
  have hl : (a * b).toNat ≤ 140737488355328 := by omega
  simp [at_iff, hle, hl, okWo, woV, zeroWo, retP, leV, leL, chkB, V.under, underL]
end Go.Vi
