/- One digit's text: the conditions hold. -/
import Derived.Test.YtbdhilflnfllaaaDoorW9Vc
import Derived.Test.YtbdhilflnfllaaaDoorW9Spec
namespace Go.Vi
theorem num1_len (n : Int) : (num1 n).length = 1 := rfl
theorem ten {n : Int} (h : 0 ≤ n ∧ n ≤ 9) : n = 0 ∨ n = 1 ∨ n = 2 ∨ n = 3 ∨ n = 4 ∨ n = 5 ∨ n = 6 ∨ n = 7 ∨ n = 8 ∨ n = 9 := by omega
theorem vc_spec_l1Num (n : Int) (h : 0 ≤ n ∧ n ≤ 9) : VC_spec_l1Num n (retP (.str (num1 n))) := by
  have e : IntKind.wrap IntKind.u8 (IntKind.wrap IntKind.i64 (48 + n)) = 48 + n := by
    rcases ten h with rfl | rfl | rfl | rfl | rfl | rfl | rfl | rfl | rfl | rfl <;> decide
  unfold VC_spec_l1Num
  rw [e]
  refine ⟨fun _ => ⟨⟨fun m hm => ?_⟩, ⟨by simp⟩, ?_⟩, fun hn => ?_⟩
  · rw [List.mem_singleton] at hm
    omega
  · rw [retP_str]; rfl
  · rw [decide_eq_false_iff_not] at hn
    omega
theorem vc_strconv_FormatInt (n b : Int) (h : b = 10 ∧ 0 ≤ n ∧ n ≤ 9) : VC_strconv_FormatInt n b (retP (.str (num1 n))) := by
  obtain ⟨rfl, h⟩ := h
  unfold VC_strconv_FormatInt
  refine ⟨fun _ => ⟨fun _ => ⟨fun _ => ⟨fun _ => ⟨?_, ?_⟩, fun hf => ?_⟩, fun hf => ?_⟩, fun hf => ?_⟩, fun hf => ?_⟩
  · rw [wrap64_in (by omega)]
    refine ⟨h.1, by omega, ?_⟩
    simp only [List.length_cons, List.length_nil]
    omega
  · rw [retP_str, wrap64_in (by omega)]
    rcases ten h with rfl | rfl | rfl | rfl | rfl | rfl | rfl | rfl | rfl | rfl <;> rfl
  · rw [decide_eq_false_iff_not] at hf; omega
  · rw [decide_eq_false_iff_not] at hf; omega
  · rw [decide_eq_false_iff_not] at hf; omega
  · exact absurd hf (by decide)
theorem vc_strconv_Itoa (n : Int) (h : 0 ≤ n ∧ n ≤ 9) : VC_strconv_Itoa n (retP (.str (num1 n))) := ⟨⟨rfl, h⟩, by rw [retP_str]⟩
theorem good_nine {w : Wd} (h : goodB w = true) : (0 ≤ w.w ∧ w.w ≤ 9) ∧ (0 ≤ w.h ∧ w.h ≤ 9) ∧ (0 ≤ w.x ∧ w.x ≤ 9) ∧ (0 ≤ w.y ∧ w.y ≤ 9) ∧ (0 ≤ w.d ∧ w.d ≤ 9) ∧ w.r.length ≤ 6 ∧ w.c.length ≤ 81 := by
  obtain ⟨h1, h2, h3, h4, h5, h6, h7, _⟩ := good_bd h
  have := mul_bd h1 h2
  omega
end Go.Vi
