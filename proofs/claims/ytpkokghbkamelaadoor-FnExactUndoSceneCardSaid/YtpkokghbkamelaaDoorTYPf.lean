/- Tables told: the conditions hold. -/
import Derived.Test.YtpkokghbkamelaaDoorTYVc
import Derived.Test.YtpkokghbkamelaaDoorTYSpec
namespace Go.Vi
set_option linter.unusedSimpArgs false
theorem num1_len (n : Int) : (num1 n).length = 1 := rfl
theorem ten {n : Int} (h : 0 <= n /\ n <= 9) : n = 0 \/ n = 1 \/ n = 2 \/ n = 3 \/ n = 4 \/ n = 5 \/ n = 6 \/ n = 7 \/ n = 8 \/ n = 9 := by omega
theorem vc_spec_l1Num (n : Int) (h : 0 <= n /\ n <= 9) : VC_spec_l1Num n (retP (.str (num1 n))) := by
 have e : IntKind.wrap IntKind.u8 (IntKind.wrap IntKind.i64 (48 + n)) = 48 + n := by
  rcases ten h with rfl | rfl | rfl | rfl | rfl | rfl | rfl | rfl | rfl | rfl <;> decide
 unfold VC_spec_l1Num
 rw [e]
 refine ⟨fun _ => ⟨⟨fun m hm => ?_⟩, ⟨by simp⟩, ?_⟩, fun hn => ?_⟩
 ·rw [List.mem_singleton] at hm
  omega
 ·rw [retP_str]; rfl
 ·rw [decide_eq_false_iff_not] at hn
  omega
theorem vc_strconv_FormatInt (n b : Int) (h : b = 10 /\ 0 <= n /\ n <= 9) : VC_strconv_FormatInt n b (retP (.str (num1 n))) := by
 obtain ⟨rfl, h⟩ := h
 unfold VC_strconv_FormatInt
 refine ⟨fun _ => ⟨fun _ => ⟨fun _ => ⟨fun _ => ⟨?_, ?_⟩, fun hf => ?_⟩, fun hf => ?_⟩, fun hf => ?_⟩, fun hf => ?_⟩
 ·rw [wrap64_in (by omega)]
  refine ⟨h.1, by omega, ?_⟩
  simp only [List.length_cons, List.length_nil]
  omega
 ·rw [retP_str, wrap64_in (by omega)]
  rcases ten h with rfl | rfl | rfl | rfl | rfl | rfl | rfl | rfl | rfl | rfl <;> rfl
 ·rw [decide_eq_false_iff_not] at hf; omega
 ·rw [decide_eq_false_iff_not] at hf; omega
 ·rw [decide_eq_false_iff_not] at hf; omega
 ·exact absurd hf (by decide)
theorem vc_strconv_Itoa (n : Int) (h : 0 <= n /\ n <= 9) : VC_strconv_Itoa n (retP (.str (num1 n))) := ⟨⟨rfl, h⟩, by rw [retP_str]⟩
end Go.Vi
