/- The greatest numbers of clues: the conditions hold. -/
import Derived.Test.YtickpjdnncpnmaaDoorPDVc
import Derived.Test.YtickpjdnncpnmaaDoorPDSpec
namespace Go.Vi
theorem retP_t2 {a b c d : Int} (h1 : a = c) (h2 : b = d) : retP (.tup [.int .i64 c, .int .i64 d]) (.tup [.int .i64 a, .int .i64 b]) := by
 subst h1; subst h2
 simp [retP, leV, leL, chkB, V.under, underL]
theorem vc_impl_greatestOf (k cols cells : Int) (h : 0 <= cols /\ cols <= 1000 /\ 0 <= cells /\ cells <= 1000) : VC_impl_greatestOf k cols cells (retP (.tup [.int .i64 (gA k cells), .int .i64 (gB k cols cells)])) := by
 unfold VC_impl_greatestOf
 rw [wrap64_in (x := cells - 1) (by omega), wrap64_in (x := cols - 1) (by omega)]
 unfold gA gB
 refine ⟨fun h0 => ?_, fun h0 => ⟨fun h1 => ?_, fun h1 => ⟨fun h2 => ?_, fun h2 => ⟨fun h3 => ?_, fun h3 => ⟨fun h4 => ?_, fun h4 => ?_⟩⟩⟩⟩⟩
 ·simp only [h0, cond_true]
  exact retP_t2 rfl rfl
 ·simp only [h0, h1, cond_true, cond_false]
  exact retP_t2 rfl rfl
 ·simp only [h0, h1, h2, cond_true, cond_false]
  exact retP_t2 rfl rfl
 ·simp only [h0, h1, h2, h3, cond_true, cond_false]
  exact retP_t2 rfl rfl
 ·simp only [h0, h1, h2, h3, h4, cond_true, cond_false]
  exact retP_t2 rfl rfl
 ·simp only [h0, h1, h2, h3, h4, cond_false]
  exact retP_t2 rfl rfl
end Go.Vi
