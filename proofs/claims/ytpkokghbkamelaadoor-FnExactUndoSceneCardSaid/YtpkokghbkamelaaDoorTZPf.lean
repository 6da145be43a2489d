/- Scenes compared and marked. -/
import Derived.Test.YtpkokghbkamelaaDoorTZVc
import Derived.Test.YtpkokghbkamelaaDoorTZSpec
namespace Go.Vi
set_option linter.unusedSimpArgs false
theorem vc_laws_eqScene (s i : Int) (n : Nat) (c : List Sc) (w h : Int) (u : List UInt8) (x y d q s_ i_ : Int) (n_ : Nat) (c_ : List Sc) (w_ h_ : Int) (u_ : List UInt8) (x_ y_ d_ q_ : Int) (hp : is3 c n /\ is3 c_ n_ /\ n <= 2000000 /\ n_ <= 2000000) : VC_laws_eqScene s i n c w h u x y d q s_ i_ n_ c_ w_ h_ u_ x_ y_ d_ q_ (retG 2 (.bool (s == s_ && i == i_ && rows3 c == rows3 c_ && w == w_ && h == h_ && u == u_ && x == x_ && y == y_ && d == d_ && q == q_)) [⟨.recs [.int .i64, .str, .int .i64] c, 96, .rows 3⟩, ⟨.recs [.int .i64, .str, .int .i64] c_, 96, .rows 3⟩]) := by
 unfold VC_laws_eqScene
 refine ⟨⟨hp⟩, fun h1 => retG_r2l ?_, fun h1 => ⟨fun h2 => retG_r2l ?_, fun h2 => ⟨fun h3 => retG_r2l ?_, fun h3 => ⟨fun h4 => retG_r2l ?_, fun h4 => ⟨fun h5 => retG_r2l ?_, fun h5 => ⟨fun h6 => retG_r2l ?_, fun h6 => ⟨fun h7 => retG_r2l ?_, fun h7 => ⟨fun h8 => retG_r2l ?_, fun h8 => retG_r2l ?_⟩⟩⟩⟩⟩⟩⟩⟩
 ·rw [Bool.not_eq_true'] at h1
  rw [h1]
  simp
 all_goals simp_all
theorem vc_laws_markScene (k s i : Int) (n : Nat) (c : List Sc) (w h : Int) (u : List UInt8) (x y d q : Int) (hp : is3 c n /\ n <= 2000000 /\ 0 <= k /\ k <= 1000000) : VC_laws_markScene k s i n c w h u x y d q (retG 1 (.int .i64 (k + (3 * n : Nat))) [⟨.recs [.int .i64, .str, .int .i64] (flat3 (mkR k n)), 96, .rows 3⟩]) :=
 ⟨⟨hp⟩, retG_r1i rfl⟩
theorem vc_laws_heldScene (k s i : Int) (n : Nat) (c : List Sc) (w h : Int) (u : List UInt8) (x y d q : Int) (hp : is3 c n /\ n <= 2000000 /\ 0 <= k /\ k <= 1000000) : VC_laws_heldScene k s i n c w h u x y d q (retG 1 (.int .i64 (bif decide (rows3 c = mkR k n) then k + (3 * n : Nat) else -1)) [⟨.recs [.int .i64, .str, .int .i64] c, 96, .rows 3⟩]) := by
 unfold VC_laws_heldScene
 refine ⟨⟨hp⟩, fun h1 => retG_r1i ?_, fun h1 => retG_r1i rfl⟩
 have h1 := of_decide_eq_true h1
 cases hb : decide (rows3 c = mkR k n) with
 | false => rfl
 | true =>
  rw [hb] at h1
  have h1 : k + ((3 * n : Nat) : Int) < 0 := h1
  omega
theorem vc_impl_isSize (a b : Int) (_ : True) : VC_impl_isSize a b (retP (.bool (inB a 1 9 && inB b 1 9))) := by
 unfold VC_impl_isSize
 simp only [retP_bool, retP_lit]
 exact ⟨⟨trivial⟩, fun h => ⟨⟨trivial⟩, by simp [h]⟩, fun h => by simp [h]⟩
end Go.Vi
