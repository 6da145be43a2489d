/- The conditions of FnExactIsScene. -/
import Derived.Test.YtpkokghbkamelaaDoorSCPf
namespace Go.Vi
set_option linter.unusedVariables false
set_option linter.unusedSimpArgs false
def VC_LawIsScene (a0s:Int)(a0i:Int)(a0rn:Nat)(a0r:List Sc)(a0w:Int)(a0h:Int)(a0u:List UInt8)(a0x:Int)(a0y:Int)(a0d:Int)(a0q:Int)(g0:List UInt8)(g1:List UInt8)(g2:List UInt8)(g3:List UInt8)(K:V → Prop):Prop:=
 At (((0:Int)≤(1048576:Int)∧(1048576:Int)≤(1048576:Int))∧((↑a0rn:Int)≤(9223372036854775807:Int)∧is3 a0r a0rn∧∀(r:Row3),r ∈ rows3 a0r→(↑(List.length (Row3.t r)):Int)≤(9223372036854775807:Int))∧
 (↑(List.length a0u):Int)≤(9223372036854775807:Int))∧(decide (szS (rows3 a0r) a0u (1048576:Int) < (0:Int))=true→K (V.lit true))∧(decide (szS (rows3 a0r) a0u (1048576:Int) < (0:Int))=false→At (is3 a0r a0rn∧
 a0rn≤(2000000:Nat))∧At (is3 a0r a0rn∧a0rn≤(2000000:Nat))∧At (is3 a0r a0rn∧a0rn≤(2000000:Nat))∧At (is3 a0r a0rn∧a0rn≤(2000000:Nat)∧isSg g0 g1 g2 g3)∧
 ((!sceneB a0s a0i (rows3 a0r) a0w a0h a0u a0x a0y a0d a0q==sceneB a0s a0i (rows3 a0r) a0w a0h a0u a0x a0y a0d a0q)=true→K (V.lit false))∧
 ((!sceneB a0s a0i (rows3 a0r) a0w a0h a0u a0x a0y a0d a0q==sceneB a0s a0i (rows3 a0r) a0w a0h a0u a0x a0y a0d a0q)=false→(((At (is3 a0r a0rn∧a0rn≤(2000000:Nat))∧(At (is3 a0r a0rn∧is3 a0r a0rn∧a0rn≤(2000000:Nat)∧
 a0rn≤(2000000:Nat))∧((!(a0s==a0s && a0i==a0i && rows3 a0r==rows3 a0r && a0w==a0w && a0h==a0h && a0u==a0u && a0x==a0x && a0y==a0y && a0d==a0d && a0q==a0q))=true→K (V.lit false))∧
 ((!(a0s==a0s && a0i==a0i && rows3 a0r==rows3 a0r && a0w==a0w && a0h==a0h && a0u==a0u && a0x==a0x && a0y==a0y && a0d==a0d && a0q==a0q))=false→K (V.lit true)))∧True)∧True)∧True)∧(((At (is3 a0r a0rn∧a0rn≤(2000000:Nat))∧
 (At (is3 a0r a0rn∧is3 a0r a0rn∧a0rn≤(2000000:Nat)∧a0rn≤(2000000:Nat))∧((!(a0s==a0s && a0i==a0i && rows3 a0r==rows3 a0r && a0w==a0w && a0h==a0h && a0u==a0u && a0x==a0x && a0y==a0y && a0d==a0d && a0q==a0q))=true→
 K (V.lit false))∧((!(a0s==a0s && a0i==a0i && rows3 a0r==rows3 a0r && a0w==a0w && a0h==a0h && a0u==a0u && a0x==a0x && a0y==a0y && a0d==a0d && a0q==a0q))=false→K (V.lit true)))∧True)∧True)∧(At (is3 a0r a0rn∧
 a0rn≤(2000000:Nat))∧((At (is3 a0r a0rn∧is3 a0r a0rn∧a0rn≤(2000000:Nat)∧a0rn≤(2000000:Nat))∧
 ((!(a0s==a0s && a0i==a0i && rows3 a0r==rows3 a0r && a0w==a0w && a0h==a0h && a0u==a0u && a0x==a0x && a0y==a0y && a0d==a0d && a0q==a0q))=true→K (V.lit false))∧
 ((!(a0s==a0s && a0i==a0i && rows3 a0r==rows3 a0r && a0w==a0w && a0h==a0h && a0u==a0u && a0x==a0x && a0y==a0y && a0d==a0d && a0q==a0q))=false→K (V.lit true)))∧True)∧True)∧True)∧True))
theorem vc_LawIsScene (a0s : Int) (a0i : Int) (a0rn : Nat) (a0r : List Sc) (a0w : Int) (a0h : Int) (a0u : List UInt8) (a0x : Int) (a0y : Int) (a0d : Int) (a0q : Int) (g0 g1 g2 g3 : List UInt8) (ha0s : -9223372036854775808 ≤ a0s ∧ a0s ≤ 9223372036854775807) (ha0i : -9223372036854775808 ≤ a0i ∧ a0i ≤ 9223372036854775807) (ha0r : (a0rn : Int) ≤ 9223372036854775807 ∧ is3 a0r a0rn ∧ ∀ r ∈ rows3 a0r, (r.t.length : Int) ≤ 9223372036854775807) (ha0w : -9223372036854775808 ≤ a0w ∧ a0w ≤ 9223372036854775807) (ha0h : -9223372036854775808 ≤ a0h ∧ a0h ≤ 9223372036854775807) (ha0u : (a0u.length : Int) ≤ 9223372036854775807) (ha0x : -9223372036854775808 ≤ a0x ∧ a0x ≤ 9223372036854775807) (ha0y : -9223372036854775808 ≤ a0y ∧ a0y ≤ 9223372036854775807) (ha0d : -9223372036854775808 ≤ a0d ∧ a0d ≤ 9223372036854775807) (ha0q : -9223372036854775808 ≤ a0q ∧ a0q ≤ 9223372036854775807) (hg : isSg g0 g1 g2 g3) : VC_LawIsScene a0s a0i a0rn a0r a0w a0h a0u a0x a0y a0d a0q g0 g1 g2 g3 (retP (.bool true)) := by
  unfold VC_LawIsScene
  have hs : ¬ szS (rows3 a0r) a0u 1048576 < 0 → a0rn ≤ 2000000 := fun h => by
    have hn := ha0r.2.1.2
    have hl := szT_le (l := rows3 a0r) (left := 1048576) (by omega)
    unfold szS at h
    by_cases hd : szT (rows3 a0r) 1048576 < 0
    · rw [decide_eq_true hd, cond_true] at h
      exact absurd (show (-1 : Int) < 0 by omega) h
    · unfold szT at hd
      by_cases hd2 : (1048576 : Int) - (rows3 a0r).length < 0
      · rw [decide_eq_true hd2, cond_true] at hd
        exact absurd (show (-1 : Int) < 0 by omega) hd
      · omega
  refine ⟨⟨⟨by omega, by omega⟩, ha0r, ha0u⟩, fun h => by simp [retP_lit], fun h => ?_⟩
  have hn := hs (of_decide_eq_false h)
  simp [retP_lit, ha0r.2.1, hn, hg]
end Go.Vi
