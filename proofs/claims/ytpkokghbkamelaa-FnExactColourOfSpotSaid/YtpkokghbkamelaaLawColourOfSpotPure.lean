/- The conditions of FnExactColourOfSpot. -/
import Derived.Test.YtpkokghbkamelaaK1Pf
namespace Go.Vi
set_option linter.unusedVariables false
set_option linter.unusedSimpArgs false
def VC_LawColourOfSpot (a0r:List UInt8)(a0sn:Nat)(a0s:List Int)(a0x:Int)(a0y:Int)(a0d:Int)(a1:Int)(a2:Int)(K:V → Prop):Prop:=
 At ((0:Int)≤(1048576:Int)∧(1048576:Int)≤(1000000000:Int)∧(↑a0sn:Int)≤(9223372036854775807:Int)∧(↑(List.length a0r):Int)≤(9223372036854775807:Int))∧(decide (szP a0r a0sn (1048576:Int) < (0:Int))=true→K (V.lit true))∧
 (decide (szP a0r a0sn (1048576:Int) < (0:Int))=false→At (List.length a0s=a0sn * (3:Nat)∧a0sn≤(2000000:Nat))∧At (List.length a0s=a0sn * (3:Nat)∧a0sn≤(2000000:Nat))∧At (List.length a0s=a0sn * (3:Nat)∧a0sn≤(2000000:Nat))∧
 At (List.length a0s=a0sn * (3:Nat)∧a0sn≤(2000000:Nat))∧((colP (goodP a0r a0sn a0s a0x a0y a0d && (farB a1 && farB a2)) a0s a0sn a1 a2 != colP (goodP a0r a0sn a0s a0x a0y a0d && (farB a1 && farB a2)) a0s a0sn a1 a2)=true→
 K (V.lit false))∧((colP (goodP a0r a0sn a0s a0x a0y a0d && (farB a1 && farB a2)) a0s a0sn a1 a2 != colP (goodP a0r a0sn a0s a0x a0y a0d && (farB a1 && farB a2)) a0s a0sn a1 a2)=false→
 ((!(goodP a0r a0sn a0s a0x a0y a0d && (farB a1 && farB a2))==(goodP a0r a0sn a0s a0x a0y a0d && (farB a1 && farB a2)))=true→K (V.lit false))∧
 ((!(goodP a0r a0sn a0s a0x a0y a0d && (farB a1 && farB a2))==(goodP a0r a0sn a0s a0x a0y a0d && (farB a1 && farB a2)))=false→(((At (List.length a0s=a0sn * (3:Nat)∧a0sn≤(2000000:Nat))∧(At (List.length a0s=(3:Nat) * a0sn∧
 List.length a0s=(3:Nat) * a0sn∧a0sn≤(2000000:Nat)∧a0sn≤(2000000:Nat))∧((!(a0r==a0r && a0s==a0s && a0x==a0x && a0y==a0y && a0d==a0d))=true→K (V.lit false))∧
 ((!(a0r==a0r && a0s==a0s && a0x==a0x && a0y==a0y && a0d==a0d))=false→K (V.lit true)))∧True)∧True)∧True)∧(((At (List.length a0s=a0sn * (3:Nat)∧a0sn≤(2000000:Nat))∧(At (List.length a0s=(3:Nat) * a0sn∧
 List.length a0s=(3:Nat) * a0sn∧a0sn≤(2000000:Nat)∧a0sn≤(2000000:Nat))∧((!(a0r==a0r && a0s==a0s && a0x==a0x && a0y==a0y && a0d==a0d))=true→K (V.lit false))∧
 ((!(a0r==a0r && a0s==a0s && a0x==a0x && a0y==a0y && a0d==a0d))=false→K (V.lit true)))∧True)∧True)∧(At (List.length a0s=a0sn * (3:Nat)∧a0sn≤(2000000:Nat))∧((At (List.length a0s=(3:Nat) * a0sn∧
 List.length a0s=(3:Nat) * a0sn∧a0sn≤(2000000:Nat)∧a0sn≤(2000000:Nat))∧((!(a0r==a0r && a0s==a0s && a0x==a0x && a0y==a0y && a0d==a0d))=true→K (V.lit false))∧
 ((!(a0r==a0r && a0s==a0s && a0x==a0x && a0y==a0y && a0d==a0d))=false→K (V.lit true)))∧True)∧True)∧True)∧True)))
theorem vc_LawColourOfSpot (a0r : List UInt8) (a0sn : Nat) (a0s : List Int) (a0x : Int) (a0y : Int) (a0d : Int) (a1 : Int) (a2 : Int) (ha0r : (a0r.length : Int) ≤ 9223372036854775807) (ha0s : a0s.length = a0sn * 3 ∧ (a0sn : Int) ≤ 9223372036854775807) (ha0x : -9223372036854775808 ≤ a0x ∧ a0x ≤ 9223372036854775807) (ha0y : -9223372036854775808 ≤ a0y ∧ a0y ≤ 9223372036854775807) (ha0d : -9223372036854775808 ≤ a0d ∧ a0d ≤ 9223372036854775807) (ha1 : -9223372036854775808 ≤ a1 ∧ a1 ≤ 9223372036854775807) (ha2 : -9223372036854775808 ≤ a2 ∧ a2 ≤ 9223372036854775807) : VC_LawColourOfSpot a0r a0sn a0s a0x a0y a0d a1 a2 (retP (.bool true)) := by
  unfold VC_LawColourOfSpot
  refine ⟨⟨by omega, by omega, ha0s.2, ha0r⟩, fun _ => (retP_lit _ _).2 rfl, fun hc => ?_⟩
  have hn := szP_n (of_decide_eq_false hc)
  have h3 : a0s.length = 3 * a0sn := by omega
  simp [retP_lit, h3, hn, Nat.mul_comm]
end Go.Vi
