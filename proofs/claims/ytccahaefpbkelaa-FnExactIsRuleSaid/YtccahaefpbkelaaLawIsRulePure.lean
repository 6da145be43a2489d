/- The conditions of FnExactIsRule. -/
import Derived.Test.YtccahaefpbkelaaRulePure
namespace Go.Vi
def VC_LawIsRule (s : List UInt8) (K : V → List Blk → Prop) : Prop :=
  (decide ((↑(List.length s) : Int) > (1048576 : Int)) = true → K (V.lit true) []) ∧
  (decide ((↑(List.length s) : Int) > (1048576 : Int)) = false →
    ((!ruleB s == ruleB s) = true → K (V.lit false) []) ∧ ((!ruleB s == ruleB s) = false → K (V.lit true) []))
theorem vc_LawIsRule (s : List UInt8) {a : ByteArray} (_h : a.size ≤ maxLen) : VC_LawIsRule s (retV (.bool true)) := by
  unfold VC_LawIsRule
  simp [retV_lit]
end Go.Vi
