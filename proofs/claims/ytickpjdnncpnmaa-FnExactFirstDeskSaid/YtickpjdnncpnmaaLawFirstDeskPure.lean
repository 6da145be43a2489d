/- The conditions of FnExactFirstDesk. -/
import Derived.Test.YtickpjdnncpnmaaDKPf
namespace Go.Vi
set_option linter.unusedVariables false
set_option linter.unusedSimpArgs false
def VC_LawFirstDesk (K:V → Prop):Prop:=
 At True∧
 ((!eqW { r := Array.toList #[(76:UInt8),(82:UInt8)],w := (3:Int),h := (3:Int),c := Array.toList #[(48:UInt8),(48:UInt8),(48:UInt8),(48:UInt8),(48:UInt8),(48:UInt8),(48:UInt8),(48:UInt8),(48:UInt8)],x := (1:Int),y := (1:Int),d := (0:Int) } { r := Array.toList #[(76:UInt8),(82:UInt8)],w := (3:Int),h := (3:Int),c := Array.toList #[(48:UInt8),(48:UInt8),(48:UInt8),(48:UInt8),(48:UInt8),(48:UInt8),(48:UInt8),(48:UInt8),(48:UInt8)],x := (1:Int),y := (1:Int),d := (0:Int) })=true→
 K (V.lit false))∧
 ((!eqW { r := Array.toList #[(76:UInt8),(82:UInt8)],w := (3:Int),h := (3:Int),c := Array.toList #[(48:UInt8),(48:UInt8),(48:UInt8),(48:UInt8),(48:UInt8),(48:UInt8),(48:UInt8),(48:UInt8),(48:UInt8)],x := (1:Int),y := (1:Int),d := (0:Int) } { r := Array.toList #[(76:UInt8),(82:UInt8)],w := (3:Int),h := (3:Int),c := Array.toList #[(48:UInt8),(48:UInt8),(48:UInt8),(48:UInt8),(48:UInt8),(48:UInt8),(48:UInt8),(48:UInt8),(48:UInt8)],x := (1:Int),y := (1:Int),d := (0:Int) })=false→
 At True∧
 ((!eqW { r := Array.toList #[(76:UInt8),(82:UInt8)],w := (3:Int),h := (3:Int),c := Array.toList #[(48:UInt8),(48:UInt8),(48:UInt8),(48:UInt8),(48:UInt8),(48:UInt8),(48:UInt8),(48:UInt8),(48:UInt8)],x := (1:Int),y := (1:Int),d := (0:Int) } { r := Array.toList #[(76:UInt8),(82:UInt8)],w := (3:Int),h := (3:Int),c := Array.toList #[(48:UInt8),(48:UInt8),(48:UInt8),(48:UInt8),(48:UInt8),(48:UInt8),(48:UInt8),(48:UInt8),(48:UInt8)],x := (1:Int),y := (1:Int),d := (0:Int) })=true→
 K (V.lit false))∧
 ((!eqW { r := Array.toList #[(76:UInt8),(82:UInt8)],w := (3:Int),h := (3:Int),c := Array.toList #[(48:UInt8),(48:UInt8),(48:UInt8),(48:UInt8),(48:UInt8),(48:UInt8),(48:UInt8),(48:UInt8),(48:UInt8)],x := (1:Int),y := (1:Int),d := (0:Int) } { r := Array.toList #[(76:UInt8),(82:UInt8)],w := (3:Int),h := (3:Int),c := Array.toList #[(48:UInt8),(48:UInt8),(48:UInt8),(48:UInt8),(48:UInt8),(48:UInt8),(48:UInt8),(48:UInt8),(48:UInt8)],x := (1:Int),y := (1:Int),d := (0:Int) })=false→
 ((!Array.toList #[(49:UInt8),(82:UInt8)]==Array.toList #[(49:UInt8),(82:UInt8)])=true→K (V.lit false))∧((!Array.toList #[(49:UInt8),(82:UInt8)]==Array.toList #[(49:UInt8),(82:UInt8)])=false→K (V.lit true))))
theorem vc_LawFirstDesk   : VC_LawFirstDesk  (retP (.bool true)) := by
  unfold VC_LawFirstDesk
  simp [eqW, retP_lit]
end Go.Vi
