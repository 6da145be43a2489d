/- The conditions of FnExactIsDesk. -/
import Derived.Test.YtickpjdnncpnmaaDKPf
namespace Go.Vi
set_option linter.unusedVariables false
set_option linter.unusedSimpArgs false
def VC_LawIsDesk (a0wRule:List UInt8)(a0wWidth:Int)(a0wHeight:Int)(a0wCells:List UInt8)(a0wX:Int)(a0wY:Int)(a0wWay:Int)(a0kRule:List UInt8)(a0kWidth:Int)(a0kHeight:Int)(a0kCells:List UInt8)(a0kX:Int)(a0kY:Int)(a0kWay:Int)(a0Program:List UInt8)(K:V → Prop):Prop:=
 At ((0:Int)≤(1048576:Int)∧(1048576:Int)≤(1000000000:Int)∧(↑(List.length a0wRule):Int)≤(9223372036854775807:Int)∧(↑(List.length a0wCells):Int)≤(9223372036854775807:Int))∧
 (decide (szW { r := a0wRule,w := a0wWidth,h := a0wHeight,c := a0wCells,x := a0wX,y := a0wY,d := a0wWay } (1048576:Int) < (0:Int))=true→(decide ((-1:Int) < (0:Int))=true→K (V.lit true))∧(decide ((-1:Int) < (0:Int))=false→
 At ((↑(List.length a0Program):Int)≤(9223372036854775807:Int))∧At ((↑(List.length a0Program):Int)≤(9223372036854775807:Int))∧
 ((!(goodB { r := a0wRule,w := a0wWidth,h := a0wHeight,c := a0wCells,x := a0wX,y := a0wY,d := a0wWay } && goodB { r := a0kRule,w := a0kWidth,h := a0kHeight,c := a0kCells,x := a0kX,y := a0kY,d := a0kWay } && progB a0Program)==(goodB { r := a0wRule,w := a0wWidth,h := a0wHeight,c := a0wCells,x := a0wX,y := a0wY,d := a0wWay } && goodB { r := a0kRule,w := a0kWidth,h := a0kHeight,c := a0kCells,x := a0kX,y := a0kY,d := a0kWay } && progB a0Program))=true→
 K (V.lit false))∧
 ((!(goodB { r := a0wRule,w := a0wWidth,h := a0wHeight,c := a0wCells,x := a0wX,y := a0wY,d := a0wWay } && goodB { r := a0kRule,w := a0kWidth,h := a0kHeight,c := a0kCells,x := a0kX,y := a0kY,d := a0kWay } && progB a0Program)==(goodB { r := a0wRule,w := a0wWidth,h := a0wHeight,c := a0wCells,x := a0wX,y := a0wY,d := a0wWay } && goodB { r := a0kRule,w := a0kWidth,h := a0kHeight,c := a0kCells,x := a0kX,y := a0kY,d := a0kWay } && progB a0Program))=false→
 K (V.lit true))))∧(decide (szW { r := a0wRule,w := a0wWidth,h := a0wHeight,c := a0wCells,x := a0wX,y := a0wY,d := a0wWay } (1048576:Int) < (0:Int))=false→
 At ((0:Int)≤szW { r := a0wRule,w := a0wWidth,h := a0wHeight,c := a0wCells,x := a0wX,y := a0wY,d := a0wWay } (1048576:Int)∧
 szW { r := a0wRule,w := a0wWidth,h := a0wHeight,c := a0wCells,x := a0wX,y := a0wY,d := a0wWay } (1048576:Int)≤(1000000000:Int)∧(↑(List.length a0kRule):Int)≤(9223372036854775807:Int)∧
 (↑(List.length a0kCells):Int)≤(9223372036854775807:Int))∧
 (decide (szW { r := a0kRule,w := a0kWidth,h := a0kHeight,c := a0kCells,x := a0kX,y := a0kY,d := a0kWay } (szW { r := a0wRule,w := a0wWidth,h := a0wHeight,c := a0wCells,x := a0wX,y := a0wY,d := a0wWay } (1048576:Int)) < (0:Int))=true→
 (decide ((-1:Int) < (0:Int))=true→K (V.lit true))∧(decide ((-1:Int) < (0:Int))=false→At ((↑(List.length a0Program):Int)≤(9223372036854775807:Int))∧At ((↑(List.length a0Program):Int)≤(9223372036854775807:Int))∧
 ((!(goodB { r := a0wRule,w := a0wWidth,h := a0wHeight,c := a0wCells,x := a0wX,y := a0wY,d := a0wWay } && goodB { r := a0kRule,w := a0kWidth,h := a0kHeight,c := a0kCells,x := a0kX,y := a0kY,d := a0kWay } && progB a0Program)==(goodB { r := a0wRule,w := a0wWidth,h := a0wHeight,c := a0wCells,x := a0wX,y := a0wY,d := a0wWay } && goodB { r := a0kRule,w := a0kWidth,h := a0kHeight,c := a0kCells,x := a0kX,y := a0kY,d := a0kWay } && progB a0Program))=true→
 K (V.lit false))∧
 ((!(goodB { r := a0wRule,w := a0wWidth,h := a0wHeight,c := a0wCells,x := a0wX,y := a0wY,d := a0wWay } && goodB { r := a0kRule,w := a0kWidth,h := a0kHeight,c := a0kCells,x := a0kX,y := a0kY,d := a0kWay } && progB a0Program)==(goodB { r := a0wRule,w := a0wWidth,h := a0wHeight,c := a0wCells,x := a0wX,y := a0wY,d := a0wWay } && goodB { r := a0kRule,w := a0kWidth,h := a0kHeight,c := a0kCells,x := a0kX,y := a0kY,d := a0kWay } && progB a0Program))=false→
 K (V.lit true))))∧
 (decide (szW { r := a0kRule,w := a0kWidth,h := a0kHeight,c := a0kCells,x := a0kX,y := a0kY,d := a0kWay } (szW { r := a0wRule,w := a0wWidth,h := a0wHeight,c := a0wCells,x := a0wX,y := a0wY,d := a0wWay } (1048576:Int)) < (0:Int))=false→
 (decide (IntKind.wrap .i64 (szW { r := a0kRule,w := a0kWidth,h := a0kHeight,c := a0kCells,x := a0kX,y := a0kY,d := a0kWay } (szW { r := a0wRule,w := a0wWidth,h := a0wHeight,c := a0wCells,x := a0wX,y := a0wY,d := a0wWay } (1048576:Int)) - (↑(List.length a0Program):Int)) < (0:Int))=true→
 (decide ((-1:Int) < (0:Int))=true→K (V.lit true))∧(decide ((-1:Int) < (0:Int))=false→At ((↑(List.length a0Program):Int)≤(9223372036854775807:Int))∧At ((↑(List.length a0Program):Int)≤(9223372036854775807:Int))∧
 ((!(goodB { r := a0wRule,w := a0wWidth,h := a0wHeight,c := a0wCells,x := a0wX,y := a0wY,d := a0wWay } && goodB { r := a0kRule,w := a0kWidth,h := a0kHeight,c := a0kCells,x := a0kX,y := a0kY,d := a0kWay } && progB a0Program)==(goodB { r := a0wRule,w := a0wWidth,h := a0wHeight,c := a0wCells,x := a0wX,y := a0wY,d := a0wWay } && goodB { r := a0kRule,w := a0kWidth,h := a0kHeight,c := a0kCells,x := a0kX,y := a0kY,d := a0kWay } && progB a0Program))=true→
 K (V.lit false))∧
 ((!(goodB { r := a0wRule,w := a0wWidth,h := a0wHeight,c := a0wCells,x := a0wX,y := a0wY,d := a0wWay } && goodB { r := a0kRule,w := a0kWidth,h := a0kHeight,c := a0kCells,x := a0kX,y := a0kY,d := a0kWay } && progB a0Program)==(goodB { r := a0wRule,w := a0wWidth,h := a0wHeight,c := a0wCells,x := a0wX,y := a0wY,d := a0wWay } && goodB { r := a0kRule,w := a0kWidth,h := a0kHeight,c := a0kCells,x := a0kX,y := a0kY,d := a0kWay } && progB a0Program))=false→
 K (V.lit true))))∧
 (decide (IntKind.wrap .i64 (szW { r := a0kRule,w := a0kWidth,h := a0kHeight,c := a0kCells,x := a0kX,y := a0kY,d := a0kWay } (szW { r := a0wRule,w := a0wWidth,h := a0wHeight,c := a0wCells,x := a0wX,y := a0wY,d := a0wWay } (1048576:Int)) - (↑(List.length a0Program):Int)) < (0:Int))=false→
 (decide (IntKind.wrap .i64 (szW { r := a0kRule,w := a0kWidth,h := a0kHeight,c := a0kCells,x := a0kX,y := a0kY,d := a0kWay } (szW { r := a0wRule,w := a0wWidth,h := a0wHeight,c := a0wCells,x := a0wX,y := a0wY,d := a0wWay } (1048576:Int)) - (↑(List.length a0Program):Int)) < (0:Int))=true→
 K (V.lit true))∧
 (decide (IntKind.wrap .i64 (szW { r := a0kRule,w := a0kWidth,h := a0kHeight,c := a0kCells,x := a0kX,y := a0kY,d := a0kWay } (szW { r := a0wRule,w := a0wWidth,h := a0wHeight,c := a0wCells,x := a0wX,y := a0wY,d := a0wWay } (1048576:Int)) - (↑(List.length a0Program):Int)) < (0:Int))=false→
 At ((↑(List.length a0Program):Int)≤(9223372036854775807:Int))∧At ((↑(List.length a0Program):Int)≤(9223372036854775807:Int))∧
 ((!(goodB { r := a0wRule,w := a0wWidth,h := a0wHeight,c := a0wCells,x := a0wX,y := a0wY,d := a0wWay } && goodB { r := a0kRule,w := a0kWidth,h := a0kHeight,c := a0kCells,x := a0kX,y := a0kY,d := a0kWay } && progB a0Program)==(goodB { r := a0wRule,w := a0wWidth,h := a0wHeight,c := a0wCells,x := a0wX,y := a0wY,d := a0wWay } && goodB { r := a0kRule,w := a0kWidth,h := a0kHeight,c := a0kCells,x := a0kX,y := a0kY,d := a0kWay } && progB a0Program))=true→
 K (V.lit false))∧
 ((!(goodB { r := a0wRule,w := a0wWidth,h := a0wHeight,c := a0wCells,x := a0wX,y := a0wY,d := a0wWay } && goodB { r := a0kRule,w := a0kWidth,h := a0kHeight,c := a0kCells,x := a0kX,y := a0kY,d := a0kWay } && progB a0Program)==(goodB { r := a0wRule,w := a0wWidth,h := a0wHeight,c := a0wCells,x := a0wX,y := a0wY,d := a0wWay } && goodB { r := a0kRule,w := a0kWidth,h := a0kHeight,c := a0kCells,x := a0kX,y := a0kY,d := a0kWay } && progB a0Program))=false→
 K (V.lit true))))))
theorem vc_LawIsDesk (a0wRule : List UInt8) (a0wWidth : Int) (a0wHeight : Int) (a0wCells : List UInt8) (a0wX : Int) (a0wY : Int) (a0wWay : Int) (a0kRule : List UInt8) (a0kWidth : Int) (a0kHeight : Int) (a0kCells : List UInt8) (a0kX : Int) (a0kY : Int) (a0kWay : Int) (a0Program : List UInt8) (ha0wRule : (a0wRule.length : Int) ≤ 9223372036854775807) (ha0wWidth : -9223372036854775808 ≤ a0wWidth ∧ a0wWidth ≤ 9223372036854775807) (ha0wHeight : -9223372036854775808 ≤ a0wHeight ∧ a0wHeight ≤ 9223372036854775807) (ha0wCells : (a0wCells.length : Int) ≤ 9223372036854775807) (ha0wX : -9223372036854775808 ≤ a0wX ∧ a0wX ≤ 9223372036854775807) (ha0wY : -9223372036854775808 ≤ a0wY ∧ a0wY ≤ 9223372036854775807) (ha0wWay : -9223372036854775808 ≤ a0wWay ∧ a0wWay ≤ 9223372036854775807) (ha0kRule : (a0kRule.length : Int) ≤ 9223372036854775807) (ha0kWidth : -9223372036854775808 ≤ a0kWidth ∧ a0kWidth ≤ 9223372036854775807) (ha0kHeight : -9223372036854775808 ≤ a0kHeight ∧ a0kHeight ≤ 9223372036854775807) (ha0kCells : (a0kCells.length : Int) ≤ 9223372036854775807) (ha0kX : -9223372036854775808 ≤ a0kX ∧ a0kX ≤ 9223372036854775807) (ha0kY : -9223372036854775808 ≤ a0kY ∧ a0kY ≤ 9223372036854775807) (ha0kWay : -9223372036854775808 ≤ a0kWay ∧ a0kWay ≤ 9223372036854775807) (ha0Program : (a0Program.length : Int) ≤ 9223372036854775807) : VC_LawIsDesk a0wRule a0wWidth a0wHeight a0wCells a0wX a0wY a0wWay a0kRule a0kWidth a0kHeight a0kCells a0kX a0kY a0kWay a0Program (retP (.bool true)) := by
  unfold VC_LawIsDesk
  have sl : ∀ (w : Wd) (u : Int), 0 ≤ u → szW w u ≤ u := by
    intro w u hu
    unfold szW
    cases decide (u - (w.r.length : Int) < 0)
    · cases decide (u - (w.r.length : Int) - (w.c.length : Int) < 0) <;> simp only [cond_true, cond_false] <;> omega
    · simp only [cond_true]
      omega
  have e1 := sl ⟨a0wRule, a0wWidth, a0wHeight, a0wCells, a0wX, a0wY, a0wWay⟩ 1048576 (by omega)
  generalize szW ⟨a0wRule, a0wWidth, a0wHeight, a0wCells, a0wX, a0wY, a0wWay⟩ 1048576 = u at e1 ⊢
  generalize szW ⟨a0kRule, a0kWidth, a0kHeight, a0kCells, a0kX, a0kY, a0kWay⟩ u = v
  generalize (goodB ⟨a0wRule, a0wWidth, a0wHeight, a0wCells, a0wX, a0wY, a0wWay⟩ && goodB ⟨a0kRule, a0kWidth, a0kHeight, a0kCells, a0kX, a0kY, a0kWay⟩ && progB a0Program) = g
  simp [retP_lit, ha0wRule, ha0wCells, ha0kRule, ha0kCells, ha0Program]
  try omega
end Go.Vi
