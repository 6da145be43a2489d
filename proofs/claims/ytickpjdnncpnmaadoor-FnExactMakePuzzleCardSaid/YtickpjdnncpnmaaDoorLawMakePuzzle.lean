import Derived.Test.YtickpjdnncpnmaaDoorPMPf
import Derived.Test.YtickpjdnncpnmaaDoorCards
import Derived.Test.YtickpjdnncpnmaaDoorTie
import Derived.LaidMore
import Derived.Lay
import Derived.Test.YtickpjdnncpnmaaDoorRows
import Derived.WalkKit
import Derived.ProofKit
import Derived.OpenShut
import Derived.ShutString
import Derived.ChangeOld
import Derived.Below
import Derived.Test.YtickpjdnncpnmaaDoorPMOk
import Derived.Test.YtickpjdnncpnmaaDoorVih
/- The conditions of FnExactMakePuzzle. -/
namespace Go.Vi
set_option linter.unusedVariables false
set_option linter.unusedSimpArgs false
def VC_LawMakePuzzle (a0r:List UInt8)(a0w:Int)(a0h:Int)(a0c:List UInt8)(a0x:Int)(a0y:Int)(a0d:Int)(a1:Int)(a2:Int)(K:V → Prop):Prop:=
 At ((0:Int)≤(1048576:Int)∧(1048576:Int)≤(1000000000:Int)∧(↑(List.length a0r):Int)≤(9223372036854775807:Int)∧(↑(List.length a0c):Int)≤(9223372036854775807:Int))∧
 (decide (szW { r := a0r,w := a0w,h := a0h,c := a0c,x := a0x,y := a0y,d := a0d } (1048576:Int) < (0:Int))=true→K (V.lit true))∧
 (decide (szW { r := a0r,w := a0w,h := a0h,c := a0c,x := a0x,y := a0y,d := a0d } (1048576:Int) < (0:Int))=false→At True∧At True∧
 At (List.length (pmB { r := a0r,w := a0w,h := a0h,c := a0c,x := a0x,y := a0y,d := a0d } a1 a2)=(3:Nat) * pmL { r := a0r,w := a0w,h := a0h,c := a0c,x := a0x,y := a0y,d := a0d } a1 a2∧
 List.length (pmB { r := a0r,w := a0w,h := a0h,c := a0c,x := a0x,y := a0y,d := a0d } a1 a2)=(3:Nat) * pmL { r := a0r,w := a0w,h := a0h,c := a0c,x := a0x,y := a0y,d := a0d } a1 a2∧
 pmL { r := a0r,w := a0w,h := a0h,c := a0c,x := a0x,y := a0y,d := a0d } a1 a2≤(2000000:Nat)∧pmL { r := a0r,w := a0w,h := a0h,c := a0c,x := a0x,y := a0y,d := a0d } a1 a2≤(2000000:Nat))∧
 ((!(pmR { r := a0r,w := a0w,h := a0h,c := a0c,x := a0x,y := a0y,d := a0d } a1 a2==pmR { r := a0r,w := a0w,h := a0h,c := a0c,x := a0x,y := a0y,d := a0d } a1 a2 && pmB { r := a0r,w := a0w,h := a0h,c := a0c,x := a0x,y := a0y,d := a0d } a1 a2==pmB { r := a0r,w := a0w,h := a0h,c := a0c,x := a0x,y := a0y,d := a0d } a1 a2 && pmW { r := a0r,w := a0w,h := a0h,c := a0c,x := a0x,y := a0y,d := a0d } a1 a2==pmW { r := a0r,w := a0w,h := a0h,c := a0c,x := a0x,y := a0y,d := a0d } a1 a2 && pmH { r := a0r,w := a0w,h := a0h,c := a0c,x := a0x,y := a0y,d := a0d } a1 a2==pmH { r := a0r,w := a0w,h := a0h,c := a0c,x := a0x,y := a0y,d := a0d } a1 a2))=true→
 K (V.lit false))∧
 ((!(pmR { r := a0r,w := a0w,h := a0h,c := a0c,x := a0x,y := a0y,d := a0d } a1 a2==pmR { r := a0r,w := a0w,h := a0h,c := a0c,x := a0x,y := a0y,d := a0d } a1 a2 && pmB { r := a0r,w := a0w,h := a0h,c := a0c,x := a0x,y := a0y,d := a0d } a1 a2==pmB { r := a0r,w := a0w,h := a0h,c := a0c,x := a0x,y := a0y,d := a0d } a1 a2 && pmW { r := a0r,w := a0w,h := a0h,c := a0c,x := a0x,y := a0y,d := a0d } a1 a2==pmW { r := a0r,w := a0w,h := a0h,c := a0c,x := a0x,y := a0y,d := a0d } a1 a2 && pmH { r := a0r,w := a0w,h := a0h,c := a0c,x := a0x,y := a0y,d := a0d } a1 a2==pmH { r := a0r,w := a0w,h := a0h,c := a0c,x := a0x,y := a0y,d := a0d } a1 a2))=false→
 ((!pmG { r := a0r,w := a0w,h := a0h,c := a0c,x := a0x,y := a0y,d := a0d } a1 a2==pmG { r := a0r,w := a0w,h := a0h,c := a0c,x := a0x,y := a0y,d := a0d } a1 a2)=true→K (V.lit false))∧
 ((!pmG { r := a0r,w := a0w,h := a0h,c := a0c,x := a0x,y := a0y,d := a0d } a1 a2==pmG { r := a0r,w := a0w,h := a0h,c := a0c,x := a0x,y := a0y,d := a0d } a1 a2)=false→
 At (List.length (pmB { r := a0r,w := a0w,h := a0h,c := a0c,x := a0x,y := a0y,d := a0d } a1 a2)=(3:Nat) * pmL { r := a0r,w := a0w,h := a0h,c := a0c,x := a0x,y := a0y,d := a0d } a1 a2∧
 pmL { r := a0r,w := a0w,h := a0h,c := a0c,x := a0x,y := a0y,d := a0d } a1 a2≤(2000000:Nat)∧(0:Int)≤(1:Int)∧(1:Int)≤(1000:Int))∧
 At (List.length (ramp (1:Int) ((3:Nat) * pmL { r := a0r,w := a0w,h := a0h,c := a0c,x := a0x,y := a0y,d := a0d } a1 a2))=(3:Nat) * pmL { r := a0r,w := a0w,h := a0h,c := a0c,x := a0x,y := a0y,d := a0d } a1 a2∧
 pmL { r := a0r,w := a0w,h := a0h,c := a0c,x := a0x,y := a0y,d := a0d } a1 a2≤(2000000:Nat)∧(0:Int)≤(1:Int)∧(1:Int)≤(1000:Int))∧
 (decide ((bif ramp (1:Int) ((3:Nat) * pmL { r := a0r,w := a0w,h := a0h,c := a0c,x := a0x,y := a0y,d := a0d } a1 a2)==ramp (1:Int) ((3:Nat) * pmL { r := a0r,w := a0w,h := a0h,c := a0c,x := a0x,y := a0y,d := a0d } a1 a2) then (1:Int) + (↑((3:Nat) * pmL { r := a0r,w := a0w,h := a0h,c := a0c,x := a0x,y := a0y,d := a0d } a1 a2):Int) else (-1:Int)) < (0:Int))=true→
 K (V.lit false))∧
 (decide ((bif ramp (1:Int) ((3:Nat) * pmL { r := a0r,w := a0w,h := a0h,c := a0c,x := a0x,y := a0y,d := a0d } a1 a2)==ramp (1:Int) ((3:Nat) * pmL { r := a0r,w := a0w,h := a0h,c := a0c,x := a0x,y := a0y,d := a0d } a1 a2) then (1:Int) + (↑((3:Nat) * pmL { r := a0r,w := a0w,h := a0h,c := a0c,x := a0x,y := a0y,d := a0d } a1 a2):Int) else (-1:Int)) < (0:Int))=false→
 (((bif ramp (1:Int) ((3:Nat) * pmL { r := a0r,w := a0w,h := a0h,c := a0c,x := a0x,y := a0y,d := a0d } a1 a2)==ramp (1:Int) ((3:Nat) * pmL { r := a0r,w := a0w,h := a0h,c := a0c,x := a0x,y := a0y,d := a0d } a1 a2) then (1:Int) + (↑((3:Nat) * pmL { r := a0r,w := a0w,h := a0h,c := a0c,x := a0x,y := a0y,d := a0d } a1 a2):Int) else (-1:Int)) != (1:Int) + (↑((3:Nat) * pmL { r := a0r,w := a0w,h := a0h,c := a0c,x := a0x,y := a0y,d := a0d } a1 a2):Int))=true→
 K (V.lit false))∧
 (((bif ramp (1:Int) ((3:Nat) * pmL { r := a0r,w := a0w,h := a0h,c := a0c,x := a0x,y := a0y,d := a0d } a1 a2)==ramp (1:Int) ((3:Nat) * pmL { r := a0r,w := a0w,h := a0h,c := a0c,x := a0x,y := a0y,d := a0d } a1 a2) then (1:Int) + (↑((3:Nat) * pmL { r := a0r,w := a0w,h := a0h,c := a0c,x := a0x,y := a0y,d := a0d } a1 a2):Int) else (-1:Int)) != (1:Int) + (↑((3:Nat) * pmL { r := a0r,w := a0w,h := a0h,c := a0c,x := a0x,y := a0y,d := a0d } a1 a2):Int))=false→
 At True∧At (List.length (pmB { r := a0r,w := a0w,h := a0h,c := a0c,x := a0x,y := a0y,d := a0d } a1 a2)=(3:Nat) * pmL { r := a0r,w := a0w,h := a0h,c := a0c,x := a0x,y := a0y,d := a0d } a1 a2∧
 List.length (pmB { r := a0r,w := a0w,h := a0h,c := a0c,x := a0x,y := a0y,d := a0d } a1 a2)=(3:Nat) * pmL { r := a0r,w := a0w,h := a0h,c := a0c,x := a0x,y := a0y,d := a0d } a1 a2∧
 pmL { r := a0r,w := a0w,h := a0h,c := a0c,x := a0x,y := a0y,d := a0d } a1 a2≤(2000000:Nat)∧pmL { r := a0r,w := a0w,h := a0h,c := a0c,x := a0x,y := a0y,d := a0d } a1 a2≤(2000000:Nat))∧
 ((!(pmR { r := a0r,w := a0w,h := a0h,c := a0c,x := a0x,y := a0y,d := a0d } a1 a2==pmR { r := a0r,w := a0w,h := a0h,c := a0c,x := a0x,y := a0y,d := a0d } a1 a2 && pmB { r := a0r,w := a0w,h := a0h,c := a0c,x := a0x,y := a0y,d := a0d } a1 a2==pmB { r := a0r,w := a0w,h := a0h,c := a0c,x := a0x,y := a0y,d := a0d } a1 a2 && pmW { r := a0r,w := a0w,h := a0h,c := a0c,x := a0x,y := a0y,d := a0d } a1 a2==pmW { r := a0r,w := a0w,h := a0h,c := a0c,x := a0x,y := a0y,d := a0d } a1 a2 && pmH { r := a0r,w := a0w,h := a0h,c := a0c,x := a0x,y := a0y,d := a0d } a1 a2==pmH { r := a0r,w := a0w,h := a0h,c := a0c,x := a0x,y := a0y,d := a0d } a1 a2))=true→
 K (V.lit false))∧
 ((!(pmR { r := a0r,w := a0w,h := a0h,c := a0c,x := a0x,y := a0y,d := a0d } a1 a2==pmR { r := a0r,w := a0w,h := a0h,c := a0c,x := a0x,y := a0y,d := a0d } a1 a2 && pmB { r := a0r,w := a0w,h := a0h,c := a0c,x := a0x,y := a0y,d := a0d } a1 a2==pmB { r := a0r,w := a0w,h := a0h,c := a0c,x := a0x,y := a0y,d := a0d } a1 a2 && pmW { r := a0r,w := a0w,h := a0h,c := a0c,x := a0x,y := a0y,d := a0d } a1 a2==pmW { r := a0r,w := a0w,h := a0h,c := a0c,x := a0x,y := a0y,d := a0d } a1 a2 && pmH { r := a0r,w := a0w,h := a0h,c := a0c,x := a0x,y := a0y,d := a0d } a1 a2==pmH { r := a0r,w := a0w,h := a0h,c := a0c,x := a0x,y := a0y,d := a0d } a1 a2))=false→
 ((!pmG { r := a0r,w := a0w,h := a0h,c := a0c,x := a0x,y := a0y,d := a0d } a1 a2==pmG { r := a0r,w := a0w,h := a0h,c := a0c,x := a0x,y := a0y,d := a0d } a1 a2)=true→K (V.lit false))∧
 ((!pmG { r := a0r,w := a0w,h := a0h,c := a0c,x := a0x,y := a0y,d := a0d } a1 a2==pmG { r := a0r,w := a0w,h := a0h,c := a0c,x := a0x,y := a0y,d := a0d } a1 a2)=false→
 At (List.length (ramp (1:Int) ((3:Nat) * pmL { r := a0r,w := a0w,h := a0h,c := a0c,x := a0x,y := a0y,d := a0d } a1 a2))=(3:Nat) * pmL { r := a0r,w := a0w,h := a0h,c := a0c,x := a0x,y := a0y,d := a0d } a1 a2∧
 pmL { r := a0r,w := a0w,h := a0h,c := a0c,x := a0x,y := a0y,d := a0d } a1 a2≤(2000000:Nat)∧(0:Int)≤(1:Int)∧(1:Int)≤(1000:Int))∧
 (decide ((bif ramp (1:Int) ((3:Nat) * pmL { r := a0r,w := a0w,h := a0h,c := a0c,x := a0x,y := a0y,d := a0d } a1 a2)==ramp (1:Int) ((3:Nat) * pmL { r := a0r,w := a0w,h := a0h,c := a0c,x := a0x,y := a0y,d := a0d } a1 a2) then (1:Int) + (↑((3:Nat) * pmL { r := a0r,w := a0w,h := a0h,c := a0c,x := a0x,y := a0y,d := a0d } a1 a2):Int) else (-1:Int)) < (0:Int))=true→
 K (V.lit false))∧
 (decide ((bif ramp (1:Int) ((3:Nat) * pmL { r := a0r,w := a0w,h := a0h,c := a0c,x := a0x,y := a0y,d := a0d } a1 a2)==ramp (1:Int) ((3:Nat) * pmL { r := a0r,w := a0w,h := a0h,c := a0c,x := a0x,y := a0y,d := a0d } a1 a2) then (1:Int) + (↑((3:Nat) * pmL { r := a0r,w := a0w,h := a0h,c := a0c,x := a0x,y := a0y,d := a0d } a1 a2):Int) else (-1:Int)) < (0:Int))=false→
 (((bif ramp (1:Int) ((3:Nat) * pmL { r := a0r,w := a0w,h := a0h,c := a0c,x := a0x,y := a0y,d := a0d } a1 a2)==ramp (1:Int) ((3:Nat) * pmL { r := a0r,w := a0w,h := a0h,c := a0c,x := a0x,y := a0y,d := a0d } a1 a2) then (1:Int) + (↑((3:Nat) * pmL { r := a0r,w := a0w,h := a0h,c := a0c,x := a0x,y := a0y,d := a0d } a1 a2):Int) else (-1:Int)) != (1:Int) + (↑((3:Nat) * pmL { r := a0r,w := a0w,h := a0h,c := a0c,x := a0x,y := a0y,d := a0d } a1 a2):Int))=true→
 K (V.lit false))∧
 (((bif ramp (1:Int) ((3:Nat) * pmL { r := a0r,w := a0w,h := a0h,c := a0c,x := a0x,y := a0y,d := a0d } a1 a2)==ramp (1:Int) ((3:Nat) * pmL { r := a0r,w := a0w,h := a0h,c := a0c,x := a0x,y := a0y,d := a0d } a1 a2) then (1:Int) + (↑((3:Nat) * pmL { r := a0r,w := a0w,h := a0h,c := a0c,x := a0x,y := a0y,d := a0d } a1 a2):Int) else (-1:Int)) != (1:Int) + (↑((3:Nat) * pmL { r := a0r,w := a0w,h := a0h,c := a0c,x := a0x,y := a0y,d := a0d } a1 a2):Int))=false→
 K (V.lit true))))))))))
theorem vc_LawMakePuzzle (a0r : List UInt8) (a0w : Int) (a0h : Int) (a0c : List UInt8) (a0x : Int) (a0y : Int) (a0d : Int) (a1 : Int) (a2 : Int) (ha0r : (a0r.length : Int) ≤ 9223372036854775807) (ha0w : -9223372036854775808 ≤ a0w ∧ a0w ≤ 9223372036854775807) (ha0h : -9223372036854775808 ≤ a0h ∧ a0h ≤ 9223372036854775807) (ha0c : (a0c.length : Int) ≤ 9223372036854775807) (ha0x : -9223372036854775808 ≤ a0x ∧ a0x ≤ 9223372036854775807) (ha0y : -9223372036854775808 ≤ a0y ∧ a0y ≤ 9223372036854775807) (ha0d : -9223372036854775808 ≤ a0d ∧ a0d ≤ 9223372036854775807) (ha1 : -9223372036854775808 ≤ a1 ∧ a1 ≤ 9223372036854775807) (ha2 : -9223372036854775808 ≤ a2 ∧ a2 ≤ 9223372036854775807) : VC_LawMakePuzzle a0r a0w a0h a0c a0x a0y a0d a1 a2 (retP (.bool true)) := by
  unfold VC_LawMakePuzzle
  refine ⟨⟨by omega, by omega, ha0r, ha0c⟩, fun _ => (retP_lit _ _).2 rfl, fun _ => ?_⟩
  have hl : (pmB ⟨a0r, a0w, a0h, a0c, a0x, a0y, a0d⟩ a1 a2).length = 3 * pmL ⟨a0r, a0w, a0h, a0c, a0x, a0y, a0d⟩ a1 a2 := by
    unfold pmB pmL
    cases pmG ⟨a0r, a0w, a0h, a0c, a0x, a0y, a0d⟩ a1 a2
    · rfl
    · simp only [cond_true, pmS_len]
      omega
  have hl2 : pmL ⟨a0r, a0w, a0h, a0c, a0x, a0y, a0d⟩ a1 a2 ≤ 2000000 := by
    unfold pmL
    cases hg : pmG ⟨a0r, a0w, a0h, a0c, a0x, a0y, a0d⟩ a1 a2
    · simp
    · have := (pmG_in hg).2.1
      simp only [cond_true]
      omega
  generalize pmB ⟨a0r, a0w, a0h, a0c, a0x, a0y, a0d⟩ a1 a2 = L at hl ⊢
  generalize pmL ⟨a0r, a0w, a0h, a0c, a0x, a0y, a0d⟩ a1 a2 = N at hl hl2 ⊢
  simp [retP_lit, hl, hl2, ramp_len]
  try omega
end Go.Vi

/- FnExactMakePuzzle: for every input the law returns true, and each argument reads as it did. No condition. -/
namespace Go.Proofs.YtickpjdnncpnmaaDoor.lawMakePuzzle
open Go Go.Vi
open Go.ChangeShapes Go.WideShapes Go.ChangeAt Go.RowKit
open Go.ChangeMaps (open_string shut_string)
set_option linter.unusedVariables false

theorem own : ownKnob Tryd.prog.godebug = none := by kernel_rfl
theorem laidOut : laidOutB Tryd.prog = true := by kernel_rfl

theorem eq_law (a0r : List UInt8) (a0w : Int) (a0h : Int) (a0c : List UInt8) (a0x : Int) (a0y : Int) (a0d : Int) (a1 : Int) (a2 : Int) (K : V -> Prop) : VC_LawMakePuzzle a0r a0w a0h a0c a0x a0y a0d a1 a2 K = vin Tryd.prog TPM annTPM 6 9 [.agg [.str a0r, .int .i64 a0w, .int .i64 a0h, .str a0c, .int .i64 a0x, .int .i64 a0y, .int .i64 a0d], .int .i64 a1, .int .i64 a2] [] (fun v _ => K v) := by kernel_rfl
theorem walk (a0r : ByteArray) (a0w : Int) (a0h : Int) (a0c : ByteArray) (a0x : Int) (a0y : Int) (a0d : Int) (a1 : Int) (a2 : Int) (ha0r : a0r.size <= maxLen) (ha0w : (Lit.int .i64 a0w).wf = true) (ha0h : (Lit.int .i64 a0h).wf = true) (ha0c : a0c.size <= maxLen) (ha0x : (Lit.int .i64 a0x).wf = true) (ha0y : (Lit.int .i64 a0y).wf = true) (ha0d : (Lit.int .i64 a0d).wf = true) (ha1 : (Lit.int .i64 a1).wf = true) (ha2 : (Lit.int .i64 a2).wf = true) (w : World) :
  Calls Tryd.prog 9 #[.agg #[.string a0r, .int .i64 a0w, .int .i64 a0h, .string a0c, .int .i64 a0x, .int .i64 a0y, .int .i64 a0d], .int .i64 a1, .int .i64 a2] w fun e w' => e = .returned (.bool true) /\ Below w.heap.size w w' := by
 have hv := (congrArg At (eq_law a0r.data.toList a0w a0h a0c.data.toList a0x a0y a0d a1 a2 (retP (.bool true)))).mp ⟨vc_LawMakePuzzle a0r.data.toList a0w a0h a0c.data.toList a0x a0y a0d a1 a2 (str_bd ha0r) (wf_i64_bd ha0w) (wf_i64_bd ha0h) (str_bd ha0c) (wf_i64_bd ha0x) (wf_i64_bd ha0y) (wf_i64_bd ha0d) (wf_i64_bd ha1) (wf_i64_bd ha2)⟩
 have hr : RepL [] [.agg [.str a0r.data.toList, .int .i64 a0w, .int .i64 a0h, .str a0c.data.toList, .int .i64 a0x, .int .i64 a0y, .int .i64 a0d], .int .i64 a1, .int .i64 a2] [.agg #[.string a0r, .int .i64 a0w, .int .i64 a0h, .string a0c, .int .i64 a0x, .int .i64 a0y, .int .i64 a0d], .int .i64 a1, .int .i64 a2] := by simp [RepL, Rep, ofL_data]
 have hc := OK.call (vin_ok TPM_ok annTPM 6 9) hv hr w
 exact hc.mono fun e w' ⟨v, m', ρ', x, he, hk, hr, hb⟩ => ⟨by rw [he, bool_true hr hk], hb⟩

theorem door_met (os : Os) (args : Array Value) : laidMetH Tryd.prog Rows.fnExactMakePuzzleRow.laid ((World.laidAll Tryd.prog os Rows.fnExactMakePuzzleRow.laid).forCall (fun _ _ => 0) ⟨#[], args, []⟩).memory := by
 rw [MakeChecks.laidMetH_plain _ _ _ (by kernel_rfl)]
 exact laidMet_laidAll _ (by kernel_rfl) (by kernel_rfl)
set_option maxRecDepth 100000 in
theorem lifted (os : Os) (started : os.Started) (H : Type) (enc : TypeId × Value -> H) :
  ReturnsInHanded {} Tryd.checked os 9 .any (fun w args => (Rows.fnExactMakePuzzleSpec.pre enc Tryd.prog Tryd.f9 Rows.fnExactMakePuzzleRow.domain false w args /\ laidMetH Tryd.prog Rows.fnExactMakePuzzleRow.laid w) /\ sizedMet enc Tryd.prog Tryd.f9 (OpenSpec.ofChange Rows.fnExactMakePuzzleSpec) false w args) (Rows.fnExactMakePuzzleSpec.post enc Tryd.prog Tryd.f9 false true false false) := by
 refine returnsInHanded_of_change_and (C := Tryd.checked) (X := fun w _ => laidMetH Tryd.prog Rows.fnExactMakePuzzleRow.laid w) (fun _ _ _ hh h => h.of_heap hh) own started (by kernel_rfl) Tryd.func9
  (ChangeSpec.witness_shaped (enc := enc) (C := Tryd.checked) (os := os) (X := fun w _ => laidMetH Tryd.prog Rows.fnExactMakePuzzleRow.laid w) false (World.laidAll Tryd.prog os Rows.fnExactMakePuzzleRow.laid) #[.agg #[.string ByteArray.empty, .int .i64 0, .int .i64 0, .string ByteArray.empty, .int .i64 0, .int .i64 0, .int .i64 0], .int .i64 0, .int .i64 0] 8 (World.laidAll_os _ _ _) (World.shaped_of_ZipB (by kernel_rfl) (by kernel_rfl)) (by kernel_rfl) (by kernel_rfl) (by kernel_rfl) (door_met os _)) ?_
 intro W base args ds gs before hval0 hW hcnd _ hL _
 have hval : ∀ (j : Nat) t v, Tryd.f9.params[j]? = some t -> args[j]? = some v -> Value.okWide Tryd.prog W .any base t v := hval0
 have hW' := hW
 obtain ⟨p, q, hA0, hV, rfl, hfz, hnd⟩ := hW
 have hA : DataW.TrodAll enc Tryd.prog W 0 (fun _ => true) true Tryd.f9.params.toList args.toList ds p := hA0
 rw [Tryd.params9] at hA hval
 obtain ⟨v0, vs0, d0, ds0, p0, q0, hargs, rfl, rfl, h0, r0⟩ := trodAll_cons hA
 obtain ⟨v1, vs1, d1, ds1, p1, q1, rfl, rfl, rfl, h1, r1⟩ := trodAll_cons r0
 obtain ⟨v2, vs2, d2, ds2, p2, q2, rfl, rfl, rfl, h2, r2⟩ := trodAll_cons r1
 obtain ⟨rfl, rfl, rfl⟩ := trodAll_nil r2
 obtain rfl : args = #[v0, v1, v2] := by cases args; simp_all
 obtain ⟨rfl, rfl⟩ := trodVars_none hV
 have k0 := h0
 have lt0 : ∀ x ∈ p0, x.block < W.heap.size := by obtain ⟨m, hm⟩ := k0; exact DataW.trod_lt m _ _ _ hm
 obtain ⟨cs0, e0, l0, g0⟩ := struct_cells Tryd.underlying50 (by kernel_rfl) (by kernel_rfl) (hval 0 50 v0 rfl rfl) h0
 obtain ⟨a0r, c0_0, ha0r⟩ := cell_string Tryd.underlying9 (g0 0 _ rfl)
 obtain ⟨a0w, c0_1, ha0w⟩ := cell_int Tryd.underlying3 (g0 1 _ rfl)
 obtain ⟨a0h, c0_2, ha0h⟩ := cell_int Tryd.underlying3 (g0 2 _ rfl)
 obtain ⟨a0c, c0_3, ha0c⟩ := cell_string Tryd.underlying9 (g0 3 _ rfl)
 obtain ⟨a0x, c0_4, ha0x⟩ := cell_int Tryd.underlying3 (g0 4 _ rfl)
 obtain ⟨a0y, c0_5, ha0y⟩ := cell_int Tryd.underlying3 (g0 5 _ rfl)
 obtain ⟨a0d, c0_6, ha0d⟩ := cell_int Tryd.underlying3 (g0 6 _ rfl)
 obtain rfl := list_of7 l0 c0_0 c0_1 c0_2 c0_3 c0_4 c0_5 c0_6
 subst e0
 have k1 := h1
 have lt1 : ∀ x ∈ p1, x.block < W.heap.size := by obtain ⟨m, hm⟩ := k1; exact DataW.trod_lt m _ _ _ hm
 obtain ⟨a1, rfl, _, _, ha1⟩ := open_int Tryd.underlying3 (hval 1 3 v1 rfl rfl) h1
 have k2 := h2
 have lt2 : ∀ x ∈ p2, x.block < W.heap.size := by obtain ⟨m, hm⟩ := k2; exact DataW.trod_lt m _ _ _ hm
 obtain ⟨a2, rfl, _, _, ha2⟩ := open_int Tryd.underlying3 (hval 2 3 v2 rfl rfl) h2
 clear hA0 hval0
 refine (walk a0r a0w a0h a0c a0x a0y a0d a1 a2 ha0r ha0w ha0h ha0c ha0x ha0y ha0d ha1 ha2 W).mono fun e W' ⟨he, bel⟩ => ?_
 subst he
 exact ⟨_, rfl, _, _, _, [], _, [], hW', trodAll_mk1 (shut_bool Tryd.underlying4 _), (trodAll_cons_mk (Below.trod laidOut (by kernel_rfl) (of_decide_eq_true (by kernel_rfl)) k0 bel lt0) (trodAll_cons_mk (Below.trod laidOut (by kernel_rfl) (of_decide_eq_true (by kernel_rfl)) k1 bel lt1) (trodAll_cons_mk (Below.trod laidOut (by kernel_rfl) (of_decide_eq_true (by kernel_rfl)) k2 bel lt2) trodAll_mk0))), rfl, bel.frame _, fun h => by cases h⟩

theorem over : Rows.fnExactMakePuzzleRow.holds Tryd.pinned (OpenSpec.ofChange Rows.fnExactMakePuzzleSpec) :=
 OpenClaim.holds_of_wide 9 Tryd.f9 rfl rfl rfl rfl rfl rfl rfl ⟨rfl, rfl, rfl, rfl, rfl⟩ rfl rfl rfl rfl rfl (by kernel_rfl) Tryd.func9 (by kernel_rfl)
  (of_decide_eq_true (by kernel_rfl)) (by unfold Func.isWrapper; first | (rw [if_pos (by decide +kernel)]; kernel_rfl) | (rw [if_neg (by decide +kernel)]; exact ⟨rfl, rfl⟩))
  (fun os started H enc _ => lifted os started H enc)

theorem card : Claim7.holds Tryd.pinned (.plain (OpenSpec.ofChange Rows.fnExactMakePuzzleSpec)) Rows.fnExactMakePuzzleCard :=
 Claim7.holds_tied_plain_at .later [] _ true _ _
  over (fun _ h => by cases h) (by kernel_rfl) (fun _ h => by cases h) fnExactMakePuzzle_row_tie rfl ⟨rfl, rfl⟩ (by kernel_rfl) rfl
  (fun f fn hf hfn => by
   obtain rfl : f = 9 := (Option.some.inj ((show Tryd.prog.funcNamed Rows.fnExactMakePuzzleRow.func = some 9 by kernel_rfl).symm.trans hf)).symm
   obtain rfl : fn = Tryd.f9 := (Option.some.inj (Tryd.func9.symm.trans hfn)).symm
   exact ⟨by kernel_rfl, fun j t ht => by
    have hall : (Tryd.f9.params.toList.all fun u => !Tryd.prog.wantsStandIn u) = true := by kernel_rfl
    have hm : t ∈ Tryd.f9.params.toList := Array.mem_toList_iff.2 (Array.mem_of_getElem? ht)
    exact (show Tryd.prog.wantsStandIn t = false by simpa using List.all_eq_true.1 hall t hm)⟩)
  (by kernel_rfl)
theorem proved : Rows.FnExactMakePuzzleCardSaid := card
#print axioms proved
end Go.Proofs.YtickpjdnncpnmaaDoor.lawMakePuzzle
