import Derived.Test.YtbdhilflnfllaabDoorQAPf
import Derived.Test.YtbdhilflnfllaabDoorCards
import Derived.Test.YtbdhilflnfllaabDoorTie
import Derived.LaidMore
import Derived.Lay
import Derived.Test.YtbdhilflnfllaabDoorRows
import Derived.WalkKit
import Derived.ProofKit
import Derived.OpenShut
import Derived.ShutString
import Derived.ChangeOld
import Derived.Below
import Derived.Test.YtbdhilflnfllaabDoorQAOk
import Derived.Test.YtbdhilflnfllaabDoorVih
/- The conditions of FnExactDoesFit. -/
namespace Go.Vi
set_option linter.unusedVariables false
set_option linter.unusedSimpArgs false
def VC_LawDoesFit (a0x : Int) (a0y : Int) (a0k : Int) (a1r : List UInt8) (a1w : Int) (a1h : Int) (a1c : List UInt8) (a1x : Int) (a1y : Int) (a1d : Int) (K : V → Prop) : Prop := At ((0 
  : Int) ≤ (1048576 : Int) ∧ (1048576 : Int) ≤ (1000000000 : Int) ∧ (↑(List.length a1r) : Int) ≤ (9223372036854775807 : Int) ∧ (↑(List.length a1c) : Int) ≤ (9223372036854775807 : Int)) 
  ∧ (decide (szW { r := a1r, w := a1w, h := a1h, c := a1c, x := a1x, y := a1y, d := a1d } (1048576 : Int) < (0 : Int)) = true → K (V.lit true)) ∧ (decide (szW { r := a1r, w := a1w, h := a1h, c := a1c, x := a1x, y := a1y, d := a1d } 
  (1048576 : Int) < (0 : Int)) = false → ((At True ∧ (((At True ∧ ((At True ∧ (((At True ∧ ((!(okF { r := a1r, w := a1w, h := a1h, c := a1c, x := a1x, y := a1y, d := a1d } a0x a0y a0k 
  && fitB a0x a0y a0k { r := a1r, w := a1w, h := a1h, c := a1c, x := a1x, y := a1y, d := a1d }) == (okF { r := a1r, w := a1w, h := a1h, c := a1c, x := a1x, y := a1y, d := a1d } a0x a0y 
  a0k && fitB a0x a0y a0k { r := a1r, w := a1w, h := a1h, c := a1c, x := a1x, y := a1y, d := a1d })) = true → K (V.lit false)) ∧ ((!(okF { r := a1r, w := a1w, h := a1h, c := a1c, x := a1x, y := a1y, d := a1d } 
  a0x a0y a0k && fitB a0x a0y a0k { r := a1r, w := a1w, h := a1h, c := a1c, x := a1x, y := a1y, d := a1d }) == (okF { r := a1r, w := a1w, h := a1h, c := a1c, x := a1x, y := a1y, d := a1d } 
  a0x a0y a0k && fitB a0x a0y a0k { r := a1r, w := a1w, h := a1h, c := a1c, x := a1x, y := a1y, d := a1d })) = false → ((!okF { r := a1r, w := a1w, h := a1h, c := a1c, x := a1x, y := a1y, d := a1d } 
  a0x a0y a0k == okF { r := a1r, w := a1w, h := a1h, c := a1c, x := a1x, y := a1y, d := a1d } a0x a0y a0k) = true → K (V.lit false)) ∧ ((!okF { r := a1r, w := a1w, h := a1h, c := a1c, x := a1x, y := a1y, d := a1d } 
  a0x a0y a0k == okF { r := a1r, w := a1w, h := a1h, c := a1c, x := a1x, y := a1y, d := a1d } a0x a0y a0k) = false → K (V.lit true)))) ∧ True) ∧ True) ∧ True) ∧ ((At True ∧ ((At True 
  ∧ ((!(okF { r := a1r, w := a1w, h := a1h, c := a1c, x := a1x, y := a1y, d := a1d } a0x a0y a0k && fitB a0x a0y a0k { r := a1r, w := a1w, h := a1h, c := a1c, x := a1x, y := a1y, d := a1d }) 
  == (okF { r := a1r, w := a1w, h := a1h, c := a1c, x := a1x, y := a1y, d := a1d } a0x a0y a0k && fitB a0x a0y a0k { r := a1r, w := a1w, h := a1h, c := a1c, x := a1x, y := a1y, d := a1d })) 
  = true → K (V.lit false)) ∧ ((!(okF { r := a1r, w := a1w, h := a1h, c := a1c, x := a1x, y := a1y, d := a1d } a0x a0y a0k && fitB a0x a0y a0k { r := a1r, w := a1w, h := a1h, c := a1c, x := a1x, y := a1y, d := a1d }) 
  == (okF { r := a1r, w := a1w, h := a1h, c := a1c, x := a1x, y := a1y, d := a1d } a0x a0y a0k && fitB a0x a0y a0k { r := a1r, w := a1w, h := a1h, c := a1c, x := a1x, y := a1y, d := a1d })) 
  = false → ((!okF { r := a1r, w := a1w, h := a1h, c := a1c, x := a1x, y := a1y, d := a1d } a0x a0y a0k == okF { r := a1r, w := a1w, h := a1h, c := a1c, x := a1x, y := a1y, d := a1d } 
  a0x a0y a0k) = true → K (V.lit false)) ∧ ((!okF { r := a1r, w := a1w, h := a1h, c := a1c, x := a1x, y := a1y, d := a1d } a0x a0y a0k == okF { r := a1r, w := a1w, h := a1h, c := a1c, x := a1x, y := a1y, d := a1d } 
  a0x a0y a0k) = false → K (V.lit true)))) ∧ True) ∧ True) ∧ True) ∧ True) ∧ (((At True ∧ ((At True ∧ ((!(okF { r := a1r, w := a1w, h := a1h, c := a1c, x := a1x, y := a1y, d := a1d } 
  a0x a0y a0k && fitB a0x a0y a0k { r := a1r, w := a1w, h := a1h, c := a1c, x := a1x, y := a1y, d := a1d }) == (okF { r := a1r, w := a1w, h := a1h, c := a1c, x := a1x, y := a1y, d := a1d } 
  a0x a0y a0k && fitB a0x a0y a0k { r := a1r, w := a1w, h := a1h, c := a1c, x := a1x, y := a1y, d := a1d })) = true → K (V.lit false)) ∧ ((!(okF { r := a1r, w := a1w, h := a1h, c := a1c, x := a1x, y := a1y, d := a1d } 
  a0x a0y a0k && fitB a0x a0y a0k { r := a1r, w := a1w, h := a1h, c := a1c, x := a1x, y := a1y, d := a1d }) == (okF { r := a1r, w := a1w, h := a1h, c := a1c, x := a1x, y := a1y, d := a1d } 
  a0x a0y a0k && fitB a0x a0y a0k { r := a1r, w := a1w, h := a1h, c := a1c, x := a1x, y := a1y, d := a1d })) = false → ((!okF { r := a1r, w := a1w, h := a1h, c := a1c, x := a1x, y := a1y, d := a1d } 
  a0x a0y a0k == okF { r := a1r, w := a1w, h := a1h, c := a1c, x := a1x, y := a1y, d := a1d } a0x a0y a0k) = true → K (V.lit false)) ∧ ((!okF { r := a1r, w := a1w, h := a1h, c := a1c, x := a1x, y := a1y, d := a1d } 
  a0x a0y a0k == okF { r := a1r, w := a1w, h := a1h, c := a1c, x := a1x, y := a1y, d := a1d } a0x a0y a0k) = false → K (V.lit true)))) ∧ True) ∧ True) ∧ True) ∧ True) ∧ True) ∧ True) 
  ∧ True) ∧ True) ∧ ((At True ∧ ((At True ∧ ((At True ∧ (((At True ∧ ((!(okF { r := a1r, w := a1w, h := a1h, c := a1c, x := a1x, y := a1y, d := a1d } a0x a0y a0k && fitB a0x a0y a0k { r := a1r, w := a1w, h := a1h, c := a1c, x := a1x, y := a1y, d := a1d }) 
  == (okF { r := a1r, w := a1w, h := a1h, c := a1c, x := a1x, y := a1y, d := a1d } a0x a0y a0k && fitB a0x a0y a0k { r := a1r, w := a1w, h := a1h, c := a1c, x := a1x, y := a1y, d := a1d })) 
  = true → K (V.lit false)) ∧ ((!(okF { r := a1r, w := a1w, h := a1h, c := a1c, x := a1x, y := a1y, d := a1d } a0x a0y a0k && fitB a0x a0y a0k { r := a1r, w := a1w, h := a1h, c := a1c, x := a1x, y := a1y, d := a1d }) 
  == (okF { r := a1r, w := a1w, h := a1h, c := a1c, x := a1x, y := a1y, d := a1d } a0x a0y a0k && fitB a0x a0y a0k { r := a1r, w := a1w, h := a1h, c := a1c, x := a1x, y := a1y, d := a1d })) 
  = false → ((!okF { r := a1r, w := a1w, h := a1h, c := a1c, x := a1x, y := a1y, d := a1d } a0x a0y a0k == okF { r := a1r, w := a1w, h := a1h, c := a1c, x := a1x, y := a1y, d := a1d } 
  a0x a0y a0k) = true → K (V.lit false)) ∧ ((!okF { r := a1r, w := a1w, h := a1h, c := a1c, x := a1x, y := a1y, d := a1d } a0x a0y a0k == okF { r := a1r, w := a1w, h := a1h, c := a1c, x := a1x, y := a1y, d := a1d } 
  a0x a0y a0k) = false → K (V.lit true)))) ∧ True) ∧ True) ∧ True) ∧ ((At True ∧ ((At True ∧ ((!(okF { r := a1r, w := a1w, h := a1h, c := a1c, x := a1x, y := a1y, d := a1d } a0x a0y a0k 
  && fitB a0x a0y a0k { r := a1r, w := a1w, h := a1h, c := a1c, x := a1x, y := a1y, d := a1d }) == (okF { r := a1r, w := a1w, h := a1h, c := a1c, x := a1x, y := a1y, d := a1d } a0x a0y 
  a0k && fitB a0x a0y a0k { r := a1r, w := a1w, h := a1h, c := a1c, x := a1x, y := a1y, d := a1d })) = true → K (V.lit false)) ∧ ((!(okF { r := a1r, w := a1w, h := a1h, c := a1c, x := a1x, y := a1y, d := a1d } 
  a0x a0y a0k && fitB a0x a0y a0k { r := a1r, w := a1w, h := a1h, c := a1c, x := a1x, y := a1y, d := a1d }) == (okF { r := a1r, w := a1w, h := a1h, c := a1c, x := a1x, y := a1y, d := a1d } 
  a0x a0y a0k && fitB a0x a0y a0k { r := a1r, w := a1w, h := a1h, c := a1c, x := a1x, y := a1y, d := a1d })) = false → ((!okF { r := a1r, w := a1w, h := a1h, c := a1c, x := a1x, y := a1y, d := a1d } 
  a0x a0y a0k == okF { r := a1r, w := a1w, h := a1h, c := a1c, x := a1x, y := a1y, d := a1d } a0x a0y a0k) = true → K (V.lit false)) ∧ ((!okF { r := a1r, w := a1w, h := a1h, c := a1c, x := a1x, y := a1y, d := a1d } 
  a0x a0y a0k == okF { r := a1r, w := a1w, h := a1h, c := a1c, x := a1x, y := a1y, d := a1d } a0x a0y a0k) = false → K (V.lit true)))) ∧ True) ∧ True) ∧ True) ∧ True) ∧ (((At True ∧ ((At 
  True ∧ ((!(okF { r := a1r, w := a1w, h := a1h, c := a1c, x := a1x, y := a1y, d := a1d } a0x a0y a0k && fitB a0x a0y a0k { r := a1r, w := a1w, h := a1h, c := a1c, x := a1x, y := a1y, d := a1d }) 
  == (okF { r := a1r, w := a1w, h := a1h, c := a1c, x := a1x, y := a1y, d := a1d } a0x a0y a0k && fitB a0x a0y a0k { r := a1r, w := a1w, h := a1h, c := a1c, x := a1x, y := a1y, d := a1d })) 
  = true → K (V.lit false)) ∧ ((!(okF { r := a1r, w := a1w, h := a1h, c := a1c, x := a1x, y := a1y, d := a1d } a0x a0y a0k && fitB a0x a0y a0k { r := a1r, w := a1w, h := a1h, c := a1c, x := a1x, y := a1y, d := a1d }) 
  == (okF { r := a1r, w := a1w, h := a1h, c := a1c, x := a1x, y := a1y, d := a1d } a0x a0y a0k && fitB a0x a0y a0k { r := a1r, w := a1w, h := a1h, c := a1c, x := a1x, y := a1y, d := a1d })) 
  = false → ((!okF { r := a1r, w := a1w, h := a1h, c := a1c, x := a1x, y := a1y, d := a1d } a0x a0y a0k == okF { r := a1r, w := a1w, h := a1h, c := a1c, x := a1x, y := a1y, d := a1d } 
  a0x a0y a0k) = true → K (V.lit false)) ∧ ((!okF { r := a1r, w := a1w, h := a1h, c := a1c, x := a1x, y := a1y, d := a1d } a0x a0y a0k == okF { r := a1r, w := a1w, h := a1h, c := a1c, x := a1x, y := a1y, d := a1d } 
  a0x a0y a0k) = false → K (V.lit true)))) ∧ True) ∧ True) ∧ True) ∧ True) ∧ True) ∧ True) ∧ True) ∧ True) ∧ True) ∧ (((At True ∧ ((At True ∧ ((At True ∧ (((At True ∧ ((!(okF { r := a1r, w := a1w, h := a1h, c := a1c, x := a1x, y := a1y, d := a1d } 
  a0x a0y a0k && fitB a0x a0y a0k { r := a1r, w := a1w, h := a1h, c := a1c, x := a1x, y := a1y, d := a1d }) == (okF { r := a1r, w := a1w, h := a1h, c := a1c, x := a1x, y := a1y, d := a1d } 
  a0x a0y a0k && fitB a0x a0y a0k { r := a1r, w := a1w, h := a1h, c := a1c, x := a1x, y := a1y, d := a1d })) = true → K (V.lit false)) ∧ ((!(okF { r := a1r, w := a1w, h := a1h, c := a1c, x := a1x, y := a1y, d := a1d } 
  a0x a0y a0k && fitB a0x a0y a0k { r := a1r, w := a1w, h := a1h, c := a1c, x := a1x, y := a1y, d := a1d }) == (okF { r := a1r, w := a1w, h := a1h, c := a1c, x := a1x, y := a1y, d := a1d } 
  a0x a0y a0k && fitB a0x a0y a0k { r := a1r, w := a1w, h := a1h, c := a1c, x := a1x, y := a1y, d := a1d })) = false → ((!okF { r := a1r, w := a1w, h := a1h, c := a1c, x := a1x, y := a1y, d := a1d } 
  a0x a0y a0k == okF { r := a1r, w := a1w, h := a1h, c := a1c, x := a1x, y := a1y, d := a1d } a0x a0y a0k) = true → K (V.lit false)) ∧ ((!okF { r := a1r, w := a1w, h := a1h, c := a1c, x := a1x, y := a1y, d := a1d } 
  a0x a0y a0k == okF { r := a1r, w := a1w, h := a1h, c := a1c, x := a1x, y := a1y, d := a1d } a0x a0y a0k) = false → K (V.lit true)))) ∧ True) ∧ True) ∧ True) ∧ ((At True ∧ ((At True 
  ∧ ((!(okF { r := a1r, w := a1w, h := a1h, c := a1c, x := a1x, y := a1y, d := a1d } a0x a0y a0k && fitB a0x a0y a0k { r := a1r, w := a1w, h := a1h, c := a1c, x := a1x, y := a1y, d := a1d }) 
  == (okF { r := a1r, w := a1w, h := a1h, c := a1c, x := a1x, y := a1y, d := a1d } a0x a0y a0k && fitB a0x a0y a0k { r := a1r, w := a1w, h := a1h, c := a1c, x := a1x, y := a1y, d := a1d })) 
  = true → K (V.lit false)) ∧ ((!(okF { r := a1r, w := a1w, h := a1h, c := a1c, x := a1x, y := a1y, d := a1d } a0x a0y a0k && fitB a0x a0y a0k { r := a1r, w := a1w, h := a1h, c := a1c, x := a1x, y := a1y, d := a1d }) 
  == (okF { r := a1r, w := a1w, h := a1h, c := a1c, x := a1x, y := a1y, d := a1d } a0x a0y a0k && fitB a0x a0y a0k { r := a1r, w := a1w, h := a1h, c := a1c, x := a1x, y := a1y, d := a1d })) 
  = false → ((!okF { r := a1r, w := a1w, h := a1h, c := a1c, x := a1x, y := a1y, d := a1d } a0x a0y a0k == okF { r := a1r, w := a1w, h := a1h, c := a1c, x := a1x, y := a1y, d := a1d } 
  a0x a0y a0k) = true → K (V.lit false)) ∧ ((!okF { r := a1r, w := a1w, h := a1h, c := a1c, x := a1x, y := a1y, d := a1d } a0x a0y a0k == okF { r := a1r, w := a1w, h := a1h, c := a1c, x := a1x, y := a1y, d := a1d } 
  a0x a0y a0k) = false → K (V.lit true)))) ∧ True) ∧ True) ∧ True) ∧ True) ∧ (((At True ∧ ((At True ∧ ((!(okF { r := a1r, w := a1w, h := a1h, c := a1c, x := a1x, y := a1y, d := a1d } 
  a0x a0y a0k && fitB a0x a0y a0k { r := a1r, w := a1w, h := a1h, c := a1c, x := a1x, y := a1y, d := a1d }) == (okF { r := a1r, w := a1w, h := a1h, c := a1c, x := a1x, y := a1y, d := a1d } 
  a0x a0y a0k && fitB a0x a0y a0k { r := a1r, w := a1w, h := a1h, c := a1c, x := a1x, y := a1y, d := a1d })) = true → K (V.lit false)) ∧ ((!(okF { r := a1r, w := a1w, h := a1h, c := a1c, x := a1x, y := a1y, d := a1d } 
  a0x a0y a0k && fitB a0x a0y a0k { r := a1r, w := a1w, h := a1h, c := a1c, x := a1x, y := a1y, d := a1d }) == (okF { r := a1r, w := a1w, h := a1h, c := a1c, x := a1x, y := a1y, d := a1d } 
  a0x a0y a0k && fitB a0x a0y a0k { r := a1r, w := a1w, h := a1h, c := a1c, x := a1x, y := a1y, d := a1d })) = false → ((!okF { r := a1r, w := a1w, h := a1h, c := a1c, x := a1x, y := a1y, d := a1d } 
  a0x a0y a0k == okF { r := a1r, w := a1w, h := a1h, c := a1c, x := a1x, y := a1y, d := a1d } a0x a0y a0k) = true → K (V.lit false)) ∧ ((!okF { r := a1r, w := a1w, h := a1h, c := a1c, x := a1x, y := a1y, d := a1d } 
  a0x a0y a0k == okF { r := a1r, w := a1w, h := a1h, c := a1c, x := a1x, y := a1y, d := a1d } a0x a0y a0k) = false → K (V.lit true)))) ∧ True) ∧ True) ∧ True) ∧ True) ∧ True) ∧ True) 
  ∧ True) ∧ True) ∧ True) ∧ True)

theorem vc_LawDoesFit (a0x : Int) (a0y : Int) (a0k : Int) (a1r : List UInt8) (a1w : Int) (a1h : Int) (a1c : List UInt8) (a1x : Int) (a1y : Int) (a1d : Int) (ha0x : -9223372036854775808 ≤ a0x ∧ a0x ≤ 9223372036854775807) (ha0y : -9223372036854775808 ≤ a0y ∧ a0y ≤ 9223372036854775807) (ha0k : -9223372036854775808 ≤ a0k ∧ a0k ≤ 9223372036854775807) (ha1r : (a1r.length : Int) ≤ 9223372036854775807) (ha1w : -9223372036854775808 ≤ a1w ∧ a1w ≤ 9223372036854775807) (ha1h : -9223372036854775808 ≤ a1h ∧ a1h ≤ 9223372036854775807) (ha1c : (a1c.length : Int) ≤ 9223372036854775807) (ha1x : -9223372036854775808 ≤ a1x ∧ a1x ≤ 9223372036854775807) (ha1y : -9223372036854775808 ≤ a1y ∧ a1y ≤ 9223372036854775807) (ha1d : -9223372036854775808 ≤ a1d ∧ a1d ≤ 9223372036854775807) : VC_LawDoesFit a0x a0y a0k a1r a1w a1h a1c a1x a1y a1d (retP (.bool true)) := by
  unfold VC_LawDoesFit
  simp [retP_lit, ha1r, ha1c]
end Go.Vi

/- FnExactDoesFit: for every input the law returns true, and each argument reads as it did. No condition. -/
namespace Go.Proofs.YtbdhilflnfllaabDoor.lawDoesFit
open Go Go.Vi
open Go.ChangeShapes Go.WideShapes Go.ChangeAt Go.RowKit
open Go.ChangeMaps (open_string shut_string)
set_option linter.unusedVariables false

theorem own : ownKnob Tryd.prog.godebug = none := by kernel_rfl
theorem laidOut : laidOutB Tryd.prog = true := by kernel_rfl

theorem eq_law (a0x : Int) (a0y : Int) (a0k : Int) (a1r : List UInt8) (a1w : Int) (a1h : Int) (a1c : List UInt8) (a1x : Int) (a1y : Int) (a1d : Int) (K : V → Prop) : VC_LawDoesFit a0x a0y a0k a1r a1w a1h a1c a1x a1y a1d K = vin Tryd.prog TQA annTQA 6 3 [.agg [.int .i64 a0x, .int .i64 a0y, .int .i64 a0k], .agg [.str a1r, .int .i64 a1w, .int .i64 a1h, .str a1c, .int .i64 a1x, .int .i64 a1y, .int .i64 a1d]] [] (fun v _ => K v) := by kernel_rfl
theorem walk (a0x : Int) (a0y : Int) (a0k : Int) (a1r : ByteArray) (a1w : Int) (a1h : Int) (a1c : ByteArray) (a1x : Int) (a1y : Int) (a1d : Int) (ha0x : (Lit.int .i64 a0x).wf = true) (ha0y : (Lit.int .i64 a0y).wf = true) (ha0k : (Lit.int .i64 a0k).wf = true) (ha1r : a1r.size ≤ maxLen) (ha1w : (Lit.int .i64 a1w).wf = true) (ha1h : (Lit.int .i64 a1h).wf = true) (ha1c : a1c.size ≤ maxLen) (ha1x : (Lit.int .i64 a1x).wf = true) (ha1y : (Lit.int .i64 a1y).wf = true) (ha1d : (Lit.int .i64 a1d).wf = true) (w : World) :
    Calls Tryd.prog 3 #[.agg #[.int .i64 a0x, .int .i64 a0y, .int .i64 a0k], .agg #[.string a1r, .int .i64 a1w, .int .i64 a1h, .string a1c, .int .i64 a1x, .int .i64 a1y, .int .i64 a1d]] w fun e w' => e = .returned (.bool true) ∧ Below w.heap.size w w' := by
  have hv := (congrArg At (eq_law a0x a0y a0k a1r.data.toList a1w a1h a1c.data.toList a1x a1y a1d (retP (.bool true)))).mp ⟨vc_LawDoesFit a0x a0y a0k a1r.data.toList a1w a1h a1c.data.toList a1x a1y a1d (wf_i64_bd ha0x) (wf_i64_bd ha0y) (wf_i64_bd ha0k) (str_bd ha1r) (wf_i64_bd ha1w) (wf_i64_bd ha1h) (str_bd ha1c) (wf_i64_bd ha1x) (wf_i64_bd ha1y) (wf_i64_bd ha1d)⟩
  have hr : RepL [] [.agg [.int .i64 a0x, .int .i64 a0y, .int .i64 a0k], .agg [.str a1r.data.toList, .int .i64 a1w, .int .i64 a1h, .str a1c.data.toList, .int .i64 a1x, .int .i64 a1y, .int .i64 a1d]] [.agg #[.int .i64 a0x, .int .i64 a0y, .int .i64 a0k], .agg #[.string a1r, .int .i64 a1w, .int .i64 a1h, .string a1c, .int .i64 a1x, .int .i64 a1y, .int .i64 a1d]] := by simp [RepL, Rep, ofL_data]
  have hc := OK.call (vin_ok TQA_ok annTQA 6 3) hv hr w
  exact hc.mono fun e w' ⟨v, m', ρ', x, he, hk, hr, hb⟩ => ⟨by rw [he, bool_true hr hk], hb⟩

theorem door_met (os : Os) (args : Array Value) : laidMetH Tryd.prog Rows.fnExactDoesFitRow.laid ((World.laidAll Tryd.prog os Rows.fnExactDoesFitRow.laid).forCall (fun _ _ => 0) ⟨#[], args, []⟩).memory := by
  rw [MakeChecks.laidMetH_plain _ _ _ (by kernel_rfl)]
  exact laidMet_laidAll _ (by kernel_rfl) (by kernel_rfl)
set_option maxRecDepth 100000 in
theorem lifted (os : Os) (started : os.Started) (H : Type) (enc : TypeId × Value → H) :
    ReturnsInHanded {} Tryd.checked os 3 .any (fun w args => (Rows.fnExactDoesFitSpec.pre enc Tryd.prog Tryd.f3 Rows.fnExactDoesFitRow.domain false w args ∧ laidMetH Tryd.prog Rows.fnExactDoesFitRow.laid w) ∧ sizedMet enc Tryd.prog Tryd.f3 (OpenSpec.ofChange Rows.fnExactDoesFitSpec) false w args) (Rows.fnExactDoesFitSpec.post enc Tryd.prog Tryd.f3 false true false false) := by
  refine returnsInHanded_of_change_and (C := Tryd.checked) (X := fun w _ => laidMetH Tryd.prog Rows.fnExactDoesFitRow.laid w) (fun _ _ _ hh h => h.of_heap hh) own started (by kernel_rfl) Tryd.func3
    (ChangeSpec.witness_shaped (enc := enc) (C := Tryd.checked) (os := os) (X := fun w _ => laidMetH Tryd.prog Rows.fnExactDoesFitRow.laid w) false (World.laidAll Tryd.prog os Rows.fnExactDoesFitRow.laid) #[.agg #[.int .i64 0, .int .i64 0, .int .i64 0], .agg #[.string ByteArray.empty, .int .i64 0, .int .i64 0, .string ByteArray.empty, .int .i64 0, .int .i64 0, .int .i64 0]] 8 (World.laidAll_os _ _ _) (World.shaped_of_ZipB (by kernel_rfl) (by kernel_rfl)) (by kernel_rfl) (by kernel_rfl) (by kernel_rfl) (door_met os _)) ?_
  intro W base args ds gs before hval0 hW hcnd _ hL _
  have hval : ∀ (j : Nat) t v, Tryd.f3.params[j]? = some t → args[j]? = some v → Value.okWide Tryd.prog W .any base t v := hval0
  have hW' := hW
  obtain ⟨p, q, hA0, hV, rfl, hfz, hnd⟩ := hW
  have hA : DataW.TrodAll enc Tryd.prog W 0 (fun _ => true) true Tryd.f3.params.toList args.toList ds p := hA0
  rw [Tryd.params3] at hA hval
  obtain ⟨v0, vs0, d0, ds0, p0, q0, hargs, rfl, rfl, h0, r0⟩ := trodAll_cons hA
  obtain ⟨v1, vs1, d1, ds1, p1, q1, rfl, rfl, rfl, h1, r1⟩ := trodAll_cons r0
  obtain ⟨rfl, rfl, rfl⟩ := trodAll_nil r1
  obtain rfl : args = #[v0, v1] := by cases args; simp_all
  obtain ⟨rfl, rfl⟩ := trodVars_none hV
  have k0 := h0
  have lt0 : ∀ x ∈ p0, x.block < W.heap.size := by obtain ⟨m, hm⟩ := k0; exact DataW.trod_lt m _ _ _ hm
  obtain ⟨cs0, e0, l0, g0⟩ := struct_cells Tryd.underlying23 (by kernel_rfl) (by kernel_rfl) (hval 0 23 v0 rfl rfl) h0
  obtain ⟨a0x, c0_0, ha0x⟩ := cell_int Tryd.underlying3 (g0 0 _ rfl)
  obtain ⟨a0y, c0_1, ha0y⟩ := cell_int Tryd.underlying3 (g0 1 _ rfl)
  obtain ⟨a0k, c0_2, ha0k⟩ := cell_int Tryd.underlying3 (g0 2 _ rfl)
  obtain rfl := list_of3 l0 c0_0 c0_1 c0_2
  subst e0
  have k1 := h1
  have lt1 : ∀ x ∈ p1, x.block < W.heap.size := by obtain ⟨m, hm⟩ := k1; exact DataW.trod_lt m _ _ _ hm
  obtain ⟨cs1, e1, l1, g1⟩ := struct_cells Tryd.underlying25 (by kernel_rfl) (by kernel_rfl) (hval 1 25 v1 rfl rfl) h1
  obtain ⟨a1r, c1_0, ha1r⟩ := cell_string Tryd.underlying9 (g1 0 _ rfl)
  obtain ⟨a1w, c1_1, ha1w⟩ := cell_int Tryd.underlying3 (g1 1 _ rfl)
  obtain ⟨a1h, c1_2, ha1h⟩ := cell_int Tryd.underlying3 (g1 2 _ rfl)
  obtain ⟨a1c, c1_3, ha1c⟩ := cell_string Tryd.underlying9 (g1 3 _ rfl)
  obtain ⟨a1x, c1_4, ha1x⟩ := cell_int Tryd.underlying3 (g1 4 _ rfl)
  obtain ⟨a1y, c1_5, ha1y⟩ := cell_int Tryd.underlying3 (g1 5 _ rfl)
  obtain ⟨a1d, c1_6, ha1d⟩ := cell_int Tryd.underlying3 (g1 6 _ rfl)
  obtain rfl := list_of7 l1 c1_0 c1_1 c1_2 c1_3 c1_4 c1_5 c1_6
  subst e1
  clear hA0 hval0
  refine (walk a0x a0y a0k a1r a1w a1h a1c a1x a1y a1d ha0x ha0y ha0k ha1r ha1w ha1h ha1c ha1x ha1y ha1d W).mono fun e W' ⟨he, bel⟩ => ?_
  subst he
  exact ⟨_, rfl, _, _, _, [], _, [], hW', trodAll_mk1 (shut_bool Tryd.underlying4 _), (trodAll_cons_mk (Below.trod laidOut (by kernel_rfl) (of_decide_eq_true (by kernel_rfl)) k0 bel lt0) (trodAll_cons_mk (Below.trod laidOut (by kernel_rfl) (of_decide_eq_true (by kernel_rfl)) k1 bel lt1) trodAll_mk0)), rfl, bel.frame _, fun h => by cases h⟩

theorem over : Rows.fnExactDoesFitRow.holds Tryd.pinned (OpenSpec.ofChange Rows.fnExactDoesFitSpec) :=
  OpenClaim.holds_of_wide 3 Tryd.f3 rfl rfl rfl rfl rfl rfl rfl ⟨rfl, rfl, rfl, rfl, rfl⟩ rfl rfl rfl rfl rfl (by kernel_rfl) Tryd.func3 (by kernel_rfl)
    (of_decide_eq_true (by kernel_rfl)) (by unfold Func.isWrapper; first | (rw [if_pos (by decide +kernel)]; kernel_rfl) | (rw [if_neg (by decide +kernel)]; exact ⟨rfl, rfl⟩))
    (fun os started H enc _ => lifted os started H enc)

theorem card : Claim7.holds Tryd.pinned (.plain (OpenSpec.ofChange Rows.fnExactDoesFitSpec)) Rows.fnExactDoesFitCard :=
  Claim7.holds_tied_plain_at .later [] _ true _ _
    over (fun _ h => by cases h) (by kernel_rfl) (fun _ h => by cases h) fnExactDoesFit_row_tie rfl ⟨rfl, rfl⟩ (by kernel_rfl) rfl
    (fun f fn hf hfn => by
      obtain rfl : f = 3 := (Option.some.inj ((show Tryd.prog.funcNamed Rows.fnExactDoesFitRow.func = some 3 by kernel_rfl).symm.trans hf)).symm
      obtain rfl : fn = Tryd.f3 := (Option.some.inj (Tryd.func3.symm.trans hfn)).symm
      exact ⟨by kernel_rfl, fun j t ht => by
        have hall : (Tryd.f3.params.toList.all fun u => !Tryd.prog.wantsStandIn u) = true := by kernel_rfl
        have hm : t ∈ Tryd.f3.params.toList := Array.mem_toList_iff.2 (Array.mem_of_getElem? ht)
        exact (show Tryd.prog.wantsStandIn t = false by simpa using List.all_eq_true.1 hall t hm)⟩)
    (by kernel_rfl)
theorem proved : Rows.FnExactDoesFitCardSaid := card
#print axioms proved
end Go.Proofs.YtbdhilflnfllaabDoor.lawDoesFit
