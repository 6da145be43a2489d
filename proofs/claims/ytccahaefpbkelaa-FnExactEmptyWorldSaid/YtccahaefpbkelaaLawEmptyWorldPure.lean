/- The conditions of FnExactEmptyWorld. -/
import Derived.Test.YtccahaefpbkelaaE1Pf
namespace Go.Vi
set_option linter.unusedVariables false
def VC_LawEmptyWorld (a0 : List UInt8) (a1 : Int) (a2 : Int) (K : V → Prop) : Prop :=
  (decide ((↑(List.length a0) : Int) > (1048576 : Int)) = true → K (V.lit true)) ∧
  (decide ((↑(List.length a0) : Int) > (1048576 : Int)) = false →
    At True ∧
      At True ∧
        At True ∧
          ((!eqW
                    {
                      r :=
                        Wd.r
                          (bif emptyB a0 a1 a2 then
                            { r := a0, w := a1, h := a2, c := List.replicate (Int.toNat (a1 * a2)) (48 : UInt8),
                              x := (0 : Int), y := (0 : Int), d := (0 : Int) }
                          else zeroWd),
                      w :=
                        Wd.w
                          (bif emptyB a0 a1 a2 then
                            { r := a0, w := a1, h := a2, c := List.replicate (Int.toNat (a1 * a2)) (48 : UInt8),
                              x := (0 : Int), y := (0 : Int), d := (0 : Int) }
                          else zeroWd),
                      h :=
                        Wd.h
                          (bif emptyB a0 a1 a2 then
                            { r := a0, w := a1, h := a2, c := List.replicate (Int.toNat (a1 * a2)) (48 : UInt8),
                              x := (0 : Int), y := (0 : Int), d := (0 : Int) }
                          else zeroWd),
                      c :=
                        Wd.c
                          (bif emptyB a0 a1 a2 then
                            { r := a0, w := a1, h := a2, c := List.replicate (Int.toNat (a1 * a2)) (48 : UInt8),
                              x := (0 : Int), y := (0 : Int), d := (0 : Int) }
                          else zeroWd),
                      x :=
                        Wd.x
                          (bif emptyB a0 a1 a2 then
                            { r := a0, w := a1, h := a2, c := List.replicate (Int.toNat (a1 * a2)) (48 : UInt8),
                              x := (0 : Int), y := (0 : Int), d := (0 : Int) }
                          else zeroWd),
                      y :=
                        Wd.y
                          (bif emptyB a0 a1 a2 then
                            { r := a0, w := a1, h := a2, c := List.replicate (Int.toNat (a1 * a2)) (48 : UInt8),
                              x := (0 : Int), y := (0 : Int), d := (0 : Int) }
                          else zeroWd),
                      d :=
                        Wd.d
                          (bif emptyB a0 a1 a2 then
                            { r := a0, w := a1, h := a2, c := List.replicate (Int.toNat (a1 * a2)) (48 : UInt8),
                              x := (0 : Int), y := (0 : Int), d := (0 : Int) }
                          else zeroWd) }
                    {
                      r :=
                        Wd.r
                          (bif emptyB a0 a1 a2 then
                            { r := a0, w := a1, h := a2, c := List.replicate (Int.toNat (a1 * a2)) (48 : UInt8),
                              x := (0 : Int), y := (0 : Int), d := (0 : Int) }
                          else zeroWd),
                      w :=
                        Wd.w
                          (bif emptyB a0 a1 a2 then
                            { r := a0, w := a1, h := a2, c := List.replicate (Int.toNat (a1 * a2)) (48 : UInt8),
                              x := (0 : Int), y := (0 : Int), d := (0 : Int) }
                          else zeroWd),
                      h :=
                        Wd.h
                          (bif emptyB a0 a1 a2 then
                            { r := a0, w := a1, h := a2, c := List.replicate (Int.toNat (a1 * a2)) (48 : UInt8),
                              x := (0 : Int), y := (0 : Int), d := (0 : Int) }
                          else zeroWd),
                      c :=
                        Wd.c
                          (bif emptyB a0 a1 a2 then
                            { r := a0, w := a1, h := a2, c := List.replicate (Int.toNat (a1 * a2)) (48 : UInt8),
                              x := (0 : Int), y := (0 : Int), d := (0 : Int) }
                          else zeroWd),
                      x :=
                        Wd.x
                          (bif emptyB a0 a1 a2 then
                            { r := a0, w := a1, h := a2, c := List.replicate (Int.toNat (a1 * a2)) (48 : UInt8),
                              x := (0 : Int), y := (0 : Int), d := (0 : Int) }
                          else zeroWd),
                      y :=
                        Wd.y
                          (bif emptyB a0 a1 a2 then
                            { r := a0, w := a1, h := a2, c := List.replicate (Int.toNat (a1 * a2)) (48 : UInt8),
                              x := (0 : Int), y := (0 : Int), d := (0 : Int) }
                          else zeroWd),
                      d :=
                        Wd.d
                          (bif emptyB a0 a1 a2 then
                            { r := a0, w := a1, h := a2, c := List.replicate (Int.toNat (a1 * a2)) (48 : UInt8),
                              x := (0 : Int), y := (0 : Int), d := (0 : Int) }
                          else zeroWd) }) =
                true →
              K (V.lit false)) ∧
            ((!eqW
                    {
                      r :=
                        Wd.r
                          (bif emptyB a0 a1 a2 then
                            { r := a0, w := a1, h := a2, c := List.replicate (Int.toNat (a1 * a2)) (48 : UInt8),
                              x := (0 : Int), y := (0 : Int), d := (0 : Int) }
                          else zeroWd),
                      w :=
                        Wd.w
                          (bif emptyB a0 a1 a2 then
                            { r := a0, w := a1, h := a2, c := List.replicate (Int.toNat (a1 * a2)) (48 : UInt8),
                              x := (0 : Int), y := (0 : Int), d := (0 : Int) }
                          else zeroWd),
                      h :=
                        Wd.h
                          (bif emptyB a0 a1 a2 then
                            { r := a0, w := a1, h := a2, c := List.replicate (Int.toNat (a1 * a2)) (48 : UInt8),
                              x := (0 : Int), y := (0 : Int), d := (0 : Int) }
                          else zeroWd),
                      c :=
                        Wd.c
                          (bif emptyB a0 a1 a2 then
                            { r := a0, w := a1, h := a2, c := List.replicate (Int.toNat (a1 * a2)) (48 : UInt8),
                              x := (0 : Int), y := (0 : Int), d := (0 : Int) }
                          else zeroWd),
                      x :=
                        Wd.x
                          (bif emptyB a0 a1 a2 then
                            { r := a0, w := a1, h := a2, c := List.replicate (Int.toNat (a1 * a2)) (48 : UInt8),
                              x := (0 : Int), y := (0 : Int), d := (0 : Int) }
                          else zeroWd),
                      y :=
                        Wd.y
                          (bif emptyB a0 a1 a2 then
                            { r := a0, w := a1, h := a2, c := List.replicate (Int.toNat (a1 * a2)) (48 : UInt8),
                              x := (0 : Int), y := (0 : Int), d := (0 : Int) }
                          else zeroWd),
                      d :=
                        Wd.d
                          (bif emptyB a0 a1 a2 then
                            { r := a0, w := a1, h := a2, c := List.replicate (Int.toNat (a1 * a2)) (48 : UInt8),
                              x := (0 : Int), y := (0 : Int), d := (0 : Int) }
                          else zeroWd) }
                    {
                      r :=
                        Wd.r
                          (bif emptyB a0 a1 a2 then
                            { r := a0, w := a1, h := a2, c := List.replicate (Int.toNat (a1 * a2)) (48 : UInt8),
                              x := (0 : Int), y := (0 : Int), d := (0 : Int) }
                          else zeroWd),
                      w :=
                        Wd.w
                          (bif emptyB a0 a1 a2 then
                            { r := a0, w := a1, h := a2, c := List.replicate (Int.toNat (a1 * a2)) (48 : UInt8),
                              x := (0 : Int), y := (0 : Int), d := (0 : Int) }
                          else zeroWd),
                      h :=
                        Wd.h
                          (bif emptyB a0 a1 a2 then
                            { r := a0, w := a1, h := a2, c := List.replicate (Int.toNat (a1 * a2)) (48 : UInt8),
                              x := (0 : Int), y := (0 : Int), d := (0 : Int) }
                          else zeroWd),
                      c :=
                        Wd.c
                          (bif emptyB a0 a1 a2 then
                            { r := a0, w := a1, h := a2, c := List.replicate (Int.toNat (a1 * a2)) (48 : UInt8),
                              x := (0 : Int), y := (0 : Int), d := (0 : Int) }
                          else zeroWd),
                      x :=
                        Wd.x
                          (bif emptyB a0 a1 a2 then
                            { r := a0, w := a1, h := a2, c := List.replicate (Int.toNat (a1 * a2)) (48 : UInt8),
                              x := (0 : Int), y := (0 : Int), d := (0 : Int) }
                          else zeroWd),
                      y :=
                        Wd.y
                          (bif emptyB a0 a1 a2 then
                            { r := a0, w := a1, h := a2, c := List.replicate (Int.toNat (a1 * a2)) (48 : UInt8),
                              x := (0 : Int), y := (0 : Int), d := (0 : Int) }
                          else zeroWd),
                      d :=
                        Wd.d
                          (bif emptyB a0 a1 a2 then
                            { r := a0, w := a1, h := a2, c := List.replicate (Int.toNat (a1 * a2)) (48 : UInt8),
                              x := (0 : Int), y := (0 : Int), d := (0 : Int) }
                          else zeroWd) }) =
                false →
              ((!emptyB a0 a1 a2 == emptyB a0 a1 a2) = true → K (V.lit false)) ∧
                ((!emptyB a0 a1 a2 == emptyB a0 a1 a2) = false → K (V.lit true))))

theorem vc_LawEmptyWorld (a0 : List UInt8) (a1 : Int) (a2 : Int) (ha0 : (a0.length : Int) ≤ 9223372036854775807) (ha1 : -9223372036854775808 ≤ a1 ∧ a1 ≤ 9223372036854775807) (ha2 : -9223372036854775808 ≤ a2 ∧ a2 ≤ 9223372036854775807) : VC_LawEmptyWorld a0 a1 a2 (retP (.bool true)) := by
  unfold VC_LawEmptyWorld
  simp [retP_lit, eqW_self]
end Go.Vi
