/- The conditions, reckoned out by program: texts alone. -/
import Derived.Test.YtllocclgllappabJ2Defs
namespace Go.Vi
set_option linter.unusedVariables false
def VC_spec_l1Least (a : Int) (b : Int) (K : V → Prop) : Prop :=
  (decide (a < b) = true → K (V.int IntKind.i64 a)) ∧ (decide (a < b) = false → K (V.int IntKind.i64 b))

def VC_spec_l1Most (a : Int) (b : Int) (K : V → Prop) : Prop :=
  (decide (a > b) = true → K (V.int IntKind.i64 a)) ∧ (decide (a > b) = false → K (V.int IntKind.i64 b))

def VC_spec_enBox (pr : List UInt8) (n : Nat) (px : Int) (py : Int) (pd : Int) (a : List Int) (K : V → List Blk → Prop) : Prop :=
  ((((1 : Nat) = (1 : Nat) ∧ (0 : Nat) = (0 : Nat)) ∧
      ((2 : Nat) = (2 : Nat) ∧ (4 : Nat) = (4 : Nat)) ∧
        ((0 : Nat) = (0 : Nat) ∧ n = n) ∧ (True ∧ (↑n : Int) = (↑n : Int)) ∧ (True ∧ (0 : Int) = (0 : Int)) ∧ True) ∧
    ((True ∧ IntKind.i64 = IntKind.i64 ∧ a = a) ∧
        (True ∧
            pr = pr ∧ ((0 : Nat) = (0 : Nat) ∧ n = n) ∧ (True ∧ px = px) ∧ (True ∧ py = py) ∧ (True ∧ pd = pd) ∧ True) ∧
          (True ∧ IntKind.i64 = IntKind.i64 ∧ [px, px, py, py] = boxF a px py (Int.toNat (0 : Int))) ∧ True) ∧
      True) ∧
  At (ivInv n (fun (x : Int) ↦ True) (0 : Int)) ∧
    ∀ (a_1 : Int),
      ivInv n (fun (x : Int) ↦ True) a_1 →
        (decide (a_1 < (↑n : Int)) = true →
            At ((0 : Int) ≤ a_1 ∧ a_1 < (↑n : Int)) ∧
              At (Int.toNat a_1 * (3 : Nat) + (3 : Nat) ≤ List.length a) ∧
                (True ∧
                    At ((0 : Int) ≤ (0 : Int) ∧ (0 : Int) < (↑(4 : Nat) : Int)) ∧
                      At (Int.toNat (0 : Int) < List.length (boxF a px py (Int.toNat a_1))) ∧
                        At True ∧
                          At ((0 : Int) ≤ (0 : Int) ∧ (0 : Int) < (↑(4 : Nat) : Int)) ∧
                            At (Int.toNat (0 : Int) < List.length (boxF a px py (Int.toNat a_1))) ∧
                              True ∧
                                (((1 : Nat) = (1 : Nat) ∧ (0 : Nat) = (0 : Nat)) ∧
                                    ((2 : Nat) = (2 : Nat) ∧ (4 : Nat) = (4 : Nat)) ∧
                                      ((3 : Nat) = (3 : Nat) ∧ (0 : Nat) = (0 : Nat)) ∧
                                        ((0 : Nat) = (0 : Nat) ∧ n = n) ∧
                                          (True ∧ (↑n : Int) = (↑n : Int)) ∧ (True ∧ a_1 = a_1) ∧ True) ∧
                                  ((True ∧ IntKind.i64 = IntKind.i64 ∧ a = a) ∧
                                      (True ∧
                                          pr = pr ∧
                                            ((0 : Nat) = (0 : Nat) ∧ n = n) ∧
                                              (True ∧ px = px) ∧ (True ∧ py = py) ∧ (True ∧ pd = pd) ∧ True) ∧
                                        (True ∧
                                            IntKind.i64 = IntKind.i64 ∧
                                              List.set (boxF a px py (Int.toNat a_1)) (Int.toNat (0 : Int))
                                                  (if
                                                      List.getD (boxF a px py (Int.toNat a_1)) (Int.toNat (0 : Int))
                                                          (0 : Int) <
                                                        List.getD a (Int.toNat a_1 * (3 : Nat)) (0 : Int) then
                                                    List.getD (boxF a px py (Int.toNat a_1)) (Int.toNat (0 : Int))
                                                      (0 : Int)
                                                  else List.getD a (Int.toNat a_1 * (3 : Nat)) (0 : Int)) =
                                                up0 (boxF a px py (Int.toNat a_1))
                                                  (List.getD a (Int.toNat a_1 * (3 : Nat)) (0 : Int))
                                                  (List.getD a (Int.toNat a_1 * (3 : Nat) + (1 : Nat)) (0 : Int))) ∧
                                          (True ∧
                                              (True ∧
                                                  List.getD a (Int.toNat a_1 * (3 : Nat)) (0 : Int) =
                                                    List.getD a (Int.toNat a_1 * (3 : Nat)) (0 : Int)) ∧
                                                (True ∧
                                                    List.getD a (Int.toNat a_1 * (3 : Nat) + (1 : Nat)) (0 : Int) =
                                                      List.getD a (Int.toNat a_1 * (3 : Nat) + (1 : Nat)) (0 : Int)) ∧
                                                  (True ∧
                                                      List.getD a (Int.toNat a_1 * (3 : Nat) + (1 : Nat) + (1 : Nat))
                                                          (0 : Int) =
                                                        List.getD a (Int.toNat a_1 * (3 : Nat) + (1 : Nat) + (1 : Nat))
                                                          (0 : Int)) ∧
                                                    True) ∧
                                            True) ∧
                                    True) ∧
                  (True ∧
                      At ((0 : Int) ≤ (1 : Int) ∧ (1 : Int) < (↑(4 : Nat) : Int)) ∧
                        At
                            (Int.toNat (1 : Int) <
                              List.length
                                (up0 (boxF a px py (Int.toNat a_1)) (List.getD a (Int.toNat a_1 * (3 : Nat)) (0 : Int))
                                  (List.getD a (Int.toNat a_1 * (3 : Nat) + (1 : Nat)) (0 : Int)))) ∧
                          At True ∧
                            At ((0 : Int) ≤ (1 : Int) ∧ (1 : Int) < (↑(4 : Nat) : Int)) ∧
                              At
                                  (Int.toNat (1 : Int) <
                                    List.length
                                      (up0 (boxF a px py (Int.toNat a_1))
                                        (List.getD a (Int.toNat a_1 * (3 : Nat)) (0 : Int))
                                        (List.getD a (Int.toNat a_1 * (3 : Nat) + (1 : Nat)) (0 : Int)))) ∧
                                True ∧
                                  (((1 : Nat) = (1 : Nat) ∧ (0 : Nat) = (0 : Nat)) ∧
                                      ((2 : Nat) = (2 : Nat) ∧ (4 : Nat) = (4 : Nat)) ∧
                                        ((3 : Nat) = (3 : Nat) ∧ (0 : Nat) = (0 : Nat)) ∧
                                          ((0 : Nat) = (0 : Nat) ∧ n = n) ∧
                                            (True ∧ (↑n : Int) = (↑n : Int)) ∧ (True ∧ a_1 = a_1) ∧ True) ∧
                                    ((True ∧ IntKind.i64 = IntKind.i64 ∧ a = a) ∧
                                        (True ∧
                                            pr = pr ∧
                                              ((0 : Nat) = (0 : Nat) ∧ n = n) ∧
                                                (True ∧ px = px) ∧ (True ∧ py = py) ∧ (True ∧ pd = pd) ∧ True) ∧
                                          (True ∧
                                              IntKind.i64 = IntKind.i64 ∧
                                                List.set
                                                    (up0 (boxF a px py (Int.toNat a_1))
                                                      (List.getD a (Int.toNat a_1 * (3 : Nat)) (0 : Int))
                                                      (List.getD a (Int.toNat a_1 * (3 : Nat) + (1 : Nat)) (0 : Int)))
                                                    (Int.toNat (1 : Int))
                                                    (if
                                                        List.getD a (Int.toNat a_1 * (3 : Nat)) (0 : Int) <
                                                          List.getD
                                                            (up0 (boxF a px py (Int.toNat a_1))
                                                              (List.getD a (Int.toNat a_1 * (3 : Nat)) (0 : Int))
                                                              (List.getD a (Int.toNat a_1 * (3 : Nat) + (1 : Nat))
                                                                (0 : Int)))
                                                            (Int.toNat (1 : Int)) (0 : Int) then
                                                      List.getD
                                                        (up0 (boxF a px py (Int.toNat a_1))
                                                          (List.getD a (Int.toNat a_1 * (3 : Nat)) (0 : Int))
                                                          (List.getD a (Int.toNat a_1 * (3 : Nat) + (1 : Nat))
                                                            (0 : Int)))
                                                        (Int.toNat (1 : Int)) (0 : Int)
                                                    else List.getD a (Int.toNat a_1 * (3 : Nat)) (0 : Int)) =
                                                  up1
                                                    (up0 (boxF a px py (Int.toNat a_1))
                                                      (List.getD a (Int.toNat a_1 * (3 : Nat)) (0 : Int))
                                                      (List.getD a (Int.toNat a_1 * (3 : Nat) + (1 : Nat)) (0 : Int)))
                                                    (List.getD a (Int.toNat a_1 * (3 : Nat)) (0 : Int))
                                                    (List.getD a (Int.toNat a_1 * (3 : Nat) + (1 : Nat)) (0 : Int))) ∧
                                            (True ∧
                                                (True ∧
                                                    List.getD a (Int.toNat a_1 * (3 : Nat)) (0 : Int) =
                                                      List.getD a (Int.toNat a_1 * (3 : Nat)) (0 : Int)) ∧
                                                  (True ∧
                                                      List.getD a (Int.toNat a_1 * (3 : Nat) + (1 : Nat)) (0 : Int) =
                                                        List.getD a (Int.toNat a_1 * (3 : Nat) + (1 : Nat)) (0 : Int)) ∧
                                                    (True ∧
                                                        List.getD a (Int.toNat a_1 * (3 : Nat) + (1 : Nat) + (1 : Nat))
                                                            (0 : Int) =
                                                          List.getD a
                                                            (Int.toNat a_1 * (3 : Nat) + (1 : Nat) + (1 : Nat))
                                                            (0 : Int)) ∧
                                                      True) ∧
                                              True) ∧
                                      True) ∧
                    (True ∧
                        At ((0 : Int) ≤ (2 : Int) ∧ (2 : Int) < (↑(4 : Nat) : Int)) ∧
                          At
                              (Int.toNat (2 : Int) <
                                List.length
                                  (up1
                                    (up0 (boxF a px py (Int.toNat a_1))
                                      (List.getD a (Int.toNat a_1 * (3 : Nat)) (0 : Int))
                                      (List.getD a (Int.toNat a_1 * (3 : Nat) + (1 : Nat)) (0 : Int)))
                                    (List.getD a (Int.toNat a_1 * (3 : Nat)) (0 : Int))
                                    (List.getD a (Int.toNat a_1 * (3 : Nat) + (1 : Nat)) (0 : Int)))) ∧
                            At True ∧
                              At ((0 : Int) ≤ (2 : Int) ∧ (2 : Int) < (↑(4 : Nat) : Int)) ∧
                                At
                                    (Int.toNat (2 : Int) <
                                      List.length
                                        (up1
                                          (up0 (boxF a px py (Int.toNat a_1))
                                            (List.getD a (Int.toNat a_1 * (3 : Nat)) (0 : Int))
                                            (List.getD a (Int.toNat a_1 * (3 : Nat) + (1 : Nat)) (0 : Int)))
                                          (List.getD a (Int.toNat a_1 * (3 : Nat)) (0 : Int))
                                          (List.getD a (Int.toNat a_1 * (3 : Nat) + (1 : Nat)) (0 : Int)))) ∧
                                  True ∧
                                    (((1 : Nat) = (1 : Nat) ∧ (0 : Nat) = (0 : Nat)) ∧
                                        ((2 : Nat) = (2 : Nat) ∧ (4 : Nat) = (4 : Nat)) ∧
                                          ((3 : Nat) = (3 : Nat) ∧ (0 : Nat) = (0 : Nat)) ∧
                                            ((0 : Nat) = (0 : Nat) ∧ n = n) ∧
                                              (True ∧ (↑n : Int) = (↑n : Int)) ∧ (True ∧ a_1 = a_1) ∧ True) ∧
                                      ((True ∧ IntKind.i64 = IntKind.i64 ∧ a = a) ∧
                                          (True ∧
                                              pr = pr ∧
                                                ((0 : Nat) = (0 : Nat) ∧ n = n) ∧
                                                  (True ∧ px = px) ∧ (True ∧ py = py) ∧ (True ∧ pd = pd) ∧ True) ∧
                                            (True ∧
                                                IntKind.i64 = IntKind.i64 ∧
                                                  List.set
                                                      (up1
                                                        (up0 (boxF a px py (Int.toNat a_1))
                                                          (List.getD a (Int.toNat a_1 * (3 : Nat)) (0 : Int))
                                                          (List.getD a (Int.toNat a_1 * (3 : Nat) + (1 : Nat))
                                                            (0 : Int)))
                                                        (List.getD a (Int.toNat a_1 * (3 : Nat)) (0 : Int))
                                                        (List.getD a (Int.toNat a_1 * (3 : Nat) + (1 : Nat)) (0 : Int)))
                                                      (Int.toNat (2 : Int))
                                                      (if
                                                          List.getD
                                                              (up1
                                                                (up0 (boxF a px py (Int.toNat a_1))
                                                                  (List.getD a (Int.toNat a_1 * (3 : Nat)) (0 : Int))
                                                                  (List.getD a (Int.toNat a_1 * (3 : Nat) + (1 : Nat))
                                                                    (0 : Int)))
                                                                (List.getD a (Int.toNat a_1 * (3 : Nat)) (0 : Int))
                                                                (List.getD a (Int.toNat a_1 * (3 : Nat) + (1 : Nat))
                                                                  (0 : Int)))
                                                              (Int.toNat (2 : Int)) (0 : Int) <
                                                            List.getD a (Int.toNat a_1 * (3 : Nat) + (1 : Nat))
                                                              (0 : Int) then
                                                        List.getD
                                                          (up1
                                                            (up0 (boxF a px py (Int.toNat a_1))
                                                              (List.getD a (Int.toNat a_1 * (3 : Nat)) (0 : Int))
                                                              (List.getD a (Int.toNat a_1 * (3 : Nat) + (1 : Nat))
                                                                (0 : Int)))
                                                            (List.getD a (Int.toNat a_1 * (3 : Nat)) (0 : Int))
                                                            (List.getD a (Int.toNat a_1 * (3 : Nat) + (1 : Nat))
                                                              (0 : Int)))
                                                          (Int.toNat (2 : Int)) (0 : Int)
                                                      else
                                                        List.getD a (Int.toNat a_1 * (3 : Nat) + (1 : Nat)) (0 : Int)) =
                                                    up2
                                                      (up1
                                                        (up0 (boxF a px py (Int.toNat a_1))
                                                          (List.getD a (Int.toNat a_1 * (3 : Nat)) (0 : Int))
                                                          (List.getD a (Int.toNat a_1 * (3 : Nat) + (1 : Nat))
                                                            (0 : Int)))
                                                        (List.getD a (Int.toNat a_1 * (3 : Nat)) (0 : Int))
                                                        (List.getD a (Int.toNat a_1 * (3 : Nat) + (1 : Nat)) (0 : Int)))
                                                      (List.getD a (Int.toNat a_1 * (3 : Nat)) (0 : Int))
                                                      (List.getD a (Int.toNat a_1 * (3 : Nat) + (1 : Nat)) (0 : Int))) ∧
                                              (True ∧
                                                  (True ∧
                                                      List.getD a (Int.toNat a_1 * (3 : Nat)) (0 : Int) =
                                                        List.getD a (Int.toNat a_1 * (3 : Nat)) (0 : Int)) ∧
                                                    (True ∧
                                                        List.getD a (Int.toNat a_1 * (3 : Nat) + (1 : Nat)) (0 : Int) =
                                                          List.getD a (Int.toNat a_1 * (3 : Nat) + (1 : Nat))
                                                            (0 : Int)) ∧
                                                      (True ∧
                                                          List.getD a
                                                              (Int.toNat a_1 * (3 : Nat) + (1 : Nat) + (1 : Nat))
                                                              (0 : Int) =
                                                            List.getD a
                                                              (Int.toNat a_1 * (3 : Nat) + (1 : Nat) + (1 : Nat))
                                                              (0 : Int)) ∧
                                                        True) ∧
                                                True) ∧
                                        True) ∧
                      (True ∧
                          At ((0 : Int) ≤ (3 : Int) ∧ (3 : Int) < (↑(4 : Nat) : Int)) ∧
                            At
                                (Int.toNat (3 : Int) <
                                  List.length
                                    (up2
                                      (up1
                                        (up0 (boxF a px py (Int.toNat a_1))
                                          (List.getD a (Int.toNat a_1 * (3 : Nat)) (0 : Int))
                                          (List.getD a (Int.toNat a_1 * (3 : Nat) + (1 : Nat)) (0 : Int)))
                                        (List.getD a (Int.toNat a_1 * (3 : Nat)) (0 : Int))
                                        (List.getD a (Int.toNat a_1 * (3 : Nat) + (1 : Nat)) (0 : Int)))
                                      (List.getD a (Int.toNat a_1 * (3 : Nat)) (0 : Int))
                                      (List.getD a (Int.toNat a_1 * (3 : Nat) + (1 : Nat)) (0 : Int)))) ∧
                              At True ∧
                                At ((0 : Int) ≤ (3 : Int) ∧ (3 : Int) < (↑(4 : Nat) : Int)) ∧
                                  At
                                      (Int.toNat (3 : Int) <
                                        List.length
                                          (up2
                                            (up1
                                              (up0 (boxF a px py (Int.toNat a_1))
                                                (List.getD a (Int.toNat a_1 * (3 : Nat)) (0 : Int))
                                                (List.getD a (Int.toNat a_1 * (3 : Nat) + (1 : Nat)) (0 : Int)))
                                              (List.getD a (Int.toNat a_1 * (3 : Nat)) (0 : Int))
                                              (List.getD a (Int.toNat a_1 * (3 : Nat) + (1 : Nat)) (0 : Int)))
                                            (List.getD a (Int.toNat a_1 * (3 : Nat)) (0 : Int))
                                            (List.getD a (Int.toNat a_1 * (3 : Nat) + (1 : Nat)) (0 : Int)))) ∧
                                    True ∧
                                      (((1 : Nat) = (1 : Nat) ∧ (0 : Nat) = (0 : Nat)) ∧
                                          ((2 : Nat) = (2 : Nat) ∧ (4 : Nat) = (4 : Nat)) ∧
                                            ((3 : Nat) = (3 : Nat) ∧ (0 : Nat) = (0 : Nat)) ∧
                                              ((0 : Nat) = (0 : Nat) ∧ n = n) ∧
                                                (True ∧ (↑n : Int) = (↑n : Int)) ∧ (True ∧ a_1 = a_1) ∧ True) ∧
                                        ((True ∧ IntKind.i64 = IntKind.i64 ∧ a = a) ∧
                                            (True ∧
                                                pr = pr ∧
                                                  ((0 : Nat) = (0 : Nat) ∧ n = n) ∧
                                                    (True ∧ px = px) ∧ (True ∧ py = py) ∧ (True ∧ pd = pd) ∧ True) ∧
                                              (True ∧
                                                  IntKind.i64 = IntKind.i64 ∧
                                                    List.set
                                                        (up2
                                                          (up1
                                                            (up0 (boxF a px py (Int.toNat a_1))
                                                              (List.getD a (Int.toNat a_1 * (3 : Nat)) (0 : Int))
                                                              (List.getD a (Int.toNat a_1 * (3 : Nat) + (1 : Nat))
                                                                (0 : Int)))
                                                            (List.getD a (Int.toNat a_1 * (3 : Nat)) (0 : Int))
                                                            (List.getD a (Int.toNat a_1 * (3 : Nat) + (1 : Nat))
                                                              (0 : Int)))
                                                          (List.getD a (Int.toNat a_1 * (3 : Nat)) (0 : Int))
                                                          (List.getD a (Int.toNat a_1 * (3 : Nat) + (1 : Nat))
                                                            (0 : Int)))
                                                        (Int.toNat (3 : Int))
                                                        (if
                                                            List.getD a (Int.toNat a_1 * (3 : Nat) + (1 : Nat))
                                                                (0 : Int) <
                                                              List.getD
                                                                (up2
                                                                  (up1
                                                                    (up0 (boxF a px py (Int.toNat a_1))
                                                                      (List.getD a (Int.toNat a_1 * (3 : Nat))
                                                                        (0 : Int))
                                                                      (List.getD a
                                                                        (Int.toNat a_1 * (3 : Nat) + (1 : Nat))
                                                                        (0 : Int)))
                                                                    (List.getD a (Int.toNat a_1 * (3 : Nat)) (0 : Int))
                                                                    (List.getD a (Int.toNat a_1 * (3 : Nat) + (1 : Nat))
                                                                      (0 : Int)))
                                                                  (List.getD a (Int.toNat a_1 * (3 : Nat)) (0 : Int))
                                                                  (List.getD a (Int.toNat a_1 * (3 : Nat) + (1 : Nat))
                                                                    (0 : Int)))
                                                                (Int.toNat (3 : Int)) (0 : Int) then
                                                          List.getD
                                                            (up2
                                                              (up1
                                                                (up0 (boxF a px py (Int.toNat a_1))
                                                                  (List.getD a (Int.toNat a_1 * (3 : Nat)) (0 : Int))
                                                                  (List.getD a (Int.toNat a_1 * (3 : Nat) + (1 : Nat))
                                                                    (0 : Int)))
                                                                (List.getD a (Int.toNat a_1 * (3 : Nat)) (0 : Int))
                                                                (List.getD a (Int.toNat a_1 * (3 : Nat) + (1 : Nat))
                                                                  (0 : Int)))
                                                              (List.getD a (Int.toNat a_1 * (3 : Nat)) (0 : Int))
                                                              (List.getD a (Int.toNat a_1 * (3 : Nat) + (1 : Nat))
                                                                (0 : Int)))
                                                            (Int.toNat (3 : Int)) (0 : Int)
                                                        else
                                                          List.getD a (Int.toNat a_1 * (3 : Nat) + (1 : Nat))
                                                            (0 : Int)) =
                                                      up3
                                                        (up2
                                                          (up1
                                                            (up0 (boxF a px py (Int.toNat a_1))
                                                              (List.getD a (Int.toNat a_1 * (3 : Nat)) (0 : Int))
                                                              (List.getD a (Int.toNat a_1 * (3 : Nat) + (1 : Nat))
                                                                (0 : Int)))
                                                            (List.getD a (Int.toNat a_1 * (3 : Nat)) (0 : Int))
                                                            (List.getD a (Int.toNat a_1 * (3 : Nat) + (1 : Nat))
                                                              (0 : Int)))
                                                          (List.getD a (Int.toNat a_1 * (3 : Nat)) (0 : Int))
                                                          (List.getD a (Int.toNat a_1 * (3 : Nat) + (1 : Nat))
                                                            (0 : Int)))
                                                        (List.getD a (Int.toNat a_1 * (3 : Nat)) (0 : Int))
                                                        (List.getD a (Int.toNat a_1 * (3 : Nat) + (1 : Nat))
                                                          (0 : Int))) ∧
                                                (True ∧
                                                    (True ∧
                                                        List.getD a (Int.toNat a_1 * (3 : Nat)) (0 : Int) =
                                                          List.getD a (Int.toNat a_1 * (3 : Nat)) (0 : Int)) ∧
                                                      (True ∧
                                                          List.getD a (Int.toNat a_1 * (3 : Nat) + (1 : Nat))
                                                              (0 : Int) =
                                                            List.getD a (Int.toNat a_1 * (3 : Nat) + (1 : Nat))
                                                              (0 : Int)) ∧
                                                        (True ∧
                                                            List.getD a
                                                                (Int.toNat a_1 * (3 : Nat) + (1 : Nat) + (1 : Nat))
                                                                (0 : Int) =
                                                              List.getD a
                                                                (Int.toNat a_1 * (3 : Nat) + (1 : Nat) + (1 : Nat))
                                                                (0 : Int)) ∧
                                                          True) ∧
                                                  True) ∧
                                          True) ∧
                        ((((1 : Nat) = (1 : Nat) ∧ (0 : Nat) = (0 : Nat)) ∧
                              ((2 : Nat) = (2 : Nat) ∧ (4 : Nat) = (4 : Nat)) ∧
                                ((0 : Nat) = (0 : Nat) ∧ n = n) ∧
                                  (True ∧ (↑n : Int) = (↑n : Int)) ∧
                                    (True ∧
                                        IntKind.wrap IntKind.i64 (a_1 + (1 : Int)) =
                                          IntKind.wrap IntKind.i64 (a_1 + (1 : Int))) ∧
                                      True) ∧
                            ((True ∧ IntKind.i64 = IntKind.i64 ∧ a = a) ∧
                                (True ∧
                                    pr = pr ∧
                                      ((0 : Nat) = (0 : Nat) ∧ n = n) ∧
                                        (True ∧ px = px) ∧ (True ∧ py = py) ∧ (True ∧ pd = pd) ∧ True) ∧
                                  (True ∧
                                      IntKind.i64 = IntKind.i64 ∧
                                        up3
                                            (up2
                                              (up1
                                                (up0 (boxF a px py (Int.toNat a_1))
                                                  (List.getD a (Int.toNat a_1 * (3 : Nat)) (0 : Int))
                                                  (List.getD a (Int.toNat a_1 * (3 : Nat) + (1 : Nat)) (0 : Int)))
                                                (List.getD a (Int.toNat a_1 * (3 : Nat)) (0 : Int))
                                                (List.getD a (Int.toNat a_1 * (3 : Nat) + (1 : Nat)) (0 : Int)))
                                              (List.getD a (Int.toNat a_1 * (3 : Nat)) (0 : Int))
                                              (List.getD a (Int.toNat a_1 * (3 : Nat) + (1 : Nat)) (0 : Int)))
                                            (List.getD a (Int.toNat a_1 * (3 : Nat)) (0 : Int))
                                            (List.getD a (Int.toNat a_1 * (3 : Nat) + (1 : Nat)) (0 : Int)) =
                                          boxF a px py (Int.toNat (IntKind.wrap IntKind.i64 (a_1 + (1 : Int))))) ∧
                                    True) ∧
                              True) ∧
                          At
                            (ivInv n (fun (x : Int) ↦ True) (IntKind.wrap IntKind.i64 (a_1 + (1 : Int))) ∧
                              Int.toNat ((↑n : Int) - IntKind.wrap IntKind.i64 (a_1 + (1 : Int))) <
                                Int.toNat ((↑n : Int) - a_1))) ∧
          (decide (a_1 < (↑n : Int)) = false →
            K (V.row (2 : Nat) (4 : Nat))
              [{ cs := Cells.ints IntKind.i64 a, elem := 52, kind := Kind.rows (3 : Nat) },
                {
                  cs :=
                    Cells.vals
                      [V.str pr, V.row (0 : Nat) n, V.int IntKind.i64 px, V.int IntKind.i64 py, V.int IntKind.i64 pd],
                  elem := 36, kind := Kind.box },
                { cs := Cells.ints IntKind.i64 (boxF a px py (Int.toNat a_1)), elem := 3, kind := Kind.row }])

def VC_spec_BoxOfPlain (pr : List UInt8) (n : Nat) (px : Int) (py : Int) (pd : Int) (a : List Int) (K : V → List Blk → Prop) : Prop :=
  At (List.length a = n * (3 : Nat) ∧ n ≤ (2000000 : Nat)) ∧
  ((!goodP pr n a px py pd) = true →
      K (V.tup [V.raw (Value.slice none (0 : Nat) (0 : Nat)), V.lit false])
        [{ cs := Cells.ints IntKind.i64 a, elem := 52, kind := Kind.rows (3 : Nat) },
          {
            cs :=
              Cells.vals
                [V.str pr, V.row (0 : Nat) n, V.int IntKind.i64 px, V.int IntKind.i64 py, V.int IntKind.i64 pd],
            elem := 36, kind := Kind.box }]) ∧
    ((!goodP pr n a px py pd) = false →
      At (List.length a = n * (3 : Nat) ∧ n ≤ (2000000 : Nat)) ∧
        K (V.tup [V.row (2 : Nat) (4 : Nat), V.lit true])
          [{ cs := Cells.ints IntKind.i64 a, elem := 52, kind := Kind.rows (3 : Nat) },
            {
              cs :=
                Cells.vals
                  [V.str pr, V.row (0 : Nat) n, V.int IntKind.i64 px, V.int IntKind.i64 py, V.int IntKind.i64 pd],
              elem := 36, kind := Kind.box },
            { cs := Cells.ints IntKind.i64 (boxF a px py n), elem := 3, kind := Kind.row }])

def VC_impl_boxOf (n : Nat) (f : List Int) (K : V → List Blk → Prop) : Prop := At ((0 : Int) ≤ (0 : Int) ∧ (0 : Int) < (↑n : Int)) ∧ At (Int.toNat (0 : Int) * (2 : Nat) + (2 : Nat) 
  ≤ List.length f) ∧ (True ∧ (((1 : Nat) = (1 : Nat) ∧ (4 : Nat) = (4 : Nat)) ∧ ((0 : Nat) = (0 : Nat) ∧ n = n) ∧ (True ∧ (↑n : Int) = (↑n : Int)) ∧ (True ∧ (0 : Int) = (0 : Int)) ∧ True) 
  ∧ ((True ∧ IntKind.i64 = IntKind.i64 ∧ f = f) ∧ (True ∧ IntKind.i64 = IntKind.i64 ∧ [List.getD f (Int.toNat (0 : Int) * (2 : Nat)) (0 : Int), List.getD f (Int.toNat (0 : Int) * (2 : 
  Nat)) (0 : Int), List.getD f (Int.toNat (0 : Int) * (2 : Nat) + (1 : Nat)) (0 : Int), List.getD f (Int.toNat (0 : Int) * (2 : Nat) + (1 : Nat)) (0 : Int)] = bx4 (bxF f (Int.toNat (0 
  : Int)))) ∧ True) ∧ True) ∧ At (ixN n (0 : Int)) ∧ ∀ (a : Int), ixN n a → (decide (a < (↑n : Int)) = true → At ((0 : Int) ≤ a ∧ a < (↑n : Int)) ∧ At (Int.toNat a * (2 : Nat) + (2 : 
  Nat) ≤ List.length f) ∧ (At ((0 : Int) ≤ (0 : Int) ∧ (0 : Int) < (↑(4 : Nat) : Int)) ∧ At (Int.toNat (0 : Int) < List.length (bx4 (bxF f (Int.toNat a)))) ∧ At ((0 : Int) ≤ (1 : Int) 
  ∧ (1 : Int) < (↑(4 : Nat) : Int)) ∧ At (Int.toNat (1 : Int) < List.length (bx4 (bxF f (Int.toNat a)))) ∧ At ((0 : Int) ≤ (0 : Int) ∧ (0 : Int) < (↑(4 : Nat) : Int)) ∧ ((At (Int.toNat 
  (0 : Int) < List.length (bx4 (bxF f (Int.toNat a)))) ∧ At ((0 : Int) ≤ (1 : Int) ∧ (1 : Int) < (↑(4 : Nat) : Int)) ∧ (At (Int.toNat (1 : Int) < List.length (List.set (bx4 (bxF f (Int.toNat 
  a))) (Int.toNat (0 : Int)) (if List.getD f (Int.toNat a * (2 : Nat)) (0 : Int) < List.getD (bx4 (bxF f (Int.toNat a))) (Int.toNat (0 : Int)) (0 : Int) then List.getD f (Int.toNat a 
  * (2 : Nat)) (0 : Int) else List.getD (bx4 (bxF f (Int.toNat a))) (Int.toNat (0 : Int)) (0 : Int)))) ∧ True ∧ (((1 : Nat) = (1 : Nat) ∧ (4 : Nat) = (4 : Nat)) ∧ ((2 : Nat) = (2 : Nat) 
  ∧ (0 : Nat) = (0 : Nat)) ∧ ((0 : Nat) = (0 : Nat) ∧ n = n) ∧ (True ∧ (↑n : Int) = (↑n : Int)) ∧ (True ∧ a = a) ∧ True) ∧ ((True ∧ IntKind.i64 = IntKind.i64 ∧ f = f) ∧ (True ∧ IntKind.i64 
  = IntKind.i64 ∧ List.set (List.set (bx4 (bxF f (Int.toNat a))) (Int.toNat (0 : Int)) (if List.getD f (Int.toNat a * (2 : Nat)) (0 : Int) < List.getD (bx4 (bxF f (Int.toNat a))) (Int.toNat 
  (0 : Int)) (0 : Int) then List.getD f (Int.toNat a * (2 : Nat)) (0 : Int) else List.getD (bx4 (bxF f (Int.toNat a))) (Int.toNat (0 : Int)) (0 : Int))) (Int.toNat (1 : Int)) (if List.getD 
  (bx4 (bxF f (Int.toNat a))) (Int.toNat (1 : Int)) (0 : Int) < List.getD f (Int.toNat a * (2 : Nat)) (0 : Int) then List.getD f (Int.toNat a * (2 : Nat)) (0 : Int) else List.getD (bx4 
  (bxF f (Int.toNat a))) (Int.toNat (1 : Int)) (0 : Int)) = [leI (List.getD (bx4 (bxF f (Int.toNat a))) (0 : Nat) (0 : Int)) (List.getD f (Int.toNat a * (2 : Nat)) (0 : Int)), moI (List.getD 
  (bx4 (bxF f (Int.toNat a))) (1 : Nat) (0 : Int)) (List.getD f (Int.toNat a * (2 : Nat)) (0 : Int)), List.getD (bx4 (bxF f (Int.toNat a))) (2 : Nat) (0 : Int), List.getD (bx4 (bxF f 
  (Int.toNat a))) (3 : Nat) (0 : Int)]) ∧ (True ∧ (True ∧ List.getD f (Int.toNat a * (2 : Nat)) (0 : Int) = List.getD f (Int.toNat a * (2 : Nat)) (0 : Int)) ∧ (True ∧ List.getD f (Int.toNat 
  a * (2 : Nat) + (1 : Nat)) (0 : Int) = List.getD f (Int.toNat a * (2 : Nat) + (1 : Nat)) (0 : Int)) ∧ True) ∧ True) ∧ True) ∧ True) ∧ True) ∧ (At (Int.toNat (0 : Int) < List.length 
  (bx4 (bxF f (Int.toNat a)))) ∧ At ((0 : Int) ≤ (1 : Int) ∧ (1 : Int) < (↑(4 : Nat) : Int)) ∧ (At (Int.toNat (1 : Int) < List.length (List.set (bx4 (bxF f (Int.toNat a))) (Int.toNat 
  (0 : Int)) (if List.getD f (Int.toNat a * (2 : Nat)) (0 : Int) < List.getD (bx4 (bxF f (Int.toNat a))) (Int.toNat (0 : Int)) (0 : Int) then List.getD f (Int.toNat a * (2 : Nat)) (0 
  : Int) else List.getD (bx4 (bxF f (Int.toNat a))) (Int.toNat (0 : Int)) (0 : Int)))) ∧ True ∧ (((1 : Nat) = (1 : Nat) ∧ (4 : Nat) = (4 : Nat)) ∧ ((2 : Nat) = (2 : Nat) ∧ (0 : Nat) = 
  (0 : Nat)) ∧ ((0 : Nat) = (0 : Nat) ∧ n = n) ∧ (True ∧ (↑n : Int) = (↑n : Int)) ∧ (True ∧ a = a) ∧ True) ∧ ((True ∧ IntKind.i64 = IntKind.i64 ∧ f = f) ∧ (True ∧ IntKind.i64 = IntKind.i64 
  ∧ List.set (List.set (bx4 (bxF f (Int.toNat a))) (Int.toNat (0 : Int)) (if List.getD f (Int.toNat a * (2 : Nat)) (0 : Int) < List.getD (bx4 (bxF f (Int.toNat a))) (Int.toNat (0 : Int)) 
  (0 : Int) then List.getD f (Int.toNat a * (2 : Nat)) (0 : Int) else List.getD (bx4 (bxF f (Int.toNat a))) (Int.toNat (0 : Int)) (0 : Int))) (Int.toNat (1 : Int)) (if List.getD (bx4 
  (bxF f (Int.toNat a))) (Int.toNat (1 : Int)) (0 : Int) < List.getD f (Int.toNat a * (2 : Nat)) (0 : Int) then List.getD f (Int.toNat a * (2 : Nat)) (0 : Int) else List.getD (bx4 (bxF 
  f (Int.toNat a))) (Int.toNat (1 : Int)) (0 : Int)) = [leI (List.getD (bx4 (bxF f (Int.toNat a))) (0 : Nat) (0 : Int)) (List.getD f (Int.toNat a * (2 : Nat)) (0 : Int)), moI (List.getD 
  (bx4 (bxF f (Int.toNat a))) (1 : Nat) (0 : Int)) (List.getD f (Int.toNat a * (2 : Nat)) (0 : Int)), List.getD (bx4 (bxF f (Int.toNat a))) (2 : Nat) (0 : Int), List.getD (bx4 (bxF f 
  (Int.toNat a))) (3 : Nat) (0 : Int)]) ∧ (True ∧ (True ∧ List.getD f (Int.toNat a * (2 : Nat)) (0 : Int) = List.getD f (Int.toNat a * (2 : Nat)) (0 : Int)) ∧ (True ∧ List.getD f (Int.toNat 
  a * (2 : Nat) + (1 : Nat)) (0 : Int) = List.getD f (Int.toNat a * (2 : Nat) + (1 : Nat)) (0 : Int)) ∧ True) ∧ True) ∧ True) ∧ True) ∧ True) ∧ (At ((0 : Int) ≤ (2 : Int) ∧ (2 : Int) 
  < (↑(4 : Nat) : Int)) ∧ At (Int.toNat (2 : Int) < List.length [leI (List.getD (bx4 (bxF f (Int.toNat a))) (0 : Nat) (0 : Int)) (List.getD f (Int.toNat a * (2 : Nat)) (0 : Int)), moI 
  (List.getD (bx4 (bxF f (Int.toNat a))) (1 : Nat) (0 : Int)) (List.getD f (Int.toNat a * (2 : Nat)) (0 : Int)), List.getD (bx4 (bxF f (Int.toNat a))) (2 : Nat) (0 : Int), List.getD (bx4 
  (bxF f (Int.toNat a))) (3 : Nat) (0 : Int)]) ∧ At ((0 : Int) ≤ (3 : Int) ∧ (3 : Int) < (↑(4 : Nat) : Int)) ∧ At (Int.toNat (3 : Int) < List.length [leI (List.getD (bx4 (bxF f (Int.toNat 
  a))) (0 : Nat) (0 : Int)) (List.getD f (Int.toNat a * (2 : Nat)) (0 : Int)), moI (List.getD (bx4 (bxF f (Int.toNat a))) (1 : Nat) (0 : Int)) (List.getD f (Int.toNat a * (2 : Nat)) (0 
  : Int)), List.getD (bx4 (bxF f (Int.toNat a))) (2 : Nat) (0 : Int), List.getD (bx4 (bxF f (Int.toNat a))) (3 : Nat) (0 : Int)]) ∧ At ((0 : Int) ≤ (2 : Int) ∧ (2 : Int) < (↑(4 : Nat) 
  : Int)) ∧ ((At (Int.toNat (2 : Int) < List.length [leI (List.getD (bx4 (bxF f (Int.toNat a))) (0 : Nat) (0 : Int)) (List.getD f (Int.toNat a * (2 : Nat)) (0 : Int)), moI (List.getD 
  (bx4 (bxF f (Int.toNat a))) (1 : Nat) (0 : Int)) (List.getD f (Int.toNat a * (2 : Nat)) (0 : Int)), List.getD (bx4 (bxF f (Int.toNat a))) (2 : Nat) (0 : Int), List.getD (bx4 (bxF f 
  (Int.toNat a))) (3 : Nat) (0 : Int)]) ∧ At ((0 : Int) ≤ (3 : Int) ∧ (3 : Int) < (↑(4 : Nat) : Int)) ∧ (At (Int.toNat (3 : Int) < List.length (List.set [leI (List.getD (bx4 (bxF f (Int.toNat 
  a))) (0 : Nat) (0 : Int)) (List.getD f (Int.toNat a * (2 : Nat)) (0 : Int)), moI (List.getD (bx4 (bxF f (Int.toNat a))) (1 : Nat) (0 : Int)) (List.getD f (Int.toNat a * (2 : Nat)) (0 
  : Int)), List.getD (bx4 (bxF f (Int.toNat a))) (2 : Nat) (0 : Int), List.getD (bx4 (bxF f (Int.toNat a))) (3 : Nat) (0 : Int)] (Int.toNat (2 : Int)) (if List.getD f (Int.toNat a * (2 
  : Nat) + (1 : Nat)) (0 : Int) < List.getD [leI (List.getD (bx4 (bxF f (Int.toNat a))) (0 : Nat) (0 : Int)) (List.getD f (Int.toNat a * (2 : Nat)) (0 : Int)), moI (List.getD (bx4 (bxF 
  f (Int.toNat a))) (1 : Nat) (0 : Int)) (List.getD f (Int.toNat a * (2 : Nat)) (0 : Int)), List.getD (bx4 (bxF f (Int.toNat a))) (2 : Nat) (0 : Int), List.getD (bx4 (bxF f (Int.toNat 
  a))) (3 : Nat) (0 : Int)] (Int.toNat (2 : Int)) (0 : Int) then List.getD f (Int.toNat a * (2 : Nat) + (1 : Nat)) (0 : Int) else List.getD [leI (List.getD (bx4 (bxF f (Int.toNat a))) 
  (0 : Nat) (0 : Int)) (List.getD f (Int.toNat a * (2 : Nat)) (0 : Int)), moI (List.getD (bx4 (bxF f (Int.toNat a))) (1 : Nat) (0 : Int)) (List.getD f (Int.toNat a * (2 : Nat)) (0 : Int)), 
  List.getD (bx4 (bxF f (Int.toNat a))) (2 : Nat) (0 : Int), List.getD (bx4 (bxF f (Int.toNat a))) (3 : Nat) (0 : Int)] (Int.toNat (2 : Int)) (0 : Int)))) ∧ True ∧ (((1 : Nat) = (1 : 
  Nat) ∧ (4 : Nat) = (4 : Nat)) ∧ ((0 : Nat) = (0 : Nat) ∧ n = n) ∧ (True ∧ (↑n : Int) = (↑n : Int)) ∧ (True ∧ a = a) ∧ True) ∧ ((True ∧ IntKind.i64 = IntKind.i64 ∧ f = f) ∧ (True ∧ IntKind.i64 
  = IntKind.i64 ∧ List.set (List.set [leI (List.getD (bx4 (bxF f (Int.toNat a))) (0 : Nat) (0 : Int)) (List.getD f (Int.toNat a * (2 : Nat)) (0 : Int)), moI (List.getD (bx4 (bxF f (Int.toNat 
  a))) (1 : Nat) (0 : Int)) (List.getD f (Int.toNat a * (2 : Nat)) (0 : Int)), List.getD (bx4 (bxF f (Int.toNat a))) (2 : Nat) (0 : Int), List.getD (bx4 (bxF f (Int.toNat a))) (3 : Nat) 
  (0 : Int)] (Int.toNat (2 : Int)) (if List.getD f (Int.toNat a * (2 : Nat) + (1 : Nat)) (0 : Int) < List.getD [leI (List.getD (bx4 (bxF f (Int.toNat a))) (0 : Nat) (0 : Int)) (List.getD 
  f (Int.toNat a * (2 : Nat)) (0 : Int)), moI (List.getD (bx4 (bxF f (Int.toNat a))) (1 : Nat) (0 : Int)) (List.getD f (Int.toNat a * (2 : Nat)) (0 : Int)), List.getD (bx4 (bxF f (Int.toNat 
  a))) (2 : Nat) (0 : Int), List.getD (bx4 (bxF f (Int.toNat a))) (3 : Nat) (0 : Int)] (Int.toNat (2 : Int)) (0 : Int) then List.getD f (Int.toNat a * (2 : Nat) + (1 : Nat)) (0 : Int) 
  else List.getD [leI (List.getD (bx4 (bxF f (Int.toNat a))) (0 : Nat) (0 : Int)) (List.getD f (Int.toNat a * (2 : Nat)) (0 : Int)), moI (List.getD (bx4 (bxF f (Int.toNat a))) (1 : Nat) 
  (0 : Int)) (List.getD f (Int.toNat a * (2 : Nat)) (0 : Int)), List.getD (bx4 (bxF f (Int.toNat a))) (2 : Nat) (0 : Int), List.getD (bx4 (bxF f (Int.toNat a))) (3 : Nat) (0 : Int)] (Int.toNat 
  (2 : Int)) (0 : Int))) (Int.toNat (3 : Int)) (if List.getD [leI (List.getD (bx4 (bxF f (Int.toNat a))) (0 : Nat) (0 : Int)) (List.getD f (Int.toNat a * (2 : Nat)) (0 : Int)), moI (List.getD 
  (bx4 (bxF f (Int.toNat a))) (1 : Nat) (0 : Int)) (List.getD f (Int.toNat a * (2 : Nat)) (0 : Int)), List.getD (bx4 (bxF f (Int.toNat a))) (2 : Nat) (0 : Int), List.getD (bx4 (bxF f 
  (Int.toNat a))) (3 : Nat) (0 : Int)] (Int.toNat (3 : Int)) (0 : Int) < List.getD f (Int.toNat a * (2 : Nat) + (1 : Nat)) (0 : Int) then List.getD f (Int.toNat a * (2 : Nat) + (1 : Nat)) 
  (0 : Int) else List.getD [leI (List.getD (bx4 (bxF f (Int.toNat a))) (0 : Nat) (0 : Int)) (List.getD f (Int.toNat a * (2 : Nat)) (0 : Int)), moI (List.getD (bx4 (bxF f (Int.toNat a))) 
  (1 : Nat) (0 : Int)) (List.getD f (Int.toNat a * (2 : Nat)) (0 : Int)), List.getD (bx4 (bxF f (Int.toNat a))) (2 : Nat) (0 : Int), List.getD (bx4 (bxF f (Int.toNat a))) (3 : Nat) (0 
  : Int)] (Int.toNat (3 : Int)) (0 : Int)) = [List.getD [leI (List.getD (bx4 (bxF f (Int.toNat a))) (0 : Nat) (0 : Int)) (List.getD f (Int.toNat a * (2 : Nat)) (0 : Int)), moI (List.getD 
  (bx4 (bxF f (Int.toNat a))) (1 : Nat) (0 : Int)) (List.getD f (Int.toNat a * (2 : Nat)) (0 : Int)), List.getD (bx4 (bxF f (Int.toNat a))) (2 : Nat) (0 : Int), List.getD (bx4 (bxF f 
  (Int.toNat a))) (3 : Nat) (0 : Int)] (0 : Nat) (0 : Int), List.getD [leI (List.getD (bx4 (bxF f (Int.toNat a))) (0 : Nat) (0 : Int)) (List.getD f (Int.toNat a * (2 : Nat)) (0 : Int)), 
  moI (List.getD (bx4 (bxF f (Int.toNat a))) (1 : Nat) (0 : Int)) (List.getD f (Int.toNat a * (2 : Nat)) (0 : Int)), List.getD (bx4 (bxF f (Int.toNat a))) (2 : Nat) (0 : Int), List.getD 
  (bx4 (bxF f (Int.toNat a))) (3 : Nat) (0 : Int)] (1 : Nat) (0 : Int), leI (List.getD [leI (List.getD (bx4 (bxF f (Int.toNat a))) (0 : Nat) (0 : Int)) (List.getD f (Int.toNat a * (2 
  : Nat)) (0 : Int)), moI (List.getD (bx4 (bxF f (Int.toNat a))) (1 : Nat) (0 : Int)) (List.getD f (Int.toNat a * (2 : Nat)) (0 : Int)), List.getD (bx4 (bxF f (Int.toNat a))) (2 : Nat) 
  (0 : Int), List.getD (bx4 (bxF f (Int.toNat a))) (3 : Nat) (0 : Int)] (2 : Nat) (0 : Int)) (List.getD f (Int.toNat a * (2 : Nat) + (1 : Nat)) (0 : Int)), moI (List.getD [leI (List.getD 
  (bx4 (bxF f (Int.toNat a))) (0 : Nat) (0 : Int)) (List.getD f (Int.toNat a * (2 : Nat)) (0 : Int)), moI (List.getD (bx4 (bxF f (Int.toNat a))) (1 : Nat) (0 : Int)) (List.getD f (Int.toNat 
  a * (2 : Nat)) (0 : Int)), List.getD (bx4 (bxF f (Int.toNat a))) (2 : Nat) (0 : Int), List.getD (bx4 (bxF f (Int.toNat a))) (3 : Nat) (0 : Int)] (3 : Nat) (0 : Int)) (List.getD f (Int.toNat 
  a * (2 : Nat) + (1 : Nat)) (0 : Int))]) ∧ True) ∧ True) ∧ True) ∧ True) ∧ (At (Int.toNat (2 : Int) < List.length [leI (List.getD (bx4 (bxF f (Int.toNat a))) (0 : Nat) (0 : Int)) (List.getD 
  f (Int.toNat a * (2 : Nat)) (0 : Int)), moI (List.getD (bx4 (bxF f (Int.toNat a))) (1 : Nat) (0 : Int)) (List.getD f (Int.toNat a * (2 : Nat)) (0 : Int)), List.getD (bx4 (bxF f (Int.toNat 
  a))) (2 : Nat) (0 : Int), List.getD (bx4 (bxF f (Int.toNat a))) (3 : Nat) (0 : Int)]) ∧ At ((0 : Int) ≤ (3 : Int) ∧ (3 : Int) < (↑(4 : Nat) : Int)) ∧ (At (Int.toNat (3 : Int) < List.length 
  (List.set [leI (List.getD (bx4 (bxF f (Int.toNat a))) (0 : Nat) (0 : Int)) (List.getD f (Int.toNat a * (2 : Nat)) (0 : Int)), moI (List.getD (bx4 (bxF f (Int.toNat a))) (1 : Nat) (0 
  : Int)) (List.getD f (Int.toNat a * (2 : Nat)) (0 : Int)), List.getD (bx4 (bxF f (Int.toNat a))) (2 : Nat) (0 : Int), List.getD (bx4 (bxF f (Int.toNat a))) (3 : Nat) (0 : Int)] (Int.toNat 
  (2 : Int)) (if List.getD f (Int.toNat a * (2 : Nat) + (1 : Nat)) (0 : Int) < List.getD [leI (List.getD (bx4 (bxF f (Int.toNat a))) (0 : Nat) (0 : Int)) (List.getD f (Int.toNat a * (2 
  : Nat)) (0 : Int)), moI (List.getD (bx4 (bxF f (Int.toNat a))) (1 : Nat) (0 : Int)) (List.getD f (Int.toNat a * (2 : Nat)) (0 : Int)), List.getD (bx4 (bxF f (Int.toNat a))) (2 : Nat) 
  (0 : Int), List.getD (bx4 (bxF f (Int.toNat a))) (3 : Nat) (0 : Int)] (Int.toNat (2 : Int)) (0 : Int) then List.getD f (Int.toNat a * (2 : Nat) + (1 : Nat)) (0 : Int) else List.getD 
  [leI (List.getD (bx4 (bxF f (Int.toNat a))) (0 : Nat) (0 : Int)) (List.getD f (Int.toNat a * (2 : Nat)) (0 : Int)), moI (List.getD (bx4 (bxF f (Int.toNat a))) (1 : Nat) (0 : Int)) (List.getD 
  f (Int.toNat a * (2 : Nat)) (0 : Int)), List.getD (bx4 (bxF f (Int.toNat a))) (2 : Nat) (0 : Int), List.getD (bx4 (bxF f (Int.toNat a))) (3 : Nat) (0 : Int)] (Int.toNat (2 : Int)) (0 
  : Int)))) ∧ True ∧ (((1 : Nat) = (1 : Nat) ∧ (4 : Nat) = (4 : Nat)) ∧ ((0 : Nat) = (0 : Nat) ∧ n = n) ∧ (True ∧ (↑n : Int) = (↑n : Int)) ∧ (True ∧ a = a) ∧ True) ∧ ((True ∧ IntKind.i64 
  = IntKind.i64 ∧ f = f) ∧ (True ∧ IntKind.i64 = IntKind.i64 ∧ List.set (List.set [leI (List.getD (bx4 (bxF f (Int.toNat a))) (0 : Nat) (0 : Int)) (List.getD f (Int.toNat a * (2 : Nat)) 
  (0 : Int)), moI (List.getD (bx4 (bxF f (Int.toNat a))) (1 : Nat) (0 : Int)) (List.getD f (Int.toNat a * (2 : Nat)) (0 : Int)), List.getD (bx4 (bxF f (Int.toNat a))) (2 : Nat) (0 : Int), 
  List.getD (bx4 (bxF f (Int.toNat a))) (3 : Nat) (0 : Int)] (Int.toNat (2 : Int)) (if List.getD f (Int.toNat a * (2 : Nat) + (1 : Nat)) (0 : Int) < List.getD [leI (List.getD (bx4 (bxF 
  f (Int.toNat a))) (0 : Nat) (0 : Int)) (List.getD f (Int.toNat a * (2 : Nat)) (0 : Int)), moI (List.getD (bx4 (bxF f (Int.toNat a))) (1 : Nat) (0 : Int)) (List.getD f (Int.toNat a * 
  (2 : Nat)) (0 : Int)), List.getD (bx4 (bxF f (Int.toNat a))) (2 : Nat) (0 : Int), List.getD (bx4 (bxF f (Int.toNat a))) (3 : Nat) (0 : Int)] (Int.toNat (2 : Int)) (0 : Int) then List.getD 
  f (Int.toNat a * (2 : Nat) + (1 : Nat)) (0 : Int) else List.getD [leI (List.getD (bx4 (bxF f (Int.toNat a))) (0 : Nat) (0 : Int)) (List.getD f (Int.toNat a * (2 : Nat)) (0 : Int)), 
  moI (List.getD (bx4 (bxF f (Int.toNat a))) (1 : Nat) (0 : Int)) (List.getD f (Int.toNat a * (2 : Nat)) (0 : Int)), List.getD (bx4 (bxF f (Int.toNat a))) (2 : Nat) (0 : Int), List.getD 
  (bx4 (bxF f (Int.toNat a))) (3 : Nat) (0 : Int)] (Int.toNat (2 : Int)) (0 : Int))) (Int.toNat (3 : Int)) (if List.getD [leI (List.getD (bx4 (bxF f (Int.toNat a))) (0 : Nat) (0 : Int)) 
  (List.getD f (Int.toNat a * (2 : Nat)) (0 : Int)), moI (List.getD (bx4 (bxF f (Int.toNat a))) (1 : Nat) (0 : Int)) (List.getD f (Int.toNat a * (2 : Nat)) (0 : Int)), List.getD (bx4 
  (bxF f (Int.toNat a))) (2 : Nat) (0 : Int), List.getD (bx4 (bxF f (Int.toNat a))) (3 : Nat) (0 : Int)] (Int.toNat (3 : Int)) (0 : Int) < List.getD f (Int.toNat a * (2 : Nat) + (1 : 
  Nat)) (0 : Int) then List.getD f (Int.toNat a * (2 : Nat) + (1 : Nat)) (0 : Int) else List.getD [leI (List.getD (bx4 (bxF f (Int.toNat a))) (0 : Nat) (0 : Int)) (List.getD f (Int.toNat 
  a * (2 : Nat)) (0 : Int)), moI (List.getD (bx4 (bxF f (Int.toNat a))) (1 : Nat) (0 : Int)) (List.getD f (Int.toNat a * (2 : Nat)) (0 : Int)), List.getD (bx4 (bxF f (Int.toNat a))) (2 
  : Nat) (0 : Int), List.getD (bx4 (bxF f (Int.toNat a))) (3 : Nat) (0 : Int)] (Int.toNat (3 : Int)) (0 : Int)) = [List.getD [leI (List.getD (bx4 (bxF f (Int.toNat a))) (0 : Nat) (0 : 
  Int)) (List.getD f (Int.toNat a * (2 : Nat)) (0 : Int)), moI (List.getD (bx4 (bxF f (Int.toNat a))) (1 : Nat) (0 : Int)) (List.getD f (Int.toNat a * (2 : Nat)) (0 : Int)), List.getD 
  (bx4 (bxF f (Int.toNat a))) (2 : Nat) (0 : Int), List.getD (bx4 (bxF f (Int.toNat a))) (3 : Nat) (0 : Int)] (0 : Nat) (0 : Int), List.getD [leI (List.getD (bx4 (bxF f (Int.toNat a))) 
  (0 : Nat) (0 : Int)) (List.getD f (Int.toNat a * (2 : Nat)) (0 : Int)), moI (List.getD (bx4 (bxF f (Int.toNat a))) (1 : Nat) (0 : Int)) (List.getD f (Int.toNat a * (2 : Nat)) (0 : Int)), 
  List.getD (bx4 (bxF f (Int.toNat a))) (2 : Nat) (0 : Int), List.getD (bx4 (bxF f (Int.toNat a))) (3 : Nat) (0 : Int)] (1 : Nat) (0 : Int), leI (List.getD [leI (List.getD (bx4 (bxF f 
  (Int.toNat a))) (0 : Nat) (0 : Int)) (List.getD f (Int.toNat a * (2 : Nat)) (0 : Int)), moI (List.getD (bx4 (bxF f (Int.toNat a))) (1 : Nat) (0 : Int)) (List.getD f (Int.toNat a * (2 
  : Nat)) (0 : Int)), List.getD (bx4 (bxF f (Int.toNat a))) (2 : Nat) (0 : Int), List.getD (bx4 (bxF f (Int.toNat a))) (3 : Nat) (0 : Int)] (2 : Nat) (0 : Int)) (List.getD f (Int.toNat 
  a * (2 : Nat) + (1 : Nat)) (0 : Int)), moI (List.getD [leI (List.getD (bx4 (bxF f (Int.toNat a))) (0 : Nat) (0 : Int)) (List.getD f (Int.toNat a * (2 : Nat)) (0 : Int)), moI (List.getD 
  (bx4 (bxF f (Int.toNat a))) (1 : Nat) (0 : Int)) (List.getD f (Int.toNat a * (2 : Nat)) (0 : Int)), List.getD (bx4 (bxF f (Int.toNat a))) (2 : Nat) (0 : Int), List.getD (bx4 (bxF f 
  (Int.toNat a))) (3 : Nat) (0 : Int)] (3 : Nat) (0 : Int)) (List.getD f (Int.toNat a * (2 : Nat) + (1 : Nat)) (0 : Int))]) ∧ True) ∧ True) ∧ True) ∧ True) ∧ (True ∧ (((1 : Nat) = (1 
  : Nat) ∧ (4 : Nat) = (4 : Nat)) ∧ ((0 : Nat) = (0 : Nat) ∧ n = n) ∧ (True ∧ (↑n : Int) = (↑n : Int)) ∧ (True ∧ IntKind.wrap IntKind.i64 (a + (1 : Int)) = IntKind.wrap IntKind.i64 (a 
  + (1 : Int))) ∧ True) ∧ ((True ∧ IntKind.i64 = IntKind.i64 ∧ f = f) ∧ (True ∧ IntKind.i64 = IntKind.i64 ∧ [List.getD [leI (List.getD (bx4 (bxF f (Int.toNat a))) (0 : Nat) (0 : Int)) 
  (List.getD f (Int.toNat a * (2 : Nat)) (0 : Int)), moI (List.getD (bx4 (bxF f (Int.toNat a))) (1 : Nat) (0 : Int)) (List.getD f (Int.toNat a * (2 : Nat)) (0 : Int)), List.getD (bx4 
  (bxF f (Int.toNat a))) (2 : Nat) (0 : Int), List.getD (bx4 (bxF f (Int.toNat a))) (3 : Nat) (0 : Int)] (0 : Nat) (0 : Int), List.getD [leI (List.getD (bx4 (bxF f (Int.toNat a))) (0 
  : Nat) (0 : Int)) (List.getD f (Int.toNat a * (2 : Nat)) (0 : Int)), moI (List.getD (bx4 (bxF f (Int.toNat a))) (1 : Nat) (0 : Int)) (List.getD f (Int.toNat a * (2 : Nat)) (0 : Int)), 
  List.getD (bx4 (bxF f (Int.toNat a))) (2 : Nat) (0 : Int), List.getD (bx4 (bxF f (Int.toNat a))) (3 : Nat) (0 : Int)] (1 : Nat) (0 : Int), leI (List.getD [leI (List.getD (bx4 (bxF f 
  (Int.toNat a))) (0 : Nat) (0 : Int)) (List.getD f (Int.toNat a * (2 : Nat)) (0 : Int)), moI (List.getD (bx4 (bxF f (Int.toNat a))) (1 : Nat) (0 : Int)) (List.getD f (Int.toNat a * (2 
  : Nat)) (0 : Int)), List.getD (bx4 (bxF f (Int.toNat a))) (2 : Nat) (0 : Int), List.getD (bx4 (bxF f (Int.toNat a))) (3 : Nat) (0 : Int)] (2 : Nat) (0 : Int)) (List.getD f (Int.toNat 
  a * (2 : Nat) + (1 : Nat)) (0 : Int)), moI (List.getD [leI (List.getD (bx4 (bxF f (Int.toNat a))) (0 : Nat) (0 : Int)) (List.getD f (Int.toNat a * (2 : Nat)) (0 : Int)), moI (List.getD 
  (bx4 (bxF f (Int.toNat a))) (1 : Nat) (0 : Int)) (List.getD f (Int.toNat a * (2 : Nat)) (0 : Int)), List.getD (bx4 (bxF f (Int.toNat a))) (2 : Nat) (0 : Int), List.getD (bx4 (bxF f 
  (Int.toNat a))) (3 : Nat) (0 : Int)] (3 : Nat) (0 : Int)) (List.getD f (Int.toNat a * (2 : Nat) + (1 : Nat)) (0 : Int))] = bx4 (bxF f (Int.toNat (IntKind.wrap IntKind.i64 (a + (1 : 
  Int)))))) ∧ True) ∧ True) ∧ At (ixN n (IntKind.wrap IntKind.i64 (a + (1 : Int))) ∧ Int.toNat ((↑n : Int) - IntKind.wrap IntKind.i64 (a + (1 : Int))) < Int.toNat ((↑n : Int) - a))) ∧ 
  (decide (a < (↑n : Int)) = false → K (V.row (1 : Nat) (4 : Nat)) [{ cs := Cells.ints IntKind.i64 f, elem := 49, kind := Kind.rows (2 : Nat) }, { cs := Cells.ints IntKind.i64 (bx4 (bxF f (Int.toNat a))), elem := 3, kind := Kind.row }])

def VC_impl_BoxOfPlain (pr : List UInt8) (n : Nat) (px : Int) (py : Int) (pd : Int) (a : List Int) (K : V → List Blk → Prop) : Prop :=
  At (List.length a = n * (3 : Nat) ∧ n ≤ (2000000 : Nat)) ∧
  ((!goodP pr n a px py pd) = true →
      K (V.tup [V.raw (Value.slice none (0 : Nat) (0 : Nat)), V.lit false])
        [{ cs := Cells.ints IntKind.i64 a, elem := 52, kind := Kind.rows (3 : Nat) },
          {
            cs :=
              Cells.vals
                [V.str pr, V.row (0 : Nat) n, V.int IntKind.i64 px, V.int IntKind.i64 py, V.int IntKind.i64 pd],
            elem := 36, kind := Kind.box }]) ∧
    ((!goodP pr n a px py pd) = false →
      (True ∧
          (((1 : Nat) = (1 : Nat) ∧ (0 : Nat) = (0 : Nat)) ∧
              ((2 : Nat) = (2 : Nat) ∧ (1 : Nat) = (1 : Nat)) ∧
                ((0 : Nat) = (0 : Nat) ∧ n = n) ∧
                  (True ∧ (↑n : Int) = (↑n : Int)) ∧ (True ∧ (0 : Int) = (0 : Int)) ∧ True) ∧
            ((True ∧ IntKind.i64 = IntKind.i64 ∧ a = a) ∧
                (True ∧
                    pr = pr ∧
                      ((0 : Nat) = (0 : Nat) ∧ n = n) ∧ (True ∧ px = px) ∧ (True ∧ py = py) ∧ (True ∧ pd = pd) ∧ True) ∧
                  (True ∧ IntKind.i64 = IntKind.i64 ∧ [px, py] = plF a px py (Int.toNat (0 : Int))) ∧ True) ∧
              True) ∧
        At (ivInv n (fun (x : Int) ↦ True) (0 : Int)) ∧
          ∀ (a_2 : Int),
            ivInv n (fun (x : Int) ↦ True) a_2 →
              (decide (a_2 < (↑n : Int)) = true →
                  At ((0 : Int) ≤ a_2 ∧ a_2 < (↑n : Int)) ∧
                    At (Int.toNat a_2 * (3 : Nat) + (3 : Nat) ≤ List.length a) ∧
                      At
                          ((List.length (plF a px py (Int.toNat a_2)) = (Int.toNat a_2 + (1 : Nat)) * (2 : Nat) ∧
                              (1 : Nat) * (2 : Nat) ≤
                                List.length
                                  [List.getD a (Int.toNat a_2 * (3 : Nat)) (0 : Int),
                                    List.getD a (Int.toNat a_2 * (3 : Nat) + (1 : Nat)) (0 : Int)]) ∧
                            (0 : Nat) < (1 : Nat) ∧ Int.toNat a_2 + (1 : Nat) + (1 : Nat) ≤ (1000000000 : Nat)) ∧
                        (True ∧
                            (((1 : Nat) = (1 : Nat) ∧ (0 : Nat) = (0 : Nat)) ∧
                                ((2 : Nat) = (2 : Nat) ∧
                                    Int.toNat a_2 + (1 : Nat) + (1 : Nat) =
                                      Int.toNat (IntKind.wrap IntKind.i64 (a_2 + (1 : Int))) + (1 : Nat)) ∧
                                  ((0 : Nat) = (0 : Nat) ∧ n = n) ∧
                                    (True ∧ (↑n : Int) = (↑n : Int)) ∧
                                      (True ∧
                                          IntKind.wrap IntKind.i64 (a_2 + (1 : Int)) =
                                            IntKind.wrap IntKind.i64 (a_2 + (1 : Int))) ∧
                                        True) ∧
                              ((True ∧ IntKind.i64 = IntKind.i64 ∧ a = a) ∧
                                  (True ∧
                                      pr = pr ∧
                                        ((0 : Nat) = (0 : Nat) ∧ n = n) ∧
                                          (True ∧ px = px) ∧ (True ∧ py = py) ∧ (True ∧ pd = pd) ∧ True) ∧
                                    (True ∧
                                        IntKind.i64 = IntKind.i64 ∧
                                          plF a px py (Int.toNat a_2) ++
                                              List.take ((1 : Nat) * (2 : Nat))
                                                [List.getD a (Int.toNat a_2 * (3 : Nat)) (0 : Int),
                                                  List.getD a (Int.toNat a_2 * (3 : Nat) + (1 : Nat)) (0 : Int)] =
                                            plF a px py (Int.toNat (IntKind.wrap IntKind.i64 (a_2 + (1 : Int))))) ∧
                                      True) ∧
                                True) ∧
                          At
                            (ivInv n (fun (x : Int) ↦ True) (IntKind.wrap IntKind.i64 (a_2 + (1 : Int))) ∧
                              Int.toNat ((↑n : Int) - IntKind.wrap IntKind.i64 (a_2 + (1 : Int))) <
                                Int.toNat ((↑n : Int) - a_2))) ∧
                (decide (a_2 < (↑n : Int)) = false →
                  At
                      (List.length (plF a px py (Int.toNat a_2)) = (Int.toNat a_2 + (1 : Nat)) * (2 : Nat) ∧
                        (1 : Nat) ≤ Int.toNat a_2 + (1 : Nat) ∧ Int.toNat a_2 + (1 : Nat) ≤ (2000001 : Nat)) ∧
                    K (V.tup [V.row (3 : Nat) (4 : Nat), V.lit true])
                      [{ cs := Cells.ints IntKind.i64 a, elem := 52, kind := Kind.rows (3 : Nat) },
                        {
                          cs :=
                            Cells.vals
                              [V.str pr, V.row (0 : Nat) n, V.int IntKind.i64 px, V.int IntKind.i64 py,
                                V.int IntKind.i64 pd],
                          elem := 36, kind := Kind.box },
                        { cs := Cells.ints IntKind.i64 (plF a px py (Int.toNat a_2)), elem := 49,
                          kind := Kind.rows (2 : Nat) },
                        {
                          cs :=
                            Cells.ints IntKind.i64
                              (bx4 (bxF (plF a px py (Int.toNat a_2)) (Int.toNat a_2 + (1 : Nat)))),
                          elem := 3, kind := Kind.row }]))

def VC_laws_eqIntS (n : Nat) (m : Nat) (a : List Int) (b : List Int) (K : V → List Blk → Prop) : Prop :=
  (((↑n : Int) != (↑m : Int)) = true →
    K (V.lit false)
      [{ cs := Cells.ints IntKind.i64 a, elem := 3, kind := Kind.row },
        { cs := Cells.ints IntKind.i64 b, elem := 3, kind := Kind.row }]) ∧
  (((↑n : Int) != (↑m : Int)) = false →
    ((((0 : Nat) = (0 : Nat) ∧ n = n) ∧ ((1 : Nat) = (1 : Nat) ∧ m = m) ∧ (True ∧ (0 : Int) = (0 : Int)) ∧ True) ∧
        ((True ∧ IntKind.i64 = IntKind.i64 ∧ a = a) ∧ (True ∧ IntKind.i64 = IntKind.i64 ∧ b = b) ∧ True) ∧ True) ∧
      At (eqsInv a b (0 : Int)) ∧
        ∀ (a_2 : Int),
          eqsInv a b a_2 →
            (decide (a_2 < (↑n : Int)) = true →
                True ∧
                  At ((0 : Int) ≤ a_2 ∧ a_2 < (↑n : Int)) ∧
                    At (Int.toNat a_2 < List.length a) ∧
                      At ((0 : Int) ≤ a_2 ∧ a_2 < (↑m : Int)) ∧
                        At (Int.toNat a_2 < List.length b) ∧
                          ((List.getD a (Int.toNat a_2) (0 : Int) != List.getD b (Int.toNat a_2) (0 : Int)) = true →
                              K (V.lit false)
                                [{ cs := Cells.ints IntKind.i64 a, elem := 3, kind := Kind.row },
                                  { cs := Cells.ints IntKind.i64 b, elem := 3, kind := Kind.row }]) ∧
                            ((List.getD a (Int.toNat a_2) (0 : Int) != List.getD b (Int.toNat a_2) (0 : Int)) = false →
                              ((((0 : Nat) = (0 : Nat) ∧ n = n) ∧
                                    ((1 : Nat) = (1 : Nat) ∧ m = m) ∧
                                      (True ∧
                                          IntKind.wrap IntKind.i64 (a_2 + (1 : Int)) =
                                            IntKind.wrap IntKind.i64 (a_2 + (1 : Int))) ∧
                                        True) ∧
                                  ((True ∧ IntKind.i64 = IntKind.i64 ∧ a = a) ∧
                                      (True ∧ IntKind.i64 = IntKind.i64 ∧ b = b) ∧ True) ∧
                                    True) ∧
                                At
                                  (eqsInv a b (IntKind.wrap IntKind.i64 (a_2 + (1 : Int))) ∧
                                    Int.toNat ((↑(List.length a) : Int) - IntKind.wrap IntKind.i64 (a_2 + (1 : Int))) <
                                      Int.toNat ((↑(List.length a) : Int) - a_2)))) ∧
              (decide (a_2 < (↑n : Int)) = false →
                K (V.lit true)
                  [{ cs := Cells.ints IntKind.i64 a, elem := 3, kind := Kind.row },
                    { cs := Cells.ints IntKind.i64 b, elem := 3, kind := Kind.row }]))

def VC_laws_markIntS (k : Int) (n : Nat) (a : List Int) (K : V → List Blk → Prop) : Prop :=
  ((((0 : Nat) = (0 : Nat) ∧ n = n) ∧ (True ∧ k = k + (0 : Int)) ∧ (True ∧ (0 : Int) = (0 : Int)) ∧ True) ∧
    ((True ∧ IntKind.i64 = IntKind.i64 ∧ a = mrkRow a k (0 : Int)) ∧ True) ∧ True) ∧
  At (mrkInv a k (0 : Int)) ∧
    ∀ (a_1 : Int),
      mrkInv a k a_1 →
        (decide (a_1 < (↑n : Int)) = true →
            At ((0 : Int) ≤ a_1 ∧ a_1 < (↑n : Int)) ∧
              At (Int.toNat a_1 < List.length (mrkRow a k a_1)) ∧
                ((((0 : Nat) = (0 : Nat) ∧ n = n) ∧
                      (True ∧
                          IntKind.wrap IntKind.i64 (k + a_1 + (1 : Int)) =
                            k + IntKind.wrap IntKind.i64 (a_1 + (1 : Int))) ∧
                        (True ∧
                            IntKind.wrap IntKind.i64 (a_1 + (1 : Int)) = IntKind.wrap IntKind.i64 (a_1 + (1 : Int))) ∧
                          True) ∧
                    ((True ∧
                          IntKind.i64 = IntKind.i64 ∧
                            List.set (mrkRow a k a_1) (Int.toNat a_1) (k + a_1) =
                              mrkRow a k (IntKind.wrap IntKind.i64 (a_1 + (1 : Int)))) ∧
                        True) ∧
                      True) ∧
                  At
                    (mrkInv a k (IntKind.wrap IntKind.i64 (a_1 + (1 : Int))) ∧
                      Int.toNat ((↑(List.length a) : Int) - IntKind.wrap IntKind.i64 (a_1 + (1 : Int))) <
                        Int.toNat ((↑(List.length a) : Int) - a_1))) ∧
          (decide (a_1 < (↑n : Int)) = false →
            K (V.int IntKind.i64 (k + a_1))
              [{ cs := Cells.ints IntKind.i64 (mrkRow a k a_1), elem := 3, kind := Kind.row }])

def VC_laws_heldIntS (k : Int) (n : Nat) (a : List Int) (K : V → List Blk → Prop) : Prop :=
  ((((0 : Nat) = (0 : Nat) ∧ n = n) ∧ (True ∧ k = k + (0 : Int)) ∧ (True ∧ (0 : Int) = (0 : Int)) ∧ True) ∧
    ((True ∧ IntKind.i64 = IntKind.i64 ∧ a = a) ∧ True) ∧ True) ∧
  At (hldInv a k (0 : Int)) ∧
    ∀ (a_1 : Int),
      hldInv a k a_1 →
        (decide (a_1 < (↑n : Int)) = true →
            At ((0 : Int) ≤ a_1 ∧ a_1 < (↑n : Int)) ∧
              At (Int.toNat a_1 < List.length a) ∧
                ((List.getD a (Int.toNat a_1) (0 : Int) != k + a_1) = true →
                    K (V.int IntKind.i64 (-1 : Int))
                      [{ cs := Cells.ints IntKind.i64 a, elem := 3, kind := Kind.row }]) ∧
                  ((List.getD a (Int.toNat a_1) (0 : Int) != k + a_1) = false →
                    ((((0 : Nat) = (0 : Nat) ∧ n = n) ∧
                          (True ∧
                              IntKind.wrap IntKind.i64 (k + a_1 + (1 : Int)) =
                                k + IntKind.wrap IntKind.i64 (a_1 + (1 : Int))) ∧
                            (True ∧
                                IntKind.wrap IntKind.i64 (a_1 + (1 : Int)) =
                                  IntKind.wrap IntKind.i64 (a_1 + (1 : Int))) ∧
                              True) ∧
                        ((True ∧ IntKind.i64 = IntKind.i64 ∧ a = a) ∧ True) ∧ True) ∧
                      At
                        (hldInv a k (IntKind.wrap IntKind.i64 (a_1 + (1 : Int))) ∧
                          Int.toNat ((↑(List.length a) : Int) - IntKind.wrap IntKind.i64 (a_1 + (1 : Int))) <
                            Int.toNat ((↑(List.length a) : Int) - a_1)))) ∧
          (decide (a_1 < (↑n : Int)) = false →
            K (V.int IntKind.i64 (k + a_1)) [{ cs := Cells.ints IntKind.i64 a, elem := 3, kind := Kind.row }])

end Go.Vi
