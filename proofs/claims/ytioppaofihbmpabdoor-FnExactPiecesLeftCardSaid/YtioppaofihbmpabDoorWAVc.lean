/- The conditions, reckoned out by program: texts alone. -/
import Derived.Test.YtioppaofihbmpabDoorWADefs
namespace Go.Vi
set_option linter.unusedVariables false
def VC_spec_l1In (n : Int) (lo : Int) (hi : Int) (K : V → Prop) : Prop :=
  (decide (n ≥ lo) = true → K (V.bool (decide (n ≤ hi)))) ∧ (decide (n ≥ lo) = false → K (V.lit false))

def VC_impl_within (n : Int) (lo : Int) (hi : Int) (K : V → Prop) : Prop :=
  (decide (lo ≤ n) = true → K (V.bool (decide (n ≤ hi)))) ∧ (decide (lo ≤ n) = false → K (V.lit false))

def VC_spec_wmGood (mw : Int) (mh : Int) (mr : List UInt8) (mn : List UInt8) (mx : Int) (my : Int) (md : Int) (K : V → Prop) : Prop :=
  At True ∧
  ((!inB mw (3 : Int) (6 : Int)) = true → K (V.lit false)) ∧
    ((!inB mw (3 : Int) (6 : Int)) = false →
      At True ∧
        ((!inB mh (3 : Int) (6 : Int)) = true → K (V.lit false)) ∧
          ((!inB mh (3 : Int) (6 : Int)) = false →
            (((↑(List.length mr) : Int) != IntKind.wrap IntKind.i64 (mw * mh)) = true → K (V.lit false)) ∧
              (((↑(List.length mr) : Int) != IntKind.wrap IntKind.i64 (mw * mh)) = false →
                (((↑(List.length mn) : Int) != (↑(List.length mr) : Int)) = true → K (V.lit false)) ∧
                  (((↑(List.length mn) : Int) != (↑(List.length mr) : Int)) = false →
                    ((((0 : Nat) = (0 : Nat) ∧ (0 : Nat) = (0 : Nat)) ∧ (True ∧ (0 : Int) = (0 : Int)) ∧ True) ∧
                        ((True ∧
                              (True ∧ mw = mw) ∧
                                (True ∧ mh = mh) ∧
                                  mr = mr ∧ mn = mn ∧ (True ∧ mx = mx) ∧ (True ∧ my = my) ∧ (True ∧ md = md) ∧ True) ∧
                            True) ∧
                          True) ∧
                      At (wgInv mr mn (0 : Int)) ∧
                        ∀ (a : Int),
                          wgInv mr mn a →
                            (decide (a < (↑(List.length mr) : Int)) = true →
                                At ((0 : Int) ≤ a ∧ a < (↑(List.length mr) : Int)) ∧
                                  (((↑(UInt8.toNat (List.getD mr (Int.toNat a) (0 : UInt8))) : Int) != (48 : Int)) =
                                        true →
                                      At ((0 : Int) ≤ a ∧ a < (↑(List.length mr) : Int)) ∧
                                        (((↑(UInt8.toNat (List.getD mr (Int.toNat a) (0 : UInt8))) : Int) !=
                                                (49 : Int)) =
                                              true →
                                            K (V.lit false)) ∧
                                          (((↑(UInt8.toNat (List.getD mr (Int.toNat a) (0 : UInt8))) : Int) !=
                                                (49 : Int)) =
                                              false →
                                            At ((0 : Int) ≤ a ∧ a < (↑(List.length mn) : Int)) ∧
                                              (((↑(UInt8.toNat (List.getD mn (Int.toNat a) (0 : UInt8))) : Int) !=
                                                      (48 : Int)) =
                                                    true →
                                                  At ((0 : Int) ≤ a ∧ a < (↑(List.length mn) : Int)) ∧
                                                    (((↑(UInt8.toNat (List.getD mn (Int.toNat a) (0 : UInt8))) : Int) !=
                                                            (49 : Int)) =
                                                          true →
                                                        K (V.lit false)) ∧
                                                      (((↑(UInt8.toNat (List.getD mn (Int.toNat a) (0 : UInt8))) :
                                                              Int) !=
                                                            (49 : Int)) =
                                                          false →
                                                        ((((0 : Nat) = (0 : Nat) ∧ (0 : Nat) = (0 : Nat)) ∧
                                                              (True ∧
                                                                  IntKind.wrap IntKind.i64 (a + (1 : Int)) =
                                                                    IntKind.wrap IntKind.i64 (a + (1 : Int))) ∧
                                                                True) ∧
                                                            ((True ∧
                                                                  (True ∧ mw = mw) ∧
                                                                    (True ∧ mh = mh) ∧
                                                                      mr = mr ∧
                                                                        mn = mn ∧
                                                                          (True ∧ mx = mx) ∧
                                                                            (True ∧ my = my) ∧
                                                                              (True ∧ md = md) ∧ True) ∧
                                                                True) ∧
                                                              True) ∧
                                                          At
                                                            (wgInv mr mn (IntKind.wrap IntKind.i64 (a + (1 : Int))) ∧
                                                              Int.toNat
                                                                  ((↑(List.length mr) : Int) -
                                                                    IntKind.wrap IntKind.i64 (a + (1 : Int))) <
                                                                Int.toNat ((↑(List.length mr) : Int) - a)))) ∧
                                                (((↑(UInt8.toNat (List.getD mn (Int.toNat a) (0 : UInt8))) : Int) !=
                                                      (48 : Int)) =
                                                    false →
                                                  ((((0 : Nat) = (0 : Nat) ∧ (0 : Nat) = (0 : Nat)) ∧
                                                        (True ∧
                                                            IntKind.wrap IntKind.i64 (a + (1 : Int)) =
                                                              IntKind.wrap IntKind.i64 (a + (1 : Int))) ∧
                                                          True) ∧
                                                      ((True ∧
                                                            (True ∧ mw = mw) ∧
                                                              (True ∧ mh = mh) ∧
                                                                mr = mr ∧
                                                                  mn = mn ∧
                                                                    (True ∧ mx = mx) ∧
                                                                      (True ∧ my = my) ∧ (True ∧ md = md) ∧ True) ∧
                                                          True) ∧
                                                        True) ∧
                                                    At
                                                      (wgInv mr mn (IntKind.wrap IntKind.i64 (a + (1 : Int))) ∧
                                                        Int.toNat
                                                            ((↑(List.length mr) : Int) -
                                                              IntKind.wrap IntKind.i64 (a + (1 : Int))) <
                                                          Int.toNat ((↑(List.length mr) : Int) - a))))) ∧
                                    (((↑(UInt8.toNat (List.getD mr (Int.toNat a) (0 : UInt8))) : Int) != (48 : Int)) =
                                        false →
                                      At ((0 : Int) ≤ a ∧ a < (↑(List.length mn) : Int)) ∧
                                        (((↑(UInt8.toNat (List.getD mn (Int.toNat a) (0 : UInt8))) : Int) !=
                                                (48 : Int)) =
                                              true →
                                            At ((0 : Int) ≤ a ∧ a < (↑(List.length mn) : Int)) ∧
                                              (((↑(UInt8.toNat (List.getD mn (Int.toNat a) (0 : UInt8))) : Int) !=
                                                      (49 : Int)) =
                                                    true →
                                                  K (V.lit false)) ∧
                                                (((↑(UInt8.toNat (List.getD mn (Int.toNat a) (0 : UInt8))) : Int) !=
                                                      (49 : Int)) =
                                                    false →
                                                  ((((0 : Nat) = (0 : Nat) ∧ (0 : Nat) = (0 : Nat)) ∧
                                                        (True ∧
                                                            IntKind.wrap IntKind.i64 (a + (1 : Int)) =
                                                              IntKind.wrap IntKind.i64 (a + (1 : Int))) ∧
                                                          True) ∧
                                                      ((True ∧
                                                            (True ∧ mw = mw) ∧
                                                              (True ∧ mh = mh) ∧
                                                                mr = mr ∧
                                                                  mn = mn ∧
                                                                    (True ∧ mx = mx) ∧
                                                                      (True ∧ my = my) ∧ (True ∧ md = md) ∧ True) ∧
                                                          True) ∧
                                                        True) ∧
                                                    At
                                                      (wgInv mr mn (IntKind.wrap IntKind.i64 (a + (1 : Int))) ∧
                                                        Int.toNat
                                                            ((↑(List.length mr) : Int) -
                                                              IntKind.wrap IntKind.i64 (a + (1 : Int))) <
                                                          Int.toNat ((↑(List.length mr) : Int) - a)))) ∧
                                          (((↑(UInt8.toNat (List.getD mn (Int.toNat a) (0 : UInt8))) : Int) !=
                                                (48 : Int)) =
                                              false →
                                            ((((0 : Nat) = (0 : Nat) ∧ (0 : Nat) = (0 : Nat)) ∧
                                                  (True ∧
                                                      IntKind.wrap IntKind.i64 (a + (1 : Int)) =
                                                        IntKind.wrap IntKind.i64 (a + (1 : Int))) ∧
                                                    True) ∧
                                                ((True ∧
                                                      (True ∧ mw = mw) ∧
                                                        (True ∧ mh = mh) ∧
                                                          mr = mr ∧
                                                            mn = mn ∧
                                                              (True ∧ mx = mx) ∧
                                                                (True ∧ my = my) ∧ (True ∧ md = md) ∧ True) ∧
                                                    True) ∧
                                                  True) ∧
                                              At
                                                (wgInv mr mn (IntKind.wrap IntKind.i64 (a + (1 : Int))) ∧
                                                  Int.toNat
                                                      ((↑(List.length mr) : Int) -
                                                        IntKind.wrap IntKind.i64 (a + (1 : Int))) <
                                                    Int.toNat ((↑(List.length mr) : Int) - a))))) ∧
                              (decide (a < (↑(List.length mr) : Int)) = false →
                                At True ∧
                                  (inB mx (0 : Int) (IntKind.wrap IntKind.i64 (mw - (1 : Int))) = true →
                                      At True ∧
                                        (inB my (0 : Int) (IntKind.wrap IntKind.i64 (mh - (1 : Int))) = true →
                                            At True ∧ K (V.bool (inB md (0 : Int) (3 : Int)))) ∧
                                          (inB my (0 : Int) (IntKind.wrap IntKind.i64 (mh - (1 : Int))) = false →
                                            K (V.lit false))) ∧
                                    (inB mx (0 : Int) (IntKind.wrap IntKind.i64 (mw - (1 : Int))) = false →
                                      K (V.lit false)))))))

def VC_impl_isGrid (a : Int) (b : Int) (K : V → Prop) : Prop :=
  At True ∧
  (inB a (3 : Int) (6 : Int) = true → At True ∧ K (V.bool (inB b (3 : Int) (6 : Int)))) ∧
    (inB a (3 : Int) (6 : Int) = false → K (V.lit false))

def VC_impl_hasNode (mw : Int) (mh : Int) (mr : List UInt8) (mn : List UInt8) (mx : Int) (my : Int) (md : Int) (x : Int) (y : Int) (K : V → Prop) : Prop :=
  At True ∧
  (inB x (0 : Int) (IntKind.wrap IntKind.i64 (mw - (1 : Int))) = true →
      At True ∧ K (V.bool (inB y (0 : Int) (IntKind.wrap IntKind.i64 (mh - (1 : Int)))))) ∧
    (inB x (0 : Int) (IntKind.wrap IntKind.i64 (mw - (1 : Int))) = false → K (V.lit false))

def VC_impl_isWay (d : Int) (K : V → Prop) : Prop :=
  At True ∧ K (V.bool (inB d (0 : Int) (3 : Int)))

def VC_impl_areLines (s : List UInt8) (n : Int) (K : V → Prop) : Prop :=
  (((↑(List.length s) : Int) == n) = true →
    At
        (Array.toList #[(48 : UInt8), (49 : UInt8)] = [(48 : UInt8), (49 : UInt8)] ∧
          (↑(List.length s) : Int) ≤ (9223372036854775807 : Int)) ∧
      K (V.bool (Lib.trimS s (Array.toList #[(48 : UInt8), (49 : UInt8)]) == Array.toList #[]))) ∧
  (((↑(List.length s) : Int) == n) = false → K (V.lit false))

def VC_impl_IsWorm (mw : Int) (mh : Int) (mr : List UInt8) (mn : List UInt8) (mx : Int) (my : Int) (md : Int) (K : V → Prop) : Prop :=
  At True ∧
  ((!(inB mw (3 : Int) (6 : Int) && inB mh (3 : Int) (6 : Int))) = true → K (V.lit false)) ∧
    ((!(inB mw (3 : Int) (6 : Int) && inB mh (3 : Int) (6 : Int))) = false →
      At (inB mw (3 : Int) (6 : Int) = true ∧ inB mh (3 : Int) (6 : Int) = true) ∧
        ((!(inB mx (0 : Int) (mw - (1 : Int)) && inB my (0 : Int) (mh - (1 : Int)))) = true → K (V.lit false)) ∧
          ((!(inB mx (0 : Int) (mw - (1 : Int)) && inB my (0 : Int) (mh - (1 : Int)))) = false →
            At True ∧
              ((!inB md (0 : Int) (3 : Int)) = true → K (V.lit false)) ∧
                ((!inB md (0 : Int) (3 : Int)) = false →
                  At (IntKind.wrap IntKind.i64 (mw * mh) ≤ (1000 : Int)) ∧
                    (((↑(List.length mr) : Int) == IntKind.wrap IntKind.i64 (mw * mh) && binB mr) = true →
                        At (IntKind.wrap IntKind.i64 (mw * mh) ≤ (1000 : Int)) ∧
                          K (V.bool ((↑(List.length mn) : Int) == IntKind.wrap IntKind.i64 (mw * mh) && binB mn))) ∧
                      (((↑(List.length mr) : Int) == IntKind.wrap IntKind.i64 (mw * mh) && binB mr) = false →
                        K (V.lit false)))))

def VC_laws_szWorm (mw : Int) (mh : Int) (mr : List UInt8) (mn : List UInt8) (mx : Int) (my : Int) (md : Int) (left : Int) (K : V → Prop) : Prop :=
  (decide (IntKind.wrap IntKind.i64 (left - (↑(List.length mr) : Int)) < (0 : Int)) = true →
    K (V.int IntKind.i64 (-1 : Int))) ∧
  (decide (IntKind.wrap IntKind.i64 (left - (↑(List.length mr) : Int)) < (0 : Int)) = false →
    (decide
            (IntKind.wrap IntKind.i64
                (IntKind.wrap IntKind.i64 (left - (↑(List.length mr) : Int)) - (↑(List.length mn) : Int)) <
              (0 : Int)) =
          true →
        K (V.int IntKind.i64 (-1 : Int))) ∧
      (decide
            (IntKind.wrap IntKind.i64
                (IntKind.wrap IntKind.i64 (left - (↑(List.length mr) : Int)) - (↑(List.length mn) : Int)) <
              (0 : Int)) =
          false →
        K
          (V.int IntKind.i64
            (IntKind.wrap IntKind.i64
              (IntKind.wrap IntKind.i64 (left - (↑(List.length mr) : Int)) - (↑(List.length mn) : Int))))))

def VC_laws_toWorm (mw : Int) (mh : Int) (mr : List UInt8) (mn : List UInt8) (mx : Int) (my : Int) (md : Int) (K : V → Prop) : Prop :=
  K
  (V.agg
    [V.int IntKind.i64 mw, V.int IntKind.i64 mh, V.str mr, V.str mn, V.int IntKind.i64 mx, V.int IntKind.i64 my,
      V.int IntKind.i64 md])

def VC_laws_eqWorm (aw : Int) (ah : Int) (ar : List UInt8) (an : List UInt8) (ax : Int) (ay : Int) (ad : Int) (bw : Int) (bh : Int) (br : List UInt8) (bn : List UInt8) (bx : Int) (by_ : Int) (bd : Int) (K : V → Prop) : Prop :=
  ((aw != bw) = true → K (V.lit false)) ∧
  ((aw != bw) = false →
    ((ah != bh) = true → K (V.lit false)) ∧
      ((ah != bh) = false →
        ((!ar == br) = true → K (V.lit false)) ∧
          ((!ar == br) = false →
            ((!an == bn) = true → K (V.lit false)) ∧
              ((!an == bn) = false →
                ((ax != bx) = true → K (V.lit false)) ∧
                  ((ax != bx) = false →
                    ((ay != by_) = true → K (V.lit false)) ∧
                      ((ay != by_) = false →
                        ((ad != bd) = true → K (V.lit false)) ∧ ((ad != bd) = false → K (V.lit true))))))))

def VC_spec_wmTastes (K : V → List Blk → Prop) : Prop :=
  K (V.row (0 : Nat) (6 : Nat))
  [{
      cs :=
        Cells.strs
          [Array.toList #[(76 : UInt8), (78 : UInt8), (82 : UInt8)],
            Array.toList #[(76 : UInt8), (82 : UInt8), (78 : UInt8)],
            Array.toList #[(78 : UInt8), (76 : UInt8), (82 : UInt8)],
            Array.toList #[(78 : UInt8), (82 : UInt8), (76 : UInt8)],
            Array.toList #[(82 : UInt8), (76 : UInt8), (78 : UInt8)],
            Array.toList #[(82 : UInt8), (78 : UInt8), (76 : UInt8)]],
      elem := 9, kind := Kind.row }]

def VC_spec_wmTaste (t : List UInt8) (K : V → Prop) : Prop :=
  At True ∧
  ((t = t ∧
        ((0 : Nat) = (0 : Nat) ∧ (6 : Nat) = (6 : Nat)) ∧
          (True ∧ (↑(6 : Nat) : Int) = (6 : Int)) ∧ (True ∧ (0 : Int) = (0 : Int)) ∧ True) ∧
      ((True ∧ tastes = tastes) ∧ True) ∧ True) ∧
    At (tsInv t (0 : Int)) ∧
      ∀ (a : Int),
        tsInv t a →
          (decide (a < (6 : Int)) = true →
              At ((0 : Int) ≤ a ∧ a < (↑(6 : Nat) : Int)) ∧
                At (Int.toNat a < List.length tastes) ∧
                  ((List.getD tastes (Int.toNat a) [] == t) = true → K (V.lit true)) ∧
                    ((List.getD tastes (Int.toNat a) [] == t) = false →
                      ((t = t ∧
                            ((0 : Nat) = (0 : Nat) ∧ (6 : Nat) = (6 : Nat)) ∧
                              (True ∧ (6 : Int) = (6 : Int)) ∧
                                (True ∧
                                    IntKind.wrap IntKind.i64 (a + (1 : Int)) =
                                      IntKind.wrap IntKind.i64 (a + (1 : Int))) ∧
                                  True) ∧
                          ((True ∧ tastes = tastes) ∧ True) ∧ True) ∧
                        At
                          (tsInv t (IntKind.wrap IntKind.i64 (a + (1 : Int))) ∧
                            Int.toNat ((6 : Int) - IntKind.wrap IntKind.i64 (a + (1 : Int))) <
                              Int.toNat ((6 : Int) - a)))) ∧
            (decide (a < (6 : Int)) = false → K (V.lit false))

def VC_impl_IsTaste (t : List UInt8) (g0 : List UInt8) (g1 : List UInt8) (g2 : List UInt8) (g3 : List UInt8) (g4 : List UInt8) (g5 : List UInt8) (K : V → List Blk → Prop) : Prop :=
  ((t = t ∧ (g0 = g0 ∧ g1 = g1 ∧ g2 = g2 ∧ g3 = g3 ∧ g4 = g4 ∧ g5 = g5 ∧ True) ∧ (True ∧ (0 : Int) = (0 : Int)) ∧ True) ∧
    ((True ∧ g0 = g0 ∧ g1 = g1 ∧ g2 = g2 ∧ g3 = g3 ∧ g4 = g4 ∧ g5 = g5 ∧ True) ∧ True) ∧ True) ∧
  At (tsInv t (0 : Int)) ∧
    ∀ (a : Int),
      tsInv t a →
        (decide (a < (6 : Int)) = true →
            At ((0 : Int) ≤ a ∧ a < (↑(6 : Nat) : Int)) ∧
              ((t == List.getD [g0, g1, g2, g3, g4, g5] (Int.toNat a) []) = true →
                  K (V.lit true)
                    [{ cs := Cells.vals [V.str g0, V.str g1, V.str g2, V.str g3, V.str g4, V.str g5], elem := 9,
                        kind := Kind.gl 0 }]) ∧
                ((t == List.getD [g0, g1, g2, g3, g4, g5] (Int.toNat a) []) = false →
                  ((t = t ∧
                        (g0 = g0 ∧ g1 = g1 ∧ g2 = g2 ∧ g3 = g3 ∧ g4 = g4 ∧ g5 = g5 ∧ True) ∧
                          (True ∧ IntKind.wrap IntKind.i64 (a + (1 : Int)) = IntKind.wrap IntKind.i64 (a + (1 : Int))) ∧
                            True) ∧
                      ((True ∧ g0 = g0 ∧ g1 = g1 ∧ g2 = g2 ∧ g3 = g3 ∧ g4 = g4 ∧ g5 = g5 ∧ True) ∧ True) ∧ True) ∧
                    At
                      (tsInv t (IntKind.wrap IntKind.i64 (a + (1 : Int))) ∧
                        Int.toNat ((6 : Int) - IntKind.wrap IntKind.i64 (a + (1 : Int))) <
                          Int.toNat ((6 : Int) - a)))) ∧
          (decide (a < (6 : Int)) = false →
            K (V.lit false)
              [{ cs := Cells.vals [V.str g0, V.str g1, V.str g2, V.str g3, V.str g4, V.str g5], elem := 9,
                  kind := Kind.gl 0 }])

def VC_spec_wmCount (s : List UInt8) (K : V → Prop) : Prop :=
  ((s = s ∧
      (True ∧ (0 : Int) = cntB (49 : UInt8) (List.take (Int.toNat (0 : Int)) s)) ∧
        (True ∧ (0 : Int) = (0 : Int)) ∧ True) ∧
    True ∧ True) ∧
  At (cnInv s (0 : Int)) ∧
    ∀ (a : Int),
      cnInv s a →
        (decide (a < (↑(List.length s) : Int)) = true →
            At ((0 : Int) ≤ a ∧ a < (↑(List.length s) : Int)) ∧
              (((↑(UInt8.toNat (List.getD s (Int.toNat a) (0 : UInt8))) : Int) == (49 : Int)) = true →
                  ((s = s ∧
                        (True ∧
                            IntKind.wrap IntKind.i64 (cntB (49 : UInt8) (List.take (Int.toNat a) s) + (1 : Int)) =
                              cntB (49 : UInt8) (List.take (Int.toNat (IntKind.wrap IntKind.i64 (a + (1 : Int)))) s)) ∧
                          (True ∧ IntKind.wrap IntKind.i64 (a + (1 : Int)) = IntKind.wrap IntKind.i64 (a + (1 : Int))) ∧
                            True) ∧
                      True ∧ True) ∧
                    At
                      (cnInv s (IntKind.wrap IntKind.i64 (a + (1 : Int))) ∧
                        Int.toNat ((↑(List.length s) : Int) - IntKind.wrap IntKind.i64 (a + (1 : Int))) <
                          Int.toNat ((↑(List.length s) : Int) - a))) ∧
                (((↑(UInt8.toNat (List.getD s (Int.toNat a) (0 : UInt8))) : Int) == (49 : Int)) = false →
                  ((s = s ∧
                        (True ∧
                            cntB (49 : UInt8) (List.take (Int.toNat a) s) =
                              cntB (49 : UInt8) (List.take (Int.toNat (IntKind.wrap IntKind.i64 (a + (1 : Int)))) s)) ∧
                          (True ∧ IntKind.wrap IntKind.i64 (a + (1 : Int)) = IntKind.wrap IntKind.i64 (a + (1 : Int))) ∧
                            True) ∧
                      True ∧ True) ∧
                    At
                      (cnInv s (IntKind.wrap IntKind.i64 (a + (1 : Int))) ∧
                        Int.toNat ((↑(List.length s) : Int) - IntKind.wrap IntKind.i64 (a + (1 : Int))) <
                          Int.toNat ((↑(List.length s) : Int) - a)))) ∧
          (decide (a < (↑(List.length s) : Int)) = false →
            K (V.int IntKind.i64 (cntB (49 : UInt8) (List.take (Int.toNat a) s))))

end Go.Vi
