/- The conditions, reckoned out by program: texts alone. -/
import Derived.Test.YtpkokghbkamelaaDoorTDDefs
namespace Go.Vi
set_option linter.unusedVariables false
def VC_spec_taUndo (s : Int) (i : Int) (n : Nat) (c : List Sc) (K : V → List Blk → Prop) : Prop := ((((1 : Nat) = (1 : Nat) ∧ (0 : Nat) = (0 : Nat)) ∧ ((0 : Nat) = (0 : Nat) ∧ n = n) ∧ (True ∧ (↑n : Int) = (↑n : Int)) ∧ (True ∧ (0 : Int) = (0 : Int)) ∧ True) ∧ ((True ∧ True ∧ c = c) ∧ (True ∧ (True ∧ s = s) ∧ (True ∧ i = i) ∧ ((0 : Nat) = (0 : Nat) ∧ n = n) ∧ True) ∧ True) ∧ True) ∧ At (undoInv (rows3 c) (0 : Int)) ∧ ∀ (a : Int), undoInv (rows3 c) a → (decide (a < (↑n : Int)) = true → At ((0 : Int) ≤ a ∧ a < (↑n : Int)) ∧ At (Int.toNat a * (3 : Nat) + (3 : Nat) ≤ List.length c ∧ Int.toNat a * (3 : Nat) % (3 : Nat) = (0 : Nat)) ∧ At ((0 : Int) ≤ a ∧ a ≤ (↑n : Int) ∧ n * (3 : Nat) ≤ Cells.len (Cells.recs [Sh.int IntKind.i64, Sh.str, Sh.int IntKind.i64] c)) ∧ ((((1 : Nat) = (1 : Nat) ∧ (0 : Nat) = (0 : Nat)) ∧ ((2 : Nat) = (2 : Nat) ∧ (0 : Nat) = (0 : Nat)) ∧ ((0 : Nat) = (0 : Nat) ∧ n = n) ∧ (True ∧ (↑n : Int) = (↑n : Int)) ∧ (True ∧ a = a) ∧ ((0 : Nat) = (0 : Nat) ∧ (0 : Nat) = (0 : Nat) ∧ (3 : Nat) = (3 : Nat) ∧ Int.toNat a = Int.toNat a ∧ (none : Option Nat) = none) ∧ (True ∧ (↑(Int.toNat a) : Int) = (↑(Int.toNat a) : Int)) ∧ (True ∧ (0 : Int) = (0 : Int)) ∧ True) ∧ ((True ∧ True ∧ c = c) ∧ (True ∧ (True ∧ s = s) ∧ (True ∧ i = i) ∧ ((0 : Nat) = (0 : Nat) ∧ n = n) ∧ True) ∧ (True ∧ (True ∧ Sc.i (List.getD c (Int.toNat a * (3 : Nat)) (Sc.mk ((0 : Int)) ([]))) = Sc.i (List.getD c (Int.toNat a * (3 : Nat)) (Sc.mk ((0 : Int)) ([])))) ∧ Sc.s (List.getD c (Int.toNat a * (3 : Nat) + (1 : Nat)) (Sc.mk ((0 : Int)) ([]))) = Sc.s (List.getD c (Int.toNat a * (3 : Nat) + (1 : Nat)) (Sc.mk ((0 : Int)) ([]))) ∧ (True ∧ Sc.i (List.getD c (Int.toNat a * (3 : Nat) + (1 : Nat) + (1 : Nat)) (Sc.mk ((0 : Int)) ([]))) = Sc.i (List.getD c (Int.toNat a * (3 : Nat) + (1 : Nat) + (1 : Nat)) (Sc.mk ((0 : Int)) ([])))) ∧ True) ∧ True) ∧ True) ∧ At (dupInv (rows3 c) a (0 : Int)) ∧ ∀ (a_3 : Int), dupInv (rows3 c) a a_3 → (decide (a_3 < (↑(Int.toNat a) : Int)) = true → At ((0 : Int) ≤ a_3 ∧ a_3 < (↑(Int.toNat a) : Int)) ∧ At (((0 : Nat) + Int.toNat a_3) * (3 : Nat) + (3 : Nat) ≤ List.length c ∧ ((0 : Nat) + Int.toNat a_3) * (3 : Nat) % (3 : Nat) = (0 : Nat)) ∧ ((Sc.i (List.getD c (Int.toNat a * (3 : Nat)) (Sc.mk ((0 : Int)) ([]))) == Sc.i (List.getD c (((0 : Nat) + Int.toNat a_3) * (3 : Nat)) (Sc.mk ((0 : Int)) ([])))) = true → ((Sc.i (List.getD c (Int.toNat a * (3 : Nat) + (1 : Nat) + (1 : Nat)) (Sc.mk ((0 : Int)) ([]))) == Sc.i (List.getD c (((0 : Nat) + Int.toNat a_3) * (3 : Nat) + (1 : Nat) + (1 : Nat)) (Sc.mk ((0 : Int)) ([])))) = true → K (V.lit false) [{ cs := Cells.recs [Sh.int IntKind.i64, Sh.str, Sh.int IntKind.i64] c, elem := 96, kind := Kind.rows (3 : Nat) }, { cs := Cells.vals [V.int IntKind.i64 s, V.int IntKind.i64 i, V.row (0 : Nat) n], elem := 31, kind := Kind.box }, { cs := Cells.vals [V.int IntKind.i64 (Sc.i (List.getD c (Int.toNat a * (3 : Nat)) (Sc.mk ((0 : Int)) ([])))), V.str (Sc.s (List.getD c (Int.toNat a * (3 : Nat) + (1 : Nat)) (Sc.mk ((0 : Int)) ([])))), V.int IntKind.i64 (Sc.i (List.getD c (Int.toNat a * (3 : Nat) + (1 : Nat) + (1 : Nat)) (Sc.mk ((0 : Int)) ([]))))], elem := 96, kind := Kind.box }, { cs := Cells.vals [V.int IntKind.i64 (Sc.i (List.getD c (((0 : Nat) + Int.toNat a_3) * (3 : Nat)) (Sc.mk ((0 : Int)) ([])))), V.str (Sc.s (List.getD c (((0 : Nat) + Int.toNat a_3) * (3 : Nat) + (1 : Nat)) (Sc.mk ((0 : Int)) ([])))), V.int IntKind.i64 (Sc.i (List.getD c (((0 : Nat) + Int.toNat a_3) * (3 : Nat) + (1 : Nat) + (1 : Nat)) (Sc.mk ((0 : Int)) ([]))))], elem := 96, kind := Kind.box }]) ∧ ((Sc.i (List.getD c (Int.toNat a * (3 : Nat) + (1 : Nat) + (1 : Nat)) (Sc.mk ((0 : Int)) ([]))) == Sc.i (List.getD c (((0 : Nat) + Int.toNat a_3) * (3 : Nat) + (1 : Nat) + (1 : Nat)) (Sc.mk ((0 : Int)) ([])))) = false → ((((1 : Nat) = (1 : Nat) ∧ (0 : Nat) = (0 : Nat)) ∧ ((2 : Nat) = (2 : Nat) ∧ (0 : Nat) = (0 : Nat)) ∧ ((0 : Nat) = (0 : Nat) ∧ n = n) ∧ (True ∧ (↑n : Int) = (↑n : Int)) ∧ (True ∧ a = a) ∧ ((0 : Nat) = (0 : Nat) ∧ (0 : Nat) = (0 : Nat) ∧ (3 : Nat) = (3 : Nat) ∧ Int.toNat a = Int.toNat a ∧ (none : Option Nat) = none) ∧ (True ∧ (↑(Int.toNat a) : Int) = (↑(Int.toNat a) : Int)) ∧ (True ∧ IntKind.wrap IntKind.i64 (a_3 + (1 : Int)) = IntKind.wrap IntKind.i64 (a_3 + (1 : Int))) ∧ True) ∧ ((True ∧ True ∧ c = c) ∧ (True ∧ (True ∧ s = s) ∧ (True ∧ i = i) ∧ ((0 : Nat) = (0 : Nat) ∧ n = n) ∧ True) ∧ (True ∧ (True ∧ Sc.i (List.getD c (Int.toNat a * (3 : Nat)) (Sc.mk ((0 : Int)) ([]))) = Sc.i (List.getD c (Int.toNat a * (3 : Nat)) (Sc.mk ((0 : Int)) ([])))) ∧ Sc.s (List.getD c (Int.toNat a * (3 : Nat) + (1 : Nat)) (Sc.mk ((0 : Int)) ([]))) = Sc.s (List.getD c (Int.toNat a * (3 : Nat) + (1 : Nat)) (Sc.mk ((0 : Int)) ([]))) ∧ (True ∧ Sc.i (List.getD c (Int.toNat a * (3 : Nat) + (1 : Nat) + (1 : Nat)) (Sc.mk ((0 : Int)) ([]))) = Sc.i (List.getD c (Int.toNat a * (3 : Nat) + (1 : Nat) + (1 : Nat)) (Sc.mk ((0 : Int)) ([])))) ∧ True) ∧ True) ∧ True) ∧ At (dupInv (rows3 c) a (IntKind.wrap IntKind.i64 (a_3 + (1 : Int))) ∧ Int.toNat (a - IntKind.wrap IntKind.i64 (a_3 + (1 : Int))) < Int.toNat (a - a_3)))) ∧ ((Sc.i (List.getD c (Int.toNat a * (3 : Nat)) (Sc.mk ((0 : Int)) ([]))) == Sc.i (List.getD c (((0 : Nat) + Int.toNat a_3) * (3 : Nat)) (Sc.mk ((0 : Int)) ([])))) = false → ((((1 : Nat) = (1 : Nat) ∧ (0 : Nat) = (0 : Nat)) ∧ ((2 : Nat) = (2 : Nat) ∧ (0 : Nat) = (0 : Nat)) ∧ ((0 : Nat) = (0 : Nat) ∧ n = n) ∧ (True ∧ (↑n : Int) = (↑n : Int)) ∧ (True ∧ a = a) ∧ ((0 : Nat) = (0 : Nat) ∧ (0 : Nat) = (0 : Nat) ∧ (3 : Nat) = (3 : Nat) ∧ Int.toNat a = Int.toNat a ∧ (none : Option Nat) = none) ∧ (True ∧ (↑(Int.toNat a) : Int) = (↑(Int.toNat a) : Int)) ∧ (True ∧ IntKind.wrap IntKind.i64 (a_3 + (1 : Int)) = IntKind.wrap IntKind.i64 (a_3 + (1 : Int))) ∧ True) ∧ ((True ∧ True ∧ c = c) ∧ (True ∧ (True ∧ s = s) ∧ (True ∧ i = i) ∧ ((0 : Nat) = (0 : Nat) ∧ n = n) ∧ True) ∧ (True ∧ (True ∧ Sc.i (List.getD c (Int.toNat a * (3 : Nat)) (Sc.mk ((0 : Int)) ([]))) = Sc.i (List.getD c (Int.toNat a * (3 : Nat)) (Sc.mk ((0 : Int)) ([])))) ∧ Sc.s (List.getD c (Int.toNat a * (3 : Nat) + (1 : Nat)) (Sc.mk ((0 : Int)) ([]))) = Sc.s (List.getD c (Int.toNat a * (3 : Nat) + (1 : Nat)) (Sc.mk ((0 : Int)) ([]))) ∧ (True ∧ Sc.i (List.getD c (Int.toNat a * (3 : Nat) + (1 : Nat) + (1 : Nat)) (Sc.mk ((0 : Int)) ([]))) = Sc.i (List.getD c (Int.toNat a * (3 : Nat) + (1 : Nat) + (1 : Nat)) (Sc.mk ((0 : Int)) ([])))) ∧ True) ∧ True) ∧ True) ∧ At (dupInv (rows3 c) a (IntKind.wrap IntKind.i64 (a_3 + (1 : Int))) ∧ Int.toNat (a - IntKind.wrap IntKind.i64 (a_3 + (1 : Int))) < Int.toNat (a - a_3)))) ∧ (decide (a_3 < (↑(Int.toNat a) : Int)) = false → ((((1 : Nat) = (1 : Nat) ∧ (0 : Nat) = (0 : Nat)) ∧ ((0 : Nat) = (0 : Nat) ∧ n = n) ∧ (True ∧ (↑n : Int) = (↑n : Int)) ∧ (True ∧ IntKind.wrap IntKind.i64 (a + (1 : Int)) = IntKind.wrap IntKind.i64 (a + (1 : Int))) ∧ True) ∧ ((True ∧ True ∧ c = c) ∧ (True ∧ (True ∧ s = s) ∧ (True ∧ i = i) ∧ ((0 : Nat) = (0 : Nat) ∧ n = n) ∧ True) ∧ True) ∧ True) ∧ At (undoInv (rows3 c) (IntKind.wrap IntKind.i64 (a + (1 : Int))) ∧ Int.toNat ((↑n : Int) - IntKind.wrap IntKind.i64 (a + (1 : Int))) < Int.toNat ((↑n : Int) - a)))) ∧ (decide (a < (↑n : Int)) = false → K (V.lit true) [{ cs := Cells.recs [Sh.int IntKind.i64, Sh.str, Sh.int IntKind.i64] c, elem := 96, kind := Kind.rows (3 : Nat) }, { cs := Cells.vals [V.int IntKind.i64 s, V.int IntKind.i64 i, V.row (0 : Nat) n], elem := 31, kind := Kind.box }]) 

def VC_spec_CanUndo (s : Int) (i : Int) (n : Nat) (c : List Sc) (K : V → List Blk → Prop) : Prop :=
  At (is3 c n ∧ n ≤ (2000000 : Nat)) ∧
  ((!tabB s i (rows3 c)) = true →
      K (V.tup [V.lit false, V.lit false])
        [{ cs := Cells.recs [Sh.int IntKind.i64, Sh.str, Sh.int IntKind.i64] c, elem := 96,
            kind := Kind.rows (3 : Nat) },
          { cs := Cells.vals [V.int IntKind.i64 s, V.int IntKind.i64 i, V.row (0 : Nat) n], elem := 31,
            kind := Kind.box }]) ∧
    ((!tabB s i (rows3 c)) = false →
      At (is3 c n ∧ n ≤ (2000000 : Nat)) ∧
        K (V.tup [V.bool (undoB (rows3 c)), V.lit true])
          [{ cs := Cells.recs [Sh.int IntKind.i64, Sh.str, Sh.int IntKind.i64] c, elem := 96,
              kind := Kind.rows (3 : Nat) },
            { cs := Cells.vals [V.int IntKind.i64 s, V.int IntKind.i64 i, V.row (0 : Nat) n], elem := 31,
              kind := Kind.box }])

def VC_impl_outcomeOf (ra : Int) (rt : List UInt8) (rb : Int) (K : V → Prop) : Prop :=
  K (V.agg [V.int IntKind.i64 ra, V.int IntKind.i64 rb])

def VC_impl_outcome (n : Nat) (c : List Sc) (p : Int) (q : Int) (K : V → List Blk → Prop) : Prop :=
  ((((0 : Nat) = (0 : Nat) ∧ n = n) ∧
      ((112 : Nat) = (112 : Nat) ∧ nilN = nilN) ∧
        ((1 : Nat) = (1 : Nat) ∧ (0 : Nat) = (0 : Nat)) ∧
          ((0 : Nat) = (0 : Nat) ∧ n = n) ∧ (True ∧ (↑n : Int) = (↑n : Int)) ∧ (True ∧ (0 : Int) = (0 : Int)) ∧ True) ∧
    ((True ∧ True ∧ c = c) ∧ (True ∧ (True ∧ p = p) ∧ (True ∧ q = q) ∧ True) ∧ True) ∧ True) ∧
  At (fwInv (rows3 c) p q (0 : Int)) ∧
    ∀ (a : Int),
      fwInv (rows3 c) p q a →
        (decide (a < (↑n : Int)) = true →
            At ((0 : Int) ≤ a ∧ a < (↑n : Int)) ∧
              At
                  (Int.toNat a * (3 : Nat) + (3 : Nat) ≤ List.length c ∧
                    Int.toNat a * (3 : Nat) % (3 : Nat) = (0 : Nat)) ∧
                True ∧
                  At True ∧
                    ((Sc.i (List.getD c (Int.toNat a * (3 : Nat)) { i := (0 : Int), s := [] }) == p &&
                            (Sc.i
                                  (List.getD c (Int.toNat a * (3 : Nat) + (1 : Nat) + (1 : Nat))
                                    { i := (0 : Int), s := [] }) ==
                                q &&
                              true)) =
                          true →
                        K (V.int IntKind.i64 a)
                          [{ cs := Cells.recs [Sh.int IntKind.i64, Sh.str, Sh.int IntKind.i64] c, elem := 96,
                              kind := Kind.rows (3 : Nat) },
                            { cs := Cells.vals [V.int IntKind.i64 p, V.int IntKind.i64 q], elem := 135,
                              kind := Kind.box },
                            {
                              cs :=
                                Cells.vals
                                  [V.int IntKind.i64
                                      (Sc.i (List.getD c (Int.toNat a * (3 : Nat)) { i := (0 : Int), s := [] })),
                                    V.str
                                      (Sc.s
                                        (List.getD c (Int.toNat a * (3 : Nat) + (1 : Nat))
                                          { i := (0 : Int), s := [] })),
                                    V.int IntKind.i64
                                      (Sc.i
                                        (List.getD c (Int.toNat a * (3 : Nat) + (1 : Nat) + (1 : Nat))
                                          { i := (0 : Int), s := [] }))],
                              elem := 96, kind := Kind.box }]) ∧
                      ((Sc.i (List.getD c (Int.toNat a * (3 : Nat)) { i := (0 : Int), s := [] }) == p &&
                            (Sc.i
                                  (List.getD c (Int.toNat a * (3 : Nat) + (1 : Nat) + (1 : Nat))
                                    { i := (0 : Int), s := [] }) ==
                                q &&
                              true)) =
                          false →
                        ((((0 : Nat) = (0 : Nat) ∧ n = n) ∧
                              ((112 : Nat) = (112 : Nat) ∧ nilN = nilN) ∧
                                ((1 : Nat) = (1 : Nat) ∧ (0 : Nat) = (0 : Nat)) ∧
                                  ((0 : Nat) = (0 : Nat) ∧ n = n) ∧
                                    (True ∧ (↑n : Int) = (↑n : Int)) ∧
                                      (True ∧
                                          IntKind.wrap IntKind.i64 (a + (1 : Int)) =
                                            IntKind.wrap IntKind.i64 (a + (1 : Int))) ∧
                                        True) ∧
                            ((True ∧ True ∧ c = c) ∧ (True ∧ (True ∧ p = p) ∧ (True ∧ q = q) ∧ True) ∧ True) ∧ True) ∧
                          At
                            (fwInv (rows3 c) p q (IntKind.wrap IntKind.i64 (a + (1 : Int))) ∧
                              Int.toNat ((↑n : Int) - IntKind.wrap IntKind.i64 (a + (1 : Int))) <
                                Int.toNat ((↑n : Int) - a)))) ∧
          (decide (a < (↑n : Int)) = false →
            K (V.int IntKind.i64 (-1 : Int))
              [{ cs := Cells.recs [Sh.int IntKind.i64, Sh.str, Sh.int IntKind.i64] c, elem := 96,
                  kind := Kind.rows (3 : Nat) },
                { cs := Cells.vals [V.int IntKind.i64 p, V.int IntKind.i64 q], elem := 135, kind := Kind.box }])

def VC_impl_CanUndo (s : Int) (i : Int) (n : Nat) (c : List Sc) (g0 : List UInt8) (g1 : List UInt8) (g2 : List UInt8) (g3 : List UInt8) (K : V → List Blk → Prop) : Prop :=
  At (is3 c n ∧ n ≤ (2000000 : Nat) ∧ isSg g0 g1 g2 g3) ∧
  ((!tabB s i (rows3 c)) = true →
      K (V.tup [V.lit false, V.lit false])
        [{ cs := Cells.recs [Sh.int IntKind.i64, Sh.str, Sh.int IntKind.i64] c, elem := 96,
            kind := Kind.rows (3 : Nat) },
          { cs := Cells.vals [V.str g0, V.str g1, V.str g2, V.str g3], elem := 9, kind := Kind.gl (0 : Nat) },
          { cs := Cells.vals [V.int IntKind.i64 s, V.int IntKind.i64 i, V.row (0 : Nat) n], elem := 31,
            kind := Kind.box }]) ∧
    ((!tabB s i (rows3 c)) = false →
      ((((2 : Nat) = (2 : Nat) ∧ (0 : Nat) = (0 : Nat)) ∧
            ((0 : Nat) = (0 : Nat) ∧ n = n) ∧
              (True ∧ (↑n : Int) = (↑n : Int)) ∧ (True ∧ (0 : Int) = (0 : Int)) ∧ True) ∧
          ((True ∧ True ∧ c = c) ∧
              (True ∧ g0 = g0 ∧ g1 = g1 ∧ g2 = g2 ∧ g3 = g3 ∧ True) ∧
                (True ∧ (True ∧ s = s) ∧ (True ∧ i = i) ∧ ((0 : Nat) = (0 : Nat) ∧ n = n) ∧ True) ∧ True) ∧
            True) ∧
        At (undoInv (rows3 c) (0 : Int)) ∧
          ∀ (a : Int),
            undoInv (rows3 c) a →
              (decide (a < (↑n : Int)) = true →
                  At ((0 : Int) ≤ a ∧ a < (↑n : Int)) ∧
                    At
                        (Int.toNat a * (3 : Nat) + (3 : Nat) ≤ List.length c ∧
                          Int.toNat a * (3 : Nat) % (3 : Nat) = (0 : Nat)) ∧
                      True ∧
                        At True ∧
                          At (is3 c n ∧ n ≤ (2000000 : Nat)) ∧
                            (decide
                                    (fwF (rows3 c)
                                        (Sc.i (List.getD c (Int.toNat a * (3 : Nat)) { i := (0 : Int), s := [] }))
                                        (Sc.i
                                          (List.getD c (Int.toNat a * (3 : Nat) + (1 : Nat) + (1 : Nat))
                                            { i := (0 : Int), s := [] }))
                                        (0 : Int) <
                                      a) =
                                  true →
                                K (V.tup [V.lit false, V.lit true])
                                  [{ cs := Cells.recs [Sh.int IntKind.i64, Sh.str, Sh.int IntKind.i64] c,
                                      elem := 96, kind := Kind.rows (3 : Nat) },
                                    { cs := Cells.vals [V.str g0, V.str g1, V.str g2, V.str g3], elem := 9,
                                      kind := Kind.gl (0 : Nat) },
                                    { cs := Cells.vals [V.int IntKind.i64 s, V.int IntKind.i64 i, V.row (0 : Nat) n],
                                      elem := 31, kind := Kind.box },
                                    {
                                      cs :=
                                        Cells.vals
                                          [V.int IntKind.i64
                                              (Sc.i
                                                (List.getD c (Int.toNat a * (3 : Nat)) { i := (0 : Int), s := [] })),
                                            V.str
                                              (Sc.s
                                                (List.getD c (Int.toNat a * (3 : Nat) + (1 : Nat))
                                                  { i := (0 : Int), s := [] })),
                                            V.int IntKind.i64
                                              (Sc.i
                                                (List.getD c (Int.toNat a * (3 : Nat) + (1 : Nat) + (1 : Nat))
                                                  { i := (0 : Int), s := [] }))],
                                      elem := 96, kind := Kind.box }]) ∧
                              (decide
                                    (fwF (rows3 c)
                                        (Sc.i (List.getD c (Int.toNat a * (3 : Nat)) { i := (0 : Int), s := [] }))
                                        (Sc.i
                                          (List.getD c (Int.toNat a * (3 : Nat) + (1 : Nat) + (1 : Nat))
                                            { i := (0 : Int), s := [] }))
                                        (0 : Int) <
                                      a) =
                                  false →
                                ((((2 : Nat) = (2 : Nat) ∧ (0 : Nat) = (0 : Nat)) ∧
                                      ((0 : Nat) = (0 : Nat) ∧ n = n) ∧
                                        (True ∧ (↑n : Int) = (↑n : Int)) ∧
                                          (True ∧
                                              IntKind.wrap IntKind.i64 (a + (1 : Int)) =
                                                IntKind.wrap IntKind.i64 (a + (1 : Int))) ∧
                                            True) ∧
                                    ((True ∧ True ∧ c = c) ∧
                                        (True ∧ g0 = g0 ∧ g1 = g1 ∧ g2 = g2 ∧ g3 = g3 ∧ True) ∧
                                          (True ∧
                                              (True ∧ s = s) ∧
                                                (True ∧ i = i) ∧ ((0 : Nat) = (0 : Nat) ∧ n = n) ∧ True) ∧
                                            True) ∧
                                      True) ∧
                                  At
                                    (undoInv (rows3 c) (IntKind.wrap IntKind.i64 (a + (1 : Int))) ∧
                                      Int.toNat ((↑n : Int) - IntKind.wrap IntKind.i64 (a + (1 : Int))) <
                                        Int.toNat ((↑n : Int) - a)))) ∧
                (decide (a < (↑n : Int)) = false →
                  K (V.tup [V.lit true, V.lit true])
                    [{ cs := Cells.recs [Sh.int IntKind.i64, Sh.str, Sh.int IntKind.i64] c, elem := 96,
                        kind := Kind.rows (3 : Nat) },
                      { cs := Cells.vals [V.str g0, V.str g1, V.str g2, V.str g3], elem := 9,
                        kind := Kind.gl (0 : Nat) },
                      { cs := Cells.vals [V.int IntKind.i64 s, V.int IntKind.i64 i, V.row (0 : Nat) n],
                        elem := 31, kind := Kind.box }]))

end Go.Vi
