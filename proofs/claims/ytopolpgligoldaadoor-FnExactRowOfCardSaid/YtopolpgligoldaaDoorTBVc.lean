/- The conditions, reckoned out by program: texts alone. -/
import Derived.Test.YtopolpgligoldaaDoorTBDefs
namespace Go.Vi
set_option linter.unusedVariables false
def VC_spec_RowOf (p : Int) (q : Int) (s : Int) (i : Int) (n : Nat) (c : List Sc) (K : V → List Blk → Prop) : Prop :=
  At (is3 c n ∧ n ≤ (2000000 : Nat)) ∧
  ((!tabB s i (rows3 c)) = true →
      K
        (V.tup
          [V.agg [V.int IntKind.i64 (0 : Int), V.str (Array.toList #[]), V.int IntKind.i64 (0 : Int)], V.lit false])
        [{ cs := Cells.recs [Sh.int IntKind.i64, Sh.str, Sh.int IntKind.i64] c, elem := 43,
            kind := Kind.rows (3 : Nat) },
          { cs := Cells.vals [V.int IntKind.i64 s, V.int IntKind.i64 i, V.row (0 : Nat) n], elem := 29,
            kind := Kind.box },
          { cs := Cells.vals [V.int IntKind.i64 (0 : Int), V.str (Array.toList #[]), V.int IntKind.i64 (0 : Int)],
            elem := 43, kind := Kind.box }]) ∧
    ((!tabB s i (rows3 c)) = false →
      At True ∧
        ((!inB p (0 : Int) (IntKind.wrap IntKind.i64 (s - (1 : Int)))) = true →
            K
              (V.tup
                [V.agg [V.int IntKind.i64 (0 : Int), V.str (Array.toList #[]), V.int IntKind.i64 (0 : Int)],
                  V.lit false])
              [{ cs := Cells.recs [Sh.int IntKind.i64, Sh.str, Sh.int IntKind.i64] c, elem := 43,
                  kind := Kind.rows (3 : Nat) },
                { cs := Cells.vals [V.int IntKind.i64 s, V.int IntKind.i64 i, V.row (0 : Nat) n], elem := 29,
                  kind := Kind.box },
                { cs := Cells.vals [V.int IntKind.i64 (0 : Int), V.str (Array.toList #[]), V.int IntKind.i64 (0 : Int)],
                  elem := 43, kind := Kind.box }]) ∧
          ((!inB p (0 : Int) (IntKind.wrap IntKind.i64 (s - (1 : Int)))) = false →
            At True ∧
              ((!inB q (0 : Int) (IntKind.wrap IntKind.i64 (i - (1 : Int)))) = true →
                  K
                    (V.tup
                      [V.agg [V.int IntKind.i64 (0 : Int), V.str (Array.toList #[]), V.int IntKind.i64 (0 : Int)],
                        V.lit false])
                    [{ cs := Cells.recs [Sh.int IntKind.i64, Sh.str, Sh.int IntKind.i64] c, elem := 43,
                        kind := Kind.rows (3 : Nat) },
                      { cs := Cells.vals [V.int IntKind.i64 s, V.int IntKind.i64 i, V.row (0 : Nat) n],
                        elem := 29, kind := Kind.box },
                      {
                        cs :=
                          Cells.vals
                            [V.int IntKind.i64 (0 : Int), V.str (Array.toList #[]), V.int IntKind.i64 (0 : Int)],
                        elem := 43, kind := Kind.box }]) ∧
                ((!inB q (0 : Int) (IntKind.wrap IntKind.i64 (i - (1 : Int)))) = false →
                  At
                      ((0 : Int) ≤ IntKind.wrap IntKind.i64 (IntKind.wrap IntKind.i64 (p * i) + q) ∧
                        IntKind.wrap IntKind.i64 (IntKind.wrap IntKind.i64 (p * i) + q) < (↑n : Int)) ∧
                    At
                        (Int.toNat (IntKind.wrap IntKind.i64 (IntKind.wrap IntKind.i64 (p * i) + q)) * (3 : Nat) +
                              (3 : Nat) ≤
                            List.length c ∧
                          Int.toNat (IntKind.wrap IntKind.i64 (IntKind.wrap IntKind.i64 (p * i) + q)) * (3 : Nat) %
                              (3 : Nat) =
                            (0 : Nat)) ∧
                      K
                        (V.tup
                          [V.agg
                              [V.int IntKind.i64
                                  (Sc.i
                                    (List.getD c
                                      (Int.toNat (IntKind.wrap IntKind.i64 (IntKind.wrap IntKind.i64 (p * i) + q)) *
                                        (3 : Nat))
                                      { i := (0 : Int), s := [] })),
                                V.str
                                  (Sc.s
                                    (List.getD c
                                      (Int.toNat (IntKind.wrap IntKind.i64 (IntKind.wrap IntKind.i64 (p * i) + q)) *
                                          (3 : Nat) +
                                        (1 : Nat))
                                      { i := (0 : Int), s := [] })),
                                V.int IntKind.i64
                                  (Sc.i
                                    (List.getD c
                                      (Int.toNat (IntKind.wrap IntKind.i64 (IntKind.wrap IntKind.i64 (p * i) + q)) *
                                            (3 : Nat) +
                                          (1 : Nat) +
                                        (1 : Nat))
                                      { i := (0 : Int), s := [] }))],
                            V.lit true])
                        [{ cs := Cells.recs [Sh.int IntKind.i64, Sh.str, Sh.int IntKind.i64] c, elem := 43,
                            kind := Kind.rows (3 : Nat) },
                          { cs := Cells.vals [V.int IntKind.i64 s, V.int IntKind.i64 i, V.row (0 : Nat) n],
                            elem := 29, kind := Kind.box },
                          {
                            cs :=
                              Cells.vals
                                [V.int IntKind.i64
                                    (Sc.i
                                      (List.getD c
                                        (Int.toNat (IntKind.wrap IntKind.i64 (IntKind.wrap IntKind.i64 (p * i) + q)) *
                                          (3 : Nat))
                                        { i := (0 : Int), s := [] })),
                                  V.str
                                    (Sc.s
                                      (List.getD c
                                        (Int.toNat (IntKind.wrap IntKind.i64 (IntKind.wrap IntKind.i64 (p * i) + q)) *
                                            (3 : Nat) +
                                          (1 : Nat))
                                        { i := (0 : Int), s := [] })),
                                  V.int IntKind.i64
                                    (Sc.i
                                      (List.getD c
                                        (Int.toNat (IntKind.wrap IntKind.i64 (IntKind.wrap IntKind.i64 (p * i) + q)) *
                                              (3 : Nat) +
                                            (1 : Nat) +
                                          (1 : Nat))
                                        { i := (0 : Int), s := [] }))],
                            elem := 43, kind := Kind.box }])))

def VC_impl_RowOf (p : Int) (q : Int) (s : Int) (i : Int) (n : Nat) (c : List Sc) (g0 : List UInt8) (g1 : List UInt8) (g2 : List UInt8) (g3 : List UInt8) (K : V → List Blk → Prop) : Prop :=
  At (is3 c n ∧ n ≤ (2000000 : Nat) ∧ isSg g0 g1 g2 g3) ∧
  ((!tabB s i (rows3 c)) = true →
      K
        (V.tup
          [V.agg [V.int IntKind.i64 (0 : Int), V.str (Array.toList #[]), V.int IntKind.i64 (0 : Int)], V.lit false])
        [{ cs := Cells.recs [Sh.int IntKind.i64, Sh.str, Sh.int IntKind.i64] c, elem := 43,
            kind := Kind.rows (3 : Nat) },
          { cs := Cells.vals [V.str g0, V.str g1, V.str g2, V.str g3], elem := 9, kind := Kind.gl (0 : Nat) },
          { cs := Cells.vals [V.int IntKind.i64 s, V.int IntKind.i64 i, V.row (0 : Nat) n], elem := 29,
            kind := Kind.box },
          { cs := Cells.vals [V.int IntKind.i64 (0 : Int), V.str (Array.toList #[]), V.int IntKind.i64 (0 : Int)],
            elem := 43, kind := Kind.box }]) ∧
    ((!tabB s i (rows3 c)) = false →
      At True ∧
        ((!inB p (0 : Int) (IntKind.wrap IntKind.i64 (s - (1 : Int)))) = true →
            K
              (V.tup
                [V.agg [V.int IntKind.i64 (0 : Int), V.str (Array.toList #[]), V.int IntKind.i64 (0 : Int)],
                  V.lit false])
              [{ cs := Cells.recs [Sh.int IntKind.i64, Sh.str, Sh.int IntKind.i64] c, elem := 43,
                  kind := Kind.rows (3 : Nat) },
                { cs := Cells.vals [V.str g0, V.str g1, V.str g2, V.str g3], elem := 9,
                  kind := Kind.gl (0 : Nat) },
                { cs := Cells.vals [V.int IntKind.i64 s, V.int IntKind.i64 i, V.row (0 : Nat) n], elem := 29,
                  kind := Kind.box },
                { cs := Cells.vals [V.int IntKind.i64 (0 : Int), V.str (Array.toList #[]), V.int IntKind.i64 (0 : Int)],
                  elem := 43, kind := Kind.box }]) ∧
          ((!inB p (0 : Int) (IntKind.wrap IntKind.i64 (s - (1 : Int)))) = false →
            At True ∧
              ((!inB q (0 : Int) (IntKind.wrap IntKind.i64 (i - (1 : Int)))) = true →
                  K
                    (V.tup
                      [V.agg [V.int IntKind.i64 (0 : Int), V.str (Array.toList #[]), V.int IntKind.i64 (0 : Int)],
                        V.lit false])
                    [{ cs := Cells.recs [Sh.int IntKind.i64, Sh.str, Sh.int IntKind.i64] c, elem := 43,
                        kind := Kind.rows (3 : Nat) },
                      { cs := Cells.vals [V.str g0, V.str g1, V.str g2, V.str g3], elem := 9,
                        kind := Kind.gl (0 : Nat) },
                      { cs := Cells.vals [V.int IntKind.i64 s, V.int IntKind.i64 i, V.row (0 : Nat) n],
                        elem := 29, kind := Kind.box },
                      {
                        cs :=
                          Cells.vals
                            [V.int IntKind.i64 (0 : Int), V.str (Array.toList #[]), V.int IntKind.i64 (0 : Int)],
                        elem := 43, kind := Kind.box }]) ∧
                ((!inB q (0 : Int) (IntKind.wrap IntKind.i64 (i - (1 : Int)))) = false →
                  At
                      ((0 : Int) ≤ IntKind.wrap IntKind.i64 (IntKind.wrap IntKind.i64 (p * i) + q) ∧
                        IntKind.wrap IntKind.i64 (IntKind.wrap IntKind.i64 (p * i) + q) < (↑n : Int)) ∧
                    At
                        (Int.toNat (IntKind.wrap IntKind.i64 (IntKind.wrap IntKind.i64 (p * i) + q)) * (3 : Nat) +
                              (3 : Nat) ≤
                            List.length c ∧
                          Int.toNat (IntKind.wrap IntKind.i64 (IntKind.wrap IntKind.i64 (p * i) + q)) * (3 : Nat) %
                              (3 : Nat) =
                            (0 : Nat)) ∧
                      K
                        (V.tup
                          [V.agg
                              [V.int IntKind.i64
                                  (Sc.i
                                    (List.getD c
                                      (Int.toNat (IntKind.wrap IntKind.i64 (IntKind.wrap IntKind.i64 (p * i) + q)) *
                                        (3 : Nat))
                                      { i := (0 : Int), s := [] })),
                                V.str
                                  (Sc.s
                                    (List.getD c
                                      (Int.toNat (IntKind.wrap IntKind.i64 (IntKind.wrap IntKind.i64 (p * i) + q)) *
                                          (3 : Nat) +
                                        (1 : Nat))
                                      { i := (0 : Int), s := [] })),
                                V.int IntKind.i64
                                  (Sc.i
                                    (List.getD c
                                      (Int.toNat (IntKind.wrap IntKind.i64 (IntKind.wrap IntKind.i64 (p * i) + q)) *
                                            (3 : Nat) +
                                          (1 : Nat) +
                                        (1 : Nat))
                                      { i := (0 : Int), s := [] }))],
                            V.lit true])
                        [{ cs := Cells.recs [Sh.int IntKind.i64, Sh.str, Sh.int IntKind.i64] c, elem := 43,
                            kind := Kind.rows (3 : Nat) },
                          { cs := Cells.vals [V.str g0, V.str g1, V.str g2, V.str g3], elem := 9,
                            kind := Kind.gl (0 : Nat) },
                          { cs := Cells.vals [V.int IntKind.i64 s, V.int IntKind.i64 i, V.row (0 : Nat) n],
                            elem := 29, kind := Kind.box },
                          {
                            cs :=
                              Cells.vals
                                [V.int IntKind.i64
                                    (Sc.i
                                      (List.getD c
                                        (Int.toNat (IntKind.wrap IntKind.i64 (IntKind.wrap IntKind.i64 (p * i) + q)) *
                                          (3 : Nat))
                                        { i := (0 : Int), s := [] })),
                                  V.str
                                    (Sc.s
                                      (List.getD c
                                        (Int.toNat (IntKind.wrap IntKind.i64 (IntKind.wrap IntKind.i64 (p * i) + q)) *
                                            (3 : Nat) +
                                          (1 : Nat))
                                        { i := (0 : Int), s := [] })),
                                  V.int IntKind.i64
                                    (Sc.i
                                      (List.getD c
                                        (Int.toNat (IntKind.wrap IntKind.i64 (IntKind.wrap IntKind.i64 (p * i) + q)) *
                                              (3 : Nat) +
                                            (1 : Nat) +
                                          (1 : Nat))
                                        { i := (0 : Int), s := [] }))],
                            elem := 43, kind := Kind.box }])))

end Go.Vi
