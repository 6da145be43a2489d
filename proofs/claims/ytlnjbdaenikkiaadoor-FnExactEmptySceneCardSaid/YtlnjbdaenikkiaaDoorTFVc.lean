/- The conditions, reckoned out by program: texts alone. -/
import Derived.Test.YtlnjbdaenikkiaaDoorTFDefs
namespace Go.Vi
set_option linter.unusedVariables false
def VC_laws_eqScene (s : Int) (i : Int) (n : Nat) (c : List Sc) (w : Int) (h : Int) (u : List UInt8) (x : Int) (y : Int) (d : Int) (q : Int) (s_ : Int) (i_ : Int) (n_ : Nat) (c_ : List 
  Sc) (w_ : Int) (h_ : Int) (u_ : List UInt8) (x_ : Int) (y_ : Int) (d_ : Int) (q_ : Int) (K : V → List Blk → Prop) : Prop := At (is3 c n ∧ is3 c_ n_ ∧ n ≤ (2000000 : Nat) ∧ n_ ≤ (2000000 
  : Nat)) ∧ ((!(s == s_ && i == i_ && rows3 c == rows3 c_)) = true → K (V.lit false) [{ cs := Cells.recs [Sh.int IntKind.i64, Sh.str, Sh.int IntKind.i64] c, elem := 79, kind := Kind.rows (3 : Nat) }, 
  { cs := Cells.recs [Sh.int IntKind.i64, Sh.str, Sh.int IntKind.i64] c_, elem := 79, kind := Kind.rows (3 : Nat) }, { cs := Cells.vals [V.int IntKind.i64 s, V.int IntKind.i64 i, V.row (0 : Nat) n, V.int IntKind.i64 w, V.int IntKind.i64 h, V.str u, V.int IntKind.i64 x, V.int IntKind.i64 y, V.int IntKind.i64 d, V.int IntKind.i64 q], elem := 30, kind := Kind.box }, 
  { cs := Cells.vals [V.int IntKind.i64 s_, V.int IntKind.i64 i_, V.row (1 : Nat) n_, V.int IntKind.i64 w_, V.int IntKind.i64 h_, V.str u_, V.int IntKind.i64 x_, V.int IntKind.i64 y_, V.int IntKind.i64 d_, V.int IntKind.i64 q_], elem := 30, kind := Kind.box }]) 
  ∧ ((!(s == s_ && i == i_ && rows3 c == rows3 c_)) = false → ((w != w_) = true → K (V.lit false) [{ cs := Cells.recs [Sh.int IntKind.i64, Sh.str, Sh.int IntKind.i64] c, elem := 79, kind := Kind.rows (3 : Nat) }, 
  { cs := Cells.recs [Sh.int IntKind.i64, Sh.str, Sh.int IntKind.i64] c_, elem := 79, kind := Kind.rows (3 : Nat) }, { cs := Cells.vals [V.int IntKind.i64 s, V.int IntKind.i64 i, V.row (0 : Nat) n, V.int IntKind.i64 w, V.int IntKind.i64 h, V.str u, V.int IntKind.i64 x, V.int IntKind.i64 y, V.int IntKind.i64 d, V.int IntKind.i64 q], elem := 30, kind := Kind.box }, 
  { cs := Cells.vals [V.int IntKind.i64 s_, V.int IntKind.i64 i_, V.row (1 : Nat) n_, V.int IntKind.i64 w_, V.int IntKind.i64 h_, V.str u_, V.int IntKind.i64 x_, V.int IntKind.i64 y_, V.int IntKind.i64 d_, V.int IntKind.i64 q_], elem := 30, kind := Kind.box }]) 
  ∧ ((w != w_) = false → ((h != h_) = true → K (V.lit false) [{ cs := Cells.recs [Sh.int IntKind.i64, Sh.str, Sh.int IntKind.i64] c, elem := 79, kind := Kind.rows (3 : Nat) }, 
  { cs := Cells.recs [Sh.int IntKind.i64, Sh.str, Sh.int IntKind.i64] c_, elem := 79, kind := Kind.rows (3 : Nat) }, { cs := Cells.vals [V.int IntKind.i64 s, V.int IntKind.i64 i, V.row (0 : Nat) n, V.int IntKind.i64 w, V.int IntKind.i64 h, V.str u, V.int IntKind.i64 x, V.int IntKind.i64 y, V.int IntKind.i64 d, V.int IntKind.i64 q], elem := 30, kind := Kind.box }, 
  { cs := Cells.vals [V.int IntKind.i64 s_, V.int IntKind.i64 i_, V.row (1 : Nat) n_, V.int IntKind.i64 w_, V.int IntKind.i64 h_, V.str u_, V.int IntKind.i64 x_, V.int IntKind.i64 y_, V.int IntKind.i64 d_, V.int IntKind.i64 q_], elem := 30, kind := Kind.box }]) 
  ∧ ((h != h_) = false → ((!u == u_) = true → K (V.lit false) [{ cs := Cells.recs [Sh.int IntKind.i64, Sh.str, Sh.int IntKind.i64] c, elem := 79, kind := Kind.rows (3 : Nat) }, 
  { cs := Cells.recs [Sh.int IntKind.i64, Sh.str, Sh.int IntKind.i64] c_, elem := 79, kind := Kind.rows (3 : Nat) }, { cs := Cells.vals [V.int IntKind.i64 s, V.int IntKind.i64 i, V.row (0 : Nat) n, V.int IntKind.i64 w, V.int IntKind.i64 h, V.str u, V.int IntKind.i64 x, V.int IntKind.i64 y, V.int IntKind.i64 d, V.int IntKind.i64 q], elem := 30, kind := Kind.box }, 
  { cs := Cells.vals [V.int IntKind.i64 s_, V.int IntKind.i64 i_, V.row (1 : Nat) n_, V.int IntKind.i64 w_, V.int IntKind.i64 h_, V.str u_, V.int IntKind.i64 x_, V.int IntKind.i64 y_, V.int IntKind.i64 d_, V.int IntKind.i64 q_], elem := 30, kind := Kind.box }]) 
  ∧ ((!u == u_) = false → ((x != x_) = true → K (V.lit false) [{ cs := Cells.recs [Sh.int IntKind.i64, Sh.str, Sh.int IntKind.i64] c, elem := 79, kind := Kind.rows (3 : Nat) }, 
  { cs := Cells.recs [Sh.int IntKind.i64, Sh.str, Sh.int IntKind.i64] c_, elem := 79, kind := Kind.rows (3 : Nat) }, { cs := Cells.vals [V.int IntKind.i64 s, V.int IntKind.i64 i, V.row (0 : Nat) n, V.int IntKind.i64 w, V.int IntKind.i64 h, V.str u, V.int IntKind.i64 x, V.int IntKind.i64 y, V.int IntKind.i64 d, V.int IntKind.i64 q], elem := 30, kind := Kind.box }, 
  { cs := Cells.vals [V.int IntKind.i64 s_, V.int IntKind.i64 i_, V.row (1 : Nat) n_, V.int IntKind.i64 w_, V.int IntKind.i64 h_, V.str u_, V.int IntKind.i64 x_, V.int IntKind.i64 y_, V.int IntKind.i64 d_, V.int IntKind.i64 q_], elem := 30, kind := Kind.box }]) 
  ∧ ((x != x_) = false → ((y != y_) = true → K (V.lit false) [{ cs := Cells.recs [Sh.int IntKind.i64, Sh.str, Sh.int IntKind.i64] c, elem := 79, kind := Kind.rows (3 : Nat) }, 
  { cs := Cells.recs [Sh.int IntKind.i64, Sh.str, Sh.int IntKind.i64] c_, elem := 79, kind := Kind.rows (3 : Nat) }, { cs := Cells.vals [V.int IntKind.i64 s, V.int IntKind.i64 i, V.row (0 : Nat) n, V.int IntKind.i64 w, V.int IntKind.i64 h, V.str u, V.int IntKind.i64 x, V.int IntKind.i64 y, V.int IntKind.i64 d, V.int IntKind.i64 q], elem := 30, kind := Kind.box }, 
  { cs := Cells.vals [V.int IntKind.i64 s_, V.int IntKind.i64 i_, V.row (1 : Nat) n_, V.int IntKind.i64 w_, V.int IntKind.i64 h_, V.str u_, V.int IntKind.i64 x_, V.int IntKind.i64 y_, V.int IntKind.i64 d_, V.int IntKind.i64 q_], elem := 30, kind := Kind.box }]) 
  ∧ ((y != y_) = false → ((d != d_) = true → K (V.lit false) [{ cs := Cells.recs [Sh.int IntKind.i64, Sh.str, Sh.int IntKind.i64] c, elem := 79, kind := Kind.rows (3 : Nat) }, 
  { cs := Cells.recs [Sh.int IntKind.i64, Sh.str, Sh.int IntKind.i64] c_, elem := 79, kind := Kind.rows (3 : Nat) }, { cs := Cells.vals [V.int IntKind.i64 s, V.int IntKind.i64 i, V.row (0 : Nat) n, V.int IntKind.i64 w, V.int IntKind.i64 h, V.str u, V.int IntKind.i64 x, V.int IntKind.i64 y, V.int IntKind.i64 d, V.int IntKind.i64 q], elem := 30, kind := Kind.box }, 
  { cs := Cells.vals [V.int IntKind.i64 s_, V.int IntKind.i64 i_, V.row (1 : Nat) n_, V.int IntKind.i64 w_, V.int IntKind.i64 h_, V.str u_, V.int IntKind.i64 x_, V.int IntKind.i64 y_, V.int IntKind.i64 d_, V.int IntKind.i64 q_], elem := 30, kind := Kind.box }]) 
  ∧ ((d != d_) = false → ((q != q_) = true → K (V.lit false) [{ cs := Cells.recs [Sh.int IntKind.i64, Sh.str, Sh.int IntKind.i64] c, elem := 79, kind := Kind.rows (3 : Nat) }, 
  { cs := Cells.recs [Sh.int IntKind.i64, Sh.str, Sh.int IntKind.i64] c_, elem := 79, kind := Kind.rows (3 : Nat) }, { cs := Cells.vals [V.int IntKind.i64 s, V.int IntKind.i64 i, V.row (0 : Nat) n, V.int IntKind.i64 w, V.int IntKind.i64 h, V.str u, V.int IntKind.i64 x, V.int IntKind.i64 y, V.int IntKind.i64 d, V.int IntKind.i64 q], elem := 30, kind := Kind.box }, 
  { cs := Cells.vals [V.int IntKind.i64 s_, V.int IntKind.i64 i_, V.row (1 : Nat) n_, V.int IntKind.i64 w_, V.int IntKind.i64 h_, V.str u_, V.int IntKind.i64 x_, V.int IntKind.i64 y_, V.int IntKind.i64 d_, V.int IntKind.i64 q_], elem := 30, kind := Kind.box }]) 
  ∧ ((q != q_) = false → K (V.lit true) [{ cs := Cells.recs [Sh.int IntKind.i64, Sh.str, Sh.int IntKind.i64] c, elem := 79, kind := Kind.rows (3 : Nat) }, { cs := Cells.recs [Sh.int IntKind.i64, Sh.str, Sh.int IntKind.i64] c_, elem := 79, kind := Kind.rows (3 : Nat) }, 
  { cs := Cells.vals [V.int IntKind.i64 s, V.int IntKind.i64 i, V.row (0 : Nat) n, V.int IntKind.i64 w, V.int IntKind.i64 h, V.str u, V.int IntKind.i64 x, V.int IntKind.i64 y, V.int IntKind.i64 d, V.int IntKind.i64 q], elem := 30, kind := Kind.box }, 
  { cs := Cells.vals [V.int IntKind.i64 s_, V.int IntKind.i64 i_, V.row (1 : Nat) n_, V.int IntKind.i64 w_, V.int IntKind.i64 h_, V.str u_, V.int IntKind.i64 x_, V.int IntKind.i64 y_, V.int IntKind.i64 d_, V.int IntKind.i64 q_], elem := 30, kind := Kind.box }]))))))))

def VC_laws_markScene (k : Int) (s : Int) (i : Int) (n : Nat) (c : List Sc) (w : Int) (h : Int) (u : List UInt8) (x : Int) (y : Int) (d : Int) (q : Int) (K : V → List Blk → Prop) : Prop :=
  At (is3 c n ∧ n ≤ (2000000 : Nat) ∧ (0 : Int) ≤ k ∧ k ≤ (1000000 : Int)) ∧
  K (V.int IntKind.i64 (k + (↑((3 : Nat) * n) : Int)))
    [{ cs := Cells.recs [Sh.int IntKind.i64, Sh.str, Sh.int IntKind.i64] (flat3 (mkR k n)), elem := 79,
        kind := Kind.rows (3 : Nat) },
      {
        cs :=
          Cells.vals
            [V.int IntKind.i64 s, V.int IntKind.i64 i, V.row (0 : Nat) n, V.int IntKind.i64 w, V.int IntKind.i64 h,
              V.str u, V.int IntKind.i64 x, V.int IntKind.i64 y, V.int IntKind.i64 d, V.int IntKind.i64 q],
        elem := 30, kind := Kind.box }]

def VC_laws_heldScene (k : Int) (s : Int) (i : Int) (n : Nat) (c : List Sc) (w : Int) (h : Int) (u : List UInt8) (x : Int) (y : Int) (d : Int) (q : Int) (K : V → List Blk → Prop) : Prop :=
  At (is3 c n ∧ n ≤ (2000000 : Nat) ∧ (0 : Int) ≤ k ∧ k ≤ (1000000 : Int)) ∧
  (decide ((bif decide (rows3 c = mkR k n) then k + (↑((3 : Nat) * n) : Int) else (-1 : Int)) < (0 : Int)) = true →
      K (V.int IntKind.i64 (-1 : Int))
        [{ cs := Cells.recs [Sh.int IntKind.i64, Sh.str, Sh.int IntKind.i64] c, elem := 79,
            kind := Kind.rows (3 : Nat) },
          {
            cs :=
              Cells.vals
                [V.int IntKind.i64 s, V.int IntKind.i64 i, V.row (0 : Nat) n, V.int IntKind.i64 w, V.int IntKind.i64 h,
                  V.str u, V.int IntKind.i64 x, V.int IntKind.i64 y, V.int IntKind.i64 d, V.int IntKind.i64 q],
            elem := 30, kind := Kind.box }]) ∧
    (decide ((bif decide (rows3 c = mkR k n) then k + (↑((3 : Nat) * n) : Int) else (-1 : Int)) < (0 : Int)) = false →
      K (V.int IntKind.i64 (bif decide (rows3 c = mkR k n) then k + (↑((3 : Nat) * n) : Int) else (-1 : Int)))
        [{ cs := Cells.recs [Sh.int IntKind.i64, Sh.str, Sh.int IntKind.i64] c, elem := 79,
            kind := Kind.rows (3 : Nat) },
          {
            cs :=
              Cells.vals
                [V.int IntKind.i64 s, V.int IntKind.i64 i, V.row (0 : Nat) n, V.int IntKind.i64 w, V.int IntKind.i64 h,
                  V.str u, V.int IntKind.i64 x, V.int IntKind.i64 y, V.int IntKind.i64 d, V.int IntKind.i64 q],
            elem := 30, kind := Kind.box }])

def VC_impl_isSize (a : Int) (b : Int) (K : V → Prop) : Prop :=
  At True ∧
  (inB a (1 : Int) (9 : Int) = true → At True ∧ K (V.bool (inB b (1 : Int) (9 : Int)))) ∧
    (inB a (1 : Int) (9 : Int) = false → K (V.lit false))

def VC_spec_woZeros (n : Int) (K : V → Prop) : Prop :=
  (((True ∧ n = n) ∧ nilB = List.replicate (Int.toNat (n - n)) (48 : UInt8) ∧ True) ∧ True ∧ True) ∧
  At ((0 : Int) ≤ n ∧ n ≤ n ∧ n ≤ (1000 : Int)) ∧
    ∀ (a : Int),
      (0 : Int) ≤ a ∧ a ≤ n ∧ n ≤ (1000 : Int) →
        (decide (a > (0 : Int)) = true →
            At
                (List.length (List.replicate (Int.toNat (n - a)) (48 : UInt8)) +
                    List.length (Array.toList #[(48 : UInt8)]) ≤
                  (9223372036854775807 : Nat)) ∧
              (((True ∧ IntKind.wrap IntKind.i64 (a - (1 : Int)) = IntKind.wrap IntKind.i64 (a - (1 : Int))) ∧
                    List.replicate (Int.toNat (n - a)) (48 : UInt8) ++ Array.toList #[(48 : UInt8)] =
                        List.replicate (Int.toNat (n - IntKind.wrap IntKind.i64 (a - (1 : Int)))) (48 : UInt8) ∧
                      True) ∧
                  True ∧ True) ∧
                At
                  (((0 : Int) ≤ IntKind.wrap IntKind.i64 (a - (1 : Int)) ∧
                      IntKind.wrap IntKind.i64 (a - (1 : Int)) ≤ n ∧ n ≤ (1000 : Int)) ∧
                    Int.toNat (IntKind.wrap IntKind.i64 (a - (1 : Int))) < Int.toNat a)) ∧
          (decide (a > (0 : Int)) = false → K (V.str (List.replicate (Int.toNat (n - a)) (48 : UInt8))))

def VC_spec_EmptyScene (w : Int) (h : Int) (s : Int) (i : Int) (n : Nat) (c : List Sc) (K : V → List Blk → Prop) : Prop := At (is3 c n ∧ n ≤ (2000000 : Nat)) ∧ ((!tabB s i (rows3 c)) 
  = true → K (V.tup [V.agg [V.int IntKind.i64 (0 : Int), V.int IntKind.i64 (0 : Int), V.raw (Value.slice none (0 : Nat) (0 : Nat)), V.int IntKind.i64 (0 : Int), V.int IntKind.i64 (0 : 
  Int), V.str (Array.toList #[]), V.int IntKind.i64 (0 : Int), V.int IntKind.i64 (0 : Int), V.int IntKind.i64 (0 : Int), V.int IntKind.i64 (0 : Int)], V.lit false]) [{ cs := Cells.recs [Sh.int IntKind.i64, Sh.str, Sh.int IntKind.i64] c, elem := 79, kind := Kind.rows (3 : Nat) }, 
  { cs := Cells.vals [V.int IntKind.i64 s, V.int IntKind.i64 i, V.row (0 : Nat) n], elem := 28, kind := Kind.box }, { cs := Cells.vals [V.int IntKind.i64 (0 : Int), V.int IntKind.i64 (0 : Int), V.raw (Value.slice none (0 : Nat) (0 : Nat)), V.int IntKind.i64 (0 : Int), V.int IntKind.i64 (0 : Int), V.str (Array.toList #[]), V.int IntKind.i64 (0 : Int), V.int IntKind.i64 (0 : Int), V.int IntKind.i64 (0 : Int), V.int IntKind.i64 (0 : Int)], elem := 30, kind := Kind.box }]) 
  ∧ ((!tabB s i (rows3 c)) = false → At True ∧ ((!inB w (1 : Int) (9 : Int)) = true → K (V.tup [V.agg [V.int IntKind.i64 (0 : Int), V.int IntKind.i64 (0 : Int), V.raw (Value.slice none 
  (0 : Nat) (0 : Nat)), V.int IntKind.i64 (0 : Int), V.int IntKind.i64 (0 : Int), V.str (Array.toList #[]), V.int IntKind.i64 (0 : Int), V.int IntKind.i64 (0 : Int), V.int IntKind.i64 
  (0 : Int), V.int IntKind.i64 (0 : Int)], V.lit false]) [{ cs := Cells.recs [Sh.int IntKind.i64, Sh.str, Sh.int IntKind.i64] c, elem := 79, kind := Kind.rows (3 : Nat) }, { cs := Cells.vals [V.int IntKind.i64 s, V.int IntKind.i64 i, V.row (0 : Nat) n], elem := 28, kind := Kind.box }, 
  { cs := Cells.vals [V.int IntKind.i64 (0 : Int), V.int IntKind.i64 (0 : Int), V.raw (Value.slice none (0 : Nat) (0 : Nat)), V.int IntKind.i64 (0 : Int), V.int IntKind.i64 (0 : Int), V.str (Array.toList #[]), V.int IntKind.i64 (0 : Int), V.int IntKind.i64 (0 : Int), V.int IntKind.i64 (0 : Int), V.int IntKind.i64 (0 : Int)], elem := 30, kind := Kind.box }]) 
  ∧ ((!inB w (1 : Int) (9 : Int)) = false → At True ∧ ((!inB h (1 : Int) (9 : Int)) = true → K (V.tup [V.agg [V.int IntKind.i64 (0 : Int), V.int IntKind.i64 (0 : Int), V.raw (Value.slice 
  none (0 : Nat) (0 : Nat)), V.int IntKind.i64 (0 : Int), V.int IntKind.i64 (0 : Int), V.str (Array.toList #[]), V.int IntKind.i64 (0 : Int), V.int IntKind.i64 (0 : Int), V.int IntKind.i64 
  (0 : Int), V.int IntKind.i64 (0 : Int)], V.lit false]) [{ cs := Cells.recs [Sh.int IntKind.i64, Sh.str, Sh.int IntKind.i64] c, elem := 79, kind := Kind.rows (3 : Nat) }, { cs := Cells.vals [V.int IntKind.i64 s, V.int IntKind.i64 i, V.row (0 : Nat) n], elem := 28, kind := Kind.box }, 
  { cs := Cells.vals [V.int IntKind.i64 (0 : Int), V.int IntKind.i64 (0 : Int), V.raw (Value.slice none (0 : Nat) (0 : Nat)), V.int IntKind.i64 (0 : Int), V.int IntKind.i64 (0 : Int), V.str (Array.toList #[]), V.int IntKind.i64 (0 : Int), V.int IntKind.i64 (0 : Int), V.int IntKind.i64 (0 : Int), V.int IntKind.i64 (0 : Int)], elem := 30, kind := Kind.box }]) 
  ∧ ((!inB h (1 : Int) (9 : Int)) = false → True ∧ At ((0 : Int) ≤ IntKind.wrap IntKind.i64 (w * h) ∧ IntKind.wrap IntKind.i64 (w * h) ≤ (1000 : Int)) ∧ At ((List.length ([] : List Sc) 
  = (0 : Nat) * (3 : Nat) ∧ n * (3 : Nat) ≤ List.length c) ∧ (0 : Nat) < n ∧ (0 : Nat) + n ≤ (1000000000 : Nat)) ∧ K (V.tup [V.agg [V.int IntKind.i64 s, V.int IntKind.i64 i, V.row (3 
  : Nat) ((0 : Nat) + n), V.int IntKind.i64 w, V.int IntKind.i64 h, V.str (List.replicate (Int.toNat (IntKind.wrap IntKind.i64 (w * h))) (48 : UInt8)), V.int IntKind.i64 (0 : Int), V.int 
  IntKind.i64 (0 : Int), V.int IntKind.i64 (0 : Int), V.int IntKind.i64 (0 : Int)], V.lit true]) [{ cs := Cells.recs [Sh.int IntKind.i64, Sh.str, Sh.int IntKind.i64] c, elem := 79, kind := Kind.rows (3 : Nat) }, 
  { cs := Cells.vals [V.int IntKind.i64 s, V.int IntKind.i64 i, V.row (0 : Nat) n], elem := 28, kind := Kind.box }, { cs := Cells.vals [V.int IntKind.i64 s, V.int IntKind.i64 i, V.row (3 : Nat) ((0 : Nat) + n), V.int IntKind.i64 w, V.int IntKind.i64 h, V.str (List.replicate (Int.toNat (IntKind.wrap IntKind.i64 (w * h))) (48 : UInt8)), V.int IntKind.i64 (0 : Int), V.int IntKind.i64 (0 : Int), V.int IntKind.i64 (0 : Int), V.int IntKind.i64 (0 : Int)], elem := 30, kind := Kind.box }, 
  { cs := Cells.recs [Sh.int IntKind.i64, Sh.str, Sh.int IntKind.i64] (([] : List Sc) ++ List.take (n * (3 : Nat)) c), elem := 79, kind := Kind.rows (3 : Nat) }])))

def VC_impl_EmptyScene (w : Int) (h : Int) (s : Int) (i : Int) (n : Nat) (c : List Sc) (g0 : List UInt8) (g1 : List UInt8) (g2 : List UInt8) (g3 : List UInt8) (K : V → List Blk → Prop) 
  : Prop := At (is3 c n ∧ n ≤ (2000000 : Nat) ∧ isSg g0 g1 g2 g3) ∧ ((!tabB s i (rows3 c)) = true → K (V.tup [V.agg [V.int IntKind.i64 (0 : Int), V.int IntKind.i64 (0 : Int), V.raw (Value.slice 
  none (0 : Nat) (0 : Nat)), V.int IntKind.i64 (0 : Int), V.int IntKind.i64 (0 : Int), V.str (Array.toList #[]), V.int IntKind.i64 (0 : Int), V.int IntKind.i64 (0 : Int), V.int IntKind.i64 
  (0 : Int), V.int IntKind.i64 (0 : Int)], V.lit false]) [{ cs := Cells.recs [Sh.int IntKind.i64, Sh.str, Sh.int IntKind.i64] c, elem := 79, kind := Kind.rows (3 : Nat) }, { cs := Cells.vals [V.str g0, V.str g1, V.str g2, V.str g3], elem := 9, kind := Kind.gl 0 }, 
  { cs := Cells.vals [V.int IntKind.i64 s, V.int IntKind.i64 i, V.row (0 : Nat) n], elem := 28, kind := Kind.box }, { cs := Cells.vals [V.int IntKind.i64 (0 : Int), V.int IntKind.i64 (0 : Int), V.raw (Value.slice none (0 : Nat) (0 : Nat)), V.int IntKind.i64 (0 : Int), V.int IntKind.i64 (0 : Int), V.str (Array.toList #[]), V.int IntKind.i64 (0 : Int), V.int IntKind.i64 (0 : Int), V.int IntKind.i64 (0 : Int), V.int IntKind.i64 (0 : Int)], elem := 30, kind := Kind.box }]) 
  ∧ ((!tabB s i (rows3 c)) = false → At True ∧ ((!(inB w (1 : Int) (9 : Int) && inB h (1 : Int) (9 : Int))) = true → K (V.tup [V.agg [V.int IntKind.i64 (0 : Int), V.int IntKind.i64 (0 
  : Int), V.raw (Value.slice none (0 : Nat) (0 : Nat)), V.int IntKind.i64 (0 : Int), V.int IntKind.i64 (0 : Int), V.str (Array.toList #[]), V.int IntKind.i64 (0 : Int), V.int IntKind.i64 
  (0 : Int), V.int IntKind.i64 (0 : Int), V.int IntKind.i64 (0 : Int)], V.lit false]) [{ cs := Cells.recs [Sh.int IntKind.i64, Sh.str, Sh.int IntKind.i64] c, elem := 79, kind := Kind.rows (3 : Nat) }, 
  { cs := Cells.vals [V.str g0, V.str g1, V.str g2, V.str g3], elem := 9, kind := Kind.gl 0 }, { cs := Cells.vals [V.int IntKind.i64 s, V.int IntKind.i64 i, V.row (0 : Nat) n], elem := 28, kind := Kind.box }, 
  { cs := Cells.vals [V.int IntKind.i64 (0 : Int), V.int IntKind.i64 (0 : Int), V.raw (Value.slice none (0 : Nat) (0 : Nat)), V.int IntKind.i64 (0 : Int), V.int IntKind.i64 (0 : Int), V.str (Array.toList #[]), V.int IntKind.i64 (0 : Int), V.int IntKind.i64 (0 : Int), V.int IntKind.i64 (0 : Int), V.int IntKind.i64 (0 : Int)], elem := 30, kind := Kind.box }]) 
  ∧ ((!(inB w (1 : Int) (9 : Int) && inB h (1 : Int) (9 : Int))) = false → At (is3 c n ∧ n ≤ (2000000 : Nat) ∧ (1 : Nat) ≤ n) ∧ At ((0 : Int) ≤ IntKind.wrap IntKind.i64 (w * h) ∧ IntKind.wrap 
  IntKind.i64 (w * h) ≤ (9223372036854775807 : Int) ∧ List.length (Array.toList #[(48 : UInt8)]) * Int.toNat (IntKind.wrap IntKind.i64 (w * h)) ≤ (140737488355328 : Nat)) ∧ K (V.tup [V.agg 
  [V.int IntKind.i64 s, V.int IntKind.i64 i, V.row (4 : Nat) n, V.int IntKind.i64 w, V.int IntKind.i64 h, V.str (Lib.repeatL (Array.toList #[(48 : UInt8)]) (Int.toNat (IntKind.wrap IntKind.i64 
  (w * h)))), V.int IntKind.i64 (0 : Int), V.int IntKind.i64 (0 : Int), V.int IntKind.i64 (0 : Int), V.int IntKind.i64 (0 : Int)], V.lit true]) [{ cs := Cells.recs [Sh.int IntKind.i64, Sh.str, Sh.int IntKind.i64] c, elem := 79, kind := Kind.rows (3 : Nat) }, 
  { cs := Cells.vals [V.str g0, V.str g1, V.str g2, V.str g3], elem := 9, kind := Kind.gl 0 }, { cs := Cells.vals [V.int IntKind.i64 s, V.int IntKind.i64 i, V.row (0 : Nat) n], elem := 28, kind := Kind.box }, 
  { cs := Cells.vals [V.int IntKind.i64 s, V.int IntKind.i64 i, V.row (4 : Nat) n, V.int IntKind.i64 w, V.int IntKind.i64 h, V.str (Lib.repeatL (Array.toList #[(48 : UInt8)]) (Int.toNat (IntKind.wrap IntKind.i64 (w * h)))), V.int IntKind.i64 (0 : Int), V.int IntKind.i64 (0 : Int), V.int IntKind.i64 (0 : Int), V.int IntKind.i64 (0 : Int)], elem := 30, kind := Kind.box }, 
  { cs := Cells.recs [Sh.int IntKind.i64, Sh.str, Sh.int IntKind.i64] c, elem := 79, kind := Kind.rows (3 : Nat) }]))

end Go.Vi
