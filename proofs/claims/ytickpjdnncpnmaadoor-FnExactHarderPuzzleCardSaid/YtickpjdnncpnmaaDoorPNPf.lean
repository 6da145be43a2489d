import Derived.Test.YtickpjdnncpnmaaDoorPXPf
import Derived.Test.YtickpjdnncpnmaaDoorMMPf
/- Puzzles: needless clues, clues left, the best clue, harder puzzles. -/
namespace Go.Vi
/-- How many boards fit the clues of a set. -/
def cntM (r : List UInt8) (w h : Int) (n : Nat) (a : List Int) (m : Int) : Nat := (solZ r w h (keepN m n) (keepL a m n)).length
def fullM (n : Nat) : Int := ((2 ^ n - 1 : Nat) : Int)
def hrM (r : List UInt8) (w h : Int) (n : Nat) (a : List Int) : Nat -> Int
 | 0 => fullM n
 | k + 1 => bif cntM r w h n a (wout (hrM r w h n a k) k) == 1 then wout (hrM r w h n a k) k else hrM r w h n a k
def hrG (r : List UInt8) (w h : Int) (n : Nat) (a : List Int) : Bool := goodZ r w h n a && cntM r w h n a (fullM n) == 1
def hrN (r : List UInt8) (w h : Int) (n : Nat) (a : List Int) : Nat := bif hrG r w h n a then keepN (hrM r w h n a n) n else 0
def hrB (r : List UInt8) (w h : Int) (n : Nat) (a : List Int) : List Int := bif hrG r w h n a then keepL a (hrM r w h n a n) n else []
def kInv (n : Nat) (k : Int) : Prop := 0 <= k /\ k <= n
/-- Behind j clues: those that are left, and where the next one is among them. -/
def ann_spec_HarderPuzzle : Nat -> St -> Option Ann := fun key st =>
 match Nat.beq key 5, st.mem with
 | true, ⟨.ints kd a, e, k0⟩ :: ⟨.vals [.str r, .int i1 w, .int i2 h, .row x n], e1, k1⟩ :: b2 :: _ => some {
   α := Int
   find := fun st => (match intAt st 5, st.get 4 with | some k, .row _ m => some (k + ((n : Int) - m)) | _, _ => none)
   head := fun j => { only st [(1, .ptr 1 0), (2, .ptr 2 0), (3, .lit false), (4, .row 3 (keepN (hrM r w h n a j.toNat) n)), (5, .int .i64 (keepN (hrM r w h n a j.toNat) j.toNat : Nat))] with mem := [⟨.ints kd a, e, k0⟩, ⟨.vals [.str r, .int i1 w, .int i2 h, .row x n], e1, k1⟩, b2, ⟨.ints .i64 (keepL a (hrM r w h n a j.toNat) n), 83, .rows 3⟩] }
   inv := fun j => kInv n j
   meas := fun j => ((n : Int) - j).toNat
   auto := true }
 | _, _ => none
def ann_impl_HarderPuzzle : Nat -> St -> Option Ann := fun key st =>
 match Nat.beq key 6, st.mem, st.get 4 with
 | true, ⟨.ints kd a, e, k0⟩ :: ⟨.vals [.str r, .int i1 w, .int i2 h, .row x n], e1, k1⟩ :: b2 :: b3 :: _, .row _ N => some {
   α := Int
   find := fun st => intAt st 27
   head := fun j => { only st [(1, .ptr 1 0), (2, .ptr 2 0), (3, .lit false), (4, .row 3 N), (6, .int .u64 (hrM r w h n a j.toNat)), (26, .int .i64 n), (27, .int .i64 j)] with mem := [⟨.ints kd a, e, k0⟩, ⟨.vals [.str r, .int i1 w, .int i2 h, .row x n], e1, k1⟩, b2, b3] }
   inv := fun j => kInv n j
   meas := fun j => ((n : Int) - j).toNat
   auto := true }
 | _, _, _ => none
end Go.Vi

/- Closed forms of the functions of this chapter. -/
namespace Go.Vi
set_option linter.unusedVariables false
end Go.Vi

/- The conditions, reckoned out by program: texts alone. -/
namespace Go.Vi
set_option linter.unusedVariables false
end Go.Vi

/- Needless clues, clues left, the best clue, harder puzzles: the conditions hold. -/
namespace Go.Vi
/-! ### sets of clues -/
theorem getD_app {a b : List Int} {i : Nat} (h : i < a.length) : (a ++ b).getD i 0 = a.getD i 0 := by
 simp only [List.getD_eq_getElem?_getD, List.getElem?_append_left h]
theorem fitAt_app {r : List UInt8} {w h : Int} {a b : List Int} {t : List UInt8} {i : Nat} (hi : (i + 1) * 3 <= a.length) : fitAt r w h (a ++ b) t i = fitAt r w h a t i := by
 unfold fitAt
 rw [getD_app (by omega), getD_app (by omega), getD_app (by omega)]
theorem fitsN_app {r : List UInt8} {w h : Int} {a b : List Int} {t : List UInt8} : ∀ {k : Nat}, k * 3 <= a.length -> fitsN r w h (a ++ b) t k = fitsN r w h a t k
 | 0, _ => rfl
 | k + 1, hk => by
  simp only [fitsN]
  rw [fitsN_app (by omega), fitAt_app hk]
theorem cluAt_app {a b : List Int} {i : Nat} {c k : Int} (hi : (i + 1) * 3 <= a.length) : cluAt (a ++ b) i c k = cluAt a i c k := by
 unfold cluAt
 rw [getD_app (by omega), getD_app (by omega), getD_app (by omega)]
theorem allC_app {a b : List Int} {c k : Int} : ∀ {n : Nat}, n * 3 <= a.length -> allC (a ++ b) c k n = allC a c k n
 | 0, _ => rfl
 | n + 1, hn => by
  simp only [allC]
  rw [allC_app (by omega), cluAt_app hn]
theorem getD_last {l : List Int} {x y z : Int} {k : Nat} (h : l.length = k * 3) : (l ++ [x, y, z]).getD (k * 3) 0 = x /\ (l ++ [x, y, z]).getD (k * 3 + 1) 0 = y /\ (l ++ [x, y, z]).getD (k * 3 + 1 + 1) 0 = z := by
 rw [<- h]
 simp only [List.getD_eq_getElem?_getD, List.getElem?_append_right (Nat.le_refl _), List.getElem?_append_right (Nat.le_add_right _ 1), List.getElem?_append_right (show l.length <= l.length + 1 + 1 by omega), Nat.sub_self, Nat.add_sub_cancel_left, Nat.add_assoc]
 exact ⟨rfl, rfl, rfl⟩
/-- All clues of a set fit. -/
def bitsFit (r : List UInt8) (w h : Int) (a : List Int) (t : List UInt8) (m : Int) : Nat -> Bool
 | 0 => true
 | i + 1 => bitsFit r w h a t m i && (!m.toNat.testBit i || fitAt r w h a t i)
theorem keep_fits {r : List UInt8} {w h : Int} {a : List Int} {t : List UInt8} {m : Int} : ∀ i, fitsN r w h (keepL a m i) t (keepN m i) = bitsFit r w h a t m i
 | 0 => rfl
 | i + 1 => by
  have hl := keepL_len a m i
  simp only [keepL, keepN, bitsFit]
  cases m.toNat.testBit i
  ·simp only [cond_false, List.append_nil, Nat.add_zero, Bool.not_false, Bool.true_or, Bool.and_true]
   exact keep_fits i
  ·simp only [cond_true, fitsN, Bool.not_true, Bool.false_or]
   obtain ⟨h1, h2, h3⟩ := getD_last (x := a.getD (i * 3) 0) (y := a.getD (i * 3 + 1) 0) (z := a.getD (i * 3 + 1 + 1) 0) hl
   rw [fitsN_app (by omega), keep_fits i]
   congr 1
   unfold fitAt
   rw [h1, h2, h3]
theorem keep_allC {a : List Int} {m c k : Int} : ∀ {i : Nat}, allC a c k i = true -> allC (keepL a m i) c k (keepN m i) = true
 | 0, _ => rfl
 | i + 1, h => by
  have hl := keepL_len a m i
  simp only [allC, Bool.and_eq_true] at h
  have ih := keep_allC (m := m) h.1
  simp only [keepL, keepN]
  cases m.toNat.testBit i
  ·simpa only [cond_false, List.append_nil, Nat.add_zero] using ih
  ·simp only [cond_true, allC, Bool.and_eq_true]
   obtain ⟨h1, h2, h3⟩ := getD_last (x := a.getD (i * 3) 0) (y := a.getD (i * 3 + 1) 0) (z := a.getD (i * 3 + 1 + 1) 0) hl
   refine ⟨by rw [allC_app (by omega)]; exact ih, ?_⟩
   unfold cluAt
   rw [h1, h2, h3]
   exact h.2
theorem keep_good {r : List UInt8} {w h : Int} {n : Nat} {a : List Int} {m : Int} (hg : goodZ r w h n a = true) : goodZ r w h (keepN m n) (keepL a m n) = true := by
 have hle := keepN_le m n
 simp only [goodZ, Bool.and_eq_true, decide_eq_true_eq] at hg ⊢
 exact ⟨⟨hg.1.1, by omega⟩, keep_allC hg.2⟩
theorem maskN_bit (r : List UInt8) (w h : Int) (a : List Int) (t : List UInt8) (j : Nat) : ∀ i, (maskN r w h a t i).testBit j = (decide (j < i) && fitAt r w h a t j)
 | 0 => by simp [maskN]
 | i + 1 => by
  simp only [maskN]
  by_cases hj : j = i
  ·subst hj
   have h1 := maskN_bit r w h a t j j
   cases hf : fitAt r w h a t j <;> simp [h1, hf, Nat.testBit_or]
  ·have h1 := maskN_bit r w h a t j i
   have h2 : (2 ^ i).testBit j = false := by rw [Nat.testBit_two_pow]; simp; omega
   cases hf : fitAt r w h a t i
   ·simp only [cond_false, h1]
    congr 1
    simp only [decide_eq_decide]
    omega
   ·simp only [cond_true, Nat.testBit_or, h1, h2, Bool.or_false]
    congr 1
    simp only [decide_eq_decide]
    omega
theorem bitsFit_iff {r : List UInt8} {w h : Int} {a : List Int} {t : List UInt8} {m : Int} : ∀ {n : Nat}, bitsFit r w h a t m n = true ↔ ∀ j, j < n -> m.toNat.testBit j = true -> fitAt r w h a t j = true
 | 0 => by simp [bitsFit]
 | n + 1 => by
  simp only [bitsFit, Bool.and_eq_true, bitsFit_iff (n := n), Bool.or_eq_true, Bool.not_eq_true']
  constructor
  ·rintro ⟨h1, h2⟩ j hj hb
   by_cases he : j = n
   ·subst he
    rcases h2 with h2 | h2
    ·rw [h2] at hb; cases hb
    ·exact h2
   ·exact h1 j (by omega) hb
  ·intro h
   refine ⟨fun j hj => h j (by omega), ?_⟩
   cases hb : m.toNat.testBit n
   ·exact .inl rfl
   ·exact .inr (h n (by omega) hb)
theorem allIn2_bits {r : List UInt8} {w h : Int} {a : List Int} {t : List UInt8} {m : Int} {n : Nat} (hm : 0 <= m) (hn : m.toNat < 2 ^ n) : allIn2 ((maskN r w h a t n : Nat) : Int) m = bitsFit r w h a t m n := by
 apply Bool.eq_iff_iff.2
 rw [bitsFit_iff]
 unfold allIn2
 rw [beq_iff_eq, Int.toNat_natCast]
 constructor
 ·intro he j hj hb
  have he : maskN r w h a t n &&& m.toNat = m.toNat := by omega
  have := congrArg (·.testBit j) he
  simp only [Nat.testBit_and, maskN_bit, hb, decide_eq_true hj, Bool.true_and, Bool.and_true] at this
  exact this
 ·intro hf
  have he : maskN r w h a t n &&& m.toNat = m.toNat := by
   apply Nat.eq_of_testBit_eq
   intro j
   rw [Nat.testBit_and, maskN_bit]
   by_cases hj : j < n
   ·cases hb : m.toNat.testBit j
    ·simp
    ·simp [hf j hj hb, hj]
   ·have : m.toNat.testBit j = false := Nat.testBit_lt_two_pow (Nat.lt_of_lt_of_le hn (Nat.pow_le_pow_right (by omega) (by omega)))
    simp [this]
  rw [he]
  omega
theorem fitL_set {r : List UInt8} {w h : Int} {n : Nat} {a : List Int} {l : List (List UInt8)} {m : Int} (hm : 0 <= m) (hn : m.toNat < 2 ^ n) : ∀ i, i <= l.length -> fitL (candL r w h n a l) m i = (l.take i).filter fun t => fitsN r w h (keepL a m n) t (keepN m n)
 | 0, _ => by simp [fitL]
 | i + 1, hi => by
  have hg := candL_get (r := r) (w := w) (h := h) (n := n) (a := a) (show i < l.length by omega)
  rw [fitL, fitL_set hm hn i (by omega), hg.1, hg.2, List.take_succ_eq_append_getElem (by omega), List.filter_append, allIn2_bits hm hn, <- keep_fits]
  congr 1
  simp only [List.getD_eq_getElem?_getD, List.getElem?_eq_getElem (show i < l.length by omega), Option.getD_some, List.filter_cons, List.filter_nil]
  cases fitsN r w h (keepL a m n) l[i] (keepN m n) <;> simp
theorem fit_cnt {r : List UInt8} {w h : Int} {n : Nat} {a : List Int} {m : Int} (hm : 0 <= m) (hn : m.toNat < 2 ^ n) : (fitL (candL r w h n a (textsZ r w h)) m (textsZ r w h).length).length = cntM r w h n a m := by
 rw [fitL_set hm hn _ (Nat.le_refl _), List.take_length]
 rfl
/-! ### all of them, the first ones, one alone, all but one -/
theorem keep_all {a : List Int} {m : Int} : ∀ {i : Nat}, i * 3 <= a.length -> (∀ j, j < i -> m.toNat.testBit j = true) -> keepL a m i = a.take (i * 3) /\ keepN m i = i
 | 0, _, _ => by simp [keepL, keepN]
 | i + 1, hi, hb => by
  obtain ⟨h1, h2⟩ := keep_all (a := a) (m := m) (i := i) (by omega) (fun j hj => hb j (by omega))
  simp only [keepL, keepN, h1, h2, hb i (by omega), cond_true, take3 hi]
  exact ⟨trivial, trivial⟩
theorem full_bit {n j : Nat} : (fullM n).toNat.testBit j = decide (j < n) := by
 unfold fullM
 rw [Int.toNat_natCast, Nat.testBit_two_pow_sub_one]
theorem full_bd (n : Nat) : 0 <= fullM n /\ (fullM n).toNat < 2 ^ n := by
 unfold fullM
 have := Nat.two_pow_pos n
 omega
theorem pow60 {n : Nat} (h : n <= 60) : 2 ^ n <= 1152921504606846976 := Nat.le_trans (Nat.pow_le_pow_right (by omega) h) (by decide)
theorem cnt_full {r : List UInt8} {w h : Int} {n : Nat} {a : List Int} (ha : a.length = n * 3) : cntM r w h n a (fullM n) = (solZ r w h n a).length := by
 obtain ⟨h1, h2⟩ := keep_all (a := a) (m := fullM n) (i := n) (by omega) (fun j hj => by rw [full_bit, decide_eq_true hj])
 unfold cntM
 rw [h1, h2, List.take_of_length_le (by omega)]
/-- A clue of those kept taken out. -/
theorem keep_wo {a : List Int} {m : Int} {j : Nat} (hj60 : j <= 60) (hb : m.toNat.testBit j = true) : ∀ {i : Nat}, i <= 60 -> j < i ->
  (∃ T, keepL a m i = keepL a m j ++ [a.getD (j * 3) 0, a.getD (j * 3 + 1) 0, a.getD (j * 3 + 1 + 1) 0] ++ T /\ keepL a (wout m j) i = keepL a m j ++ T) /\ keepN m i = keepN (wout m j) i + 1 := by
 have below : ∀ {i : Nat}, i <= j -> keepL a (wout m j) i = keepL a m i /\ keepN (wout m j) i = keepN m i := by
  intro i
  induction i with
  | zero => intro _; exact ⟨rfl, rfl⟩
  | succ i ih =>
   intro hi
   obtain ⟨h1, h2⟩ := ih (by omega)
   have hw : (wout m j).toNat.testBit i = m.toNat.testBit i := by rw [wout_bit (by omega) (by omega), decide_eq_false (by omega)]; simp
   simp only [keepL, keepN, h1, h2, hw]
   exact ⟨trivial, trivial⟩
 intro i
 induction i with
 | zero => intro _ h; omega
 | succ i ih =>
  intro hi hji
  by_cases he : j = i
  ·subst he
   obtain ⟨h1, h2⟩ := below (Nat.le_refl j)
   have hw : (wout m j).toNat.testBit j = false := by rw [wout_bit (by omega) (by omega)]; simp
   refine ⟨⟨[], ?_, ?_⟩, ?_⟩
   ·simp only [keepL, hb, cond_true, List.append_nil]
   ·simp only [keepL, hw, cond_false, List.append_nil, h1]
   ·simp only [keepN, hb, hw, cond_true, cond_false, h2, Nat.add_zero]
  ·obtain ⟨⟨T, h1, h2⟩, h3⟩ := ih (by omega) (by omega)
   have hw : (wout m j).toNat.testBit i = m.toNat.testBit i := by rw [wout_bit (by omega) (by omega), decide_eq_false he]; simp
   refine ⟨⟨T ++ (bif m.toNat.testBit i then [a.getD (i * 3) 0, a.getD (i * 3 + 1) 0, a.getD (i * 3 + 1 + 1) 0] else []), ?_, ?_⟩, ?_⟩
   ·simp only [keepL, h1, List.append_assoc]
   ·simp only [keepL, h2, hw, List.append_assoc]
   ·simp only [keepN, h3, hw]
    omega
theorem wo_keep {a : List Int} {m : Int} {n j : Nat} (hn : n <= 60) (hj : j < n) (hb : m.toNat.testBit j = true) : wo3 (keepL a m n) (keepN m j) = keepL a (wout m j) n /\ keepN (wout m j) n = keepN m n - 1 := by
 obtain ⟨⟨T, h1, h2⟩, h3⟩ := keep_wo (a := a) (by omega) hb hn hj
 refine ⟨?_, by omega⟩
 have hl := keepL_len a m j
 unfold wo3
 rw [h1, h2, List.append_assoc, List.take_left' (by omega), <- List.append_assoc, List.drop_left' (by simp; omega)]
theorem wout_le (m : Int) (k : Nat) : (wout m k).toNat <= m.toNat := by
 unfold wout
 rw [Int.toNat_natCast]
 exact Nat.and_le_left
theorem hrM_bd (r : List UInt8) (w h : Int) (n : Nat) (a : List Int) : ∀ k, 0 <= hrM r w h n a k /\ (hrM r w h n a k).toNat < 2 ^ n
 | 0 => full_bd n
 | k + 1 => by
  have h1 := hrM_bd r w h n a k
  simp only [hrM]
  cases cntM r w h n a (wout (hrM r w h n a k) k) == 1
  ·exact h1
  ·have := wout_le (hrM r w h n a k) k
   refine ⟨?_, by simp only [cond_true]; omega⟩
   simp only [cond_true, wout]
   omega
theorem hrM_bit (r : List UInt8) (w h : Int) (n : Nat) (a : List Int) (hn : n <= 60) : ∀ k j, k <= j -> j < n -> (hrM r w h n a k).toNat.testBit j = true
 | 0, j, _, hj => by
  simp only [hrM, full_bit, decide_eq_true hj]
 | k + 1, j, hk, hj => by
  have h1 := hrM_bit r w h n a hn k j (by omega) hj
  simp only [hrM]
  cases cntM r w h n a (wout (hrM r w h n a k) k) == 1
  ·exact h1
  ·simp only [cond_true]
   rw [wout_bit (by omega) (by omega), h1, decide_eq_false (by omega)]
   rfl
theorem keepN_ones {m : Int} {j : Nat} : ∀ {d : Nat}, (∀ i, j <= i -> i < j + d -> m.toNat.testBit i = true) -> keepN m (j + d) = keepN m j + d
 | 0, _ => rfl
 | d + 1, hb => by
  have h1 := keepN_ones (m := m) (j := j) (d := d) (fun i h1 h2 => hb i h1 (by omega))
  rw [show j + (d + 1) = j + d + 1 by omega]
  simp only [keepN, h1, hb (j + d) (by omega) (by omega), cond_true]
  omega
/-! ### the conditions -/
end Go.Vi
